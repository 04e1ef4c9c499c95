import PyProof.Rows.All
import KE.KIsAll
import KE.KItemsList
import KE.KLam
import KE.KNestM
import KE.KRevIter
import KE.KSortTup
import KE.LcSums
import PySem.Challenge.RW_rankpouch_k44_the_so_manieth
set_option Elab.async false
set_option linter.all false
set_option maxRecDepth 100000
set_option compiler.extract_closed false
set_option genSizeOf false
set_option bootstrap.genMatcherCode false
noncomputable section
open PySem renaming wpAny_bind->aL,wpAny_pure->bG,wpAny_mono->mU,sizeLine_eq->nO,codeAny_mono->uF,wpAny_newObj_type->uM,wpAny_rule->wG,wpAny_ite_false->wH,wpAny_call_entry->wI,wpAny_Call_Name_kw->yB,wpAny_setField_rec->AE,wpAny_setState_of->CT,wpAny_askSetting->CU,wpAny_truthy_bool->GN,wpAny_setEntries_of->GO,wpAny_passesOwn->GP,wpAny_holding->GQ,wpAny_call->GR,wpAny_attempt->GS,codeAny_builtin->JE,wpAny_loadPart_at->LJ,wpAny_fieldsOf->LK,wpAny_callSpecial?_slot->LL,call_meetsIn->PM,wpAny_field->RT,wpAny_execs_nil->RU,plainId_quiet->TV,wpAny_ite_true->ZX,wpAny_isInstance->ZY,tupleKind_room_in1->Aw,fits_of_scanBound->Jn,wpAny_newFunctionEnv_cells->Qq,wpAny_Call_method0_late->Qs,codeAny_call_function->abZ,codeAny_call_builtin->ab0
open PyProof.Rows renaming wpS_bind->bJ,wpS_pure->dB,wpS_mono->nZ,wpS_forRange->pX,wpS_get->yA,wpS_modify->GL,boot_isinstance->PO,get?_update_seq->VZ,callWith_type1->YE
open List renaming map_cons->bU,getElem?_eq_some_iff->dA,mem_cons->dU,getElem?_set_self->fG,getElem?_eq_getElem->fL,mem_cons_of_mem->fY,length_cons->fZ,length_append->iN,getElem?_set_ne->iO,getElem?_append_left->jJ,getElem?_map->jV,append_assoc->jW,mem_append->lH,length_map->lI,mem_singleton->lN,mem_append_right->lO,mem_map->lX,size_toArray->mP,mem_of_getElem?->mQ,mem_append_left->nX,sum_cons->oZ,append_nil->pU,set_set->qR,getElem?_append_right->qS,map_nil->rW,nodup_cons->tF,pairwise_append->uG,drop_eq_getElem_cons->vZ,take_append_drop->xS,nil_append->xT,map_append->xU,eq_nil_of_length_eq_zero->xV,not_mem_nil->zP,length_set->CJ,length_nil->CK,getElem_of_mem->CL,perm_append_comm->FQ,pairwise_cons->FR,find?_cons->FT,ext_getElem?->FU,all_eq_true->FV,lookup_cons->JY,length_take->JZ,getElem?_take->KA,getElem?_eq_none->KC,drop_length->KD,map_map->QP,map_congr_left->QQ,getElem?_cons_succ->QR,cons_append->QS,any_cons->QT,take_sublist->YQ,of_mem_zip->YR,nodup_append->YS,mem_map_of_mem->YT,take_zero->Nc,take_of_length_le->Nd,mem_singleton_self->Nf,mem_filter->Ng,length_drop->Nh,getElem_mem->Ni,getElem_drop->Nj,any_eq_true->Nk,all_cons->Nl,take_add_one->ad2,mem_of_mem_take->ad3,mem_of_find?_eq_some->ad4,length_filter_le->ad5,getElem?_drop->ad6,getElem?_cons_zero->ad7,flatten_cons->ad8,filter_sublist->ad9,filterMap_cons->aeA,length_filter_eq_length_iff->aI2
open Ne renaming symm->dQ
open PySem.Heap renaming lt_size->dS,get?_push_of_some->eI,get?_push_size->gZ,get?_update_other->uH,size_push->KP,get?_update_self->YZ
open Nat renaming ne_of_lt->fS,lt_of_lt_of_le->lG,le_refl->oX,le_trans->rV,zero_add->zM,zero_le->CG,ne_of_gt->JT,le_succ->JU,lt_succ_self->YH,lt_succ_of_lt->YI,add_assoc->YJ,lt_or_ge->Mr,le_of_not_lt->Ms,le_of_lt->Mt
open Array renaming length_toList->gJ,getElem?_toList->mS,toList_push->GK,getElem?_eq_some_iff->RQ,toList_extract->ZQ,perm_iff_toList_perm->ZR,getElem?_eq_getElem->Pn,toList_append->aeN,getElem?_eq_none_iff->aeO
open _root_ renaming if_false->iJ,if_true->jP,decide_eq_false->nT,getElem?_pos->oR,decide_eq_true->vO,beq_iff_eq->vS,or_false->yK,beq_eq_false_iff_ne->zJ,decide_eq_true_eq->BU,decide_true->JC,decide_false->JD,decide_eq_false_iff_not->PJ,of_decide_eq_true->El
open Option.some renaming injEq->kX,inj->kY
open Bool renaming false_eq_true->kZ,and_eq_true->mB,not_eq_true'->ZP,false_ne_true->Pk
open Int renaming le_refl->lY,toNat_natCast->KL,le_trans->KN,emod_lt_of_pos->KO,emod_nonneg->QW,zero_add->YW,le_of_lt->Nx,le_of_eq->Ny,add_comm->Nz,eq_ofNat_of_zero_le->aeD
open List.cons renaming injEq->qT
open PySem.W renaming mg_none_of->tS
open Function renaming comp_def->zS
open Option renaming map_eq_some_iff->CD,map_some->JS,bind_eq_some_iff->QN,isSome_map->adS
open List.Perm renaming refl->FW,append_left->KG
open PySem.Calls renaming spliced_cons->LG,spliced_nil->RO,callWith_builtin->RP,evalArgs_plain->Oz
open Prod.mk renaming injEq->QJ
open Classical renaming choose_spec->ZO
open PySem.Around renaming under_plainId->ZS
open PyProof.Rows.F renaming plain_set_update_loop->adP,entry_set_update_loop->aH7
open PySem.F renaming typeOf_object_class->aeH
open Option renaming some->aj,none->ao
open _root_ renaming List->ak,Option->ar,Nat->ay,Int->a5,Array->a8,if_pos->a9,if_neg->bf,Bool->br,absurd->bz,False->cp,String->cz,congrArg->c3,StateT->da,Decidable->di,ForInStep->d7,beq_eq_false_iff_ne->ej
open PySem renaming Value->aq,Shared->av,Addr->aw,mainGlobals->az,Str->ba,sizeLine->bc,starEach->bg,Program->bh,model->bq,Around->bu,World->bw,Expr->bx,Stmt->b7,Heap->b8,eval->b9,attributeBase->ck,rawInt->cm,compareOp->cn,Scope->cq,SetTable->cu,backTo->cx,FuncData->c4,Obj->c5,binaryOp->c6,bindArgs->c7,intKind->c8,excClassObj->df,Arguments->dh,Pos->dk,foldedSetIterable->dm,keywordEach->dn,behindInMarks->dq,assignEach->dr,NameKind->du,sysModules->dz,bootBuiltins->d6,firstArgMember->d8,scanBound->ee,Model->ei,pyNext->ek,swapsWith->ew,cLine->e4
open Bool renaming false->au,true->ax
open PyProof.Rows renaming Keyed->bb,SortSt->bo,arrOf->bp,pendingOf->cb,elem'->cv,envOfC->cy,IntsAre->c9,seqObj->de,wpS_pure->dj,SortKind->dw,failedOf->dy,reverseSlice'->en,sortedHeap->eu
open PySem.W renaming Frag->bj,findIn->cg,subIn->cj,nsIn->cw,kia_one->d9,fnOf->ea,boot_heap->eh,kitOne->et,emptyDict->ez
theorem oIr{α:Sort _}{a:α}{q:Prop}:a=a\/q:=Or.inl rfl
theorem bV{α β j:Sort _}{f:α->β->j}:∀x y,f x y=f x y:=λ_ _=>rfl
theorem cX{n:ay}:n<=n:=oX n
theorem yS{n:a5}:n<=n:=lY n
theorem nE{α:Type _}{a:α}{l:ak α}:a∈a::l:=List.mem_cons_self ..
theorem AU{n:ay}:0<=n:=CG n
open PySem.W (Frag Looks OpenLaw callWith_K cellsFrom_some codeHdIn codeIn codeRec_of emptyDict envX excIn findIn fnOf hasDictIn instObj isFn keepIn kia_one kitAny kitOne kla_fn kla_obj lookIn looks_findIn looks_subIn makesIn methodCall_KW methodObj mg_of mroIn noTabs nsIn plainGet plainGet_of specialIn subIn tabIn tabObj takerIn takesIn)
namespace L2
open PySem PySem.Spec PyProof.Rows
abbrev Key:=Sum a5 ba
noncomputable def IF:Key->aq->br
 |.inl k,v=>Value.isInt k v
 |.inr x,v=>Value.isStrOf x v
noncomputable def auC(w:bw):Key->a5
 |.inl k=>hashInt k
 |.inr x=>hashStr w x
theorem vE:∀{k:Key} {v:aq},IF k v=ax->(∃i t,k=Sum.inl i/\v=Value.int i t)\/(∃x t,k=Sum.inr x/\v=Value.str x t)
 |.inl i,v,h=>by
  obtain⟨t,e⟩:=Value.isInt_shape (k:=i) (v:=v) h;exact .inl ⟨i,t,rfl,e⟩
 |.inr x,v,h=>by
  obtain⟨t,e⟩:=Value.isStrOf_shape (x:=x) (v:=v) h;exact .inr ⟨x,t,rfl,e⟩
theorem auB(i:a5)(t:Tok):IF (.inl i) (.int i t)=ax:=by simp[IF,Value.isInt]
theorem auA(x:ba)(t:Tok):IF (.inr x) (.str x t)=ax:=by simp[IF,Value.isStrOf]
theorem at9(a b:a5):decide ((Sum.inl a:Key)=Sum.inl b)=(a==b):=by
 by_cases e:a=b
 ·subst e;simp
 ·have h:¬(Sum.inl a:Key)=Sum.inl b:=λq=>e (Sum.inl.inj q);rw[nT h];exact(zJ.mpr e).symm
theorem at6(a b:ba):decide ((Sum.inr a:Key)=Sum.inr b)=decide (a=b):=by
 by_cases e:a=b
 ·subst e;simp
 ·have h:¬(Sum.inr a:Key)=Sum.inr b:=λq=>e (Sum.inr.inj q);rw[nT h,nT e]
theorem at8(a:a5)(b:ba):decide ((Sum.inl a:Key)=Sum.inr b)=au:=nT (λq=>nomatch q)
theorem at7(a:ba)(b:a5):decide ((Sum.inr a:Key)=Sum.inl b)=au:=nT (λq=>nomatch q)
def kE(prog:bh)(w:bw):PySem.KeyKind prog w Key where
 is:=IF
 hash:=auC w
 inj:=λv a b ha hb=>by
  rcases vE ha with⟨i,t,rfl,rfl⟩|⟨x,t,rfl,rfl⟩
  ·rcases vE hb with⟨j,u,rfl,e⟩|⟨y,u,rfl,e⟩
   ·injection e with q _;rw[q]
   ·exact nomatch e
  ·rcases vE hb with⟨j,u,rfl,e⟩|⟨y,u,rfl,e⟩
   ·exact nomatch e
   ·injection e with q _;rw[q]
 byValue:=λk v h=>by
  rcases vE h with⟨i,t,rfl,rfl⟩|⟨x,t,rfl,rfl⟩ <;> rfl
 pyHash:=λhv h=>by
  rcases vE hv with⟨i,t,rfl,rfl⟩|⟨x,t,rfl,rfl⟩
  ·exact wpAny_pyHash_int h
  ·exact wpAny_pyHash_str h
 eqBool:=λz hv h=>by
  rcases vE z with⟨i,t,rfl,rfl⟩|⟨x,t,rfl,rfl⟩
  ·rcases vE hv with⟨j,u,rfl,rfl⟩|⟨y,u,rfl,rfl⟩
   ·rw[at9]at h;exact wpAny_eqBool_int h
   ·rw[at8]at h;exact SeqAt.EqAt.int_str i t y u _ _ _ _ h
  ·rcases vE hv with⟨j,u,rfl,rfl⟩|⟨y,u,rfl,rfl⟩
   ·rw[at7]at h;exact SeqAt.EqAt.str_int x t j u _ _ _ _ h
   ·rw[at6]at h;exact wpAny_eqBool_str h
 «strs»:=λk x t v h=>by
  rcases vE h with⟨i,u,rfl,e⟩|⟨y,u,rfl,e⟩
  ·exact nomatch e
  ·injection e with q _;subst q;cases v <;> rfl
theorem asN(prog:bh)(w:bw)(i:a5)(t:Tok):(kE prog w).is (.inl i) (.int i t)=ax:=auB i t
theorem asM(prog:bh)(w:bw)(x:ba)(t:Tok):(kE prog w).is (.inr x) (.str x t)=ax:=auA x t
inductive V where
 |cE|bl (b:br)|int (i:a5)|str (x:ba)|XA (b:a8 UInt8)|ES (b:UInt64)|ref (a:aw)|ty (n:cz)
 deriving DecidableEq
def RelV:V->aq->Prop
 |.cE,u=>u=Value.none
 |.bl b,u=>u=Value.bool b
 |.int i,u=>∃t,u=Value.int i t
 |.str x,u=>∃t,u=Value.str x t
 |.XA b,u=>∃t,u=Value.bytes b t
 |.ES b,u=>∃t,u=Value.float b t
 |.ref a,u=>u=Value.ref a
 |.ty n,u=>u=Value.type n
abbrev Vals:ak V->ak aq->Prop:=Paired RelV
theorem Vals.length{xs:ak V}{us:ak aq}(r:Vals xs us):xs.length=us.length:=Paired.length r
theorem Vals.get:∀{xs:ak V} {us:ak aq} {i:ay} {x:V},Vals xs us->xs[i]?=aj x->∃u,us[i]?=aj u/\RelV x u
 |_,_,_,_,.nil,e=>by simp at e
 |_,_,0,_,.cons r _,e=>by simp at e;subst e;exact⟨_,rfl,r⟩
 |_,_,i+1,x,.cons _ t,e=>by
  obtain⟨u,h1,h2⟩:=Vals.get (i:=i) (x:=x) t (by simpa using e);exact⟨u,by simpa using h1,h2⟩
theorem Vals.set{x:V}{u:aq}(r:RelV x u):∀{xs:ak V} {us:ak aq} (i:ay),Vals xs us->Vals (xs.set i x) (us.set i u)
 |_,_,_,.nil => .nil
 |_,_,0,.cons _ t => .cons r t
 |_,_,i+1,.cons q t => .cons q (Vals.set r i t)
theorem Vals.append:∀{xs ys:ak V} {us ws:ak aq},Vals xs us->Vals ys ws->Vals (xs++ys) (us++ws)
 |_,_,_,_,.nil,s=>s
 |_,_,_,_,.cons r t,s => .cons r (Vals.append t s)
def nH:ar V->ar aq->Prop
 |some v,aj u=>RelV v u
 |none,ao=>True
 |_,_=>cp
def KV{κ:Type}:ak (κ×V)->ak (κ×aq)->Prop:=Paired λ(p:κ×V) (q:κ×aq)=>p.1=q.1/\RelV p.2 q.2
noncomputable def kV:Key->V
 |.inl i => .int i
 |.inr x => .str x
inductive HO where
 |lst (xs:ak V)
 |tup (xs:ak V)
 |dK (kvs:ak (Key×V))|dT (kvs:ak (ak Key×V))
 |set (S:a5->br) (n:ay)
 |ins (C dx:aw) (fs:ak (ba×V))
 |own (x:aw)
 |xd (fs:ak (ba×V))
 |met (f x:aw)
 |TL (lo hi:a5)
 |eR (o:c5) (u:HO)
 |iS (ps:a8 aq)
 |ext (φ:b8->Prop)
abbrev Hp:=aw->ar HO
noncomputable def upd(H:Hp)(a:aw)(o:HO):Hp:=λb=>if b=a then aj o else H b
theorem eL{H:Hp}{a:aw}{o:HO}:upd H a o a=aj o:=by unfold upd;rw[a9 rfl]
theorem bE{H:Hp}{a b:aw}{o:HO}(h:b≠a):upd H a o b=H b:=by unfold upd;rw[bf h]
theorem MX{H:Hp}{a b:aw}{o u:HO}(h:H a=aj o)(h':H b=aj u)(d:o≠u):a≠b:=by
 intro e;subst e;rw[h]at h';exact d (kY h')
theorem iW{H:Hp}{a b:aw}{o:HO}(h:H a=aj o)(h':H b=ao):a≠b:=by
 intro e;subst e;rw[h]at h';cases h'
section
variable(P:bh)(w:bw)
def iG(H:Hp)(h:b8)(a:aw):HO->Prop
 | .lst xs=>xs.length<=bc/\∃(j:ak aq) (n:ay),Vals xs j/\h.get? a=aj {cls:=.type "list",data:=.seq j.toArray n}
 |.tup xs=>xs.length<=bc/\∃j:ak aq,Vals xs j/\IsTup h a j.toArray
 |.dK kvs=>kvs.length<=bc/\(a==dz)=au/\∃vs,KV kvs vs/\h.DictOf (kE P w) a vs
 |.dT kvs=>kvs.length<=bc/\(a==dz)=au/\∃xs:ak (ak Key×aw×aq),
   Paired (λ(p:ak Key×V) (q:ak Key×aw×aq)=>p.1=q.1/\H q.2.1=aj (.tup (p.1.map kV))/\RelV p.2 q.2.2) kvs xs /\
   ∃o es ep,h.get? a=aj o/\o.ExactDict/\o.data=.dict es ep/\es.toList=xs.map (entryOfKey (tupleKind (kE P w)))/\(xs.map (·.1)).Nodup
 |.set S n=>h.SetOf (c8 P w) a S n
 |.ins C dx fs=>H dx=aj (.own a)/\fs.length<=1000/\dx≠a/\h.get? a=aj (instObj C dx) /\
   ∃mA,h.Ns1 dx mA/\(∀f,nH (fs.lookup f) (mA f))/\PySem.Within mA (fs.map (·.1))
 |.own _=>∃o,h.get? a=aj o
 |.xd fs=>∃mA,h.Ns1 a mA/\∀f,nH (fs.lookup f) (mA f)
 | .TL lo hi=>∃t u v,h.get? a=aj {cls:=.type "range",data:=.fields #[.int lo t,.int hi u,.int 1 v]}
 |.eR o u=>h.get? a=aj o/\iG H h a u
 |.iS ps=>h.get? a=aj {cls:=.none,data:=.fields ps}
 |.met f x=>h.get? a=aj (methodObj (.ref f) (.ref x))
 |.ext z=>z h/\(∃o,h.get? a=aj o)/\∀h1 h2:b8,z h1->(∀o,h1.get? a=aj o->h2.get? a=aj o)->z h2
def fH(H:Hp)(h:b8):Prop:=∀a o,H a=aj o->iG P w H h a o
end
section
variable{P:bh}{w:bw}{H H':Hp}{h h':b8}{a:aw}{o:HO}
theorem iG.lt(x:iG P w H h a o):a<h.objs.size:=by
 cases o with
 |lst xs=>obtain⟨_,_,_,_,e⟩:=x;exact dS e
 |tup xs=>obtain⟨_,_,_,p⟩:=x;exact p.lt
 |dK j=>obtain⟨_,_,_,_,o,_,_,e,_⟩:=x;exact dS e
 |dT j=>obtain⟨_,_,_,_,o,_,_,e,_⟩:=x;exact dS e
 |set S n=>obtain⟨o,_,_,_,e,_⟩:=x;exact dS e
 |ins C B fs=>obtain⟨_,_,_,e,_⟩:=x;exact dS e
 |own y=>obtain⟨_,e⟩:=x;exact dS e
 |xd fs=>obtain⟨_,⟨_,_,_,e,_⟩,_⟩:=x;exact dS e
 |TL lo hi=>obtain⟨_,_,_,e⟩:=x;exact dS e
 |eR ob u=>obtain⟨e,_⟩:=x;exact dS e
 |iS z=>exact dS (show h.get? a=aj _ from x)
 |met f y=>exact dS (show h.get? a=aj _ from x)
 |ext q=>obtain⟨_,⟨_,e⟩,_⟩:=x;exact dS e
theorem Paired.Fb{α β:Type}{F G:α->β->Prop}:∀{l₁:ak α} {l₂:ak β},Paired F l₁ l₂->(∀a b,F a b->G a b)->Paired G l₁ l₂
 |_,_,.nil,_ => .nil
 |_,_,.cons r t,f => .cons (f _ _ r) (Paired.Fb t f)
theorem iG.nN(x:iG P w H h a o)(k:∀b u,(b=a\/H b=aj (.own a))->h.get? b=aj u->h'.get? b=aj u)
  (s:∀b,H b=aj (.own a)->H' b=aj (.own a)) (m:∀b xs,H b=aj (.tup xs)->H' b=aj (.tup xs)):iG P w H' h' a o:=by
 induction o with
 |lst xs=>obtain⟨z,g,n,r,e⟩:=x;exact⟨z,g,n,r,k _ _ (.inl rfl) e⟩
 |tup xs=>obtain⟨z,g,r,ob,e,c⟩:=x;exact⟨z,g,r,ob,k _ _ (.inl rfl) e,c⟩
 |dK U=>obtain⟨z,y,l,r,ob,es,j,e,c⟩:=x;exact⟨z,y,l,r,ob,es,j,k _ _ (.inl rfl) e,c⟩
 |dT U =>
  obtain⟨z,y,xs,r,ob,es,j,e,c⟩:=x;exact⟨z,y,xs,Paired.Fb r λp q z=>⟨z.1,m _ _ z.2.1,z.2.2⟩,ob,es,j,k _ _ (.inl rfl) e,c⟩
 |set S n=>obtain⟨ob,es,j,t,e,c⟩:=x;exact⟨ob,es,j,t,k _ _ (.inl rfl) e,c⟩
 |ins C E fs =>
  obtain⟨d,z,ne,e,N,⟨B,es,j,A,c⟩,r⟩:=x;exact⟨s _ d,z,ne,k _ _ (.inl rfl) e,N,⟨B,es,j,k _ _ (.inr d) A,c⟩,r⟩
 |own y=>obtain⟨ob,e⟩:=x;exact⟨ob,k _ _ (.inl rfl) e⟩
 |xd fs=>obtain⟨N,⟨B,es,j,e,c⟩,r⟩:=x;exact⟨N,⟨B,es,j,k _ _ (.inl rfl) e,c⟩,r⟩
 |TL lo hi=>obtain⟨t,u,v,e⟩:=x;exact⟨t,u,v,k _ _ (.inl rfl) e⟩
 |eR ob u ih=>obtain⟨e,q⟩:=x;exact⟨k _ _ (.inl rfl) e,ih q⟩
 |iS i =>
  have e:h.get? a=aj {cls:=.none,data:=.fields i}:=x;show h'.get? a=aj {cls:=.none,data:=.fields i};exact k a _ (.inl rfl) e
 |met f y =>
  have e:h.get? a=aj (methodObj (.ref f) (.ref y)):=x;show h'.get? a=aj (methodObj (.ref f) (.ref y));exact k a _ (.inl rfl) e
 |ext D=>obtain⟨p,⟨o,e⟩,st⟩:=x;exact⟨st _ _ p λo q=>k _ _ (.inl rfl) q,⟨o,k _ _ (.inl rfl) e⟩,st⟩
theorem fH.lt(x:fH P w H h)(e:H a=aj o):a<h.objs.size:=(x a o e).lt
theorem fH.fresh(x:fH P w H h)(e:h.objs.size<=a):H a=ao:=by
 cases q:H a with
 |none=>rfl
 |some u=>exact bz (lG (x.lt q) e) (Nat.lt_irrefl _)
theorem fH.kept(x:fH P w H h)(k:∀b u,h.get? b=aj u->h'.get? b=aj u):fH P w H h':=λa o e =>
 (x a o e).nN (λb u _ q=>k b u q) (λ_ q=>q) λ_ _ q=>q
theorem fH.laid(x:fH P w H h)(k:∀b u,h.get? b=aj u->h'.get? b=aj u)(j:h.objs.size<=a)(new:iG P w (upd H a o) h' a o):fH P w (upd H a o) h':=λb u e=>by
 have hn:=x.fresh j
 by_cases hb:b=a
 ·subst hb;rw[eL]at e;cases e;exact new
 ·rw[bE hb]at e;exact(x b u e).nN (λc v _ q=>k c v q) (λc q=>by rw[bE (iW q hn)];exact q) λc xs q=>by rw[bE (iW q hn)];exact q
end
def Rd(H:Hp)(a:aw)(u:HO):Prop:=H a=aj u\/∃o,H a=aj (.eR o u)
theorem Rd.ok{P:bh}{w:bw}{H:Hp}{h:b8}{a:aw}{u:HO}(r:Rd H a u)(x:fH P w H h):iG P w H h a u:=by
 rcases r with r|⟨o,r⟩
 ·exact x a u r
 ·obtain⟨_,q⟩:=x a _ r;exact q
def QO:ar HO->Prop
 |some (.lst _)=>True
 |some (.dK _)=>True
 |some (.dT _)=>True
 |some (.set _ _)=>True
 |some (.ins _ _ _)=>True
 |some (.ext _)=>True
 |_=>cp
section
variable{P:bh}{w:bw}{H:Hp}{h h':b8}{x e:aw}{o':HO}
theorem fH.write(ok:fH P w H h)(j:QO (H x))(he:e=x\/H e=aj (.own x))(k:∀b u,b≠e->h.get? b=aj u->h'.get? b=aj u)(f:∃u,h'.get? e=aj u)
  (new:iG P w (upd H x o') h' x o'):fH P w (upd H x o') h':=λb u q=>by
 have d:∀c y,H c=aj (.own y)->c≠x:=λc y r z=>by subst z;rw[r]at j;exact j
 have U:∀c xs,H c=aj (.tup xs)->c≠x:=λc xs r z=>by subst z;rw[r]at j;exact j
 by_cases hb:b=x
 ·subst hb;rw[eL]at q;cases q;exact new
 ·rw[bE hb]at q
  by_cases N:b=e
  ·have a:H b=aj (.own x):=by
    rcases he with z|z
    ·exact bz (N.trans z) hb
    ·rw[N];exact z
   rw[q]at a;cases a;obtain⟨v,hv⟩:=f;exact⟨v,by rw[N];exact hv⟩
  ·refine(ok b u q).nN (λc v B r=>k c v ?_ r) (λc r=>by rw[bE (d c b r)];exact r) λc xs r=>by rw[bE (U c xs r)];exact r
   rcases B with rfl|B
   ·exact N
   ·rintro rfl
    rcases he with z|z
    ·exact d c b B z
    ·rw[B]at z;cases z;exact hb rfl
end
structure Un(fs ex:ak aw)(H H':Hp)(h h':b8):Prop where
 keep:∀b o,h.get? b=aj o->H b=ao->b∉fs->b∉ex->h'.get? b=aj o
 slot:∀b o,h.get? b=aj o->H b=ao->b∈fs->b∉ex->∃sl,h'.get? b=aj {o with slots:=sl}
 free:∀b o,h.get? b=aj o->H b=ao->b∉ex->H' b=ao
 there:∀b o,h.get? b=aj o->b∉ex->∃o',h'.get? b=aj o'
 oC:∀b xs,H b=aj (.tup xs)->H' b=aj (.tup xs)
 mJ:∀b o u,H b=aj (.eR o u)->H' b=aj (.eR o u)
 nM:∀b ps,H b=aj (.iS ps)->∃more,H' b=aj (.iS (ps++more))
section
variable{fs jH ex ex':ak aw}{H H1 H2:Hp}{h h1 h2 h':b8}{a x e:aw}{o:HO}
theorem Un.any(u:Un fs ex H H1 h h1){b:aw}{ob:c5}(q:h.get? b=aj ob)(n:H b=ao)(j:b∉ex):∃sl,h1.get? b=aj {ob with slots:=sl}:=by
 by_cases hb:b∈fs
 ·exact u.slot b ob q n hb j
 ·exact⟨ob.slots,u.keep b ob q n hb j⟩
theorem Un.trans(a:Un fs ex H H1 h h1)(b:Un fs ex H1 H2 h1 h2):Un fs ex H H2 h h2 where
 keep:=λc ob q n B j=>b.keep c ob (a.keep c ob q n B j) (a.free c ob q n j) B j
 slot:=λc ob q n B j=>by
  obtain⟨sl,z⟩:=a.slot c ob q n B j;obtain⟨g,U⟩:=b.slot c _ z (a.free c ob q n j) B j;exact⟨g,U⟩
 free:=λc ob q n j=>by
  obtain⟨N,z⟩:=a.there c ob q j;exact b.free c N z (a.free c ob q n j) j
 there:=λc ob q j=>by
  obtain⟨N,z⟩:=a.there c ob q j;exact b.there c N z j
 oC:=λc xs q=>b.oC c xs (a.oC c xs q)
 mJ:=λc ob xs q=>b.mJ c ob xs (a.mJ c ob xs q)
 nM:=λc d q=>by
  obtain⟨f,z⟩:=a.nM c d q;obtain⟨e,U⟩:=b.nM c _ z;exact⟨f++e,by rw[U,Array.append_assoc]⟩
theorem Un.kept(k:∀b u,h.get? b=aj u->h'.get? b=aj u):Un fs ex H H h h' :=
 ⟨λb ob q _ _ _=>k b ob q,λb ob q _ _ _=>⟨ob.slots,k b ob q⟩,λ_ _ _ n _=>n,λb ob q _=>⟨ob,k b ob q⟩,λ_ _ q=>q,λ_ _ _ q=>q,λ_ j q=>⟨#[],by rw[q];simp⟩⟩
theorem Un.refl:Un fs ex H H h h:=Un.kept λ_ _ q=>q
theorem Un.laid(k:∀b u,h.get? b=aj u->h'.get? b=aj u)(j:h.objs.size<=a)(hn:H a=ao):Un fs ex H (upd H a o) h h' where
 keep:=λb u q _ _ _=>k b u q
 slot:=λb u q _ _ _=>⟨u.slots,k b u q⟩
 free:=λb u q n _=>by rw[bE (fS (lG (dS q) j))];exact n
 there:=λb u q _=>⟨u,k b u q⟩
 oC:=λb xs q=>by rw[bE (iW q hn)];exact q
 mJ:=λb u xs q=>by rw[bE (iW q hn)];exact q
 nM:=λb z q=>⟨#[],by rw[bE (iW q hn),q];simp⟩
theorem Un.write(j:QO (H x))(he:e=x\/H e=aj (.own x))(k:∀b u,b≠e->h.get? b=aj u->h'.get? b=aj u)(U:∃u,h'.get? e=aj u):Un fs ex H (upd H x o) h h':=by
 have B:∀b,H b=ao->b≠x:=λb n z=>by subst z;rw[n]at j;exact j
 have hb:∀b,H b=ao->b≠e:=λb n z=>by
  subst z
  rcases he with r|r
  ·exact B b n r
  ·rw[n]at r;cases r
 have hm:∀b u,H b=aj u->¬QO (aj u)->b≠x:=λb u q nm z=>by subst z;rw[q]at j;exact nm j
 refine⟨λb u q n _ _=>k b u (hb b n) q,λb u q n _ _=>⟨u.slots,k b u (hb b n) q⟩,λb u q n _=>by rw[bE (B b n)];exact n,λb u q _=>?_,
  λb xs q=>by rw[bE (hm b _ q λz=>z)];exact q,λb u xs q=>by rw[bE (hm b _ q λz=>z)];exact q,λb a q=>⟨#[],by rw[bE (hm b _ q λz=>z),q];simp⟩⟩
 by_cases N:b=e
 ·subst N;exact U
 ·exact⟨u,k b u N q⟩
end
noncomputable def SI(h:b8)(H:Hp):ak aw:=(List.range h.objs.size).filter λa=>(H a).isSome
def xC(h:b8)(H:Hp):b8:=PySem.W.hideAll h (SI h H)
theorem ayM(h:b8)(H:Hp):(xC h H).objs.size=h.objs.size:=PySem.W.hideAll_size _ _
theorem ayN{h:b8}{H:Hp}{b:aw}{o:c5}(e:h.get? b=aj o)(n:H b=ao):(xC h H).get? b=aj o :=
 PySem.W.hideAll_get _ e λhm=>by
  have q:(H b).isSome=ax:=(Ng.mp hm).2;rw[n]at q;simp at q
theorem aqX{h:b8}{H:Hp}{b:aw}{o:c5}(e:(xC h H).get? b=aj o):h.get? b=aj o/\H b=ao:=by
 have j:h.get? b=aj o:=PySem.W.of_hideAll (SI h H) e;refine⟨j,?_⟩;cases q:H b with
 |none=>rfl
 |some x =>
  have hm:b∈SI h H:=Ng.mpr ⟨List.mem_range.mpr (dS j),by simp[q]⟩;have z:(xC h H).get? b=ao:=PySem.W.hideAll_none (SI h H) hm;rw[z]at e;cases e
structure Mod(K:bj)(mg:ba->ar aq)(base:b8):Prop where
 sO:K.In base
 glob:base.Ns az mg
 blt:∃mb,base.Ns builtinsNs mb/\∀x:ba,x≠"__name__"->mb x=d6 x
 nolimit:base.NoLimit
structure Cx where
 prog:bh
 w:bw
 K:bj
 mg:ba->ar aq
 base:b8
 A:bu
 N:ak ba
 s₀:av
 H₀:Hp
 env:Env
 outer:ak Env
 stack:ak Env
 ex:ak aw
 fn:ba->br
 calm:br
 pn:ak (aw×c5)
 xe:aq->av->Prop
noncomputable def jA(l:ak Env):ak aw:=l.filterMap (·.frame)
abbrev Cx.fs(X:Cx):ak aw:=jA X.outer
def QG(sc:cq)(x:ba):Prop:=sc.names.lookup x=aj .local\/sc.names.lookup x=aj .cell\/sc.names.lookup x=aj .free
def Loc(sc:cq)(x:ba):Prop:=sc.names.lookup x=aj .local\/sc.names.lookup x=aj .cell
def Look(env:Env)(h:b8)(m:ba->ar aq)(x:ba)(u:aq):Prop :=
 (env.kindOf x=aj .local/\m x=aj u)\/((env.kindOf x=aj .cell\/env.kindOf x=aj .free)/\∃c,env.cells.lookup x=aj c/\h.IsCell c (aj u))
structure Cx.Ok(X:Cx):Prop where
 mod:Mod X.K X.mg X.base
 kind:X.env.scope.kind=.function
 glob:X.env.globals=az
 blt:X.env.builtins=builtinsNs
 above:X.s₀.heap.objs.size<=X.env.locals
 inj:∀x y c,X.env.cells.lookup x=aj c->X.env.cells.lookup y=aj c->x=y
 has:∀x,(X.env.kindOf x=aj .cell\/X.env.kindOf x=aj .free)->∃c,X.env.cells.lookup x=aj c
 FF:∀x c,X.fn x=ax->X.env.cells.lookup x=aj c->X.s₀.heap.objs.size<=c
 hd:X.calm=ax->X.A.handled=ao
 frames:X.A.frames=aj X.stack
 tO:X.stack=X.outer\/(X.stack=X.env::X.outer/\X.env.frame=aj X.env.locals)
 EV:∀b∈X.ex,b≠X.env.locals/\∀x c,X.env.cells.lookup x=aj c->c≠b
 bs:∀b o,X.base.get? b=aj o->X.s₀.heap.get? b=aj o/\X.H₀ b=ao
 rK:X.base.objs.size<=X.s₀.heap.objs.size
 yO:∀b o,X.base.get? b=aj o->b∉X.ex
 BR:∀b∈X.ex,b∉X.fs
 oU:X.s₀.heap.FunFrames X.base X.outer
 uB:∀b∈X.fs,X.H₀ b=ao
structure Inv(X:Cx)(aa:ak (aw×c5))(J:ak (ar V))(H:Hp)(s:av):Prop where
 ok:X.Ok
 os:s.os=X.s₀.os
 bare:AllBare s.gens
 base:Un X.fs X.ex X.H₀ H X.s₀.heap s.heap
 loc:∃m,s.heap.Ns X.env.locals m/\∀(i:ay) (x:ba) (v:V),X.N[i]?=aj x->J[i]?=aj (aj v)->QG X.env.scope x->∃u,RelV v u/\Look X.env s.heap m x u
 cell:∀x c,X.env.cells.lookup x=aj c->∃v,s.heap.IsCell c v
 free:H X.env.locals=ao
 lV:∀x c,X.env.cells.lookup x=aj c->H c=ao
 pin:∀p∈X.pn++aa,s.heap.get? p.1=aj p.2/\H p.1=ao/\p.1≠X.env.locals/\p.1∉X.fs/\∀v,p.2.data≠.cell v
 aH:fH X.prog X.w H s.heap
 len:J.length=X.N.length
section
variable{X:Cx}{aa:ak (aw×c5)}{J:ak (ar V)}{H H':Hp}{s:av}{h':b8}
theorem Cx.Ok.arQ(ok:X.Ok){b:aw}{o:c5}(e:X.base.get? b=aj o):b∉X.fs:=λhb=>by
 have:=(ok.oU.mem hb).1;rw[e]at this;cases this
theorem Inv.bs(I:Inv X aa J H s):∀b o,X.base.get? b=aj o->s.heap.get? b=aj o/\H b=ao:=λb o e =>
 ⟨I.base.keep b o (I.ok.bs b o e).1 (I.ok.bs b o e).2 (I.ok.arQ e) (I.ok.yO b o e),I.base.free b o (I.ok.bs b o e).1 (I.ok.bs b o e).2 (I.ok.yO b o e)⟩
theorem Inv.bk(I:Inv X aa J H s):∀b o,X.base.get? b=aj o->s.heap.get? b=aj o:=λb o e=>(I.bs b o e).1
theorem Inv.mod(I:Inv X aa J H s):Mod X.K X.mg X.base:=I.ok.mod
theorem Inv.fF(I:Inv X aa J H s):X.K.In s.heap:=I.ok.mod.sO.keeps I.bk
theorem Inv.nolimit(I:Inv X aa J H s):s.heap.NoLimit:=I.ok.mod.nolimit.keeps I.bk
theorem Inv.lt(I:Inv X aa J H s):X.env.locals<s.heap.objs.size:=let ⟨_,hn,_⟩:=I.loc;hn.lt
theorem Inv.sz(I:Inv X aa J H s):X.s₀.heap.objs.size<=s.heap.objs.size:=rV I.ok.above (Mt I.lt)
theorem Inv.arO(I:Inv X aa J H s){a:aw}(h:s.heap.objs.size<=a):a∉X.fs:=λhb=>by
 obtain⟨_,o,j,_⟩:=I.ok.oU.mem hb;exact bz (lG (dS j) (rV I.sz h)) (Nat.lt_irrefl _)
theorem Inv.vQ(I:Inv X aa J H s):∀x c,X.env.cells.lookup x=aj c->c≠X.env.locals:=λx c e z=>by
 obtain⟨v,o,j,hd⟩:=I.cell x c e;obtain⟨m,⟨N,es,U,q,B,_⟩,_⟩:=I.loc;rw[z,q]at j;cases j;rw[B]at hd;cases hd
theorem Inv.oU(I:Inv X aa J H s):s.heap.FunFrames X.base X.outer:=by
 have all:∀(l:ak Env),(∀b∈jA l,b∈X.fs)->X.s₀.heap.FunFrames X.base l->s.heap.FunFrames X.base l:=by
  intro l
  induction l with
  |nil=>intro _ _;trivial
  |cons env r ih =>
   intro j hl;obtain⟨B,⟨L,o,hf,hn,q,hd⟩,hr⟩:=hl;have hL:L∈X.fs:=j L (by unfold jA;rw[List.filterMap_cons,hf];exact List.mem_cons_self);obtain⟨sl,e⟩:=I.base.slot L o q (I.ok.uB L hL) hL λz=>I.ok.BR L z hL;exact⟨B,⟨L,_,hf,hn,e,hd⟩,ih (λb hb=>j b (by unfold jA;rw[List.filterMap_cons,hf];exact List.mem_cons_of_mem _ hb)) hr⟩
 exact all X.outer (λ_ hb=>hb) I.ok.oU
theorem Inv.stack(I:Inv X aa J H s):s.heap.FunFrames X.base X.stack:=by
 rcases I.ok.tO with e|⟨e,hf⟩
 ·rw[e];exact I.oU
 ·rw[e];obtain⟨m,hn,_⟩:=I.loc;refine .cons (by rw[I.ok.kind];decide) hf hn ?_ I.oU;exact Heap.get?_none_of_le (rV I.ok.rK I.ok.above)
theorem Inv.MD(I:Inv X aa J H s):∀b∈jA X.stack,b∈X.env.locals::X.fs:=λb hb=>by
 rcases I.ok.tO with e|⟨e,hf⟩
 ·rw[e]at hb;exact fY _ hb
 ·rw[e]at hb;unfold jA at hb;rw[aeA,hf]at hb;exact hb
theorem Inv.Bo(I:Inv X aa J H s):∀b∈jA X.stack,H b=ao:=λb hb=>by
 rcases dU.mp (I.MD b hb)with e|hb
 ·rw[e];exact I.free
 ·obtain⟨_,o,j,_⟩:=I.ok.oU.mem hb;exact I.base.free b o j (I.ok.uB b hb) λz=>I.ok.BR b z hb
theorem Inv.step{g':a8 GenState}{t':ay}{d':Drawn}{ch:ak aw}(I:Inv X aa J H s)
  (U:∀b∈ch,(b∈X.ex\/X.s₀.heap.objs.size<=b)/\b≠X.env.locals/\(∀x c,X.env.cells.lookup x=aj c->c≠b)/\∀p∈X.pn++aa,p.1≠b)
  (keep:∀b o,b≠X.env.locals->b∉X.fs->b∉ch->s.heap.get? b=aj o->H b=ao->h'.get? b=aj o)
  (slot:∀b o,b≠X.env.locals->b∈X.fs->b∉ch->s.heap.get? b=aj o->H b=ao->∃sl,h'.get? b=aj {o with slots:=sl}) (free:∀b o,b∉ch->s.heap.get? b=aj o->H b=ao->H' b=ao)
  (there:∀b o,b∉ch->s.heap.get? b=aj o->∃o',h'.get? b=aj o')
  (oC:∀b xs,H b=aj (.tup xs)->H' b=aj (.tup xs)) (mJ:∀b o u,H b=aj (.eR o u)->H' b=aj (.eR o u)) (nM:∀b ps,H b=aj (.iS ps)->∃more,H' b=aj (.iS (ps++more)))
  (ns:∀m,s.heap.Ns X.env.locals m->h'.Ns X.env.locals m) (aH:fH X.prog X.w H' h') (E:AllBare g') :
  Inv X aa J H' {s with heap:=h',gens:=g',drawn:=d',toks:=t' }:=by
 have A:∀b o,X.s₀.heap.get? b=aj o->b≠X.env.locals:=λb o e=>fS (lG (dS e) I.ok.above);have g:∀b o,X.s₀.heap.get? b=aj o->b∉X.ex->b∉ch:=λb o e j hb=>by
  rcases(U b hb).1 with z|z
  ·exact j z
  ·exact bz (lG (dS e) z) (Nat.lt_irrefl _)
 have cellK:∀x c,X.env.cells.lookup x=aj c->∀v,s.heap.IsCell c v->h'.IsCell c v:=λx c e v ⟨o,N,hd⟩=>by
  have f:c∉ch:=λz=>(U c z).2.2.1 x c e rfl
  by_cases y:c∈X.fs
  ·obtain⟨sl,q⟩:=slot c o (I.vQ x c e) y f N (I.lV x c e);exact⟨_,q,hd⟩
  ·exact⟨o,keep c o (I.vQ x c e) y f N (I.lV x c e),hd⟩
 refine⟨I.ok,I.os,E,⟨λb o e n hb j=>?_,λb o e n hb j=>?_,λb o e n j=>?_,λb o e j=>?_,λb xs e=>oC b xs (I.base.oC b xs e),λb o xs e=>mJ b o xs (I.base.mJ b o xs e),λb ps e=>?_⟩,?_,λx c e=>?_,?_,λx c e=>?_,λp t=>?_,aH,I.len⟩
 ·exact keep b o (A b o e) hb (g b o e j) (I.base.keep b o e n hb j) (I.base.free b o e n j)
 ·obtain⟨sl,B⟩:=I.base.slot b o e n hb j;obtain⟨G,a⟩:=slot b _ (A b o e) hb (g b o e j) B (I.base.free b o e n j);exact⟨G,a⟩
 ·obtain⟨o',B⟩:=I.base.there b o e j;exact free b o' (g b o e j) B (I.base.free b o e n j)
 ·obtain⟨o',B⟩:=I.base.there b o e j;exact there b o' (g b o e j) B
 ·obtain⟨D,B⟩:=I.base.nM b ps e;obtain⟨C,a⟩:=nM b _ B;exact⟨D++C,by rw[a,Array.append_assoc]⟩
 ·obtain⟨m,hn,hl⟩:=I.loc;refine⟨m,ns m hn,λi x v B a F=>?_⟩;obtain⟨u,r,l⟩:=hl i x v B a F;refine⟨u,r,?_⟩
  rcases l with l|⟨k,c,e,z⟩
  ·exact .inl l
  ·exact .inr ⟨k,c,e,cellK x c e _ z⟩
 ·obtain⟨v,z⟩:=I.cell x c e;exact⟨v,cellK x c e v z⟩
 ·obtain⟨m,⟨o,_,_,N,_⟩,_⟩:=I.loc;exact free _ o (λz=>(U _ z).2.1 rfl) N I.free
 ·obtain⟨v,o,N,hd⟩:=I.cell x c e;exact free c o (λz=>(U c z).2.2.1 x c e rfl) N (I.lV x c e)
 ·obtain⟨e,n,ne,h,d⟩:=I.pin p t;have f:p.1∉ch:=λz=>(U p.1 z).2.2.2 p t rfl;exact⟨keep p.1 p.2 ne h f e n,free p.1 p.2 f e n,ne,h,d⟩
theorem Inv.un{t':ay}(I:Inv X aa J H s)(u:Un X.fs [] H H' s.heap h')(aH:fH X.prog X.w H' h'):Inv X aa J H' {s with heap:=h',toks:=t' }:=by
 obtain⟨m,⟨o,es,c,q,r⟩,_⟩:=id I.loc;obtain⟨sl,hL⟩:=u.any q I.free (by simp);exact I.step (g':=s.gens) (d':=s.drawn) (ch:=[]) (λ_ z=>nomatch z) (λb o _ hb _ e n=>u.keep b o e n hb (by simp)) (λb o _ hb _ e n=>u.slot b o e n hb (by simp)) (λb o _ e n=>u.free b o e n (by simp)) (λb o _ e=>u.there b o e (by simp)) u.oC u.mJ u.nM (λa hm=>by
  obtain⟨U,dZ,N,j,B⟩:=hm;rw[q]at j;cases j;exact⟨_,dZ,N,hL,B⟩) aH I.bare
theorem Inv.call{g':a8 GenState}{t':ay}{d':Drawn}{ch:ak aw}(I:Inv X aa J H s)(u:Un (jA X.stack) ch H H' s.heap h')(aH:fH X.prog X.w H' h')(a:AllBare g')
  (q:∀b∈ch,(b∈X.ex\/X.s₀.heap.objs.size<=b)/\b≠X.env.locals/\(∀x c,X.env.cells.lookup x=aj c->c≠b)/\∀p∈X.pn++aa,p.1≠b) :
  Inv X aa J H' {s with heap:=h',gens:=g',drawn:=d',toks:=t' }:=by
 obtain⟨m,⟨o,es,h,N,r⟩,_⟩:=id I.loc;obtain⟨sl,hL⟩:=u.any N I.free λz=>(q _ z).2.1 rfl;exact I.step (ch:=ch) q (λb o hL hb j e n=>u.keep b o e n (λz=>(dU.mp (I.MD b z)).elim hL hb) j) (λb o _ _ j e n=>u.any e n j) (λb o j e n=>u.free b o e n j) (λb o j e=>u.there b o e j) u.oC u.mJ u.nM (λg hm=>by
  obtain⟨f,dZ,d,B,U⟩:=hm;rw[N]at B;cases B;exact⟨_,dZ,d,hL,U⟩) aH a
theorem Inv.turned{t':ay}{it:aw}(I:Inv X aa J H s)(k:∀b o,b≠it->s.heap.get? b=aj o->h'.get? b=aj o)(hn:H it=ao)(hL:it≠X.env.locals)
  (h1:it∈X.ex\/X.s₀.heap.objs.size<=it) (h2:∀x c,X.env.cells.lookup x=aj c->c≠it) (U:∀p∈X.pn++aa,p.1≠it):Inv X aa J H {s with heap:=h',toks:=t' }:=by
 have B:∀b u,H b=aj u->b≠it:=λb u e z=>by rw[z,hn]at e;cases e
 refine I.step (g':=s.gens) (d':=s.drawn) (ch:=[it]) (λb hb=>?_) (λb o _ _ j e _=>k b o (λz=>j (by simp[z])) e) (λb o _ _ j e _=>⟨o.slots,k b o (λz=>j (by simp[z])) e⟩) (λ_ _ _ _ n=>n)
  (λb o j e=>⟨o,k b o (λz=>j (by simp[z])) e⟩) (λ_ _ e=>e) (λ_ _ _ e=>e) (λb d e=>⟨#[],by rw[e];simp⟩) (λm hm=>?_) (λb u e=>?_) I.bare
 ·have e:b=it:=by simpa using hb
  subst e;exact⟨h1,hL,h2,U⟩
 ·obtain⟨o,es,a,N,r⟩:=hm;exact⟨o,es,a,k _ o (dQ hL) N,r⟩
 ·refine(I.aH b u e).nN (λc v j q=>k c v ?_ q) (λ_ q=>q) λ_ _ q=>q
  rcases j with z|z
  ·rw[z];exact B b u e
  ·exact B c _ z
theorem Inv.tok(I:Inv X aa J H s)(t:ay):Inv X aa J H {s with toks:=t}:=I.un (h':=s.heap) (t':=t) Un.refl I.aH
theorem Inv.kept{t':ay}(I:Inv X aa J H s)(k:∀b u,s.heap.get? b=aj u->h'.get? b=aj u):Inv X aa J H {s with heap:=h',toks:=t' }:=I.un (Un.kept k) (I.aH.kept k)
theorem Inv.laid{a:aw}{o:HO}{t':ay}(I:Inv X aa J H s)(k:∀b u,s.heap.get? b=aj u->h'.get? b=aj u)(j:s.heap.objs.size<=a)(new:iG X.prog X.w (upd H a o) h' a o) :
  Inv X aa J (upd H a o) {s with heap:=h',toks:=t' }:=I.un (Un.laid k j (I.aH.fresh j)) (I.aH.laid k j new)
theorem Inv.write{x e:aw}{o:HO}{t':ay}(I:Inv X aa J H s)(j:QO (H x))(he:e=x\/H e=aj (.own x))(k:∀b u,b≠e->s.heap.get? b=aj u->h'.get? b=aj u)(q:∃u,h'.get? e=aj u)
  (new:iG X.prog X.w (upd H x o) h' x o):Inv X aa J (upd H x o) {s with heap:=h',toks:=t' }:=I.un (Un.write j he k q) (I.aH.write j he k q new)
theorem Inv.Ed{j:ak (aw×c5)}(I:Inv X aa J H s)(h:∀p∈j,s.heap.get? p.1=aj p.2/\H p.1=ao/\p.1≠X.env.locals/\p.1∉X.fs/\∀v,p.2.data≠.cell v):Inv X j J H s :=
 ⟨I.ok,I.os,I.bare,I.base,I.loc,I.cell,I.free,I.lV,λp q=>(lH.mp q).elim (λz=>I.pin p (nX _ z)) (h p),I.aH,I.len⟩
theorem Eu{N:ak ba}(q:N.Nodup){i j:ay}{x:ba}(a:N[i]?=aj x)(b:N[j]?=aj x):i=j:=by
 obtain⟨h1,B⟩:=dA.mp a;obtain⟨h2,z⟩:=dA.mp b;exact(List.getElem_inj q).mp (B.trans z.symm)
theorem ajX{M:ei}{A:bu}{E:aq->av->Prop}{i:ay}{x:ba}{v:V}{u:aq}{Q:Unit->av->Prop}(I:Inv X aa J H s)(hN:X.N.Nodup)(hi:X.N[i]?=aj x)(g:Loc X.env.scope x)(r:RelV v u)
  (h:∀s',Inv X aa (J.set i (aj v)) H s'->(∃a,Heap.SameBut a s.heap s'.heap/\(a=X.env.locals\/X.env.cells.lookup x=aj a))->Q () s') (hf:X.fn x=ax\/X.env.scope.names.lookup x=aj .local:=by first|exact .inl rfl|exact .inr rfl|assumption):wpAny M A (storeName X.env x u) Q E s:=by
 obtain⟨m,hn,hl⟩:=id I.loc;have Hy:(X.env.scope.kind == .class||(X.env.scope.kind == .module&&X.env.locals != X.env.globals))=au:=by rw[I.ok.kind];rfl
 have NX:i<J.length:=by rw[I.len];exact(dA.mp hi).1
 have vQ:=I.vQ;have tracked:∀{a:aw} {h':b8},(∃o,s.heap.get? a=aj o/\H a=ao)->Heap.SameBut a s.heap h'->fH X.prog X.w H h':=λ{a h'} ha B b ob e=>by
  obtain⟨_,_,zC⟩:=ha;refine(I.aH b ob e).nN (λc F f q=>(B.2 c ?_).trans q) (λ_ q=>q) λ_ _ q=>q;rintro rfl
  rcases f with rfl|f
  ·rw[zC]at e;cases e
  ·rw[zC]at f;cases f
 rcases g with t|t
 ·refine wpAny_storeName_local t hn (λh' Hg B=>?_) Hy;obtain⟨oL,_,_,wX,_⟩:=id hn;refine h _ ⟨I.ok,I.os,I.bare,⟨λb o e n hb g=>?_,λb o e n hb g=>?_,I.base.free,λb o e g=>?_,I.base.oC,I.base.mJ,I.base.nM⟩,⟨_,Hg,λj y K U l W=>?_⟩,λy c e=>?_,I.free,I.lV,λp T=>?_,tracked ⟨oL,wX,I.free⟩ B,by simpa using I.len⟩ ⟨_,B,.inl rfl⟩
  ·exact(B.2 b (fS (lG (dS e) I.ok.above))).trans (I.base.keep b o e n hb g)
  ·obtain⟨sl,U⟩:=I.base.slot b o e n hb g;exact⟨sl,(B.2 b (fS (lG (dS e) I.ok.above))).trans U⟩
  ·obtain⟨R,U⟩:=I.base.there b o e g;exact⟨R,(B.2 b (fS (lG (dS e) I.ok.above))).trans U⟩
  ·by_cases C:j=i
   ·subst C;rw[hi]at U;cases U;rw[fG NX]at l;cases l;exact⟨u,r,.inl ⟨t,by simp⟩⟩
   ·rw[iO (dQ C)]at l;obtain⟨L,P,q⟩:=hl j y K U l W;refine⟨L,P,?_⟩
    rcases q with⟨k,e⟩|⟨k,c,e,z⟩
    ·refine .inl ⟨k,?_⟩;have:y≠x:=λe=>C (Eu hN U (e ▸ hi));simp[this,e]
    ·exact .inr ⟨k,c,e,z.sameBut B (vQ y c e)⟩
  ·obtain⟨F,z⟩:=I.cell y c e;exact⟨F,z.sameBut B (vQ y c e)⟩
  ·obtain⟨e,n,ne,S,d⟩:=I.pin p T;exact⟨(B.2 p.1 ne).trans e,n,ne,S,d⟩
 ·have Hu:X.fn x=ax:=by
   rcases hf with z|z
   ·exact z
   ·rw[z]at t;cases t
  obtain⟨c,f⟩:=I.ok.has x (.inl t);obtain⟨F,z⟩:=I.cell x c f;refine wpAny_storeName_cell I.ok.kind t f z (λh' tZ B=>?_);obtain⟨oc,NR,axR⟩:=id z;refine h {s with heap:=h' } ⟨I.ok,I.os,I.bare,⟨λb o e n hb g=>?_,λb o e n hb g=>?_,I.base.free,λb o e g=>?_,I.base.oC,I.base.mJ,I.base.nM⟩,⟨m,hn.sameBut B (dQ (vQ x c f)),λj y K U l W=>?_⟩,λy G e=>?_,I.free,I.lV,λp T=>?_,tracked ⟨oc,NR,I.lV x c f⟩ B,by simpa using I.len⟩ ⟨c,B,.inr f⟩
  ·exact(B.2 b (fS (lG (dS e) (I.ok.FF x c Hu f)))).trans (I.base.keep b o e n hb g)
  ·obtain⟨sl,U⟩:=I.base.slot b o e n hb g;exact⟨sl,(B.2 b (fS (lG (dS e) (I.ok.FF x c Hu f)))).trans U⟩
  ·obtain⟨R,U⟩:=I.base.there b o e g;exact⟨R,(B.2 b (fS (lG (dS e) (I.ok.FF x c Hu f)))).trans U⟩
  ·by_cases C:j=i
   ·subst C;rw[hi]at U;cases U;rw[fG NX]at l;cases l;exact⟨u,r,.inr ⟨.inl t,c,f,tZ⟩⟩
   ·rw[iO (dQ C)]at l;obtain⟨L,P,q⟩:=hl j y K U l W;refine⟨L,P,?_⟩
    rcases q with q|⟨k,G,e,z'⟩
    ·exact .inl q
    ·refine .inr ⟨k,G,e,z'.sameBut B ?_⟩;rintro rfl;exact C (Eu hN U (I.ok.inj _ _ _ e f ▸ hi))
  ·by_cases D:G=c
   ·subst D;exact⟨_,tZ⟩
   ·obtain⟨w2,z2⟩:=I.cell y G e;exact⟨w2,z2.sameBut B D⟩
  ·obtain⟨e,n,ne,S,d⟩:=I.pin p T;refine⟨(B.2 p.1 ?_).trans e,n,ne,S,d⟩;intro q;rw[q,NR]at e;have q':oc=p.2:=kY e;exact d F (by rw[<-q'];exact axR)
theorem SS{M:ei}{A:bu}{E:aq->av->Prop}{i:ay}{x:ba}{v:V}{u:aq}{Q:Unit->av->Prop}(I:Inv X aa J H s)(z:X.N.Nodup)(hi:X.N[i]?=aj x)(j:Loc X.env.scope x)(r:RelV v u)
  (h:∀s',Inv X aa (J.set i (aj v)) H s'->Q () s') (q:X.fn x=ax\/X.env.scope.names.lookup x=aj .local:=by first|exact .inl rfl|exact .inr rfl|assumption):wpAny M A (storeName X.env x u) Q E s :=
 ajX I z hi j r (λs' B _=>h s' B) q
theorem Inv.JG{s':av}{ch:ak aw}(I:Inv X aa J H s)(z:s'.os=s.os)(u:Un (jA X.stack) ch H H' s.heap s'.heap)(aH:fH X.prog X.w H' s'.heap)(B:AllBare s'.gens)
  (j:∀b∈ch,(b∈X.ex\/X.s₀.heap.objs.size<=b)/\b≠X.env.locals/\(∀x c,X.env.cells.lookup x=aj c->c≠b)/\∀p∈X.pn++aa,p.1≠b):Inv X aa J H' s':=by
 obtain⟨h',g',d',t',q⟩:=s';have e:q=s.os:=z;subst e;exact I.call (g':=g') (t':=t') (d':=d') u aH B j
end
abbrev XK:=aq->ar aw->Hp->Prop
abbrev St:=ak (ar V)
abbrev VK:=V->Hp->Prop
abbrev TE:=St->Hp->VK->Prop
abbrev TT:=St->Hp->(br->Hp->Prop)->Prop
abbrev TA:=St->Hp->(ak V->Hp->Prop)->Prop
structure Ends where
 nx:St->Hp->Prop
 rt:VK
 bk:St->Hp->Prop:=λ_ _=>cp
 ct:St->Hp->Prop:=λ_ _=>cp
abbrev TS:=Ends->St->Hp->Prop
def EP(X:Cx)(aa:ak (aw×c5))(J:St)(Q:VK)(u:aq)(s':av):Prop:=∃v H',Inv X aa J H' s'/\RelV v u/\Q v H'
def TP(X:Cx)(aa:ak (aw×c5))(J:St)(Q:br->Hp->Prop)(b:br)(s':av):Prop:=∃H',Inv X aa J H' s'/\Q b H'
def AP(X:Cx)(aa:ak (aw×c5))(J:St)(Q:ak V->Hp->Prop)(us:ak aq)(s':av):Prop:=∃vs H',Inv X aa J H' s'/\Vals vs us/\Q vs H'
def SP(X:Cx)(aa:ak (aw×c5))(D:Ends)(f:Flow)(s':av):Prop :=
 match f with
 |.next=>∃j H',Inv X aa j H' s'/\D.nx j H'
 |.brk=>∃j H',Inv X aa j H' s'/\D.bk j H'
 |.cont=>∃j H',Inv X aa j H' s'/\D.ct j H'
 |.ret u=>∃v j H',Inv X aa j H' s'/\RelV v u/\D.rt v H'
def PE(X:Cx)(e:bx)(t:TE):Prop :=
 ∀(aa:ak (aw×c5)) (s:av) (J:St) (H:Hp) (Q:VK),Inv X aa J H s->t J H Q->wpAny (bq X.prog X.w) X.A (b9 e X.env) (EP X aa J Q) X.xe s
def PT(X:Cx)(e:bx)(t:TT):Prop :=
 ∀(aa:ak (aw×c5)) (s:av) (J:St) (H:Hp) (Q:br->Hp->Prop),Inv X aa J H s->t J H Q->wpAny (bq X.prog X.w) X.A (isTrue e X.env (b9 e X.env)) (TP X aa J Q) X.xe s
def PW(X:Cx)(e:bx)(t:TT):Prop :=
 ∀(whole:Sem aq) (aa:ak (aw×c5)) (s:av) (J:St) (H:Hp) (Q:br->Hp->Prop),Inv X aa J H s->t J H Q->wpAny (bq X.prog X.w) X.A (isTrue e X.env whole) (TP X aa J Q) X.xe s
theorem PW.pt{X:Cx}{e:bx}{t:TT}(h:PW X e t):PT X e t:=h _
def PA(X:Cx)(es:ak bx)(t:TA):Prop :=
 ∀(pos:dk) (aa:ak (aw×c5)) (s:av) (J:St) (H:Hp) (Q:ak V->Hp->Prop),Inv X aa J H s->t J H Q->wpAny (bq X.prog X.w) X.A (spliced (cx pos (bg es X.env))) (AP X aa J Q) X.xe s
def PS(X:Cx)(st:b7)(t:TS):Prop :=
 ∀(aa:ak (aw×c5)) (s:av) (J:St) (H:Hp) (D:Ends),Inv X aa J H s->t D J H->wpAny (bq X.prog X.w) X.A (exec st X.env) (SP X aa D) X.xe s
def oW(X:Cx)(st:ak b7)(t:TS):Prop :=
 ∀(aa:ak (aw×c5)) (s:av) (J:St) (H:Hp) (D:Ends),Inv X aa J H s->t D J H->wpAny (bq X.prog X.w) X.A (execs st X.env) (SP X aa D) X.xe s
theorem bM{α:Type}{t:Sem α}{Q j:α->av->Prop}{M:ei}{A:bu}{E:aq->av->Prop}{s:av}(h:wpAny M A t Q E s)(q:∀a s,Q a s->j a s):wpAny M A t j E s:=mU h q λ_ _ x=>x
section
variable{X:Cx}
def Bd(i:ay):TE:=λJ H Q=>∃v,J[i]?=aj (aj v)/\Q v H
def tC(v:V):TE:=λ_ H Q=>Q v H
theorem Ef{i:ay}{x:ba}{pos:dk}(B:X.N[i]?=aj x)(hv:QG X.env.scope x)(hd:(x==("__debug__" : ba))=au:=by decide)(U:(x==("__classdict__" : ba))=au:=by decide):PE X (.Name x pos) (Bd i):=by
 intro aa s J H Q I h;obtain⟨v,e,h⟩:=h;obtain⟨m,hn,hl⟩:=I.loc;obtain⟨u,r,l⟩:=hl i x v B e hv;have fin:EP X aa J Q u s:=⟨v,H,I,r,h⟩
 rcases l with⟨j,hm⟩|⟨j,c,q,z⟩
 ·exact wpAny_Name (wpAny_loadName_local I.ok.kind j hn hm fin) hd
 ·rcases j with j|j
  ·exact wpAny_Name (wpAny_loadName_cell I.ok.kind j q z fin) hd
  ·exact wpAny_Name (wpAny_loadName_free I.ok.kind j q z fin U) hd
theorem apD{i j pos}:PE X (.Constant (.int i) j pos) (tC (.int i)):=λ_ _ _ H _ I h=>wpAny_Constant_int ⟨.int i,H,I.tok _,⟨_,rfl⟩,h⟩
theorem apQ{b j pos}:PE X (.Constant (.bool b) j pos) (tC (.bl b)):=λ_ _ _ H _ I h=>Constant_bool ⟨.bl b,H,I,rfl,h⟩
theorem aoZ{x j pos}:PE X (.Constant (.str x) j pos) (tC (.str x)):=λ_ _ _ H _ I h=>Calls.Constant_str ⟨.str x,H,I.tok _,⟨_,rfl⟩,h⟩
def Gl(X:Cx)(x:ba):Prop:=X.env.kindOf x=aj .globalImplicit
theorem AW{E:aq->av->Prop}{aa:ak (aw×c5)}{s:av}{J:St}{H:Hp}{x:ba}{u:aq}{pos:dk}{Q:aq->av->Prop}(I:Inv X aa J H s)(j:Gl X x)(hm:X.mg x=aj u)(h:Q u s)
  (hd:(x==("__debug__" : ba))=au:=by decide):wpAny (bq X.prog X.w) X.A (b9 (.Name x pos) X.env) Q E s :=
 Calls.Name_function_global I.ok.kind j (Calls.loadGlobal_global (by rw[I.ok.glob];exact I.mod.glob.keeps I.bk) hm h) hd
theorem EA{E:aq->av->Prop}{aa:ak (aw×c5)}{s:av}{J:St}{H:Hp}{x:ba}{u:aq}{pos:dk}{Q:aq->av->Prop}(I:Inv X aa J H s)(j:Gl X x)(hm:X.mg x=ao)(hv:d6 x=aj u)(h:Q u s)
  (hn:x≠"__name__":=by decide) (hd:(x==("__debug__" : ba))=au:=by decide):wpAny (bq X.prog X.w) X.A (b9 (.Name x pos) X.env) Q E s:=by
 obtain⟨mb,h1,h2⟩:=I.mod.blt;exact Calls.Name_function_global I.ok.kind j (Calls.loadGlobal_builtin (by rw[I.ok.glob];exact I.mod.glob.keeps I.bk) hm (by rw[I.ok.blt];exact h1.keeps I.bk) ((h2 x hn).trans hv) h) hd
theorem Vu{x:ba}{v:V}{u:aq}{pos:dk}(j:Gl X x)(hm:X.mg x=aj u)(r:RelV v u)(hd:(x==("__debug__" : ba))=au:=by decide):PE X (.Name x pos) (tC v) :=
 λ_ _ _ H _ I h=>AW I j hm ⟨v,H,I,r,h⟩ hd
theorem apP{x:ba}{v:V}{u:aq}{pos:dk}(j:Gl X x)(hm:X.mg x=ao)(hv:d6 x=aj u)(r:RelV v u)(hn:x≠"__name__":=by decide)(hd:(x==("__debug__" : ba))=au:=by decide):PE X (.Name x pos) (tC v) :=
 λ_ _ _ H _ I h=>EA I j hm hv ⟨v,H,I,r,h⟩ hn hd
variable{a b:bx}{ta tb:TE}{pos:dk}
def PC(X:Cx)(j:CmpOp)(a b:bx)(t:TE):Prop :=
 ∀(aa:ak (aw×c5)) (s:av) (J:St) (H:Hp) (Q:VK),Inv X aa J H s->t J H Q ->
  wpAny (bq X.prog X.w) X.A (b9 a X.env) (λv s₁=>wpAny (bq X.prog X.w) X.A (b9 b X.env) (λu s₂=>wpAny (bq X.prog X.w) X.A (cn j v u) (EP X aa J Q) X.xe s₂) X.xe s₁) X.xe s
def tB(t:TE):TT:=λJ H Q=>t J H λx H1=>∃c,x=.bl c/\Q c H1
theorem anW{j:CmpOp}{t:TE}(h:PC X j a b t)(h1:dq j b=au:=by first|exact N _ (by decide) (by decide)|rfl):PT X (.Compare a [j] [b] pos) (tB t):=by
 intro aa s J H Q I hw;refine wpAny_isTrue_Compare1 (bM (h aa s J H _ I hw) λv g h1=>bM h1 λu s2 h2=>bM h2 λc f ⟨x,e,U,z,B⟩=>?_) h1;obtain⟨d,rfl,q⟩:=B;cases z;exact GN ⟨e,U,q⟩
theorem anT{e:bx}{t:TE}(h:PE X e t)(he:∀whole,isTrue e X.env whole=(do let v<-whole;standAt e.pos;holding [v] (truthy v)):=by intro _;rfl):PT X e (tB t):=by
 intro aa s J H Q I hw;refine isTrue_plain (bM (h aa s J H _ I hw) λv U ⟨x,N,B,j,z⟩=>?_) (he _);obtain⟨d,rfl,q⟩:=z;cases j;exact GN ⟨N,B,q⟩
variable{tA Sr:TT}{rest:ak bx}
def tOr(t u:TT):TT:=λJ H Q=>t J H λc H1=>if c=ax then Q ax H1 else u J H1 Q
def ah7(t:TT):TT:=λJ H Q=>t J H λc H1=>Q (!c) H1
theorem pw_or1(ha:PT X a tA):PW X (.BoolOp .Or [a] pos) tA:=by
 intro j aa s J H Q I h;refine isTrue_or (bM (ha aa s J H Q I h) λc q e=>?_);cases c with
 |false=>exact isTrue_or_nil e
 |true=>exact e
theorem pw_or(ha:PT X a tA)(hb:PW X (.BoolOp .Or (b::rest) pos) Sr):PW X (.BoolOp .Or (a::b::rest) pos) (tOr tA Sr):=by
 intro B aa s J H Q I h;refine isTrue_or (bM (ha aa s J H _ I h) λc N ⟨z,q,j⟩=>?_);cases c with
 |true=>exact⟨z,q,j⟩
 |false=>exact hb B aa N J z Q q j
theorem anU(ha:PT X a tA):PT X (.UnaryOp .Not a pos) (ah7 tA):=by
 intro aa s J H Q I h;exact isTrue_not (ha aa s J H (λc j=>Q (!c) j) I h)
def aiL(ta tb:TE):TE:=λJ H Q=>ta J H λx H1=>∃c,x=.bl c/\if c=ax then tb J H1 Q else Q (.bl au) H1
def ah4(ta tb:TE):TE:=λJ H Q=>ta J H λx H1=>∃c,x=.bl c/\if c=ax then Q (.bl ax) H1 else tb J H1 Q
def ah6(ta:TE):TE:=λJ H Q=>ta J H λx H1=>∃c,x=.bl c/\Q (.bl (!c)) H1
theorem ao2{j}{t:TE}(h:PE X a t):PE X (.BoolOp j [a] pos) t:=λaa s J H Q I hw=>BoolOp_one (h aa s J H Q I hw)
theorem apS(ha:PE X a ta)(hb:PE X (.BoolOp .And (b::rest) pos) tb):PE X (.BoolOp .And (a::b::rest) pos) (aiL ta tb):=by
 intro aa s J H Q I h;refine BoolOp_and (bM (ha aa s J H _ I h) λv B ⟨x,z,q,N,j⟩=>?_);obtain⟨c,rfl,j⟩:=j;cases N;refine GN ?_;cases c with
 |true=>exact hb aa B J z Q q j
 |false=>exact⟨.bl au,z,q,rfl,j⟩
theorem ao0(ha:PE X a ta)(hb:PE X (.BoolOp .Or (b::rest) pos) tb):PE X (.BoolOp .Or (a::b::rest) pos) (ah4 ta tb):=by
 intro aa s J H Q I h;refine BoolOp_or (bM (ha aa s J H _ I h) λv B ⟨x,z,q,N,j⟩=>?_);obtain⟨c,rfl,j⟩:=j;cases N;refine GN ?_;cases c with
 |false=>exact hb aa B J z Q q j
 |true=>exact⟨.bl ax,z,q,rfl,j⟩
theorem ao3(ha:PE X a ta):PE X (.UnaryOp .Not a pos) (ah6 ta):=by
 intro aa s J H Q I h;refine UnaryOp_ (bM (ha aa s J H _ I h) λv N ⟨x,B,z,q,j⟩=>?_);obtain⟨c,rfl,j⟩:=j;cases q;exact not_of (GN ⟨.bl (!c),B,z,rfl,j⟩)
def tIf(t:TT)(ta tb:TE):TE:=λJ H Q=>t J H λc H1=>if c=ax then ta J H1 Q else tb J H1 Q
theorem apE{c:bx}(N:PT X c tA)(ha:PE X a ta)(hb:PE X b tb):PE X (.IfExp c a b pos) (tIf tA ta tb):=by
 intro aa s J H Q I h;refine wpAny_IfExp (bM (N aa s J H _ I h) λd j ⟨B,z,q⟩=>?_);cases d with
 |true=>exact ha aa j J B Q z q
 |false=>exact hb aa j J B Q z q
end
def fV(K:bj)(H:Hp)(a:aw)(xs:ak V):Prop :=
 Rd H a (.lst xs) \/
  ∃(o:c5) (j:a8 aq) (n:ay),K.lookup a=aj o/\o.cls=.type "list"/\o.dict=ao/\o.data=.seq j n/\j.size<=bc/\Vals xs j.toList
def kH(K:bj)(H:Hp)(a:aw)(xs:ak V):Prop :=
 Rd H a (.tup xs) \/
  ∃(o:c5) (j:a8 aq) (n:ay),K.lookup a=aj o/\o.cls=.type "tuple"/\o.data=.seq j n/\j.size<=bc/\Vals xs j.toList
noncomputable def aHU:aq->ar V
 |.none=>aj .cE
 |.bool b=>aj (.bl b)
 |.int i _=>aj (.int i)
 |.str x _=>aj (.str x)
 |.bytes b _=>aj (.XA b)
 |.float b _=>aj (.ES b)
 |.ref a=>aj (.ref a)
 |.type n=>aj (.ty n)
 |_=>ao
theorem RelV.abs{x:V}{u:aq}(r:RelV x u):aHU u=aj x:=by
 cases x with
 |cE=>cases r;rfl
 |bl _=>cases r;rfl
 |int _=>obtain⟨t,rfl⟩:=r;rfl
 |str _=>obtain⟨t,rfl⟩:=r;rfl
 |XA _=>obtain⟨t,rfl⟩:=r;rfl
 |ES _=>obtain⟨t,rfl⟩:=r;rfl
 |ref _=>cases r;rfl
 |ty _=>cases r;rfl
theorem RelV.inj{x y:V}{u:aq}(r:RelV x u)(q:RelV y u):x=y:=kY (r.abs.symm.trans q.abs)
theorem Vals.inj:∀{xs ys:ak V} {us:ak aq},Vals xs us->Vals ys us->xs=ys
 |_,_,_,.nil,.nil=>rfl
 |_,_,_,.cons r t,.cons q j=>by rw[r.inj q,Vals.inj t j]
section
variable{X:Cx}{aa:ak (aw×c5)}{J:St}{H:Hp}{s:av}{a:aw}{xs ys:ak V}
theorem fV.of{K:bj}(h:H a=aj (.lst xs)):fV K H a xs:=.inl (.inl h)
theorem kH.of{K:bj}(h:H a=aj (.tup xs)):kH K H a xs:=.inl (.inl h)
theorem Inv.list(I:Inv X aa J H s)(h:fV X.K H a xs):∃j:ak aq,Vals xs j/\PlainL s.heap a j.toArray/\xs.length<=bc:=by
 rcases h with h|⟨o,j,n,B,N,hd,q,U,r⟩
 ·obtain⟨z,j,n,r,e⟩:=h.ok I.aH;exact⟨j,r,⟨_,n,e,rfl,rfl,rfl⟩,z⟩
 ·refine⟨j.toList,r,⟨o,n,I.fF a o B,N,hd,by simpa using q⟩,?_⟩;have e:=r.length;simp only[gJ]at e;omega
theorem Inv.tuple(I:Inv X aa J H s)(h:kH X.K H a xs):∃j:ak aq,Vals xs j/\IsTup s.heap a j.toArray/\xs.length<=bc:=by
 rcases h with h|⟨o,j,n,B,N,q,U,r⟩
 ·obtain⟨z,j,r,p⟩:=h.ok I.aH;exact⟨j,r,p,z⟩
 ·refine⟨j.toList,r,⟨o,I.fF a o B,N,n,by simpa using q⟩,?_⟩;have e:=r.length;simp only[gJ]at e;omega
theorem Inv.Xm(I:Inv X aa J H s)(h:fV X.K H a xs)(h':fV X.K H a ys):xs=ys:=by
 obtain⟨N,r,⟨o,n,e,_,_,d⟩,_⟩:=I.list h;obtain⟨j,z,⟨U,b,q,_,_,d'⟩,_⟩:=I.list h';rw[e]at q;cases q;rw[d]at d';injection d' with B _;have:N=j:=by simpa using c3 Array.toList B
 subst this;exact r.inj z
theorem Inv.ahA(I:Inv X aa J H s)(h:kH X.K H a xs)(h':kH X.K H a ys):xs=ys:=by
 obtain⟨N,r,⟨o,e,_,n,d⟩,_⟩:=I.tuple h;obtain⟨j,z,⟨U,q,_,b,d'⟩,_⟩:=I.tuple h';rw[e]at q;cases q;rw[d]at d';injection d' with B _;have:N=j:=by simpa using c3 Array.toList B
 subst this;exact r.inj z
end
noncomputable abbrev Cx.nK(X:Cx)(E:aq->av->Prop):Cx:={X with xe:=E}
abbrev Cx.vA(X:Cx):Cx:=X.nK λ_ _=>cp
theorem Cx.Ok.nK{X:Cx}(ok:X.Ok)(E:aq->av->Prop):(X.nK E).Ok :=
 ⟨ok.mod,ok.kind,ok.glob,ok.blt,ok.above,ok.inj,ok.has,ok.FF,ok.hd,ok.frames,ok.tO,ok.EV,ok.bs,ok.rK,ok.yO,ok.BR,ok.oU,ok.uB⟩
theorem Cx.Ok.uS{X:Cx}{E:aq->av->Prop}(ok:(X.nK E).Ok):X.Ok :=
 ⟨ok.mod,ok.kind,ok.glob,ok.blt,ok.above,ok.inj,ok.has,ok.FF,ok.hd,ok.frames,ok.tO,ok.EV,ok.bs,ok.rK,ok.yO,ok.BR,ok.oU,ok.uB⟩
section
variable{X:Cx}{aa:ak (aw×c5)}{J:St}{H:Hp}{s:av}{E:aq->av->Prop}
theorem Inv.nK(I:Inv X aa J H s)(E:aq->av->Prop):Inv (X.nK E) aa J H s:=⟨I.ok.nK E,I.os,I.bare,I.base,I.loc,I.cell,I.free,I.lV,I.pin,I.aH,I.len⟩
theorem Inv.uS(I:Inv (X.nK E) aa J H s):Inv X aa J H s:=⟨I.ok.uS,I.os,I.bare,I.base,I.loc,I.cell,I.free,I.lV,I.pin,I.aH,I.len⟩
theorem SP.uS{D:Ends}{f:Flow}{s':av}(h:SP (X.nK E) aa D f s'):SP X aa D f s':=by
 cases f with
 |next=>obtain⟨j,z,I,q⟩:=h;exact⟨j,z,I.uS,q⟩
 |brk=>obtain⟨j,z,I,q⟩:=h;exact⟨j,z,I.uS,q⟩
 |cont=>obtain⟨j,z,I,q⟩:=h;exact⟨j,z,I.uS,q⟩
 |ret u=>obtain⟨v,j,z,I,r,q⟩:=h;exact⟨v,j,z,I.uS,r,q⟩
end
section
variable{X:Cx}{st:b7}{rest:ak b7}{t u:TS}{e:bx}{te:TE}{pos:dk}
def ah8:TS:=λD J H=>D.nx J H
def Be(t u:TS):TS:=λD J H=>t {D with nx:=u D} J H
theorem anZ:oW X [] ah8:=λ_ _ J H _ I h=>RU ⟨J,H,I,h⟩
theorem an0(h1:PS X st t)(h2:oW X rest u):oW X (st::rest) (Be t u):=by
 intro aa s J H D I h;refine wpAny_execs_cons (bM (h1 aa s J H {D with nx:=u D} I h) λf z q=>?_);cases f with
 |next =>
  obtain⟨j,N,B,q⟩:=q;exact h2 aa z j N D B q
 |ret v=>exact q
 |brk=>exact q
 |cont=>exact q
theorem anY(h1:PS X st t):oW X [st] t:=by
 intro aa s J H D I h;refine wpAny_execs_cons (bM (h1 aa s J H D I h) λf j q=>?_);cases f with
 |next=>exact RU q
 |ret v=>exact q
 |brk=>exact q
 |cont=>exact q
theorem Inv.quiet{aa:ak (aw×c5)}{J:St}{H:Hp}{s:av}(I:Inv X aa J H s):interactive X.env=au:=by simp[interactive,I.ok.kind]
def aiE(te:TE):TS:=λD J H=>te J H λ_ H1=>D.nx J H1
theorem aoB(he:PE X e te)(q:ew e ao pos.line X.env=pure au:=by rfl):PS X (.Expr e pos) (aiE te):=by
 intro aa s J H D I h;exact wpAny_Expr_any (bM (he aa s J H _ I h) λv N ⟨x,B,z,U,j⟩=>⟨J,B,z,j⟩) I.quiet q
def ah2(te:TE):TS:=λD J H=>te J H D.rt
theorem an5(he:PE X e te):PS X (.Return (aj e) pos) (ah2 te):=by
 intro aa s J H D I h;exact wpAny_Return_some (bM (he aa s J H _ I h) λv N ⟨x,B,z,j,q⟩=>⟨x,J,B,z,j,q⟩)
def aiC(c:TT)(t u:TS):TS:=λD J H=>c J H λb H1=>if b=ax then t D J H1 else u D J H1
theorem an8{c:bx}{a b:ak b7}{tc:TT}(N:PT X c tc)(ha:oW X a t)(hb:oW X b u):PS X (.If c a b pos) (aiC tc t u):=by
 intro aa s J H D I h;refine wpAny_If (bM (N aa s J H _ I h) λd j ⟨B,z,q⟩=>?_);cases d with
 |true=>exact ha aa j J B D z q
 |false=>exact hb aa j J B D z q
def ah9:TS:=λ_ _ _=>cp
theorem an7:PS X st ah9:=λ_ _ _ _ _ _ h=>h.elim
end
abbrev TG:=V->St->Hp->(St->Hp->Prop)->Prop
abbrev CC:=ak V->St->Hp->(St->Hp->Prop)->Prop
def PG(X:Cx)(target:bx)(t:TG):Prop :=
 ∀(aa:ak (aw×c5)) (s:av) (J:St) (H:Hp) (v:V) (u:aq) (Q:St->Hp->Prop),Inv X aa J H s->RelV v u->t v J H Q ->
  wpAny (bq X.prog X.w) X.A (assign target X.env u) (λ_ s'=>∃j H',Inv X aa j H' s'/\Q j H') X.xe s
def QL(X:Cx)(ts:ak bx)(t:CC):Prop :=
 ∀(aa:ak (aw×c5)) (s:av) (J:St) (H:Hp) (vs:ak V) (us:ak aq) (Q:St->Hp->Prop),Inv X aa J H s->Vals vs us->t vs J H Q ->
  wpAny (bq X.prog X.w) X.A (assignInOrder ((dr ts X.env).map (·.2)) us) (λ_ s'=>∃j H',Inv X aa j H' s'/\Q j H') X.xe s
section
variable{X:Cx}{pos:dk}
def aa7(i:ay):TG:=λv J H Q=>Q (J.set i (aj v)) H
theorem aoW{i:ay}{x:ba}(z:X.N.Nodup)(hi:X.N[i]?=aj x)(j:Loc X.env.scope x)(q:X.fn x=ax\/X.env.scope.names.lookup x=aj .local:=by first|exact .inl rfl|exact .inr rfl|assumption):PG X (.Name x pos) (aa7 i):=by
 intro aa s J H v u Q I r h;exact wpAny_assign_Name (SS I z hi j r (λs' B=>⟨_,H,B,h⟩) q)
def aB0:CC:=λvs J H Q=>vs=[]/\Q J H
def aB5(t:TG)(u:CC):CC:=λvs J H Q=>∃v r,vs=v::r/\t v J H λj H'=>u r j H' Q
theorem aoT:QL X [] aB0:=by
 intro aa s J H j q Q I r h;obtain⟨e,h⟩:=h;subst e;cases r;exact assignInOrder_nil ⟨J,H,I,h⟩
theorem aoU{e:bx}{es:ak bx}{t:TG}{u:CC}(h1:PG X e t)(h2:QL X es u)
  (N:(dr (e::es) X.env).map (·.2)=assign e X.env::(dr es X.env).map (·.2):=by rfl):QL X (e::es) (aB5 t u):=by
 intro aa s J H c f Q I r h;obtain⟨v,d,U,h⟩:=h;subst U;cases r with
 |cons r z =>
  rw[N];refine assignInOrder_cons (bM (h1 aa s J H _ _ _ I r h) λ_ q ⟨j,b,a,B⟩=>?_);exact h2 aa q j b _ _ Q a z B
def aBY(K:bj)(n:ay)(t:CC):TG:=λv J H Q=>∃a xs,v=.ref a/\kH K H a xs/\xs.length=n/\t xs J H Q
theorem aoV{es:ak bx}{k:ay}{t:CC}{n:ay}(c:X.calm=ax)(h:QL X es t)
  (hn:(dr es X.env).length=n:=by rfl) (z:(dr es X.env).findIdx? (·.1)=ao:=by rfl):PG X (.Tuple es k pos) (aBY X.K n t):=by
 intro aa s J H v u Q I r hw;obtain⟨a,q,d,U,hl,hw⟩:=hw;subst d;cases r;obtain⟨i,j,N,g⟩:=I.tuple U;refine assign_Tuple_tuple (I.ok.hd c) N (by simp[hn,<-hl,j.length]) z λh' B=>?_;have f:Inv X aa J H {s with heap:=h' }:=I.kept (t':=s.toks) λb o e=>B b o (fS (dS e)) e;exact h aa _ J H q _ Q f (by simpa using j) hw
def Bl(te:TE)(g:TG):TS:=λD J H=>te J H λx H1=>g x J H1 D.nx
theorem aoD{tg e:bx}{te:TE}{g:TG}(he:PE X e te)(U:PG X tg g)(N:swapsWithSole [tg] e pos.line X.env=pure au:=by rfl)(hw:swappedStores [tg] e X.env=pure ao:=by rfl)
  (h1:(dr [tg] X.env).map (·.2)=[assign tg X.env]:=by rfl):PS X (.Assign [tg] e pos) (Bl te g):=by
 intro aa s J H D I h;refine wpAny_Assign_stores (bM (he aa s J H _ I h) λv j ⟨x,b,a,z,B⟩=>?_) N hw;rw[h1];exact bM (U aa j J b x v _ a z B) λ_ s2 q=>q
theorem an4{i:ay}{x:ba}{e:bx}{te:TE}{pos':dk}(a:X.N.Nodup)(hi:X.N[i]?=aj x)(z:Loc X.env.scope x)(he:PE X e te)(B:ew e (aj (.Name x pos')) pos.line X.env=pure au:=by rfl)(U:X.fn x=ax\/X.env.scope.names.lookup x=aj .local:=by first|exact .inl rfl|exact .inr rfl|assumption) :
  PS X (.Assign [.Name x pos'] e pos) (Bl te (aa7 i)):=by
 intro aa s J H D I h;refine wpAny_Assign_Name (bM (he aa s J H _ I h) λv f ⟨y,d,c,j,q⟩=>?_) B;exact SS c a hi z j (λs2 b=>⟨_,d,b,q⟩) U
def Si(c:TT)(tb:TS):TS:=λD J H=>∃W:ay->St->Hp->Prop,(∃m,W m J H)/\∀m J H,W m J H ->
 c J H λb H1=>if b=ax then ∃N:St->Hp->Prop,(∀j H',N j H'->∃q,q<m/\W q j H')/\tb {D with nx:=N,ct:=N,bk:=D.nx} J H1 else D.nx J H1
theorem an2{c:bx}{body:ak b7}{tc:TT}{tb:TS}(k:PassesOwn (bq X.prog X.w) X.A X.env X.xe)(C:PT X c tc)(hb:oW X body tb):PS X (.While c body [] pos) (Si tc tb):=by
 intro aa s J H D I h;obtain⟨W,⟨y,u⟩,turn⟩:=h;refine wpAny_While (codeAny_whileLoop (λn s'=>∃z r,Inv X aa z r s'/\W n z r) ?_ y ⟨J,H,I,u⟩);rintro n x ⟨q,p,E,t⟩;refine GP k (bM (C aa x q p _ E (turn n q p t)) λb s2 ⟨o,m,a⟩=>?_);cases b with
 |true =>
  obtain⟨N,l,a⟩:=a;rw[a9 rfl];refine GP k (bM (hb aa s2 q o _ m a) λf F U=>?_);cases f with
  |next =>
   obtain⟨j,B,i,e⟩:=U;obtain⟨g,hm,d⟩:=l j B e;exact⟨g,hm,j,B,i,d⟩
  |cont =>
   obtain⟨j,B,i,e⟩:=U;obtain⟨g,hm,d⟩:=l j B e;exact⟨g,hm,j,B,i,d⟩
  |brk=>exact U
  |ret v=>exact U
 |false =>
  rw[bf Pk];exact RU ⟨q,o,m,a⟩
end
structure It where
 go:ay->Hp->Prop
 CS:ay->Hp->V->Hp->Prop
 stop:ay->Hp->Prop
def qV(X:Cx)(aa:ak (aw×c5))(H:Hp)(b:aw):Prop :=
 H b=ao/\b≠X.env.locals/\b∉X.fs/\(b∈X.ex\/X.s₀.heap.objs.size<=b)/\(∀x c,X.env.cells.lookup x=aj c->c≠b)/\∀p∈X.pn++aa,p.1≠b
theorem Inv.xG{X:Cx}{aa:ak (aw×c5)}{J:St}{H H':Hp}{s:av}{b:aw}(I:Inv X aa J H s)(hb:s.heap.objs.size<=b)(hn:H' b=ao):qV X aa H' b:=by
 refine⟨hn,JT (lG I.lt hb),I.arO hb,.inr (rV I.sz hb),λx c e z=>?_,λp j z=>?_⟩
 ·obtain⟨v,q⟩:=I.cell x c e;exact bz (lG q.lt (by rw[z];exact hb)) (Nat.lt_irrefl _)
 ·exact bz (lG (dS (I.pin p j).1) (by rw[z];exact hb)) (Nat.lt_irrefl _)
structure Turn(P:bh)(w:bw)(K:bj)(tg:bx)(σ:It)(fp:ak aw)(it:aw)(tn:ay->b8->Prop):Prop where
 mem:it∈fp
 obj:∀i h,tn i h->∀b∈fp,∃o,h.get? b=aj o/\∀v,o.data≠.cell v
 keep:∀i h h',tn i h->(∀b∈fp,∀o,h.get? b=aj o->h'.get? b=aj o)->tn i h'
 item:∀(X:Cx),X.prog=P->X.w=w->X.K=K->X.calm=ax->∀(i:ay) (aa:ak (aw×c5)) (s:av) (J:St) (H:Hp) (E:aq->av->Prop),Inv X aa J H s->(∀b∈fp,qV X aa H b)->tn i s.heap->σ.go i H ->
  wpAny (bq P w) X.A (ek (.ref it)) (λr s1=>∃u,r=aj u /\
   wpAny (bq P w) X.A (letOwnedTupleGo tg (.ref it) u) (λ_ s2=>∃x H',Inv X aa J H' s2/\RelV x u/\σ.CS i H x H'/\tn (i+1) s2.heap/\∀b∈fp,H' b=ao) E s1) E s
 done:∀(X:Cx),X.prog=P->X.w=w->X.K=K->X.calm=ax->∀(i:ay) (aa:ak (aw×c5)) (s:av) (J:St) (H:Hp) (E:aq->av->Prop),Inv X aa J H s->(∀b∈fp,qV X aa H b)->tn i s.heap->σ.stop i H ->
  wpAny (bq P w) X.A (ek (.ref it)) (λr s1=>r=ao/\Inv X aa J H s1) E s
 self:∀(A:bu) (i:ay) (s:av) (Q:aq->av->Prop) (E:aq->av->Prop),tn i s.heap->Q (.ref it) s->wpAny (bq P w) A (pyIter (.ref it)) Q E s
abbrev TI:=St->Hp->(It->Hp->Prop)->Prop
def PIE(X:Cx)(aa:ak (aw×c5))(J:St)(tg:bx)(R:It->Hp->Prop)(j:aq)(s2:av):Prop :=
 ∃(it:aw) (fp:ak aw) (tn:ay->b8->Prop) (σ:It) (H':Hp),j=.ref it/\Inv X aa J H' s2/\Turn X.prog X.w X.K tg σ fp it tn/\tn 0 s2.heap/\(∀b∈fp,qV X aa H' b)/\R σ H'
def PI(X:Cx)(tg iter:bx)(j:TI):Prop :=
 ∀(aa:ak (aw×c5)) (s:av) (J:St) (H:Hp) (R:It->Hp->Prop),Inv X aa J H s->j J H R ->
  wpAny (bq X.prog X.w) X.A (b9 iter X.env) (λv q=>wpAny (bq X.prog X.w) X.A (pyIter v) (PIE X aa J tg R) X.xe q) X.xe s
theorem Ja{M:ei}{A:bu}{E:aq->av->Prop}{s:av}{tg:bx}{it:aw}{u:aq}{o:c5}{n:cz}{vs:a8 aq}{Q:Unit->av->Prop}(q:s.heap.get? it=aj o)(z:o.cls=.type n)(hd:o.data=.fields vs)
  (hn:["enumerate", "zip", "dict_itemiterator", "dict_reverseitemiterator", "odict_iterator", "itertools.zip_longest", "itertools.pairwise"].contains n=au) (j:Q () s):wpAny M A (letOwnedTupleGo tg (.ref it) u) Q E s:=by
 unfold letOwnedTupleGo;cases tg <;> first
  |exact bG j
  | (cases u <;> first
    |exact bG j
    | (refine aL (wpAny_load q ?_)
       rw[z,hd];show wpAny M A (if(["enumerate", "zip", "dict_itemiterator", "dict_reverseitemiterator", "odict_iterator", "itertools.zip_longest", "itertools.pairwise"].contains n&&vs[0]? == aj (cm _))=ax then _ else _) Q E s;rw[bf (by intro h;rw[hn,Bool.false_and]at h;cases h)];exact bG j))
noncomputable def Nt(K:bj)(a:aw):It :=
 ⟨λi H=>∃xs x,fV K H a xs/\xs[i]?=aj x,λi H x H'=>H'=H/\∀xs,fV K H a xs->xs[i]?=aj x,λi H=>∃xs,fV K H a xs/\xs.length<=i⟩
noncomputable def Nr(K:bj)(a:aw):It :=
 ⟨λi H=>∃xs x,kH K H a xs/\xs[i]?=aj x,λi H x H'=>H'=H/\∀xs,kH K H a xs->xs[i]?=aj x,λi H=>∃xs,kH K H a xs/\xs.length<=i⟩
noncomputable def YU(lo:a5)(n:ay):It:=⟨λi _=>i<n,λi H x H'=>H'=H/\x=.int (lo+i),λi _=>n<=i⟩
theorem ag7{P:bh}{w:bw}{K:bj}{tg:bx}(a it:aw):Turn P w K tg (Nt K a) [it] it (λi h=>h.IsListIter it a i)where
 mem:=by simp
 obj:=λi h st b hb=>by
  have e:b=it:=by simpa using hb
  subst e;obtain⟨o,e,c,d⟩:=st;exact⟨o,e,λv z=>by rw[d]at z;cases z⟩
 keep:=λi h h' st k=>st.at λo e=>k it (by simp) o e
 item:=by
  intro X f hw g y i aa s J H E I q st U;subst f hw g;obtain⟨C,x,j,N⟩:=U;obtain⟨Q,B,p,F⟩:=I.list j;obtain⟨u,L,D⟩:=B.get N;obtain⟨t,r,f2,n,m,l⟩:=q it (by simp);refine wpAny_pyNext_list_item st p.isList (x:=u) (by simpa using L) λh' A sb=>?_;have R:Inv X aa J H {s with heap:=h' }:=I.turned (t':=s.toks) (λb o hb e=>(sb.2 b hb).trans e) t r n m l;obtain⟨o,e,c,d⟩:=id A;exact⟨u,rfl,Ja (s:={s with heap:=h' }) e c d (by decide) ⟨x,H,R,D,⟨rfl,λS G=>by rw[I.Xm G j];exact N⟩,A,λb hb=>(q b hb).1⟩⟩
 done:=by
  intro X f hw g y i aa s J H E I q st U;subst f hw g;obtain⟨C,j,N⟩:=U;obtain⟨Q,B,p,F⟩:=I.list j;obtain⟨t,r,f2,n,m,l⟩:=q it (by simp);have hl:=B.length;exact wpAny_pyNext_list_end (I.ok.hd y) st p.isList (by simp;omega) λh' M=>⟨rfl,I.turned (t':=s.toks) (λb o hb e=>M b o hb e) t r n m l⟩
 self:=λ_ _ _ _ _ st h=>wpAny_pyIter_listiter st h
theorem ag5{P:bh}{w:bw}{K:bj}{tg:bx}(a it:aw):Turn P w K tg (Nr K a) [it] it (λi h=>h.IsTupleIter it a i)where
 mem:=by simp
 obj:=λi h st b hb=>by
  have e:b=it:=by simpa using hb
  subst e;obtain⟨o,e,c,d⟩:=st;exact⟨o,e,λv z=>by rw[d]at z;cases z⟩
 keep:=λi h h' st k=>st.at λo e=>k it (by simp) o e
 item:=by
  intro X f hw g A i aa s J H E I q st U;subst f hw g;obtain⟨D,x,j,N⟩:=U;obtain⟨y,B,p,G⟩:=I.tuple j;obtain⟨u,M,F⟩:=B.get N;obtain⟨t,r,f2,n,m,l⟩:=q it (by simp);refine wpAny_pyNext_tuple_item st (show s.heap.IsTuple a y.toArray from p) (x:=u) (by simpa using M) λh' C sb=>?_;have R:Inv X aa J H {s with heap:=h' }:=I.turned (t':=s.toks) (λb o hb e=>(sb.2 b hb).trans e) t r n m l;obtain⟨o,e,c,d⟩:=id C;exact⟨u,rfl,Ja (s:={s with heap:=h' }) e c d (by decide) ⟨x,H,R,F,⟨rfl,λS L=>by rw[I.ahA L j];exact N⟩,C,λb hb=>(q b hb).1⟩⟩
 done:=by
  intro X f hw g A i aa s J H E I q st U;subst f hw g;obtain⟨D,j,N⟩:=U;obtain⟨y,B,p,G⟩:=I.tuple j;obtain⟨t,r,f2,n,m,l⟩:=q it (by simp);have hl:=B.length;exact wpAny_pyNext_tuple_end (I.ok.hd A) st (show s.heap.IsTuple a y.toArray from p) (by simp;omega) λh' Q=>⟨rfl,I.turned (t':=s.toks) (λb o hb e=>Q b o hb e) t r n m l⟩
 self:=λ_ _ _ _ _ st h=>wpAny_pyIter_tupleiter st h
theorem ag6{P:bh}{w:bw}{K:bj}{tg:bx}(it:aw)(lo:a5)(n:ay):Turn P w K tg (YU lo n) [it] it (λi h=>IsRangeIter h it (lo+(i:ay)*1) ((n:a5)-(i:ay)) 1)where
 mem:=by simp
 obj:=λi h st b hb=>by
  have e:b=it:=by simpa using hb
  subst e;exact⟨_,st,λv z=>by
   have m:Data.fields _=Data.cell v:=z;cases m⟩
 keep:=λi h h' st k=>k it (by simp) _ st
 item:=by
  intro X N hw U B i aa s J H E I j st q;subst N hw U;obtain⟨g,f,f2,d,c,a⟩:=j it (by simp);have W:=Walks.range (prog:=X.prog) (w:=X.w) (I.ok.hd B) it lo 1 n;refine W.item i s _ _ q st λv h' tk hv l p=>?_;obtain⟨t,rfl⟩:=hv;have u:Inv X aa J H {s with heap:=h',toks:=tk}:=I.turned (λb o hb e=>p b o (by simpa using hb) e) g f d c a;refine⟨_,rfl,Ja (s:={s with heap:=h',toks:=tk}) (n := "range_iterator") l rfl rfl (by decide) ⟨.int (lo+i),H,u,⟨t,?_⟩,⟨rfl,rfl⟩,l,λb hb=>(j b hb).1⟩⟩;rw[Int.mul_one]
 done:=by
  intro X N hw U B i aa s J H E I j st q;subst N hw U;obtain⟨g,f,f2,d,c,a⟩:=j it (by simp);exact wpAny_pyNext_range_end (I.ok.hd B) st (by have:n<=i:=q;omega) λh' r=>⟨rfl,I.turned (t':=s.toks) (λb o hb e=>r b o hb e) g f d c a⟩
 self:=λ_ _ _ _ _ st h=>wpAny_pyIter_rangeiter st h
section
variable{X:Cx}{tg:bx}
theorem amO{aa:ak (aw×c5)}{J:St}{H:Hp}{s:av}{R:It->Hp->Prop}{E:aq->av->Prop}{lo hi:a5}{t u v:Tok}{tk:ay}(I:Inv X aa J H s)(h1 : -(2 ^ 62)<=lo)(h2:lo<2 ^ 62)(B : -(2 ^ 62)<=hi)(z:hi<2 ^ 62)
  (q:R (YU lo (hi-lo).toNat) H):wpAny (bq X.prog X.w) X.A (pyIter (.ref s.heap.objs.size)) (PIE X aa J tg R) E {s with heap:=s.heap.push {cls:=.type "range",data:=.fields #[.int lo t,.int hi u,.int 1 v]},toks:=tk}:=by
 refine wpAny_pyIter_range (IsRange.new ..) (small_one h1 h2 B z) ?_;have j:Inv X aa J H {s with heap:=s.heap.push {cls:=.type "range",data:=.fields #[.int lo t,.int hi u,.int 1 v]},toks:=tk}:=I.kept λb o e=>eI _ e;refine⟨(s.heap.push {cls:=.type "range",data:=.fields #[.int lo t,.int hi u,.int 1 v]}).objs.size,[(s.heap.push {cls:=.type "range",data:=.fields #[.int lo t,.int hi u,.int 1 v]}).objs.size],_,_,H,rfl,
  j.kept (t':=tk) λb o e=>eI _ e,ag6 _ lo (hi-lo).toNat,?_,λb hb=>?_,q⟩
 ·have U:lo+((0:ay):a5)*1=lo:=by simp
  have N:(((hi-lo).toNat:ay):a5)-((0:ay):a5)=Builtin.Range.rangeSize lo hi 1:=by rw[rangeSize_one];split <;> omega
  show IsRangeIter _ _ (lo+((0:ay):a5)*1) ((((hi-lo).toNat:ay):a5)-((0:ay):a5)) 1;rw[U,N];exact gZ _ rfl
 ·have e:b=(s.heap.push {cls:=.type "range",data:=.fields #[.int lo t,.int hi u,.int 1 v]}).objs.size:=by simpa using hb
  subst e;exact j.xG cX (j.aH.fresh cX)
def awN(ta:TA):TI:=λJ H R=>ta J H λvs H1=>∃j:a5,vs=[.int j]/\-(2 ^ 62)<=j/\j<2 ^ 62/\R (YU 0 j.toNat) H1
theorem aoO{a:bx}{ta:TA}{p pos:dk}(c:Gl X "range")(hm:X.mg "range" = ao)(ha:PA X [a] ta)(b:bg [a] X.env=[(au,b9 a X.env)]:=by rfl):PI X tg (.Call (.Name "range" p) [a] [] pos) (awN ta):=by
 intro aa s J H R I h;refine Call_ (EA I c hm boot_range (YE (bM (ha pos aa s J H _ I h) λg i ⟨f,k,d,N,z⟩=>?_) b rfl));obtain⟨j,e,z,U,q⟩:=z;subst e;cases N with
 |cons r B =>
  cases B;obtain⟨t,rfl⟩:=r;exact call_range_1 (amO d (by omega) (by omega) z U (by simpa using q))
def Sm(B:TI)(g:TG)(tb:TS):TS:=λD J H=>B J H λσ H1=>∃W:ay->ay->St->Hp->Prop,(∃m,W 0 m J H1)/\∀i m J H,W i m J H ->
 (σ.stop i H/\D.nx J H)\/(σ.go i H/\∃N:St->Hp->Prop,(∀j H',N j H'->∃z,z<m/\W (i+1) z j H')/\∀x H',σ.CS i H x H'->g x J H' λq H2=>tb {D with nx:=N,ct:=N,bk:=D.nx} q H2)
noncomputable def MN(fp:ak aw)(h:b8):ak (aw×c5):=fp.filterMap λb=>(h.get? b).map λo=>(b,o)
theorem UG{fp:ak aw}{h:b8}{b:aw}{o:c5}(hb:b∈fp)(e:h.get? b=aj o):(b,o)∈MN fp h:=List.mem_filterMap.mpr ⟨b,hb,by rw[e];rfl⟩
theorem aqW{fp:ak aw}{h:b8}{p:aw×c5}(j:p∈MN fp h):p.1∈fp/\h.get? p.1=aj p.2:=by
 obtain⟨b,hb,e⟩:=List.mem_filterMap.mp j;cases q:h.get? b with
 |none=>rw[q]at e;cases e
 |some o =>
  rw[q]at e;have z:(b,o)=p:=kY e;subst z;exact⟨hb,q⟩
theorem Inv.pinned{aa:ak (aw×c5)}{J:St}{H:Hp}{s:av}{fp:ak aw}(I:Inv X aa J H s)(hf:∀b∈fp,qV X aa H b)(B:∀b∈fp,∃o,s.heap.get? b=aj o/\∀v,o.data≠.cell v):Inv X (aa++MN fp s.heap) J H s :=
 I.Ed λp q=>(lH.mp q).elim (λz=>I.pin p (lO _ z)) λz=>by
  obtain⟨hb,e⟩:=aqW z;obtain⟨f0,f1,f2,_⟩:=hf p.1 hb;obtain⟨o,j,d⟩:=B p.1 hb;rw[e]at j;cases j;exact⟨e,f0,f1,f2,d⟩
theorem Inv.SH{aa pl:ak (aw×c5)}{J:St}{H:Hp}{s:av}(I:Inv X (aa++pl) J H s):Inv X aa J H s:=I.Ed λp j=>I.pin p (lO _ (nX _ j))
theorem an9{iter:bx}{body:ak b7}{L:TI}{g:TG}{tb:TS}{pos:dk}(l:PassesOwn (bq X.prog X.w) X.A X.env X.xe)(R:X.calm=ax)(hi:PI X tg iter L)(hg:PG X tg g)(hb:oW X body tb)
  (hs:∀x,dm iter X.env x=pure x:=by intro _;rfl):PS X (.For tg iter body [] pos) (Sm L g tb):=by
 intro aa s J H D I h;refine wpAny_For (bM (hi aa s J H _ I h) λv s1 h1=>bM h1 λGa s2 h2=>?_) hs;obtain⟨it,t,tn,σ,H2,e,I2,T,iA,f2,W,⟨m0,w0⟩,turn⟩:=h2;subst e;have K:∀{a:Hp},(∀b∈t,a b=ao)->∀b∈t,qV X aa a b:=λhn b hb=>⟨hn b hb,(f2 b hb).2⟩
 refine codeAny_forLoop_any (λn s'=>∃i z a,Inv X aa z a s'/\tn i s'.heap/\(∀b∈t,a b=ao)/\W i n z a) ?_ m0 ⟨0,J,H2,I2,iA,λb hb=>(f2 b hb).1,w0⟩;rintro n P ⟨i,q,y,S,Q,p,w3⟩
 rcases turn i n q y w3 with⟨stop,qn⟩|⟨go,N,hN,step⟩
 ·refine GP l (bM (T.done X rfl rfl rfl R i aa P q y X.xe S (K p) Q stop) λr s4 ⟨hr,I4⟩=>?_);subst hr;exact RU ⟨q,y,I4,qn⟩
 ·refine GP l (bM (T.item X rfl rfl rfl R i aa P q y X.xe S (K p) Q go) λr s4 ⟨u,hr,h4⟩=>?_);subst hr;refine GP l (bM h4 λ_ M zz=>?_);obtain⟨x,V,I5,r5,y5,G,WE⟩:=zz;have F:=I5.pinned (K WE) (T.obj _ _ G);refine GP l (bM (hg _ M q V x u _ F r5 (step x V y5)) λ_ s6 ⟨C,H6,I6,q6⟩=>?_);refine GP l (bM (hb _ s6 C H6 _ I6 q6) λf E c=>?_);have again:∀{j:St} {U:Hp},Inv X (aa++MN t M.heap) j U E->N j U->∃m,m<n/\∃i z a,Inv X aa z a E/\tn i E.heap/\(∀b∈t,a b=ao)/\W i m z a:=λ{j U} B k=>by
   obtain⟨m',hm,w7⟩:=hN j U k;refine⟨m',hm,i+1,j,U,B.SH,T.keep _ _ _ G λb hb o e=>(B.pin (b,o) (lO _ (lO _ (UG hb e)))).1,λb hb=>?_,w7⟩;obtain⟨o,e,d⟩:=T.obj _ _ G b hb;exact(B.pin (b,o) (lO _ (lO _ (UG hb e)))).2.1
  cases f with
  |next=>obtain⟨j,U,B,k⟩:=c;exact again B k
  |cont=>obtain⟨j,U,B,k⟩:=c;exact again B k
  |brk=>obtain⟨j,U,B,c⟩:=c;exact⟨j,U,B.SH,c⟩
  |ret v=>obtain⟨x7,j,U,B,r7,c⟩:=c;exact⟨x7,j,U,B.SH,r7,c⟩
end
abbrev R2:=V->V->Hp->VK->Prop
def jC(X:Cx)(f:aq->aq->Sem aq)(r:R2):Prop :=
 ∀(aa:ak (aw×c5)) (s:av) (J:St) (H:Hp) (x y:V) (v u:aq) (Q:VK),Inv X aa J H s->RelV x v->RelV y u->r x y H Q ->
  wpAny (bq X.prog X.w) X.A (f v u) (EP X aa J Q) X.xe s
def Mc(X:Cx)(f:aq->Sem aq)(r:V->Hp->VK->Prop):Prop :=
 ∀(aa:ak (aw×c5)) (s:av) (J:St) (H:Hp) (x:V) (v:aq) (Q:VK),Inv X aa J H s->RelV x v->r x H Q ->
  wpAny (bq X.prog X.w) X.A (f v) (EP X aa J Q) X.xe s
def rZ(X:Cx)(f:aq)(r:ak V->Hp->VK->Prop):Prop :=
 ∀(aa:ak (aw×c5)) (s:av) (J:St) (H:Hp) (xs:ak V) (us:ak aq) (Q:VK),Inv X aa J H s->Vals xs us->r xs H Q ->
  wpAny (bq X.prog X.w) X.A (call f us) (EP X aa J Q) X.xe s
def LZ(r:R2)(ta tb:TE):TE:=λJ H Q=>ta J H λx H1=>tb J H1 λy H2=>r x y H2 Q
def tUn(r:V->Hp->VK->Prop)(ta:TE):TE:=λJ H Q=>ta J H λx H1=>r x H1 Q
def rI(C:a5->a5->Prop)(g:a5->a5->V):R2:=λx y H Q=>∃i j,x=.int i/\y=.int j/\C i j/\Q (g i j) H
def yI(g:a5->a5->V):R2:=λx y H Q=>∃i j,x=.int i/\y=.int j/\Q (g i j) H
def rU(g:a5->V):V->Hp->VK->Prop:=λx H Q=>∃i,x=.int i/\Q (g i) H
section
variable{X:Cx}{a b c:bx}{ta tb tc:TE}{pos:dk}
theorem Kl(ha:PE X a ta)(hb:PE X b tb){aa:ak (aw×c5)}{s:av}{J:St}{H:Hp}{R:V->V->Hp->Prop}(I:Inv X aa J H s)
  (h:ta J H λx H1=>tb J H1 λy H2=>R x y H2) {Q:aq->av->Prop} {f:aq->aq->Sem aq}
  (U:∀v u s2 x y H2,Inv X aa J H2 s2->RelV x v->RelV y u->R x y H2->wpAny (bq X.prog X.w) X.A (f v u) Q X.xe s2) :
  wpAny (bq X.prog X.w) X.A (b9 a X.env) (λv s₁=>wpAny (bq X.prog X.w) X.A (b9 b X.env) (λu s₂=>wpAny (bq X.prog X.w) X.A (f v u) Q X.xe s₂) X.xe s₁) X.xe s:=by
 refine bM (ha aa s J H _ I h) λv j ⟨x,H1,d,z,N⟩=>?_;refine bM (hb aa j J H1 _ d N) λu s2 ⟨y,H2,c,q,B⟩=>?_;exact U v u s2 x y H2 c z q B
theorem ao1{j:Operator}{r:R2}(N:jC X (c6 j) r)(ha:PE X a ta)(hb:PE X b tb):PE X (.BinOp a j b pos) (LZ r ta tb):=by
 intro aa s J H Q I h;exact wpAny_BinOp (Kl ha hb I h λv u s2 x y c U B z q=>N aa s2 J c x y v u Q U B z q)
theorem aoX{j:UnaryOp}{r:V->Hp->VK->Prop}(N:Mc X (unaryOp j) r)(ha:PE X a ta):PE X (.UnaryOp j a pos) (tUn r ta):=by
 intro aa s J H Q I h;exact UnaryOp_ (bM (ha aa s J H _ I h) λv q ⟨x,b,U,z,B⟩=>N aa q J b x v Q U z B)
theorem UA{f:aq->aq->Sem aq}{C:a5->a5->Prop}{g:a5->a5->a5}
  (rule:∀(i j:a5) (t u:Tok) (s:av) (Q:aq->av->Prop) (E:aq->av->Prop),C i j->Q (.int (g i j) s.toks) {s with toks:=s.toks+1}->wpAny (bq X.prog X.w) X.A (f (.int i t) (.int j u)) Q E s) :
  jC X f (rI C λi j => .int (g i j)):=by
 intro aa s J H x y v u Q I N B h;obtain⟨i,j,rfl,rfl,U,q⟩:=h;obtain⟨t,rfl⟩:=N;obtain⟨z,rfl⟩:=B;exact rule i j t z s _ _ U ⟨.int (g i j),H,I.tok _,⟨_,rfl⟩,q⟩
theorem Wa{f:aq->aq->Sem aq}{g:a5->a5->a5}
  (rule:∀(i j:a5) (t u:Tok) (s:av) (Q:aq->av->Prop) (E:aq->av->Prop),Q (.int (g i j) s.toks) {s with toks:=s.toks+1}->wpAny (bq X.prog X.w) X.A (f (.int i t) (.int j u)) Q E s) :
  jC X f (yI λi j => .int (g i j)):=by
 intro aa s J H x y v u Q I N B h;obtain⟨i,j,rfl,rfl,q⟩:=h;obtain⟨t,rfl⟩:=N;obtain⟨z,rfl⟩:=B;exact rule i j t z s _ _ ⟨.int (g i j),H,I.tok _,⟨_,rfl⟩,q⟩
theorem UB{f:aq->aq->Sem aq}{g:a5->a5->br}
  (rule:∀(i j:a5) (t u:Tok) (s:av) (Q:aq->av->Prop) (E:aq->av->Prop),Q (.bool (g i j)) s->wpAny (bq X.prog X.w) X.A (f (.int i t) (.int j u)) Q E s) :
  jC X f (yI λi j => .bl (g i j)):=by
 intro aa s J H x y v u Q I N B h;obtain⟨i,j,rfl,rfl,q⟩:=h;obtain⟨t,rfl⟩:=N;obtain⟨z,rfl⟩:=B;exact rule i j t z s _ _ ⟨.bl (g i j),H,I,rfl,q⟩
def uL(i j:a5):Prop:=0<j/\j<1073741824
def GJ(i j:a5):Prop:=0<=j/\j<=1000000/\i.natAbs<2 ^ 64
def qY(i j:a5):Prop:=(-(2 ^ 64)<i/\i<2 ^ 64)\/(-(2 ^ 64)<j/\j<2 ^ 64)
theorem qY.ok{i j:a5}(h:qY i j):IntMulOk i j:=by
 rcases h with⟨h1,h2⟩|⟨h1,h2⟩
 ·exact .of_left (intBits_le_64 h1 h2)
 ·exact .of_right (intBits_le_64 h1 h2)
theorem aqI:jC X (c6 .Add) (yI λi j => .int (i+j)):=Wa λ_ _ _ _ _ _ _ q=>add_int q
theorem ap4:jC X (c6 .Sub) (yI λi j => .int (i-j)):=Wa λ_ _ _ _ _ _ _ q=>sub_int q
theorem ap8:jC X (c6 .Mult) (rI qY λi j => .int (i*j)):=UA λ_ _ _ _ _ _ _ z q=>mul_int q z.ok
theorem aqE:jC X (c6 .FloorDiv) (rI uL λi j => .int (i/j)):=UA λi j _ _ _ _ _ z q=>by
 have h1:(0:a5)<j:=z.1;have h2:j<1073741824:=z.2;exact floordiv_int (by omega) (by rw[Int.fdiv_eq_ediv_of_nonneg i (by omega)];exact q) (.inl (PyProof.noPylong_small (by omega)))
theorem ap9:jC X (c6 .Mod) (rI (λ_ j=>0<j) λi j => .int (i%j)):=UA λi j _ _ _ _ _ z q=>by
 have h1:(0:a5)<j:=z;exact mod_int' (by omega) (by rw[Int.fmod_eq_emod_of_nonneg i (by omega)];exact q)
theorem ap5:jC X (c6 .Pow) (rI GJ λi j => .int (i ^ j.toNat)):=UA λ_ _ _ _ _ _ _ z q=>pow_int_small z.1 z.2.1 z.2.2 q
theorem unI{f:aq->Sem aq}{g:a5->a5}
  (rule:∀(i:a5) (t:Tok) (s:av) (Q:aq->av->Prop) (E:aq->av->Prop),Q (.int (g i) s.toks) {s with toks:=s.toks+1}->wpAny (bq X.prog X.w) X.A (f (.int i t)) Q E s) :
  Mc X f (rU λi => .int (g i)):=by
 intro aa s J H x v Q I j h;obtain⟨i,rfl,q⟩:=h;obtain⟨t,rfl⟩:=j;exact rule i t s _ _ ⟨.int (g i),H,I.tok _,⟨_,rfl⟩,q⟩
theorem agX:Mc X (unaryOp .USub) (rU λi => .int (-i)):=unI λ_ _ _ _ _ q=>neg_int q
theorem aqA:jC X (cn .Lt) (yI λi j => .bl (decide (i<j))):=UB λ_ _ _ _ _ _ _ q=>lt_int q
theorem aqB:jC X (cn .LtE) (yI λi j => .bl (decide (i<=j))):=UB λ_ _ _ _ _ _ _ q=>le_int q
theorem aqC:jC X (cn .Gt) (yI λi j => .bl (decide (j<i))):=UB λ_ _ _ _ _ _ _ q=>gt_int q
theorem aqD:jC X (cn .GtE) (yI λi j => .bl (decide (j<=i))):=UB λ_ _ _ _ _ _ _ q=>ge_int q
theorem jC.or{f:aq->aq->Sem aq}{r B:R2}(h:jC X f r)(h':jC X f B):jC X f (λx y H Q=>r x y H Q\/B x y H Q):=by
 intro aa s J H x y v u Q I z j q
 rcases q with q|q
 ·exact h aa s J H x y v u Q I z j q
 ·exact h' aa s J H x y v u Q I z j q
theorem eS(b:bx){j:CmpOp}(h:j≠.In:=by decide)(h2:j≠.NotIn:=by decide):dq j b=au:=by
 have z:(j==CmpOp.In)=au:=by cases j <;> first|rfl|exact bz rfl h
 have q:(j==CmpOp.NotIn)=au:=by cases j <;> first|rfl|exact bz rfl h2
 cases b <;> simp[dq,z,q]
theorem apL{j:CmpOp}{r:R2}(N:jC X (cn j) r)(ha:PE X a ta)(hb:PE X b tb)(hm:dq j b=au):PE X (.Compare a [j] [b] pos) (LZ r ta tb):=by
 intro aa s J H Q I h;exact wpAny_Compare1 (Kl ha hb I h λv u s2 x y c U B z q=>N aa s2 J c x y v u Q U B z q) hm
def Sk(t:TE):TT:=λJ H Q=>t J H λx H'=>∃k,x=.bl k/\Q k H'
theorem anV{j:CmpOp}{r:R2}(i:jC X (cn j) r)(ha:PE X a ta)(hb:PE X b tb)(hm:dq j b=au):PT X (.Compare a [j] [b] pos) (Sk (LZ r ta tb)):=by
 intro aa s J H Q I h;refine wpAny_isTrue_Compare1 (bM (ha aa s J H _ I h) λv q ⟨x,t,n,U,g⟩=>bM (hb aa q J t _ n g) λu s2 ⟨y,p,m,N,f⟩ =>
  bM (i aa s2 J p x y v u _ m U N f) λc w ⟨z,o,l,B,k,e,d⟩=>?_) hm
 subst e;cases B;exact GN ⟨o,l,d⟩
def So(r B:R2)(ta tb tc:TE):TE:=λJ H Q=>ta J H λx H1=>tb J H1 λy H2=>r x y H2 λz j=>∃k,z=.bl k /\
 (if k=ax then tc J j λq N=>B y q N Q else Q (.bl au) j)
theorem apM{j q:CmpOp}{r N:R2}(F:jC X (cn j) r)(E:jC X (cn q) N)(ha:PE X a ta)(hb:PE X b tb)(G:PE X c tc)
  (hm:lastMarks [j,q] [b,c]=au:=by with_unfolding_all rfl):PE X (.Compare a [j,q] [b,c] pos) (So r N ta tb tc):=by
 intro aa s J H Q I h;refine Compare_chain (bM (ha aa s J H _ I h) λv o ⟨x,S,M,w,D⟩=>chain_link (bM (hb aa o J S _ M D) λu s2 ⟨y,R,L,B,C⟩ =>
  bM (F aa s2 J R x y v u _ L w B C) λd n ⟨z,g,f,t,k,e,U⟩=>?_)) hm
 subst e;cases t;refine GN ?_;cases k with
 |false=>exact ite_ff ⟨.bl au,g,f,rfl,U⟩
 |true=>exact ite_tt (chain_last (bM (G aa n J g _ f U) λl m ⟨i,P,K,p,A⟩=>E aa m J P y i u l Q K B p A))
theorem UN:(bc:ay)<2 ^ 63:=by rw[nO];decide
theorem vals1{x:V}{us:ak aq}(r:Vals [x] us):∃u,us=[u]/\RelV x u:=by
 cases r with
 |cons q j=>cases j;exact⟨_,rfl,q⟩
theorem vals2{x y:V}{us:ak aq}(r:Vals [x,y] us):∃u j,us=[u,j]/\RelV x u/\RelV y j:=by
 cases r with
 |cons N B =>
  cases B with
  |cons z q=>cases q;exact⟨_,_,rfl,N,z⟩
theorem aF3(B:X.calm=ax):rZ X (.builtin "max") (λxs H Q=>∃i j,xs=[.int i,.int j]/\Q (.int (if j>i then j else i)) H):=by
 intro aa s J H xs U Q I r h;obtain⟨i,j,rfl,q⟩:=h;obtain⟨u,N,rfl,⟨t,rfl⟩,⟨a,rfl⟩⟩:=vals2 r;refine max_two_ints (I.ok.hd B) λh' tk k=>⟨_,H,I.kept k,?_,q⟩
 by_cases z:j>i
 ·rw[a9 z,a9 z];exact⟨_,rfl⟩
 ·rw[bf z,bf z];exact⟨_,rfl⟩
theorem aF2(B:X.calm=ax):rZ X (.builtin "min") (λxs H Q=>∃i j,xs=[.int i,.int j]/\Q (.int (if j<i then j else i)) H):=by
 intro aa s J H xs U Q I r h;obtain⟨i,j,rfl,q⟩:=h;obtain⟨u,N,rfl,⟨t,rfl⟩,⟨a,rfl⟩⟩:=vals2 r;refine min_two_ints (I.ok.hd B) λh' tk k=>⟨_,H,I.kept k,?_,q⟩
 by_cases z:j<i
 ·rw[a9 z,a9 z];exact⟨_,rfl⟩
 ·rw[bf z,bf z];exact⟨_,rfl⟩
end
structure FN(h:b8)(x dx C:aw)(mA:ba->ar aq):Prop where
 obj:h.get? x=aj (instObj C dx)
 ns:h.Ns1 dx mA
 ne:dx≠x
theorem as5{h:b8}{dx:aw}{mA:ba->ar aq}(n:h.Ns1 dx mA):∃od,h.get? dx=aj od/\∀name,lookIn name od=aj (mA name):=by
 obtain⟨o,es,c,N,hd,U,_,hm⟩:=n;refine⟨o,N,λname=>?_⟩;have e:=hm name;unfold nsFind findBy at e;rw[<-Array.find?_toList]at e;unfold lookIn;rw[hd];dsimp only;split
 ·rename_i y q;rw[q]at e;exact c3 aj e
 ·rename_i q;rw[q]at e;have a:es.toList.any (·.refKey)=au:=by
   rw[List.any_eq_false];intro y B;obtain⟨z,t,j⟩:=U y (Array.mem_toList_iff.mp B);simp[DictEntry.refKey,j]
  have b:¬es.toList.any (·.refKey)=ax:=by rw[a];exact Pk
  rw[bf b];exact c3 aj e
theorem FN.look{h:b8}{x dx C:aw}{mA:ba->ar aq}(I:FN h x dx C mA):∃od,PySem.W.InstAt h x (instObj C dx) C (aj od)/\∀name,lookIn name od=aj (mA name) :=
 let ⟨od,j,hl⟩:=as5 I.ns
 ⟨od,⟨I.obj,rfl,rfl,j⟩,hl⟩
section
variable{prog:bh}{w:bw}{A:bu}{E:aq->av->Prop}{s:av}{K:bj}{x dx C f:aw}{mA:ba->ar aq}{name:ba}{v:aq}
theorem get_map{expr:br}{Q:aq->av->Prop}(X:K.In s.heap)(I:FN s.heap x dx C mA)(q:plainGet K C name=ax)(hh:hasDictIn K C=ax)
  (ha:cg K (.ref C) name=aj ao) (hv:mA name=aj v) (j:PySem.W.handedIn v=ax) (h:Q v {s with toks:=s.toks+1}) :
  wpAny (bq prog w) A (getAttr (.ref x) name expr) Q E s:=by
 obtain⟨z,σ,hl⟩:=I.look;exact PySem.W.get_value X σ (plainGet_of q).1 (PySem.W.findObj_own hh ha rfl (by rw[hl,hv])) j h
theorem aBL{pl:Sem br}{Q:aq×ak aq->av->Prop}(X:K.In s.heap)(I:FN s.heap x dx C mA)(j:plainGet K C name=ax)
  (B:cg K (.ref C) name=aj (aj (.ref f))) (z:isFn K (.ref f)=ax) (hv:mA name=ao) (h:Q (.ref f,[.ref x]) s) :
  wpAny (bq prog w) A (getMethod (.ref x) name pl) Q E s:=by
 obtain⟨q,σ,hl⟩:=I.look;exact PySem.W.method_fn X σ (plainGet_of j).1 (plainGet_of j).2 B (vS.mp z) (by show(lookIn name q).map (·.isSome)=aj au;rw[hl,hv];rfl) h
theorem akT{ns:ak ba}{Q:Unit->av->Prop}(X:K.In s.heap)(I:FN s.heap x dx C mA)
  (d:cg K (.ref C) "__setattr__" = aj (aj (.builtin "object.__setattr__"))) (e:PySem.W.plainOver K C=ax) (c:takerIn K C name=aj ao) (hh:hasDictIn K C=ax)
  (hw:PySem.Within mA ns) (hsz:ns.length<=bc)
  (h:∀h',FN h' x dx C (λy=>if y=name then aj v else mA y)->Heap.SameBut dx s.heap h'->Q () {s with heap:=h',toks:=s.toks+2}) :
  wpAny (bq prog w) A (setAttr (.ref x) name v) Q E s:=by
 obtain⟨l,σ,hl⟩:=I.look;refine PySem.W.set_plain X σ d (PySem.W.osa_open (s:={s with toks:=s.toks+1}) (r:=ao) X σ e c λb=>?_);obtain⟨n,f,k⟩:=PySem.W.any_some hh;have U:s.heap.get? x=aj ⟨.ref C,aj dx,.plain,#[]⟩:=I.obj;refine aL (bG (aL (aL (wpAny_loadPart U (aL (PySem.W.Looks.here (s:={s with toks:=s.toks+1}) (PySem.W.looks_clsIn X f) ?_))))));rw[k];refine bG (a:=aj dx) (aL (bG (aL ?_)));refine wpAny_nsSet1 (s:={s with toks:=s.toks+1}) I.ns λh' N B=>?_;obtain⟨m,g,i,j,q,z⟩:=N.count (PySem.Within.cons name v hw);refine aL (wpAny_lookBehind j (by rw[q];exact pastItsLine_dict (rV z (by rw[fZ];omega))) ?_);exact bG (h _ ⟨(B.2 _ (dQ I.ne)).trans I.obj,N,I.ne⟩ B)
theorem asZ{R:Result->av->Prop}{vs:ak aq}{kw:ak (ba×aq)}(X:K.In s.heap)(hm:makesIn K C=ax)
  (hi:cg K (.ref C) "__init__" = aj (aj (.ref f))) (j:PySem.W.typeIn K (.ref f)=aj (.type "function"))
  (h:codeAny (bq prog w) (A.under (.builtin "type.__call__" ⟨.ref C::vs,kw⟩)) (.call (.ref f) ⟨.ref (s.heap.objs.size+1)::vs,kw⟩) (PySem.W.InitBack (s.heap.objs.size+1) R)
   {s with heap:=(s.heap.push ez).push (instObj C s.heap.objs.size)}) :
  codeAny (bq prog w) A (.call (.ref C) ⟨vs,kw⟩) R s:=by
 obtain⟨hh,g,d,t,os⟩:=s;exact PySem.W.make_core (PySem.W.makes_of X hm) (looks_findIn X hi) (λself=>PySem.W.bind_fn X self j) (.inl rfl) h
end
noncomputable def jO(f:ba)(v:V):ak (ba×V)->ak (ba×V)
 |[]=>[(f,v)]
 |(g,x)::r=>if g=f then(g,v)::r else(g,x)::jO f v r
theorem Xf(f g:ba)(v:V):∀fs:ak (ba×V),(jO f v fs).lookup g=if g=f then aj v else fs.lookup g
 |[]=>by
  show List.lookup g [(f,v)]=_
  by_cases h:g=f
  ·have hb:(g==f)=ax:=vS.mpr h;simp only[List.lookup,hb,a9 h]
  ·have hb:(g==f)=au:=zJ.mpr h;simp only[List.lookup,hb,bf h]
 |(k,x)::r=>by
  have ih:=Xf f g v r;rw[show jO f v ((k,x)::r)=(if k=f then(k,v)::r else(k,x)::jO f v r)from rfl]
  by_cases j:k=f
  ·rw[a9 j]
   by_cases h:g=k
   ·have hb:(g==k)=ax:=vS.mpr h;simp only[List.lookup,hb,a9 (h.trans j)]
   ·have hb:(g==k)=au:=zJ.mpr h;simp only[List.lookup,hb,bf (λe:g=f=>h (e.trans j.symm))]
  ·rw[bf j]
   by_cases h:g=k
   ·have hb:(g==k)=ax:=vS.mpr h;simp only[List.lookup,hb,bf (λe:g=f=>j (h.symm.trans e))]
   ·have hb:(g==k)=au:=zJ.mpr h;simp only[List.lookup,hb];exact ih
theorem Fv(f:ba)(v:V):∀fs:ak (ba×V),f∈(jO f v fs).map (·.1)/\∀g,g∈fs.map (·.1)->g∈(jO f v fs).map (·.1)
 |[]=>⟨by simp[jO],λg h=>by simp at h⟩
 |(k,x)::r=>by
  obtain⟨z,q⟩:=Fv f v r;rw[show jO f v ((k,x)::r)=(if k=f then(k,v)::r else(k,x)::jO f v r)from rfl]
  by_cases j:k=f
  ·rw[a9 j];subst j;exact⟨by simp,λg h=>by simpa using h⟩
  ·rw[bf j];refine⟨?_,λg h=>?_⟩
   ·rw[bU];exact fY _ z
   ·rw[bU]at h ⊢
    rcases dU.mp h with e|e
    ·exact dU.mpr (.inl e)
    ·exact fY _ (q g e)
theorem Xo(f:ba)(v:V):∀fs:ak (ba×V),(jO f v fs).length<=fs.length+1
 |[]=>by simp[jO]
 |(k,x)::r=>by
  have ih:=Xo f v r;rw[show jO f v ((k,x)::r)=(if k=f then(k,v)::r else(k,x)::jO f v r)from rfl]
  by_cases j:k=f
  ·rw[a9 j,fZ,fZ];omega
  ·rw[bf j,fZ,fZ];omega
theorem nH.some_of{v:V}{o:ar aq}(r:nH (aj v) o):∃u,o=aj u/\RelV v u:=by
 cases o with
 |none=>exact(show cp from r).elim
 |some u=>exact⟨u,rfl,r⟩
theorem nH.none_of{o:ar aq}(r:nH ao o):o=ao:=by
 cases o with
 |none=>rfl
 |some u=>exact(show cp from r).elim
theorem aaO{v:V}{u:aq}(r:RelV v u):PySem.W.handedIn u=ax:=by
 cases v with
 |cE=>cases(show u=Value.none from r);rfl
 |bl b=>cases(show u=Value.bool b from r);rfl
 |int i=>obtain⟨t,e⟩:=(show ∃t,u=Value.int i t from r);cases e;rfl
 |str x=>obtain⟨t,e⟩:=(show ∃t,u=Value.str x t from r);cases e;rfl
 |XA b=>obtain⟨t,e⟩:=(show ∃t,u=Value.bytes b t from r);cases e;rfl
 |ES b=>obtain⟨t,e⟩:=(show ∃t,u=Value.float b t from r);cases e;rfl
 |ref a=>cases(show u=Value.ref a from r);rfl
 |ty n=>cases(show u=Value.type n from r);rfl
section
variable{P:bh}{w:bw}{H H':Hp}{h h':b8}{a C dx:aw}{fs jH:ak (ba×V)}
theorem UW(aH:fH P w H h)(e:H a=aj (.ins C dx fs)):∃mA,FN h a dx C mA/\(∀f,nH (fs.lookup f) (mA f))/\PySem.Within mA (fs.map (·.1))/\fs.length<=1000/\H dx=aj (.own a):=by
 obtain⟨d,z,ne,ob,mA,n,r,q⟩:=(show iG P w H h a (.ins C dx fs)from aH a _ e);exact⟨mA,⟨ob,n,ne⟩,r,q,z,d⟩
end
structure nI(K:bj)(C:aw):Prop where
 pg:plainGet K C Str.empty=ax
 hd:hasDictIn K C=ax
 po:PySem.W.plainOver K C=ax
 sa:cg K (.ref C) "__setattr__" = aj (aj (.builtin "object.__setattr__"))
theorem nI.get{K:bj}{C:aw}(c:nI K C)(f:ba):plainGet K C f=ax:=c.pg
def FP(K:bj)(C:aw)(f:ba):Prop:=cg K (.ref C) f=aj ao
theorem FP.ahV{K:bj}{C:aw}{f:ba}(n:FP K C f):takerIn K C f=aj ao:=by
 unfold takerIn;rw[show cg K (.ref C) f=aj ao from n];rfl
structure Meth(K:bj)(C:aw)(m:ba)(f:aw):Prop where
 at_:cg K (.ref C) m=aj (aj (.ref f))
 fn:isFn K (.ref f)=ax
 kp:keepIn K (.ref f)=ax
section
variable{X:Cx}{aa:ak (aw×c5)}{J:St}{H:Hp}{s:av}{a C dx:aw}{fs:ak (ba×V)}{f:ba}{v:V}{A:bu}{E:aq->av->Prop}
theorem aBJ{b:br}{Q:aq->av->Prop}(I:Inv X aa J H s)(e:H a=aj (.ins C dx fs))(c:nI X.K C)(n:FP X.K C f)(l:fs.lookup f=aj v)
  (h:∀u s',Inv X aa J H s'->RelV v u->Q u s'):wpAny (bq X.prog X.w) A (getAttr (.ref a) f b) Q E s:=by
 obtain⟨q,ι,r,_,_,_⟩:=UW I.aH e;obtain⟨u,z,j⟩:=nH.some_of (v:=v) (o:=q f) (by rw[<-l];exact r f);exact get_map I.fF ι (c.get f) c.hd n z (aaO j) (h u _ (I.tok _) j)
theorem aa4{m:ba}{g:aw}{pl:Sem br}{Q:aq×ak aq->av->Prop}(I:Inv X aa J H s)(e:H a=aj (.ins C dx fs))(c:nI X.K C)(k:Meth X.K C m g)(l:fs.lookup m=ao)
  (h:Q (.ref g,[.ref a]) s):wpAny (bq X.prog X.w) A (getMethod (.ref a) m pl) Q E s:=by
 obtain⟨j,ι,r,_,_,_⟩:=UW I.aH e;have hn:j m=ao:=nH.none_of (by rw[<-l];exact r m);exact aBL I.fF ι (c.get m) k.at_ k.fn hn h
theorem akR{y:V}{u:aq}{Q:Unit->av->Prop}(I:Inv X aa J H s)(e:H a=aj (.ins C dx fs))(c:nI X.K C)(n:FP X.K C f)(hl:fs.length<1000)(d:RelV y u)
  (h:∀s',Inv X aa J (upd H a (.ins C dx (jO f y fs))) s'->Q () s'):wpAny (bq X.prog X.w) A (setAttr (.ref a) f u) Q E s:=by
 obtain⟨N,ι,r,B,_,U⟩:=UW I.aH e;have i:(fs.map (·.1)).length<=bc:=by rw[lI,nO];omega
 refine akT I.fF ι c.sa c.po n.ahV c.hd B i λh' j sb=>h _ ?_;have hd:∃o,h'.get? dx=aj o:=let ⟨o,_,_,l,_⟩:=j.ns; ⟨o,l⟩;refine I.write (x:=a) (e:=dx) (by rw[e];exact True.intro) (.inr U) (λb q hb z=>(sb.2 b hb).trans z) hd ?_;refine⟨by rw[bE ι.ne];exact U,?_,ι.ne,j.obj,_,j.ns,λg=>?_,λg k=>?_⟩
 ·have:=Xo f y fs;omega
 ·show nH ((jO f y fs).lookup g) (if g=f then aj u else N g);rw[Xf]
  by_cases q:g=f
  ·rw[a9 q,a9 q];exact d
  ·rw[bf q,bf q];exact r g
 ·by_cases q:g=f
  ·rw[q];exact(Fv f y fs).1
  ·refine(Fv f y fs).2 g (B g λz=>k ?_);show(if g=f then aj u else N g)=ao;rw[bf q];exact z
theorem Inv.made(I:Inv X aa J H s):Inv X aa J (upd (upd H s.heap.objs.size (.own (s.heap.objs.size+1))) (s.heap.objs.size+1) (.ins C s.heap.objs.size []))
  {s with heap:=(s.heap.push ez).push (instObj C s.heap.objs.size)}:=by
 have j:(s.heap.push ez).get? s.heap.objs.size=aj ez:=gZ s.heap rfl;have N:((s.heap.push ez).push (instObj C s.heap.objs.size)).get? (s.heap.objs.size+1)=aj (instObj C s.heap.objs.size):=by
  have:=gZ (s.heap.push ez) (o:=instObj C s.heap.objs.size) rfl;rwa[KP]at this
 have B:(s.heap.push ez).Ns s.heap.objs.size (λ_=>ao):=⟨ez,#[],_,j,rfl,(λe he=>bz he (by simp)),λ_=>rfl⟩;have U:=I.laid (a:=s.heap.objs.size) (o:=.own (s.heap.objs.size+1)) (h':=s.heap.push ez) (t':=s.toks) (λb u q=>eI _ q) cX ⟨_,j⟩;refine U.laid (a:=s.heap.objs.size+1) (o:=.ins C s.heap.objs.size []) (t':=s.toks) (λb u q=>eI _ q) (Nat.le_of_eq (KP _ _)) ?_;have ne:s.heap.objs.size≠s.heap.objs.size+1:=fS (YH _);refine⟨by rw[bE ne,eL],CG _,ne,N,λ_=>ao,(Heap.Ns1.of_empty B).at λo q=>eI _ q,λ_=>True.intro,λy z=>bz rfl z⟩
theorem aHH{prog:bh}{w:bw}{env:Env}{e:bx}{f:ba}{pos:dk}{s:av}{Q:aq->av->Prop}(hb:ck e f env (b9 e env)=b9 e env)
  (h:wpAny (bq prog w) A (b9 e env) (λo s₁=>wpAny (bq prog w) A (getAttr o f ax) Q E s₁) E s):wpAny (bq prog w) A (b9 (.Attribute e f pos) env) Q E s :=
 Attribute_any_ h (by rw[arm_eval_Attribute,hb])
end
def MB(K:bj)(ta:TE)(f:ba):TE:=λJ H Q=>ta J H λx H1=>∃a C dx fs v,x=.ref a/\H1 a=aj (.ins C dx fs)/\nI K C/\FP K C f/\fs.lookup f=aj v/\Q v H1
def amA(K:bj)(ta tv:TE)(f:ba):TS:=λD J H=>tv J H λy H1=>ta J H1 λx H2=>∃a C dx fs,x=.ref a/\H2 a=aj (.ins C dx fs)/\nI K C/\FP K C f/\fs.length<1000 /\
 D.nx J (upd H2 a (.ins C dx (jO f y fs)))
section
variable{X:Cx}{o e value:bx}{f:ba}{pos pos' ahE:dk}{ta tv:TE}
theorem MO(he:PE X e ta)(hb:ck e f X.env (b9 e X.env)=b9 e X.env):PE X (.Attribute e f pos) (MB X.K ta f):=by
 intro aa s J H Q I h;refine aHH hb (bM (he aa s J H _ I h) λu g zz=>?_);obtain⟨x,b,U,j,a,C,i,fs,v,ex,B,c,n,l,q⟩:=zz;subst ex;obtain rfl:u=Value.ref a:=j;exact aBJ U B c n l λd s2 N z=>⟨v,b,N,z,q⟩
theorem aoA(ha:PE X o ta)(hv:PE X value tv)(b:ew value (aj (.Attribute o f pos')) pos.line X.env=pure au):PS X (.Assign [.Attribute o f pos'] value pos) (amA X.K ta tv f):=by
 intro aa s J H D I h;refine plainObj_wpAny_Assign_Attribute (bM (hv aa s J H _ I h) λu j ⟨y,k,i,z,q⟩=>bM (ha aa j J k _ i q) λU s2 zz=>?_) b;obtain⟨x,r,g,B,a,C,p,fs,ex,d,c,n,l,N⟩:=zz;subst ex;obtain rfl:U=Value.ref a:=B;exact akR g d c n l z λm e=>⟨J,_,e,N⟩
end
section
variable{X:Cx}{aa:ak (aw×c5)}{J:St}{H:Hp}{s:av}{A:bu}{E:aq->av->Prop}{Q:aq->av->Prop}{c:aq}{b:br}
inductive rQ(K:bj)(H:Hp):V->aq->Prop where
 | cE:rQ K H .cE (.type "NoneType")
 | bl (x:br):rQ K H (.bl x) (.type "bool")
 | int (i:a5):rQ K H (.int i) (.type "int")
 | str (x:ba):rQ K H (.str x) (.type "str")
 | ES (x:UInt64):rQ K H (.ES x) (.type "float")
 | lst {a:aw} {xs:ak V} (e:H a=aj (.lst xs)):rQ K H (.ref a) (.type "list")
 | eR {a:aw} {o:c5} {xs:ak V} (e:H a=aj (.eR o (.lst xs))):rQ K H (.ref a) (.type "list")
 | tup {a:aw} {xs:ak V} (e:H a=aj (.tup xs)):rQ K H (.ref a) (.type "tuple")
 | dK {a:aw} {kvs:ak (Key×V)} (e:H a=aj (.dK kvs)):rQ K H (.ref a) (.type "dict")
 | dT {a:aw} {kvs:ak (ak Key×V)} (e:H a=aj (.dT kvs)):rQ K H (.ref a) (.type "dict")
 | ins {a C dx:aw} {fs:ak (ba×V)} (e:H a=aj (.ins C dx fs)) (cl:nI K C) (ha:cg K (.ref C) "__class__" = aj (aj (.builtin "object.__class__")))
   (hn:specialIn K (.builtin "object.__class__") "__get__" = aj (aj (.builtin "getset_descriptor.__get__"))) (Ys:takesIn K (.builtin "object.__class__")=aj ax)
   (hm:mroIn K C (.type "object")=aj ax):rQ K H (.ref a) (.ref C)
theorem av6{x:V}{u t:aq}(I:Inv X aa J H s)(j:RelV x u)(ty:rQ X.K H x t)(e:et X.K t c=aj b)(h:∀tk,Q (.bool b) {s with toks:=tk}) :
  wpAny (bq X.prog X.w) A (call (.builtin "isinstance") [u,c]) Q E s:=by
 cases ty with
 |cE=>cases(show u=Value.none from j);exact d9 PySem.W.kitx_none I.fF True.intro e (λz=>nomatch z) h
 |bl y=>cases(show u=Value.bool y from j);exact d9 PySem.W.kitx_bool I.fF True.intro e (λz=>nomatch z) h
 |int i=>obtain⟨t,q⟩:=(show ∃t,u=Value.int i t from j);cases q;exact d9 PySem.W.kitx_int I.fF True.intro e (λz=>nomatch z) h
 |str y=>obtain⟨t,q⟩:=(show ∃t,u=Value.str y t from j);cases q;exact d9 PySem.W.kitx_str I.fF True.intro e (λz=>nomatch z) h
 |ES y=>obtain⟨t,q⟩:=(show ∃t,u=Value.float y t from j);cases q;exact d9 PySem.W.kitx_float I.fF True.intro e (λz=>nomatch z) h
 | @lst a U B =>
  cases(show u=Value.ref a from j);obtain⟨_,_,n,_,h1⟩:=(show iG X.prog X.w H s.heap a (.lst U)from I.aH a _ B);exact d9 PySem.W.kitx_list I.fF ⟨_,h1,rfl⟩ e (λz=>nomatch z) h
 | @eR a ob U B =>
  cases(show u=Value.ref a from j);obtain⟨_,_,_,n,_,h1⟩:=(show iG X.prog X.w H s.heap a (.eR ob (.lst U))from I.aH a _ B);exact d9 PySem.W.kitx_list I.fF ⟨_,h1,rfl⟩ e (λz=>nomatch z) h
 | @tup a U B =>
  cases(show u=Value.ref a from j);obtain⟨_,_,_,p⟩:=(show iG X.prog X.w H s.heap a (.tup U)from I.aH a _ B);obtain⟨o,h1,h2,_⟩:=p;exact d9 PySem.W.kitx_tuple I.fF ⟨o,h1,h2⟩ e (λz=>nomatch z) h
 | @dK a N B =>
  cases(show u=Value.ref a from j);obtain⟨_,_,g,_,p⟩:=(show iG X.prog X.w H s.heap a (.dK N)from I.aH a _ B);obtain⟨o,es,d,h1,h2,_⟩:=p;exact d9 PySem.W.kitx_dict I.fF ⟨o,h1,h2.1⟩ e (λz=>nomatch z) h
 | @dT a N B =>
  cases(show u=Value.ref a from j);obtain⟨_,_,U,_,o,es,d,h1,h2,_⟩:=(show iG X.prog X.w H s.heap a (.dT N)from I.aH a _ B);exact d9 PySem.W.kitx_dict I.fF ⟨o,h1,h2.1⟩ e (λz=>nomatch z) h
 | @ins a C m fs B cl ha hn f hm =>
  cases(show u=Value.ref a from j);obtain⟨l,ι,_⟩:=UW I.aH B;obtain⟨k,σ,_⟩:=ι.look;exact d9 (PySem.W.kitx_own (cl.get _) cl.hd ha hn f hm) I.fF σ e (λz=>nomatch z) h
end
structure cL(k:ay)(A:bu):Prop where
 hd:A.handled=ao
 dp:A.depth+3*k+5<recursionLimit
 un:A.units+16*k+200<e4
theorem cL.mono{j k:ay}{A:bu}(r:cL k A)(h:j<=k):cL j A:=⟨r.hd,by have:=r.dp;omega,by have:=r.un;omega⟩
theorem cL.deeper{k:ay}{A:bu}(r:cL (k+1) A)(env:Env):cL k (A.deeper env) :=
 ⟨r.hd,by have:=r.dp;show A.depth+1+3*k+5<_;omega,by have:=r.un;show A.units+3+16*k+200<_;omega⟩
theorem as0{A:bu}{C:aw}{us:ak aq}{kw:ak (ba×aq)}:(A.under (.builtin "type.__call__" ⟨.ref C::us,kw⟩)).depth=A.depth+1:=by
 first|rfl|simp[Around.under,Code.weight,Code.isCreation,Code.isGuard,Code.isCaller,Code.frames,Code.isFrame,guardIds]
theorem asY{A:bu}{C:aw}{us:ak aq}{kw:ak (ba×aq)}:(A.under (.builtin "type.__call__" ⟨.ref C::us,kw⟩)).units=A.units+1:=by
 first|rfl|simp[Around.under,Code.cUnits,Code.frames,Code.isFrame]
theorem cL.make{k:ay}{A:bu}(r:cL (k+1) A)(C:aw)(us:ak aq)(kw:ak (ba×aq)):cL k (A.under (.builtin "type.__call__" ⟨.ref C::us,kw⟩)) :=
 ⟨r.hd,by have:=r.dp;rw[as0];omega,by have:=r.un;rw[asY];omega⟩
theorem cL.depth{k:ay}{A:bu}(r:cL k A):A.depth<recursionLimit:=by have:=r.dp;omega
theorem cL.units{k:ay}{A:bu}(r:cL k A):A.units+64<e4:=by have:=r.un;omega
def MA:TA:=λ_ H Q=>Q [] H
def MC(ta:TE)(j:TA):TA:=λJ H Q=>ta J H λx H1=>j J H1 λxs H2=>Q (x::xs) H2
section
variable{X:Cx}{e:bx}{es:ak bx}{te:TE}{t:TA}{pos:dk}
theorem HR:PA X [] MA:=λ_ _ _ _ H Q I h=>RO ⟨[],H,I,.nil,h⟩
theorem DJ(ha:PE X e te)(hr:PA X es t)(a:bg (e::es) X.env=(au,b9 e X.env)::bg es X.env:=by rfl):PA X (e::es) (MC te t):=by
 intro pos aa s J H Q I h;rw[a];show wpAny _ _ (spliced ((au,b9 e X.env)::cx pos (bg es X.env))) _ _ s;refine LG (bM (ha aa s J H _ I h) λu q ⟨x,f,c,B,U⟩=>?_);exact bM (hr pos aa q J f _ c U) λg s2 ⟨j,d,b,z,N⟩=>⟨x::j,d,b,.cons B z,N⟩
def ah1(t:TA):TE:=λJ H Q=>t J H λxs H1=>xs.length<=bc/\∀p,H1 p=ao->Q (.ref p) (upd H1 p (.tup xs))
def aiB(t:TA):TE:=λJ H Q=>t J H λxs H1=>xs.length<=bc/\∀p,H1 p=ao->Q (.ref p) (upd H1 p (.lst xs))
theorem aoY{a}(h:PA X es t):PE X (.Tuple es a pos) (ah1 t):=by
 intro aa s J H Q I d;refine wpAny_Tuple_spliced (bM (h pos aa s J H _ I d) λc j ⟨U,N,B,r,z,q⟩=>⟨by rw[<-r.length];exact z,?_⟩);have f:N j.heap.objs.size=ao:=B.aH.fresh cX;refine⟨.ref j.heap.objs.size,upd N j.heap.objs.size (.tup U),B.laid (t':=j.toks) (λb u e=>eI _ e) cX ?_,rfl,q _ f⟩;exact⟨z,c,r,⟨_,gZ _ rfl,rfl,_,rfl⟩⟩
theorem ao7(h:PA X es t):PE X (.List es pos) (aiB t):=by
 intro aa s J H Q I c;refine wpAny_List_spliced (bM (h pos aa s J H _ I c) λa j ⟨U,N,B,r,z,q⟩=>⟨by rw[<-r.length];exact z,?_⟩);have d:N j.heap.objs.size=ao:=B.aH.fresh cX;refine⟨.ref j.heap.objs.size,upd N j.heap.objs.size (.lst U),B.laid (t':=j.toks) (λb u e=>eI _ e) cX ?_,rfl,q _ d⟩;exact⟨z,a,0,r,gZ _ rfl⟩
end
abbrev Sp:=ak V->Hp->VK->XK->Prop
abbrev pB:=ak Env->Hp->av->XK->aq->av->Prop
structure zX(P:bh)(w:bw)(K:bj)(mg:ba->ar aq)(base:b8)(A:bu)(outer:ak Env)(s:av)(H:Hp):Prop where
 frames:A.frames=aj outer
 mod:Mod K mg base
 bs:∀b o,base.get? b=aj o->s.heap.get? b=aj o/\H b=ao
 rK:base.objs.size<=s.heap.objs.size
 oU:s.heap.FunFrames base outer
 uB:∀b∈jA outer,H b=ao
 aH:fH P w H s.heap
 bare:AllBare s.gens
def CE(outer:ak Env)(P:bh)(w:bw)(H:Hp)(s:av)(Q:VK)(u:aq)(s':av):Prop :=
 ∃v H',s'.os=s.os/\AllBare s'.gens/\Un (jA outer) [] H H' s.heap s'.heap/\fH P w H' s'.heap/\RelV v u/\Q v H'
def CR(CX:pB)(outer:ak Env)(P:bh)(w:bw)(H:Hp)(s:av)(Q:VK)(E:XK)(r:Result)(s':av):Prop :=
 match r with
 |.ok (.ret u)=>CE outer P w H s Q u s'
 |.ok _=>cp
 |.error e=>CX outer H s E e s'
structure jX(P:bh)(w:bw)(K:bj)(mg:ba->ar aq)(base:b8)(CX:pB)(k:ay)(f:aw)(fd:c4)(ps:ak ba)(sp:Sp):Prop where
 len:∀vs H Q E,sp vs H Q E->vs.length=ps.length
 run:∀(A:bu) (outer:ak Env) (s:av) (H:Hp) (args:Args) (us:ak aq) (vs:ak V) (Q:VK) (E:XK),cL k A->zX P w K mg base A outer s H->BindsTo s fd args (ps.zip us)->Vals vs us->sp vs H Q E ->
  codeAny (bq P w) A (.call (.ref f) args) (CR CX outer P w H s Q E) s
theorem jX.imp{P:bh}{w:bw}{K:bj}{mg:ba->ar aq}{base:b8}{CX:pB}{k:ay}{f:aw}{fd:c4}{ps:ak ba}{sp j:Sp}(F:jX P w K mg base CX k f fd ps sp)
  (h:∀vs H Q E,j vs H Q E->sp vs H Q E):jX P w K mg base CX k f fd ps j :=
 ⟨λvs H Q E q=>F.len vs H Q E (h _ _ _ _ q),λA outer s H args us vs Q E hr he hb hv z=>F.run A outer s H args us vs Q E hr he hb hv (h _ _ _ _ z)⟩
theorem zX.make{P:bh}{w:bw}{K:bj}{mg:ba->ar aq}{base:b8}{A:bu}{outer:ak Env}{s:av}{H:Hp}(e:zX P w K mg base A outer s H)(C:aw)(us:ak aq)(kw:ak (ba×aq)) :
  zX P w K mg base (A.under (.builtin "type.__call__" ⟨.ref C::us,kw⟩)) outer s H:=⟨by first|exact e.frames|(simpa[Around.under,Code.envs,Code.isFrame,pushEnvs]using e.frames),e.mod,e.bs,e.rK,e.oU,e.uB,e.aH,e.bare⟩
section
variable{X:Cx}{aa:ak (aw×c5)}{J:St}{H:Hp}{s s':av}
theorem Inv.IX(I:Inv X aa J H s):zX X.prog X.w X.K X.mg X.base X.A X.stack s H :=
 ⟨I.ok.frames,I.ok.mod,I.bs,rV I.ok.rK I.sz,I.stack,I.Bo,I.aH,I.bare⟩
theorem Inv.after{Q:VK}{u:aq}(I:Inv X aa J H s)(h:CE X.stack X.prog X.w H s Q u s'):EP X aa J Q u s':=by
 obtain⟨v,j,os,bare,un,aH,r,q⟩:=h;obtain⟨hh,g,d,t,Ej⟩:=s';obtain rfl:Ej=s.os:=os;exact⟨v,j,I.call (h':=hh) (g':=g) (d':=d) (t':=t) (ch:=[]) un aH bare (λb z=>bz z (by simp)),r,q⟩
end
def aiA(C:aw)(sp:Sp)(dvs:ak V)(E:XK)(t:TA):TE:=λJ H Q=>t J H λvs H1=>∀x dx,H1 x=ao->H1 dx=ao->dx≠x ->
 sp (.ref x::(vs++dvs)) (upd (upd H1 dx (.own x)) x (.ins C dx [])) (λv H2=>v=.cE/\Q (.ref x) H2) E
def Binds(K:bj)(fd:c4)(ps:ak ba)(ds:ak aq):Prop :=
 ∀(s:av) (us:ak aq),K.In s.heap->(us++ds).length=ps.length->BindsTo s fd ⟨us,[]⟩ (ps.zip (us++ds))
theorem Binds.all{K:bj}{fd:c4}{ps:ak ba}(h:∀us:ak aq,us.length=ps.length->c7 fd ⟨us,[]⟩=pure (ps.zip us)):Binds K fd ps []:=λs us _ hl=>by
 rw[pU]at hl ⊢;exact .of_eq (h us hl)
def Passes(CX:pB)(X:Cx)(E:XK):Prop:=∀(aa:ak (aw×c5)) (J:St) (H:Hp) (s:av) (e:aq) (s':av),Inv X aa J H s->CX X.stack H s E e s'->X.xe e s'
section
variable{X:Cx}{CX:pB}{k:ay}{f C:aw}{fd:c4}{ps:ak ba}{sp:Sp}{dvs:ak V}{ds:ak aq}{E:XK}{x m:ba}{p pos af:dk}{e o:bx}{es:ak bx}{ta:TE}{t:TA}
structure Mk(K:bj)(C f:aw):Prop where
 makes:makesIn K C=ax
 init:cg K (.ref C) "__init__" = aj (aj (.ref f))
 fn:isFn K (.ref f)=ax
 kp:keepIn K (.ref C)=ax
theorem amJ{aa:ak (aw×c5)}{J:St}{H:Hp}{s:av}{Q:VK}{us:ak aq}{vs:ak V}(M:Mk X.K C f)(F:jX X.prog X.w X.K X.mg X.base CX k f fd ps sp)(hr:cL (k+1) X.A)(hb:Binds X.K fd ps ds)(hd:Vals dvs ds)
  (a:Passes CX X E) (I:Inv X aa J H s) (r:Vals vs us)
  (h:∀x dx,H x=ao->H dx=ao->dx≠x->sp (.ref x::(vs++dvs)) (upd (upd H dx (.own x)) x (.ins C dx [])) (λv H2=>v=.cE/\Q (.ref x) H2) E) :
  wpAny (bq X.prog X.w) X.A (call (.ref C) us) (EP X aa J Q) X.xe s:=by
 have B:=h (s.heap.objs.size+1) s.heap.objs.size (I.aH.fresh (JU _)) (I.aH.fresh cX) (fS (YH _));have q:=Inv.made (C:=C) I;have z:Vals (V.ref (s.heap.objs.size+1)::(vs++dvs)) (Value.ref (s.heap.objs.size+1)::(us++ds)):=.cons rfl (r.append hd);have hl:(Value.ref (s.heap.objs.size+1)::us++ds).length=ps.length:=by
  have e:=z.length;rw[F.len _ _ _ _ B]at e;exact e.symm
 refine GR (asZ (f:=f) I.fF M.makes M.init (vS.mp M.fn) (uF (F.run _ X.stack _ _ ⟨Value.ref (s.heap.objs.size+1)::us,[]⟩ (Value.ref (s.heap.objs.size+1)::(us++ds)) _ _ E (hr.make C us [])
  (q.IX.make C us []) (hb _ (Value.ref (s.heap.objs.size+1)::us) q.fF hl) z B) λr s' j=>?_))
 cases r with
 |error e=>exact a aa J _ _ e s' q j
 |ok fl =>
  cases fl with
  |ret u =>
   obtain⟨v,d,c,N,b,U⟩:=q.after j;subst b;exact⟨N,⟨V.ref (s.heap.objs.size+1),d,c,rfl,U⟩⟩
  |next=>exact False.elim j
  |brk=>exact False.elim j
  |cont=>exact False.elim j
theorem ao6(M:Mk X.K C f)(F:jX X.prog X.w X.K X.mg X.base CX k f fd ps sp)(hr:cL (k+1) X.A)(B:Gl X x)(hm:X.mg x=aj (.ref C))(hb:Binds X.K fd ps ds)(hd:Vals dvs ds)(z:Passes CX X E)
  (ha:PA X (e::es) t) (N:(x==("__debug__" : ba))=au:=by decide) (he:bg (e::es) X.env=(au,b9 e X.env)::bg es X.env:=by rfl) (U:(cx pos (bg es X.env)).any (·.1)=au:=by rfl) :
  PE X (.Call (.Name x p) (e::es) [] pos) (aiA C sp dvs E t):=by
 intro aa s J H Q I h;refine yB (AW I B hm ?_ N);refine callWith_K (h₀:=X.base) I.ok.mod.sO M.kp (bM (ha pos aa s J H _ I h) λb c ⟨a,d,j,r,q⟩=>⟨j.fF,?_⟩) he U;exact amJ M F hr hb hd z j r q
end
structure cY(N P:ak ba)(sc:cq):Prop where
 kind:sc.kind=.function
 co:sc.isCoroutine=au
 gen:sc.isGenerator=au
 nd:N.Nodup
 pre:N.take P.length=P
 par:∀x∈P,sc.names.lookup x=aj .local\/sc.names.lookup x=aj .cell
 arP:∀y∈sc.names,y.2≠.free
theorem acI{kindOf:ba->ar du}{x:ba}:∀{binds:ak (ba×aq)} {m:ba->ar aq},(∀v,(x,v)∉binds)->bindL kindOf binds m x=m x
 |[],_,_=>rfl
 |(n,v)::r,m,h=>by
  unfold bindL;rw[acI λw hw=>h w (fY _ hw)];split
  ·have:x≠n:=by rintro rfl;exact h v List.mem_cons_self
   simp[this]
  ·rfl
theorem acK{kindOf:ba->ar du}{x:ba}:∀{binds:ak (ba×aq)} {m:ba->ar aq},(∀v,(x,v)∉binds)->bindC kindOf binds m x=m x
 |[],_,_=>rfl
 |(n,v)::r,m,h=>by
  unfold bindC;rw[acK λw hw=>h w (fY _ hw)];split
  ·rfl
  ·have:x≠n:=by rintro rfl;exact h v List.mem_cons_self
   simp[this]
theorem acJ{kindOf:ba->ar du}{x:ba}{v:aq}:∀{P:ak ba} {vs:ak aq} {i:ay} {m:ba->ar aq},P.Nodup->P[i]?=aj x->vs[i]?=aj v->kindOf x=aj .local ->
  bindL kindOf (P.zip vs) m x=aj v
 |[],_,_,_,_,h,_,_=>by simp at h
 |_::_,[],_,_,_,_,h,_=>by simp at h
 |p::P,w::vs,0,m,nd,h1,h2,j=>by
  simp at h1 h2;subst h1;subst h2;show bindL kindOf ((p,w)::P.zip vs) m p=_;unfold bindL;rw[acI λv hv=>(tF.mp nd).1 (YR hv).1,a9 j];simp
 |p::P,w::vs,i+1,m,nd,h1,h2,j=>by
  show bindL kindOf ((p,w)::P.zip vs) m x=_;unfold bindL;exact acJ (i:=i) (tF.mp nd).2 (by simpa using h1) (by simpa using h2) j
theorem acL{kindOf:ba->ar du}{x:ba}{v:aq}:∀{P:ak ba} {vs:ak aq} {i:ay} {m:ba->ar aq},P.Nodup->P[i]?=aj x->vs[i]?=aj v->kindOf x≠aj .local ->
  bindC kindOf (P.zip vs) m x=aj v
 |[],_,_,_,_,h,_,_=>by simp at h
 |_::_,[],_,_,_,_,h,_=>by simp at h
 |p::P,w::vs,0,m,nd,h1,h2,j=>by
  simp at h1 h2;subst h1;subst h2;show bindC kindOf ((p,w)::P.zip vs) m p=_;unfold bindC;rw[acK λv hv=>(tF.mp nd).1 (YR hv).1,bf j];simp
 |p::P,w::vs,i+1,m,nd,h1,h2,j=>by
  show bindC kindOf ((p,w)::P.zip vs) m x=_;unfold bindC;exact acL (i:=i) (tF.mp nd).2 (by simpa using h1) (by simpa using h2) j
noncomputable def start(N:ak ba)(vs:ak V):St:=vs.map aj++List.replicate (N.length-vs.length) ao
noncomputable def mL(CX:pB)(P:bh)(w:bw)(K:bj)(mg:ba->ar aq)(base:b8)(N:ak ba)(qual:ba)(scope:cq)(f:aw)(j:aq)(A:bu)(outer:ak Env)(s:av)(H:Hp)(E:XK):Cx where
 prog:=P
 w:=w
 K:=K
 mg:=mg
 base:=base
 A:=A.deeper (cy qual scope s.heap.objs.size f j)
 N:=N
 s₀:=s
 H₀:=H
 env:=cy qual scope s.heap.objs.size f j
 outer:=outer
 stack:=cy qual scope s.heap.objs.size f j::outer
 ex:=[]
 calm:=ax
 fn:=λ_=>ax
 pn:=[]
 xe:=λe s'=>wpAny (bq P w) (A.deeper (cy qual scope s.heap.objs.size f j)) (leaving (cy qual scope s.heap.objs.size f j) e) (λ_ q=>CX outer H s E e q) (λz q=>CX outer H s E z q) s'
theorem acB{sc:cq}{n:ay}{x:ba}(h:sc.names.lookup x=aj .cell):∃c,(cellsFrom n sc.names []).lookup x=aj c:=by
 have q:=cellsFrom_some sc.names n [] (.inl h);exact Option.isSome_iff_exists.mp q
theorem Gf{CX:pB}{P:bh}{w:bw}{K:bj}{mg:ba->ar aq}{base:b8}{N ps:ak ba}{qual:ba}{scope:cq}{f:aw}{d:aq}{A:bu}{outer:ak Env}{s l:av}{H:Hp}{E:XK}{us:ak aq}{vs:ak V}
  (S:cY N ps scope) (hd:A.handled=ao) (j:zX P w K mg base A outer s H) (hl:vs.length=ps.length) (r:Vals vs us)
  (x:InCallC s s.heap.objs.size (bindL (cy qual scope s.heap.objs.size f d).kindOf (ps.zip us) λ_=>ao) (cellsFrom (s.heap.objs.size+1) scope.names []) (bindC (cy qual scope s.heap.objs.size f d).kindOf (ps.zip us) λ_=>ao) l) :
  Inv (mL CX P w K mg base N qual scope f d A outer s H E) [] (start N vs) H l:=by
 have F:ps.length<=N.length:=by have:=c3 List.length S.pre;rw[JZ]at this;omega
 obtain⟨h1,tk,rfl,o⟩:=x.done;have g:∀b:aw,b∉(mL CX P w K mg base N qual scope f d A outer s H E).ex:=λb z=>bz (show b∈([]:ak aw)from z) (by simp);refine⟨⟨j.mod,S.kind,rfl,rfl,oX _,λy z c h1 h2=>?_,λy B=>?_,λy c _ h=>?_,λ_=>hd,Around.frames_deeper j.frames,.inr ⟨rfl,rfl⟩,λb z=>bz z (g b),j.bs,j.rK,λb _ _=>g b,λb z=>bz z (g b),j.oU,j.uB⟩,
  rfl,j.bare,Un.kept o,⟨_,x.toInCall.ns,λi y v h1 h2 D=>?_⟩,λy c h=>⟨_,x.cell y c h⟩,j.aH.fresh cX,λy c h=>?_,λp U=>bz (show p∈([]:ak (aw×c5))from U) (by simp),j.aH.kept o,?_⟩
 ·exact name_of_addr x.apart (PySem.mem_of_lookup h1) (PySem.mem_of_lookup h2)
 ·have B:scope.names.lookup y=aj .cell\/scope.names.lookup y=aj .free:=B
  rcases B with B|B
  ·exact acB B
  ·exact bz rfl (S.arP _ (PySem.mem_of_lookup B))
 ·exact Mt (x.above y c (PySem.mem_of_lookup h))
 ·have hi:i<vs.length:=by
   unfold start at h2
   by_cases hi:i<vs.length
   ·exact hi
   ·rw[qS (by simpa using hi)]at h2;rw[List.getElem?_replicate]at h2;split at h2 <;> cases h2
  have ha:vs[i]?=aj v:=by
   unfold start at h2;rw[jJ (by simpa using hi),jV]at h2;cases e:vs[i]? with
   |none=>rw[e]at h2;cases h2
   |some a=>rw[e]at h2;cases h2;rfl
  obtain⟨u,m,C⟩:=r.get ha;have U:ps[i]?=aj y:=by
   rw[<-S.pre,List.getElem?_take_of_lt (by omega)];exact h1
  have t:ps.Nodup:=by rw[<-S.pre];exact S.nd.sublist (YQ _ _)
  refine⟨u,C,?_⟩
  rcases S.par y (mQ U)with k|k
  ·exact .inl ⟨k,acJ t U m k⟩
  ·obtain⟨c,e⟩:=acB (n:=s.heap.objs.size+1) k;refine .inr ⟨.inl k,c,e,?_⟩;have q:=x.cell y c e;rw[acL t U m (by show scope.names.lookup y≠_;rw[k];decide)]at q;exact q
 ·exact j.aH.fresh (Mt (x.above y c (PySem.mem_of_lookup h)))
 ·unfold start;show _=N.length;rw[iN,lI,List.length_replicate];omega
theorem WG{CX:pB}{P:bh}{w:bw}{K:bj}{mg:ba->ar aq}{base:b8}{k:ay}{f:aw}{name qual:ba}{params:dh}{body:ak b7}{scope:cq}{h kV doc d z ct p:aq}{i od:ar aw}
  {R:a8 (ar aq)} {N ps:ak ba} {sp:Sp} (C:K.lookup f=aj ⟨p,od,.func (ea name qual params body scope h kV doc d i z ct),R⟩) (M:codeIn K z qual=ax) (S:cY N ps scope)
  (len:∀vs H Q E,sp vs H Q E->vs.length=ps.length)
  (L:∀(A:bu) (outer:ak Env) (s:av) (H:Hp) (vs:ak V) (Q:VK) (E:XK),cL k (A.deeper (cy qual scope s.heap.objs.size f z))->sp vs H Q E ->
   ∃t,oW (mL CX P w K mg base N qual scope f z A outer s H E) body t/\t {nx:=λ_ H'=>Q .cE H',rt:=Q} (start N vs) H) :
  jX P w K mg base CX (k+1) f (ea name qual params body scope h kV doc d i z ct) ps sp:=by
 refine⟨len,λA outer s H args m vs Q E hr U hb r g=>?_⟩;have hl:=len _ _ _ _ g;have l:K.In s.heap:=U.mod.sO.keeps λb o e=>(U.bs b o e).1;have lim:s.heap.NoLimit:=U.mod.nolimit.keeps λb o e=>(U.bs b o e).1;have T:∀y∈ps.zip m,scope.names.lookup y.1=aj .local\/(scope.names.lookup y.1=aj .cell/\((cellsFrom (s.heap.objs.size+1) scope.names []).lookup y.1).isSome=ax):=λ⟨n,v⟩ D=>by
  rcases S.par n (YR D).1 with q|q
  ·exact .inl q
  ·exact .inr ⟨q,cellsFrom_some _ _ _ (.inl q)⟩
 refine abZ hr.depth (l _ _ C) rfl S.co S.gen rfl (codeRec_of l M) (hb _ _ _ _ ?_);refine Qq S.kind T λenv he c x=>?_;subst he;refine⟨lim.keeps x.toInCall.keep,codeAny_func ?_⟩;obtain⟨t,F,G⟩:=L A outer s H vs Q E (hr.deeper _) g;have I:Inv (mL CX P w K mg base N qual scope f z A outer s H E) [] (start N vs) H c:=Gf S hr.hd U hl r x;refine mU (F [] c (start N vs) H _ I G) (λfl s' B=>?_) λe s' B=>B;have fin:∀{j:St} {H':Hp} {v:V} {u:aq},Inv (mL CX P w K mg base N qual scope f z A outer s H E) [] j H' s'->RelV v u->Q v H'->CE outer P w H s Q u s' :=
  λ{j H' v u} σ a q=>⟨v,H',σ.os,σ.bare,σ.base,σ.aH,a,q⟩
 cases fl with
 |ret u =>
  obtain⟨v,j,H',σ,a,q⟩:=B;exact fin σ a q
 |next =>
  obtain⟨j,H',σ,q⟩:=B;exact fin (v:=V.cE) (u:=Value.none) σ rfl q
 |brk =>
  obtain⟨_,_,_,q⟩:=B;exact False.elim q
 |cont =>
  obtain⟨_,_,_,q⟩:=B;exact False.elim q
section
variable{X:Cx}{x:ba}{p pos:dk}{e:bx}{es:ak bx}{t:TA}{id T:cz}{r:ak V->Hp->VK->Prop}
def Bk(r:ak V->Hp->VK->Prop)(t:TA):TE:=λJ H Q=>t J H λvs H1=>r vs H1 Q
theorem Eg(a:rZ X (.builtin id) r)(U:Gl X x)(hm:X.mg x=ao)(hv:d6 x=aj (.builtin id))(ha:PA X (e::es) t)(hn:x≠"__name__":=by decide)(b:(x==("__debug__" : ba))=au:=by decide)
  (he:bg (e::es) X.env=(au,b9 e X.env)::bg es X.env:=by rfl) (c:(cx pos (bg es X.env)).any (·.1)=au:=by rfl):PE X (.Call (.Name x p) (e::es) [] pos) (Bk r t):=by
 intro aa s J H Q I h;refine yB (EA I U hm hv ?_ hn b);exact PyProof.Rows.callWith_builtin1 (bM (ha pos aa s J H _ I h) λq z ⟨j,f,d,B,N⟩=>a aa z J f j q Q d B N) he c
theorem apN(a:rZ X (.type T) r)(U:Gl X x)(hm:X.mg x=ao)(hv:d6 x=aj (.type T))(ha:PA X (e::es) t)(hn:x≠"__name__":=by decide)(b:(x==("__debug__" : ba))=au:=by decide)
  (he:bg (e::es) X.env=(au,b9 e X.env)::bg es X.env:=by rfl) (c:(cx pos (bg es X.env)).any (·.1)=au:=by rfl):PE X (.Call (.Name x p) (e::es) [] pos) (Bk r t):=by
 intro aa s J H Q I h;refine yB (EA I U hm hv ?_ hn b);exact YE (bM (ha pos aa s J H _ I h) λq z ⟨j,f,d,B,N⟩=>a aa z J f j q Q d B N) he c
end
end L2
namespace HT
open PySem PyProof.Rows
section
variable{prog:bh}{w:bw}{A:bu}{E:aq->av->Prop}{s:av}
theorem aFW{t b:aw}{vs j:ak aq}{Q:aq->av->Prop}(f:IsTup s.heap t vs.toArray)(hb:IsTup s.heap b j.toArray)(hv:vs≠[])
  (h1:j=[]->Q (.ref t) s) (h2:j≠[]->Q (.ref s.heap.objs.size) {s with heap:=s.heap.push {cls:=.type "tuple",data:=.seq (vs++j).toArray} })
  (hsz:vs.length+j.length<=bc):wpAny (bq prog w) A (c6 .Add (.ref t) (.ref b)) Q E s:=by
 obtain⟨⟨cls,c,data,sl⟩,B,a,n,hd⟩:=id f;obtain⟨⟨g,q,data2,d⟩,z,N,U,hd2⟩:=id hb;simp only at a hd N hd2;subst a hd N hd2;have e:vs.toArray++j.toArray=(vs++j).toArray:=by simp
 by_cases hw:j=[]
 ·exact concat_meets ⟨_,B,rfl⟩ ⟨_,z,rfl⟩ noFill_tuple_add seq_tuple_add PySem.F.slot_tuple_add PySem.F.entry_tuple_add (PySem.F.args_tuple_add_2 _ _)
   (tuple_addW1 t b vs.toArray j.toArray n U c q sl d (by simpa using hv) (by simp[hw])) ⟨B,z,h1 hw⟩
 ·refine concat_meets ⟨_,B,rfl⟩ ⟨_,z,rfl⟩ noFill_tuple_add seq_tuple_add PySem.F.slot_tuple_add PySem.F.entry_tuple_add (PySem.F.args_tuple_add_2 _ _)
   (tuple_addW2 t b vs.toArray j.toArray n U c q sl d (by simpa using hv) (by simpa using hw) (by rw[mP,mP];exact hsz)) ⟨B,z,?_⟩
  rw[e];exact h2 hw
end
end HT
namespace L2
open PySem PySem.Spec PyProof.Rows
abbrev TO:=St->Hp->(ar a5->Hp->Prop)->Prop
theorem intsAre_of{ns:ak a5}:∀{us:ak aq},Vals (ns.map V.int) us->c9 us ns:=by
 induction ns with
 |nil=>intro us r;rw[rW]at r;cases r;exact .nil
 |cons n ns ih =>
  intro us r;rw[bU]at r;cases r with
  |cons q j =>
   obtain⟨t,e⟩:=q;subst e;exact .cons n t (ih j)
section
variable{X:Cx}{e:bx}{te:TE}{lo hi:ar bx}{tl th:TO}{pos p2:dk}
def amS(K:bj):R2:=λx y H Q=>∃a b xs ys,x=.ref a/\y=.ref b/\kH K H a xs/\kH K H b ys/\xs≠[]/\xs.length+ys.length<=bc /\
 (ys=[]->Q (.ref a) H)/\(ys≠[]->∀p,H p=ao->Q (.ref p) (upd H p (.tup (xs++ys))))
theorem Vals.Ew{xs:ak V}{us:ak aq}(r:Vals xs us):us=[]<->xs=[]:=by
 cases r with
 |nil=>simp
 |cons _ _=>simp
theorem aqG:jC X (c6 .Add) (amS X.K):=by
 intro aa s J H x y v u Q I e d h;obtain⟨a,b,c,U,rfl,rfl,ha,hb,k,N,g,f⟩:=h;cases e;cases d;obtain⟨l,B,i,_⟩:=I.tuple ha;obtain⟨m,j,p2,_⟩:=I.tuple hb;refine HT.aFW i p2 (λz=>k (B.Ew.mp z)) (λz=>⟨.ref a,H,I,rfl,g (j.Ew.mp z)⟩) (λz=>?_) (by rw[<-B.length,<-j.length];exact N);refine⟨.ref s.heap.objs.size,_,I.laid (t':=s.toks) (o:=.tup (c++U)) (λb ob q=>eI _ q) cX ?_,rfl,f (λw=>z (j.Ew.mpr w)) _ (I.aH.fresh cX)⟩;exact⟨by rw[iN];exact N,_,B.append j,IsTup.new _ _⟩
end
noncomputable def BA(n:ay)(i:a5):ar ay:=if 0<=i then(if i<n then aj i.toNat else ao)else if -(n:a5)<=i then aj (i+n).toNat else ao
def fU{α:Type}(xs:ak α)(i:a5):ar α:=(BA xs.length i).bind λj=>xs[j]?
theorem avV{n:ay}{i:a5}{j:ay}(h:BA n i=aj j):seqIndex? i n=aj j/\j<n/\-(n:a5)<=i/\i<n:=by
 unfold BA at h
 by_cases q:0<=i
 ·rw[a9 q]at h
  by_cases h1:i<n
  ·rw[a9 h1]at h;have e:i.toNat=j:=kY h;exact⟨by rw[seqIndex_of q h1,e],by omega,by omega,h1⟩
  ·rw[bf h1]at h;cases h
 ·rw[bf q]at h
  by_cases h1 : -(n:a5)<=i
  ·rw[a9 h1]at h;have e:(i+n).toNat=j:=kY h;exact⟨by rw[seqIndex_neg (by omega) h1,e],by omega,h1,by omega⟩
  ·rw[bf h1]at h;cases h
theorem Lu{α:Type}{xs:ak α}{i:a5}{v:α}(h:fU xs i=aj v):∃j,seqIndex? i xs.length=aj j/\xs[j]?=aj v/\j<xs.length/\-(xs.length:a5)<=i/\i<xs.length:=by
 unfold fU at h;cases e:BA xs.length i with
 |none=>rw[e]at h;cases h
 |some j =>
  rw[e]at h;obtain⟨h1,h2,z,q⟩:=avV e;exact⟨j,h1,h,h2,z,q⟩
theorem aHJ{α:Type}(xs:ak α)(v:α):fU (xs++[v]) (-1)=aj v:=by
 have hl:(xs++[v]).length=xs.length+1:=by simp
 have e:BA (xs++[v]).length (-1)=aj xs.length:=by
  unfold BA;rw[hl,bf (by decide),a9 (by omega)];congr 1;omega
 unfold fU;rw[e];show(xs++[v])[xs.length]?=aj v;simp
def adQ(b:bx):Prop:=∀o i,subscripted b au o i=operate [o,i] (getItem o i)
def zQ(X:Cx)(r:R2):Prop :=
 ∀(value slice:bx) (aa:ak (aw×c5)) (s:av) (J:St) (H:Hp) (x y:V) (v u:aq) (Q:VK),Inv X aa J H s->RelV x v->RelV y u->r x y H Q ->
  subscripted slice au v u=operate [v,u] (getItem v u)->wpAny (bq X.prog X.w) X.A (subscriptTail value slice v u) (EP X aa J Q) X.xe s
def MtR(X:Cx)(id:cz)(r:V->ak V->Hp->VK->Prop):Prop :=
 ∀(aa:ak (aw×c5)) (s:av) (J:St) (H:Hp) (x:V) (xs:ak V) (v:aq) (us:ak aq) (Q:VK),Inv X aa J H s->RelV x v->Vals xs us->r x xs H Q ->
  wpAny (bq X.prog X.w) X.A (call (.builtin id) (v::us)) (EP X aa J Q) X.xe s
section
variable{X:Cx}{a b:bx}{ta tb:TE}{pos:dk}
theorem zQ.or{r B:R2}(h:zQ X r)(h':zQ X B):zQ X (λx y H Q=>r x y H Q\/B x y H Q):=by
 intro value slice aa s J H x y v u Q I z j q N
 rcases q with q|q
 ·exact h value slice aa s J H x y v u Q I z j q N
 ·exact h' value slice aa s J H x y v u Q I z j q N
theorem apC{r:R2}(hr:zQ X r)(ha:PE X a ta)(hb:PE X b tb)(B:adQ b):PE X (.Subscript a b pos) (LZ r ta tb):=by
 intro aa s J H Q I h;exact Subscript_ (Kl ha hb I h λv u s2 x y U N z j q=>hr a b aa s2 J U x y v u Q N z j q (B _ _))
def Uk(K:bj):R2:=λx y H Q=>∃p xs i v,x=.ref p/\y=.int i/\fV K H p xs/\fU xs i=aj v/\Q v H
def Ui(K:bj):R2:=λx y H Q=>∃p xs i v,x=.ref p/\y=.int i/\kH K H p xs/\fU xs i=aj v/\Q v H
def Uj:R2:=λx y H Q=>∃z i c,x=.str z/\y=.int i/\z.length<=bc/\fU z.cps.toList i=aj c/\Q (.str ⟨#[c]⟩) H
theorem avU:zQ X (Uk X.K):=by
 intro value slice aa s J H x y v u Q I c b h N;obtain⟨p,l,i,z,rfl,rfl,e,he,q⟩:=h;cases c;obtain⟨t,rfl⟩:=b;obtain⟨k,r,pl,m⟩:=I.list e;obtain⟨j,h1,h2,n,g,f⟩:=Lu he;obtain⟨w,a,d⟩:=r.get h2;have hl:=r.length;have hn:=UN;have fin:EP X aa J Q w s:=⟨z,H,I,d,q⟩
 by_cases U:0<=i
 ·have B:i.toNat=j:=by
   rw[seqIndex_of U f]at h1;exact kY h1
  exact item_listR pl.isList U (by omega) (by rw[B];simpa using a) fin N
 ·have B:(i+(k.toArray.size:a5)).toNat=j:=by
   rw[seqIndex_neg (by omega) g]at h1;rw[mP,<-hl];exact kY h1
  exact subscriptTail_builtinR (x:=w) pl.isList.typeIs slot_list_getitem.lookup
   (wpAny_getItem_list_neg (Q:=λr s'=>r=w/\EP X aa J Q r s') pl.isList (by omega) (by rw[mP] <;> omega) (by omega) (by rw[B];simpa using a) ⟨rfl,fin⟩) N
theorem avR:zQ X (Ui X.K):=by
 intro value slice aa s J H x y v u Q I N B h a;obtain⟨p,d,i,z,rfl,rfl,b,he,q⟩:=h;cases N;obtain⟨t,rfl⟩:=B;obtain⟨l,r,pl,e⟩:=I.tuple b;obtain⟨j,h1,h2,k,g,f⟩:=Lu he;obtain⟨w,c,U⟩:=r.get h2;have hl:=r.length;have hn:=UN;have fin:EP X aa J Q w s:=⟨z,H,I,U,q⟩;exact subscriptTail_builtinR (x:=w) pl.typeIs slot_tuple_getitem.lookup
  (getItem_tuple (j:=j) (Q:=λr s'=>r=w/\EP X aa J Q r s') pl (by omega) (by omega) (by rw[mP,<-hl];exact h1) (by simpa using c) ⟨rfl,fin⟩) a
theorem avS:zQ X Uj:=by
 intro value slice aa s J H x y v u Q I N B h U;obtain⟨z,i,c,rfl,rfl,g,he,q⟩:=h;obtain⟨t,rfl⟩:=N;obtain⟨f,rfl⟩:=B;obtain⟨j,h1,h2,k,b,a⟩:=Lu he;have hl:z.cps.toList.length=z.length:=by simp[Str.length]
 rw[hl]at h1 b a;have hn:=UN;exact tail_any (typeIs_str s z t) slot_str_getitem.lookup (getItem_str (c:=c) (by
  have e:decide (i < -(2 ^ 63:a5))=au:=nT (by omega);have d:decide (i>=2 ^ 63)=au:=nT (by omega);rw[e,d,Bool.or_false]) (by rw[h1];simpa using h2) ⟨.str ⟨#[c]⟩,H,I.tok _,⟨_,rfl⟩,q⟩) U
def rIx(K:bj):R2:=λx y H Q=>Uk K x y H Q\/Ui K x y H Q\/Uj x y H Q
theorem avT:zQ X (rIx X.K):=avU.or (avR.or avS)
theorem Inv.lst{aa:ak (aw×c5)}{J:St}{H:Hp}{s:av}{p:aw}{xs:ak V}(I:Inv X aa J H s)(h:H p=aj (.lst xs)) :
  ∃(j:ak aq) (n:ay),Vals xs j/\s.heap.get? p=aj {cls:=.type "list",data:=.seq j.toArray n}/\xs.length<=bc:=by
 obtain⟨z,j,n,r,e⟩:=I.aH p _ h;exact⟨j,n,r,e,z⟩
theorem aF4:rZ X (.builtin "len") (λxs H Q=>∃p ys,xs=[.ref p]/\(fV X.K H p ys\/kH X.K H p ys)/\Q (.int ys.length) H):=by
 intro aa s J H xs a Q I r h;obtain⟨p,ys,rfl,j,q⟩:=h;obtain⟨u,rfl,B⟩:=vals1 r;cases B;have hn:=UN
 rcases j with j|j
 ·obtain⟨U,z,pl,N⟩:=I.list j;have hlen:=z.length;exact Calls.call_len_list pl.isList (by simp only[mP] <;> omega) ⟨.int ys.length,H,I.tok _,⟨s.toks+1,by rw[mP,hlen]⟩,q⟩
 ·obtain⟨U,z,pl,N⟩:=I.tuple j;have hlen:=z.length;exact len_tuple pl (by simp only[mP] <;> omega) ⟨.int ys.length,H,I.tok _,⟨s.toks+1,by rw[mP,hlen]⟩,q⟩
def Av(K:bj)(T:cz)(x:V)(H:Hp):Prop:=match x with
 |.str _=>T = "str"
 |.int _=>T = "int"
 | .ref p=>(T = "list"/\∃xs,fV K H p xs)\/(T = "tuple"/\∃o,K.lookup p=aj o/\o.cls=.type "tuple"/\o.dict=ao) \/
   (T = "dict"/\((∃kvs,H p=aj (.dK kvs))\/∃kvs,H p=aj (.dT kvs)))\/(T = "set"/\∃S n,H p=aj (.set S n))
 |_=>cp
theorem ag2{aa:ak (aw×c5)}{J:St}{H:Hp}{s:av}{T:cz}{x:V}{v:aq}(I:Inv X aa J H s)(r:RelV x v)(ty:Av X.K T x H) :
  s.TypeIs v T/\∀a,v=.ref a->∃ob,s.heap.get? a=aj ob/\ob.dict=ao:=by
 cases x with
 |str z =>
  obtain⟨t,rfl⟩:=r;cases(show T = "str" from ty);exact⟨typeIs_str s z t,λ_ e=>nomatch e⟩
 |int i =>
  obtain⟨t,rfl⟩:=r;cases(show T = "int" from ty);exact⟨typeIs_int s i t,λ_ e=>nomatch e⟩
 |ref p =>
  cases r
  rcases ty with⟨rfl,b,N⟩|⟨rfl,o,j,U,hd⟩|⟨rfl,j⟩|⟨rfl,S,n,j⟩
  ·obtain⟨d,_,pl,_⟩:=I.list N;refine⟨pl.isList.typeIs,λa e=>?_⟩;cases e;obtain⟨o,n,e,c,hd,_⟩:=pl;exact⟨o,e,hd⟩
  ·refine⟨⟨o,I.fF p o j,U⟩,λa e=>?_⟩;cases e;exact⟨o,I.fF _ o j,hd⟩
  ·have z:∃o,s.heap.get? p=aj o/\o.ExactDict:=by
    rcases j with⟨q,j⟩|⟨q,j⟩
    ·obtain⟨_,_,_,_,o,_,_,e,ex,_⟩:=I.aH p _ j;exact⟨o,e,ex⟩
    ·obtain⟨_,_,_,_,o,_,_,e,ex,_⟩:=I.aH p _ j;exact⟨o,e,ex⟩
   obtain⟨o,e,ex⟩:=z;refine⟨⟨o,e,ex.1⟩,λa B=>?_⟩;cases B;exact⟨o,e,ex.2.1⟩
  ·obtain⟨o,_,_,_,e,ex,_⟩:=I.aH p _ j;refine⟨⟨o,e,ex.1⟩,λa B=>?_⟩;cases B;exact⟨o,e,ex.2.1⟩
 |_=>exact False.elim ty
def tBM(K:bj)(T:cz)(r:V->ak V->Hp->VK->Prop)(to:TE)(t:TA):TE:=λJ H Q=>to J H λx H1=>Av K T x H1/\t J H1 λxs H2=>r x xs H2 Q
variable{o e:bx}{es:ak bx}{to:TE}{t:TA}{name:ba}{af gX:dk}{T id:cz}{r:V->ak V->Hp->VK->Prop}
theorem apO(pa:PlainAttrs T)(slot:Slot T name id)(u:typeOf (.builtin id)=pure (.type "method_descriptor"))(hm:MtR X id r)(i:PE X o to)(ha:PA X (e::es) t)
  (f:ck o name X.env (b9 o X.env)=b9 o X.env:=by rfl)
  (l:((cx gX (bg (e::es) X.env)).all (λx=>!x.1)&&(backToKw gX (dn [] X.env)).all (λx=>x.1.isSome)
   && decide ((e::es).length+([]:ak Keyword).length+(if([]:ak Keyword).isEmpty then 0 else 1)<30))=ax:=by rfl)
  (b:(af.endLine==gX.line)=ax:=by rfl) (g:bg (e::es) X.env=(au,b9 e X.env)::bg es X.env:=by rfl) (p:(cx gX (bg es X.env)).any (·.1)=au:=by rfl) :
  PE X (.Call (.Attribute o name af) (e::es) [] gX) (tBM X.K T r to t):=by
 intro aa s J H Q I h;refine wpAny_Call_method_late f l b rfl (bM (i aa s J H _ I h) λv U ⟨x,n,z,j,ty,d⟩=>?_);obtain⟨h1,h2⟩:=ag2 z j ty;refine⟨T,id,pa,slot,u,h1,h2,?_⟩;have q:=ha gX aa U J n _ z d;rw[g]at q ⊢;refine RP (by show(au||(cx gX (bg es X.env)).any (·.1))=au;rw[p] <;> rfl) (Oz ?_);exact bM q λN s2 ⟨B,m,k,a,c⟩=>hm aa s2 J m x B v N Q k j a c
end
def MtM(X:Cx)(id:cz)(r:V->ak V->Hp->VK->Prop):Prop :=
 ∀(aa:ak (aw×c5)) (s:av) (J:St) (H:Hp) (x:V) (xs:ak V) (v:aq) (us:ak aq) (Q:VK),Inv X aa J H s->RelV x v->Vals xs us->r x xs H Q ->
  wpAny (bq X.prog X.w) X.A (call (.builtin id) (v::us)) (EP X aa J Q) X.xe s
theorem Vals.one:∀{x:V} {us:ak aq},Vals [x] us->∃u,us=[u]/\RelV x u
 |_,_,.cons r .nil=>⟨_,rfl,r⟩
section
variable{X:Cx}{aa:ak (aw×c5)}{J:St}{H:Hp}{s:av}{l b:aw}{xs ys zs:ak V}
theorem Inv.Fe{j its':ak aq}{n:ay}{f:a8 aq->a8 aq}{t':ay}(I:Inv X aa J H s)(B:H l=aj (.lst xs))
  (e:s.heap.get? l=aj {cls:=.type "list",data:=.seq j.toArray n}) (hf:f j.toArray=its'.toArray) (hv:Vals ys its') (hz:ys.length<=bc) :
  Inv X aa J (upd H l (.lst ys)) {s with heap:=s.heap.update l (Obj.mapSeq f),toks:=t' }:=by
 have q:=PySem.IsL.update e f;rw[hf]at q;refine I.write (x:=l) (e:=l) (by rw[B];exact trivial) (.inl rfl) (λN u hb z=>(uH s.heap (Obj.mapSeq f) (dQ hb)).trans z) ⟨_,q⟩ ?_;exact⟨hz,its',_,hv,q⟩
theorem Inv.as7{j:ak aq}{t':ay}(I:Inv X aa J H s)(hv:Vals ys j)(hz:ys.length<=bc) :
  Inv X aa J (upd H s.heap.objs.size (.lst ys)) {s with heap:=s.heap.push {cls:=.type "list",data:=.seq j.toArray},toks:=t' } :=
 I.laid (λ_ _ q=>eI _ q) cX ⟨hz,j,0,hv,gZ _ rfl⟩
theorem Inv.fresh(I:Inv X aa J H s):H s.heap.objs.size=ao:=I.aH.fresh cX
theorem Inv.IA(I:Inv X aa J H s)(q:H l=aj (.lst xs)):xs.length<=bc/\∃(j:ak aq) (n:ay),Vals xs j/\xs.length=j.length/\s.heap.get? l=aj {cls:=.type "list",data:=.seq j.toArray n}:=by
 obtain⟨z,j,n,r,e⟩:=I.aH l _ q;exact⟨z,j,n,r,r.length,e⟩
theorem arL{n:ay}(h:n<=bc):Builtin.List.listTooLong n=au:=by
 unfold Builtin.List.listTooLong;exact nT (by omega)
end
section
variable{X:Cx}
def Uo:V->ak V->Hp->VK->Prop:=λx vs H Q=>∃l xs y,x=.ref l/\vs=[y]/\H l=aj (.lst xs)/\xs.length<bc/\Q .cE (upd H l (.lst (xs++[y])))
theorem DW:MtM X "list.append" Uo:=by
 intro aa s J H x c v d Q I N U h;obtain⟨l,b,y,rfl,rfl,j,f,q⟩:=h;cases N;obtain⟨u,rfl,a⟩:=U.one;obtain⟨z,B,n,r,hl,e⟩:=I.IA j;refine call_meets F.slot_list_append ⟨_,e,rfl⟩ F.entry_list_append (F.args_list_append_2 _ _) (PySem.list_append l B.toArray n u (by rw[mP];omega)) ⟨e,?_⟩;refine⟨.cE,_,I.Fe (its':=B++[u]) j e (by simp) (r.append (.cons a .nil)) ?_,rfl,q⟩;rw[iN,List.length_singleton];omega
def Ul:V->ak V->Hp->VK->Prop:=λx vs H Q=>∃l b xs zs,x=.ref l/\vs=[.ref b]/\H l=aj (.lst xs)/\H b=aj (.lst zs)/\xs.length+zs.length<=bc/\Q .cE (upd H l (.lst (xs++zs)))
theorem asK:MtM X "list.extend" Ul:=by
 intro aa s J H x w v y Q I c d h;obtain⟨l,b,t,o,rfl,rfl,a,k,C,q⟩:=h;cases c;obtain⟨u,rfl,f⟩:=d.one;cases f;obtain⟨z,j,n,r,hl,e⟩:=I.IA a;obtain⟨p,B,i,g,A,m⟩:=I.IA k;have N:j.toArray.size+B.toArray.size<=bc:=by rw[mP,mP];omega
 have U:¬(!j.toArray.isEmpty&&Builtin.List.listTooLong (j.toArray.size+B.toArray.size))=ax:=by
  rw[arL N,Bool.and_false];exact Pk
 refine call_meets F.slot_list_extend ⟨_,e,rfl⟩ F.entry_list_extend (F.args_list_extend_2 _ _)
  (AutoSeq1.list_extend_list_list_0 l j.toArray n b B.toArray i U (by rw[mP];omega) (by omega)) ⟨e,m,?_⟩
 refine⟨.cE,_,I.Fe (its':=j++B) a e (by simp) (r.append g) ?_,rfl,q⟩;rw[iN];omega
def Um:R2:=λx y H Q=>∃l b xs zs,x=.ref l/\y=.ref b/\H l=aj (.lst xs)/\H b=aj (.lst zs)/\xs.length+zs.length<=bc/\∀p,H p=ao->Q (.ref p) (upd H p (.lst (xs++zs)))
theorem aqH:jC X (c6 .Add) Um:=by
 intro aa s J H x y v u Q I U N h;obtain⟨l,b,m,i,rfl,rfl,c,d,t,q⟩:=h;cases U;cases N;obtain⟨z,j,n,r,hl,e⟩:=I.IA c;obtain⟨k,B,o,a,p,g⟩:=I.IA d;refine PySem.P.add_list e g ?_ (by rw[mP,mP];omega);have f:j.toArray++B.toArray=(j++B).toArray:=by simp
 rw[f];exact⟨.ref _,_,I.as7 (t':=s.toks) (r.append a) (by rw[iN];omega),rfl,q _ I.fresh⟩
end
section
variable{κ:Type} [DecidableEq κ]
noncomputable def lK(kvs:ak (κ×V))(k:κ):ar V:=(kvs.find? λj=>decide (j.1=k)).map (·.2)
noncomputable def putK(kvs:ak (κ×V))(k:κ)(v:V):ak (κ×V) :=
 if(kvs.any λj=>decide (j.1=k))=ax then kvs.map (λj=>if j.1=k then(j.1,v)else j)else kvs++[(k,v)]
noncomputable def sW(kvs:ak (κ×V))(k:κ):ak (κ×V):=kvs.filter λj=>decide (j.1≠k)
theorem Ah{p:κ×V}{r:ak (κ×V)}{k:κ}(e:p.1=k):lK (p::r) k=aj p.2:=by simp[lK,FT,e]
theorem Ai{p:κ×V}{r:ak (κ×V)}{k:κ}(e:¬p.1=k):lK (p::r) k=lK r k:=by simp[lK,FT,e]
theorem Rj(k:κ):∀kvs:ak (κ×V),(kvs.any λj=>decide (j.1=k))=(lK kvs k).isSome
 |[]=>rfl
 |p::r=>by
  rw[QT]
  by_cases e:p.1=k
  ·simp only[Ah e,vO e,Bool.true_or,Option.isSome_some]
  ·rw[Ai e,nT e,Bool.false_or];exact Rj k r
theorem Xn(kvs:ak (κ×V))(k:κ)(v:V):(putK kvs k v).length<=kvs.length+1:=by
 unfold putK;split
 ·rw[lI];omega
 ·rw[iN,fZ,CK];omega
theorem nH.Gb{o:ar V}{u:ar aq}(r:nH o u):o.isSome=u.isSome:=by
 cases o with
 |none=>cases u with
  |none=>rfl
  |some _=>exact(show cp from r).elim
 |some _=>cases u with
  |none=>exact(show cp from r).elim
  |some _=>rfl
theorem nH.getD{o:ar V}{u:ar aq}{d:V}{d':aq}(r:nH o u)(j:RelV d d'):RelV (o.getD d) (u.getD d'):=by
 cases o with
 |none=>cases u with
  |none=>exact j
  |some _=>exact(show cp from r).elim
 |some _=>cases u with
  |none=>exact(show cp from r).elim
  |some _=>exact r
theorem KV.val{kvs:ak (κ×V)}{vs:ak (κ×aq)}(r:KV kvs vs)(k:κ):nH (lK kvs k) (valueAt vs k):=by
 unfold KV at r
 induction r with
 |nil=>exact True.intro
 | @cons p q N j h t ih =>
  obtain⟨h1,h2⟩:=h
  by_cases e:p.1=k
  ·have B:q.1=k:=h1.symm.trans e;have b:valueAt (q::j) k=aj q.2:=by simp[valueAt,FT,B]
   rw[Ah e,b];exact h2
  ·have B:¬q.1=k:=λz=>e (h1.trans z);have b:valueAt (q::j) k=valueAt j k:=by simp[valueAt,FT,B]
   rw[Ai e,b];exact ih
theorem KV.any{kvs:ak (κ×V)}{vs:ak (κ×aq)}(r:KV kvs vs)(k:κ):(kvs.any λj=>decide (j.1=k))=vs.any λj=>decide (j.1=k):=by
 unfold KV at r
 induction r with
 |nil=>rfl
 |cons h t ih=>rw[QT,QT,ih,h.1]
theorem KV.Ds{kvs:ak (κ×V)}{vs:ak (κ×aq)}(r:KV kvs vs)(k:κ){y:V}{u:aq}(B:RelV y u) :
  KV (kvs.map λj=>if j.1=k then(j.1,y)else j) (vs.map λj=>if j.1=k then(j.1,u)else j):=by
 unfold KV at r ⊢
 induction r with
 |nil=>exact .nil
 | @cons p q U N h t ih =>
  rw[bU,bU];refine .cons ?_ ih;obtain⟨h1,h2⟩:=h
  by_cases e:p.1=k
  ·rw[a9 e,a9 (h1.symm.trans e)];exact⟨h1,B⟩
  ·rw[bf e,bf (λz=>e (h1.trans z))];exact⟨h1,h2⟩
theorem KV.put{kvs:ak (κ×V)}{vs:ak (κ×aq)}(r:KV kvs vs)(k:κ){y:V}{u:aq}(j:RelV y u):KV (putK kvs k y) (stored vs k u):=by
 unfold putK stored;rw[r.any k]
 by_cases e:(vs.any λq=>decide (q.1=k))=ax
 ·rw[a9 e,a9 e];exact r.Ds k j
 ·rw[bf e,bf e];exact Paired.snoc r ⟨rfl,j⟩
theorem KV.drop{kvs:ak (κ×V)}{vs:ak (κ×aq)}(r:KV kvs vs)(k:κ):KV (sW kvs k) (without vs k):=by
 unfold KV at r ⊢;unfold sW without
 induction r with
 |nil=>exact .nil
 | @cons p q N B h t ih =>
  obtain⟨h1,h2⟩:=h;rw[List.filter_cons,List.filter_cons]
  by_cases e:p.1=k
  ·have a:¬decide (p.1≠k)=ax:=by simp[e]
   have b:¬decide (q.1≠k)=ax:=by simp[h1.symm.trans e]
   rw[bf a,bf b];exact ih
  ·have j:¬q.1=k:=λz=>e (h1.trans z);have a:decide (p.1≠k)=ax:=by simp[e]
   have b:decide (q.1≠k)=ax:=by simp[j]
   rw[a9 a,a9 b];exact .cons ⟨h1,h2⟩ ih
theorem KV.keys{kvs:ak (κ×V)}{vs:ak (κ×aq)}(r:KV kvs vs):kvs.map (·.1)=vs.map (·.1):=by
 unfold KV at r
 induction r with
 |nil=>rfl
 |cons h t ih=>rw[bU,bU,ih,h.1]
theorem KV.length{kvs:ak (κ×V)}{vs:ak (κ×aq)}(r:KV kvs vs):kvs.length=vs.length:=Paired.length r
theorem aC5(kvs:ak (κ×V))(k:κ):(sW kvs k).length<=kvs.length:=ad5 _ _
end
theorem IG{P:bh}{w:bw}{k:Key}{u:aq}(r:RelV (kV k) u):(kE P w).is k u=ax:=by
 cases k with
 |inl i=>obtain⟨t,e⟩:=(show ∃t,u=Value.int i t from r);subst e;exact asN P w i t
 |inr x=>obtain⟨t,e⟩:=(show ∃t,u=Value.str x t from r);subst e;exact asM P w x t
theorem Xy{P:bh}{w:bw}:∀{j:ak Key} {us:ak aq},Vals (j.map kV) us->ItemsAre (kE P w) j us
 |[],_,r=>by rw[rW]at r;cases r;exact .nil
 |k::j,_,r=>by
  rw[bU]at r;cases r with
  |cons h t=>exact .cons (IG h) (Xy t)
abbrev KT(H:Hp):ak (ak Key×V)->ak (ak Key×aw×aq)->Prop:=Paired λp q=>p.1=q.1/\H q.2.1=aj (.tup (p.1.map kV))/\RelV p.2 q.2.2
theorem KT.val{H:Hp}{kvs:ak (ak Key×V)}{xs:ak (ak Key×aw×aq)}(r:KT H kvs xs)(k:ak Key):nH (lK kvs k) ((atKey xs k).map (·.2)):=by
 induction r with
 |nil=>exact True.intro
 | @cons p q N j h t ih =>
  obtain⟨h1,_,h2⟩:=h
  by_cases e:p.1=k
  ·have B:q.1=k:=h1.symm.trans e;have b:atKey (q::j) k=aj q.2:=by simp[atKey,FT,B]
   rw[Ah e,b];exact h2
  ·have B:¬q.1=k:=λz=>e (h1.trans z);have b:atKey (q::j) k=atKey j k:=by simp[atKey,FT,B]
   rw[Ai e,b];exact ih
theorem KT.Ds{H:Hp}{kvs:ak (ak Key×V)}{xs:ak (ak Key×aw×aq)}(r:KT H kvs xs)(k:ak Key){y:V}{u:aq}(B:RelV y u) :
  KT H (kvs.map λj=>if j.1=k then(j.1,y)else j) (xs.map (putAt k u)):=by
 induction r with
 |nil=>exact .nil
 | @cons p q a U h t ih =>
  rw[bU,bU];refine .cons ?_ ih;obtain⟨h1,h2,N⟩:=h;unfold putAt
  by_cases e:p.1=k
  ·rw[a9 e,a9 (h1.symm.trans e)];exact⟨h1,h2,B⟩
  ·rw[bf e,bf (λz=>e (h1.trans z))];exact⟨h1,h2,N⟩
theorem KT.put{H:Hp}{kvs:ak (ak Key×V)}{xs:ak (ak Key×aw×aq)}(r:KT H kvs xs)(k:ak Key){b:aw}{y:V}{u:aq}(hb:H b=aj (.tup (k.map kV)))(j:RelV y u) :
  KT H (putK kvs k y) (storedH xs k b u):=by
 have e:(kvs.any λz=>decide (z.1=k))=(atKey xs k).isSome:=by
  rw[Rj,(r.val k).Gb,adS]
 unfold putK storedH;rw[e]
 by_cases q:(atKey xs k).isSome=ax
 ·rw[a9 q,a9 q];exact r.Ds k j
 ·rw[bf q,bf q];exact Paired.snoc r ⟨rfl,hb,j⟩
theorem KT.keeps{H H':Hp}{kvs:ak (ak Key×V)}{xs:ak (ak Key×aw×aq)}(r:KT H kvs xs)(j:∀b ys,H b=aj (.tup ys)->H' b=aj (.tup ys)):KT H' kvs xs :=
 Paired.Fb r λ_ _ z=>⟨z.1,j _ _ z.2.1,z.2.2⟩
section
variable{P:bh}{w:bw}{H:Hp}{h:b8}{a:aw}
theorem Ug{u:HO}(ok:fH P w H h)(e:Rd H a u):iG P w H h a u:=e.ok ok
theorem EY{kvs:ak (Key×V)}(ok:fH P w H h)(e:Rd H a (.dK kvs)):kvs.length<=bc/\(a==dz)=au/\∃vs,KV kvs vs/\h.DictOf (kE P w) a vs :=
 show iG P w H h a (.dK kvs)from Ug ok e
theorem JA{kvs:ak (Key×V)}(ok:fH P w H h)(e:H a=aj (.dK kvs)):kvs.length<=bc/\(a==dz)=au/\∃vs,KV kvs vs/\h.DictOf (kE P w) a vs:=EY ok (.inl e)
theorem NG{j:ak Key}(ok:fH P w H h)(e:H a=aj (.tup (j.map kV))):(tupleKind (kE P w)).is h j a:=by
 obtain⟨_,z,r,o,h1,h2,n,q⟩:=(show iG P w H h a (.tup (j.map kV))from ok a _ e);exact⟨o,z.toArray,n,h1,h2,q,by simpa using Xy r⟩
theorem IZ{kvs:ak (ak Key×V)}(ok:fH P w H h)(e:Rd H a (.dT kvs)):kvs.length<=bc/\(a==dz)=au /\
  ∃xs,KT H kvs xs/\h.DictOfH (tupleKind (kE P w)) a xs:=by
 obtain⟨z,y,xs,r,o,es,c,h1,h2,b,U,N⟩:=(show iG P w H h a (.dT kvs)from Ug ok e);refine⟨z,y,xs,r,o,es,c,h1,h2,b,U,λx j=>?_,N⟩;have all:∀{l:ak (ak Key×V)} {m:ak (ak Key×aw×aq)},KT H l m->∀x∈m,(tupleKind (kE P w)).is h x.1 x.2.1:=by
  intro l m q
  induction q with
  |nil=>intro x j;exact nomatch j
  | @cons p q f d B t ih =>
   intro x j
   rcases dU.mp j with e|j
   ·subst e;exact NG ok (by rw[<-B.1];exact B.2.1)
   ·exact ih x j
 exact all r x j
theorem aC4{kvs:ak (ak Key×V)}(ok:fH P w H h)(e:H a=aj (.dT kvs)):kvs.length<=bc/\(a==dz)=au /\
  ∃xs,KT H kvs xs/\h.DictOfH (tupleKind (kE P w)) a xs:=IZ ok (.inl e)
end
def qX(H:Hp)(a:aw)(y:V)(r:ar V):Prop :=
 (∃kvs k,Rd H a (.dK kvs)/\y=kV k/\r=lK kvs k)\/∃kvs k b,Rd H a (.dT kvs)/\y=.ref b/\H b=aj (.tup (k.map kV))/\r=lK kvs k
def RN(H:Hp)(a:aw)(y v:V)(H':Hp):Prop :=
 (∃kvs k,H a=aj (.dK kvs)/\y=kV k/\kvs.length<bc/\H'=upd H a (.dK (putK kvs k v))) \/
 ∃kvs k b,H a=aj (.dT kvs)/\y=.ref b/\H b=aj (.tup (k.map kV))/\kvs.length<bc/\H'=upd H a (.dT (putK kvs k v))
theorem qX.k{H:Hp}{a:aw}{kvs:ak (Key×V)}{k:Key}(e:H a=aj (.dK kvs)):qX H a (kV k) (lK kvs k):=.inl ⟨kvs,k,.inl e,rfl,rfl⟩
theorem RN.k{H:Hp}{a:aw}{kvs:ak (Key×V)}{k:Key}{v:V}(e:H a=aj (.dK kvs))(hl:kvs.length<bc):RN H a (kV k) v (upd H a (.dK (putK kvs k v))):=.inl ⟨kvs,k,e,rfl,hl,rfl⟩
section
variable{X:Cx}{aa:ak (aw×c5)}{J:St}{H:Hp}{s:av}{a:aw}{y v:V}{u r:aq}{o:ar V}{A:bu}{E:aq->av->Prop}
theorem Inv.big(I:Inv X aa J H s):dz<s.heap.objs.size:=by
 have h:az<s.heap.objs.size:=(I.mod.glob.keeps I.bk).lt;exact Nat.lt_trans (by decide) h
theorem aD4{Q:aq->av->Prop}(m:A.units+1<e4)(I:Inv X aa J H s)(g:qX H a y (aj v))(c:RelV y u)(h:∀j s',Inv X aa J H s'->RelV v j->Q j s') :
  wpAny (bq X.prog X.w) A (getItem (.ref a) u) Q E s:=by
 rcases g with⟨B,k,e,N,l⟩|⟨B,k,b,e,N,r,l⟩
 ·subst N;obtain⟨z,hd,f,rel,U⟩:=EY I.aH e;obtain⟨j,hw,q⟩:=nH.some_of (v:=v) (o:=valueAt f k) (by rw[l];exact rel.val k);exact wpAny_getItem_of (IG c) U.mapOf hw (h j _ (I.tok _) q)
 ·subst N;cases(show u=Value.ref b from c);obtain⟨z,hd,d,rel,U⟩:=IZ I.aH e;obtain⟨j,hw,q⟩:=nH.some_of (v:=v) (o:=(atKey d k).map (·.2)) (by rw[l];exact rel.val k);obtain⟨p,n,i⟩:=CD.mp hw;refine wpAny_getItem_heap (Aw m) (NG I.aH r) U n ?_;rw[i];exact h j _ (I.tok _) q
theorem aD2{Q:aq->av->Prop}(c:A.units+1<e4)(I:Inv X aa J H s)(g:qX H a y o)(U:RelV y u)(h:∀s',Inv X aa J H s'->Q (.bool o.isSome) s') :
  wpAny (bq X.prog X.w) A (cn .In u (.ref a)) Q E s:=by
 rcases g with⟨j,k,e,B,l⟩|⟨j,k,b,e,B,d,l⟩
 ·subst B;obtain⟨z,hd,i,rel,N⟩:=EY I.aH e;refine wpAny_in_of (IG U) hd N.mapOf ?_;rw[<-(rel.val k).Gb,<-l];exact h _ (I.tok _)
 ·subst B;cases(show u=Value.ref b from U);obtain⟨z,hd,f,rel,N⟩:=IZ I.aH e;refine wpAny_in_heap (Aw c) (NG I.aH d) hd N ?_;have q:=(rel.val k).Gb;rw[adS]at q;rw[<-q,<-l];exact h _ (I.tok _)
theorem Kd{h':b8}{t':ay}{ob:HO}(I:Inv X aa J H s)(j:QO (H a))(B:Heap.SameBut a s.heap h')(he:∃q,h'.get? a=aj q)(new:iG X.prog X.w (upd H a ob) h' a ob) :
  Inv X aa J (upd H a ob) {s with heap:=h',toks:=t' } :=
 I.write (x:=a) (e:=a) j (.inl rfl) (λb q hb z=>(B.2 b hb).trans z) he new
theorem abU{P:bh}{w:bw}{H':Hp}{h':b8}{kvs:ak (Key×V)}{vs:ak (Key×aq)}(z:kvs.length<=bc)(hd:(a==dz)=au)(rel:KV kvs vs)(dd:h'.DictOf (kE P w) a vs) :
  iG P w H' h' a (.dK kvs):=⟨z,hd,vs,rel,dd⟩
theorem aDP{H':Hp}{Q:Unit->av->Prop}(D:A.units+1<e4)(I:Inv X aa J H s)(g:RN H a y v H')(n:RelV y u)(o:RelV v r)(h:∀s',Inv X aa J H' s'->Q () s') :
  wpAny (bq X.prog X.w) A (setItem (.ref a) u r) Q E s:=by
 rcases g with⟨j,k,e,f,l,i⟩|⟨j,k,b,e,f,t,l,i⟩
 ·subst f i;obtain⟨z,hd,C,rel,m⟩:=JA I.aH e;have U:C.length<=bc:=by rw[<-rel.length];exact z
  have hl:(putK j k v).length<=bc:=by have:=Xn j k v;omega
  refine wpAny_setItem_pairs (hsz:=U) (IG n) m λh' N d=>h _ ?_;have he:∃q,h'.get? a=aj q:=let ⟨q,_,_,B,_⟩:=N; ⟨q,B⟩;exact Kd I (by rw[e];exact True.intro) d he (abU hl hd (rel.put k o) N)
 ·subst f i;cases(show u=Value.ref b from n);obtain⟨z,hd,x,rel,m⟩:=aC4 I.aH e;have U:x.length<=bc:=by rw[<-Paired.length rel];exact z
  have hl:(putK j k v).length<=bc:=by have:=Xn j k v;omega
  refine wpAny_setItem_heap (hsz:=U) (Aw D) (NG I.aH t) m λh' N d=>h _ ?_;obtain⟨q,es,L,B,h2,K,G,_,F⟩:=N;refine Kd I (by rw[e];exact True.intro) d ⟨q,B⟩ ⟨hl,hd,_,(rel.put k t o).keeps λc M p=>?_,q,es,L,B,h2,K,G,F⟩;rw[bE (MX p e (λz=>nomatch z))];exact p
end
section
variable{X:Cx}{aa:ak (aw×c5)}{J:St}{H:Hp}{s:av}{a:aw}{kvs:ak (Key×V)}{k:Key}{u:aq}{A:bu}{E:aq->av->Prop}
theorem aDQ{v:V}{more:ak aq}{Q:aq->av->Prop}(I:Inv X aa J H s)(e:H a=aj (.dK kvs))(B:RelV (kV k) u)(l:lK kvs k=aj v)(hm:more=[]\/∃x,more=[x])
  (h:∀j s',Inv X aa J (upd H a (.dK (sW kvs k))) s'->RelV v j->Q j s'):wpAny (bq X.prog X.w) A (call (.builtin "dict.pop") (.ref a::u::more)) Q E s:=by
 obtain⟨z,hd,N,rel,U⟩:=JA I.aH e;obtain⟨j,hw,c⟩:=nH.some_of (v:=v) (o:=valueAt N k) (by rw[<-l];exact rel.val k);have g:(keyPart u).isSome=ax:=by
  cases k with
  |inl i=>obtain⟨t,q⟩:=(show ∃t,u=Value.int i t from B);subst q;rfl
  |inr x=>obtain⟨t,q⟩:=(show ∃t,u=Value.str x t from B);subst q;rfl
 have ha:argsOk "dict.pop" ⟨.ref a::u::more,[]⟩:=by
  rcases hm with q|⟨x,q⟩
  ·subst q;exact PySem.F.args_dict_pop_2 _ _
  ·subst q;exact PySem.F.args_dict_pop_3 _ _ _
 refine PM PySem.F.slot_dict_pop U.typeIs PySem.F.entry_dict_pop ha (meets_dict_pop_there (kE X.prog X.w) a (IG B) more hm g)
  ⟨N,j,U,by rw[<-rel.length];exact z,hw,λh' b d=>h j _ ?_ c⟩
 have he:∃q,h'.get? a=aj q:=let ⟨q,_,_,f,_⟩:=b; ⟨q,f⟩;exact Kd I (by rw[e];exact True.intro) d he (abU (rV (aC5 kvs k) z) hd (rel.drop k) b)
theorem aDZ{Q:aq->av->Prop}(I:Inv X aa J H s)(e:Rd H a (.dK kvs))(h:∀t s',Inv X aa J H s'->Q (.int kvs.length t) s'):wpAny (bq X.prog X.w) A (call (.builtin "len") [.ref a]) Q E s:=by
 obtain⟨z,hd,q,rel,j⟩:=EY I.aH e;refine call_len_dict hd j (by rw[<-rel.length];rw[nO]at z;omega) ?_;rw[<-rel.length];exact h _ _ (I.tok _)
end
def Mq(i:bx):Prop:=∀j q,subscripted i au j q=operate [j,q] (getItem j q)
theorem ajW{prog:bh}{w:bw}{A:bu}{E:aq->av->Prop}{s:av}{env:Env}{value slice:bx}{pos:dk}{T id:cz}{Q:aq->av->Prop}
  (hl:typeLookup (.type T) "__getitem__" = pure (aj (.builtin id))) (N:Mq slice)
  (h:wpAny (bq prog w) A (b9 value env) (λo s₁=>wpAny (bq prog w) A (b9 slice env) (λi s₂=>s₂.TypeIs o T/\wpAny (bq prog w) A (getItem o i) Q E s₂) E s₁) E s) :
  wpAny (bq prog w) A (b9 (.Subscript value slice pos) env) Q E s:=by
 refine Subscript_ (mU h (λo s₁ B=>mU B (λi s₂ j=>?_) λ_ _ x=>x) λ_ _ x=>x);obtain⟨hT,j⟩:=j;unfold subscriptTail;refine aL ?_;rw[getitemInPython_of_ne hT.not_modules];refine aL (wpAny_specialOf hT hl ?_);have fin:wpAny (bq prog w) A (subscripted slice au o i) (λr q=>wpAny (bq prog w) A (letTemporaryGo value o r >>= λ_=>pure r) Q E q) E s₂:=by
  rw[N o i];exact wpAny_operating (mU j (λr q z=>aL (wpAny_letTemporaryGo (bG z))) λ_ _ x=>x)
 first
  |exact bG (aL fin)
  |exact aL (bG (aL fin))
  |exact aL fin
theorem aDA{X:Cx}{aa:ak (aw×c5)}{J:St}{H:Hp}{s:av}{a:aw}{y:V}{o:ar V}(I:Inv X aa J H s)(g:qX H a y o):s.TypeIs (.ref a) "dict":=by
 rcases g with⟨j,k,e,_,_⟩|⟨j,k,b,e,_,_,_⟩
 ·obtain⟨_,_,B,_,q⟩:=EY I.aH e;exact q.typeIs
 ·obtain⟨_,_,z,_,q⟩:=IZ I.aH e;exact q.typeIs
def aiJ(td ty:TE):TE:=λJ H Q=>td J H λx H1=>ty J H1 λy H2=>∃a v,x=.ref a/\qX H2 a y (aj v)/\Q v H2
def Sn(ty td:TE):TE:=λJ H Q=>ty J H λy H1=>td J H1 λx H2=>∃a o,x=.ref a/\qX H2 a y o/\Q (.bl o.isSome) H2
def aiG(ty td:TE):TE:=λJ H Q=>ty J H λy H1=>td J H1 λx H2=>∃a o,x=.ref a/\qX H2 a y o/\Q (.bl (!o.isSome)) H2
def amB(td ty tv:TE):TS:=λD J H=>tv J H λv H1=>td J H1 λx H2=>ty J H2 λy q=>∃a j,x=.ref a/\RN q a y v j/\D.nx J j
section
variable{X:Cx}{o i e value:bx}{pos pos' ahE:dk}{td ty tv:TE}
theorem apI(c:X.A.units+1<e4)(e:PE X o td)(hi:PE X i ty)(d:Mq i):PE X (.Subscript o i pos) (aiJ td ty):=by
 intro aa s J H Q I h;refine ajW PySem.F.slot_dict_getitem.lookup d (bM (e aa s J H _ I h) λu q ⟨x,m,k,B,b⟩=>bM (hi aa q J m _ k b) λr s2 zz=>?_);obtain⟨y,l,j,z,a,v,ex,g,U⟩:=zz;subst ex;obtain rfl:u=Value.ref a:=B;exact⟨aDA j g,aD4 c j g z λn p f N=>⟨v,l,f,N,U⟩⟩
theorem apT(b:X.A.units+1<e4)(hi:PE X i ty)(c:PE X o td):PC X .In i o (Sn ty td):=by
 intro aa s J H Q I h;refine bM (hi aa s J H _ I h) λn j ⟨y,l,f,q,N⟩=>bM (c aa j J l _ f N) λu s2 zz=>?_;obtain⟨x,k,e,z,a,U,ex,g,B⟩:=zz;subst ex;obtain rfl:u=Value.ref a:=z;exact aD2 b e g q λm d=>⟨.bl U.isSome,k,d,rfl,B⟩
theorem aoC(c:X.A.units+1<e4)(e:PE X o td)(hi:PE X i ty)(hv:PE X value tv)(d:ew value (aj (.Subscript o i pos')) pos.line X.env=pure au) :
  PS X (.Assign [.Subscript o i pos'] value pos) (amB td ty tv):=by
 intro aa s J H D I h;refine wpAny_Assign_Subscript (bM (hv aa s J H _ I h) λr j ⟨v,t,m,B,b⟩=>bM (e aa j J t _ m b) λu s2 ⟨x,p,l,z,U⟩=>bM (hi aa s2 J p _ l U) λE C zz=>?_) d;obtain⟨y,F,k,q,a,n,ex,g,N⟩:=zz;subst ex;obtain rfl:u=Value.ref a:=z;exact aDP c k g q B λw f=>⟨J,n,f,N⟩
end
theorem aC8{P:bh}{w:bw}{H:Hp}(h:b8)(hb:dz<h.objs.size):iG P w H (h.push {cls:=.type "dict",data:=.dict #[]}) h.objs.size (.dK []) :=
 ⟨CG _,zJ.mpr (dQ (fS hb)),[],.nil,Heap.DictOf.new h⟩
def aiH:TE:=λ_ H Q=>∀p,H p=ao->Q (.ref p) (upd H p (.dK []))
section
variable{X:Cx}{pos:dk}
theorem apG:PE X (.Dict [] [] pos) aiH:=λaa s J H Q I h =>
 wpAny_Dict_empty ⟨.ref s.heap.objs.size,_,I.laid (a:=s.heap.objs.size) (o:=.dK []) (t':=s.toks) (λ_ _ q=>eI _ q) cX (aC8 s.heap I.big),rfl,h _ (I.aH.fresh cX)⟩
end
structure M1(X:Cx)(o:bx)(m:ba)(af:dk)(e:bx)(gX:dk):Prop where
 base:ck o m X.env (b9 o X.env)=b9 o X.env
 Jp:((cx gX (bg [e] X.env)).all (λx=>!x.1)&&(backToKw gX (dn [] X.env)).all (λx=>x.1.isSome)
  && decide (([e]:ak bx).length+([]:ak Keyword).length+(if([]:ak Keyword).isEmpty then 0 else 1)<30))=ax
 line:(af.endLine==gX.line)=ax
 trees:cx gX (bg [e] X.env)=[(au,b9 e X.env)]
structure M2(X:Cx)(o:bx)(m:ba)(af:dk)(e f:bx)(gX:dk):Prop where
 base:ck o m X.env (b9 o X.env)=b9 o X.env
 Jp:((cx gX (bg [e,f] X.env)).all (λx=>!x.1)&&(backToKw gX (dn [] X.env)).all (λx=>x.1.isSome)
  && decide (([e,f]:ak bx).length+([]:ak Keyword).length+(if([]:ak Keyword).isEmpty then 0 else 1)<30))=ax
 line:(af.endLine==gX.line)=ax
 trees:cx gX (bg [e,f] X.env)=[(au,b9 e X.env),(au,b9 f X.env)]
def Nw(H:Hp)(a:aw):Prop:=(∃kvs,Rd H a (.dK kvs))\/∃kvs,Rd H a (.dT kvs)
theorem NL{X:Cx}{aa:ak (aw×c5)}{J:St}{H:Hp}{s:av}{a:aw}(I:Inv X aa J H s)(d:Nw H a) :
  s.TypeIs (.ref a) "dict"/\(∀b,Value.ref a=.ref b->∃ob,s.heap.get? b=aj ob/\ob.dict=ao)/\(a==dz)=au:=by
 rcases d with⟨z,e⟩|⟨z,e⟩
 ·obtain⟨_,hd,N,_,j⟩:=EY I.aH e;refine⟨j.typeIs,λb q=>?_,hd⟩;cases q;obtain⟨ob,_,_,h1,h2,_⟩:=j;exact⟨ob,h1,h2.2.1⟩
 ·obtain⟨_,hd,B,_,j⟩:=IZ I.aH e;refine⟨j.typeIs,λb q=>?_,hd⟩;cases q;obtain⟨ob,_,_,h1,h2,_⟩:=j;exact⟨ob,h1,h2.2.1⟩
section
variable{X:Cx}{aa:ak (aw×c5)}{J:St}{H:Hp}{s:av}{a:aw}{y d:V}{u r:aq}{o:ar V}{A:bu}{E:aq->av->Prop}
theorem aD5{Q:aq->av->Prop}(i:A.units+1<e4)(I:Inv X aa J H s)(g:qX H a y o)(U:RelV y u)(c:RelV d r)(h:∀N s',Inv X aa J H s'->RelV (o.getD d) N->Q N s') :
  wpAny (bq X.prog X.w) A (call (.builtin "dict.get") [.ref a,u,r]) Q E s:=by
 rcases g with⟨q,k,e,B,l⟩|⟨q,k,b,e,B,m,l⟩
 ·subst B;obtain⟨z,hd,n,rel,j⟩:=EY I.aH e;refine PM PySem.F.slot_dict_get j.typeIs PySem.F.entry_dict_get (PySem.F.args_dict_get_3 _ _ _) (meets_dict_get_default (kE X.prog X.w) a (IG U) hd r) ⟨_,j.mapOf,h _ _ (I.tok _) ?_⟩;rw[l];exact(rel.val k).getD c
 ·subst B;cases(show u=Value.ref b from U);obtain⟨z,hd,f,rel,j⟩:=IZ I.aH e;refine PM PySem.F.slot_dict_get j.typeIs PySem.F.entry_dict_get (PySem.F.args_dict_get_3 _ _ _) (meetsH_dict_get_default (tupleKind (kE X.prog X.w)) a b hd r) ⟨Aw i,k,f,NG I.aH m,j,h _ _ (I.tok _) ?_⟩;rw[l];exact(rel.val k).getD c
end
def aiI(td ty tx:TE):TE:=λJ H Q=>td J H λx H1=>∃a,x=.ref a/\Nw H1 a/\ty J H1 λy H2=>tx J H2 λz j=>∃o,qX j a y o/\Q (o.getD z) j
def aiF(td ty:TE):TE:=λJ H Q=>td J H λx H1=>∃a,x=.ref a/\Nw H1 a/\ty J H1 λy H2=>∃kvs k v,H2 a=aj (.dK kvs)/\y=kV k/\lK kvs k=aj v/\Q v (upd H2 a (.dK (sW kvs k)))
section
variable{X:Cx}{o e f:bx}{af gX:dk}{td ty tx:TE}
theorem apH(p:X.A.units+1<e4)(r:PE X o td)(he:PE X e ty)(t:PE X f tx)(m:M2 X o "get" af e f gX):PE X (.Call (.Attribute o "get" af) [e,f] [] gX) (aiI td ty tx):=by
 intro aa s J H Q I h;refine wpAny_Call_method m.base m.Jp m.line PySem.F.plainAttrs_dict PySem.F.slot_dict_get PySem.F.type_dict_get (bM (r aa s J H _ I h) λu N zz=>?_);obtain⟨x,G,j,c,a,ex,d,n⟩:=zz;subst ex;obtain rfl:u=Value.ref a:=c;obtain⟨B,q,_⟩:=NL j d;refine⟨B,q,?_⟩;rw[m.trees];refine RP rfl (Oz (LG (bM (he aa N J G _ j n) λR s2 ⟨y,E,C,b,l⟩ =>
  LG (bM (t aa s2 J E _ C l) λS M ⟨z,D,w,U,P,g,k⟩=>RO ?_))))
 exact aD5 p w g b U λK L v i=>⟨_,D,v,i,k⟩
theorem apF(i:PE X o td)(he:PE X e ty)(m:M1 X o "pop" af e gX):PE X (.Call (.Attribute o "pop" af) [e] [] gX) (aiF td ty):=by
 intro aa s J H Q I h;refine wpAny_Call_method m.base m.Jp m.line PySem.F.plainAttrs_dict PySem.F.slot_dict_pop PySem.F.type_dict_pop (bM (i aa s J H _ I h) λu B zz=>?_);obtain⟨x,w,j,U,a,ex,d,f⟩:=zz;subst ex;obtain rfl:u=Value.ref a:=U;obtain⟨z,q,_⟩:=NL j d;refine⟨z,q,?_⟩;rw[m.trees];refine RP rfl (Oz (LG (bM (he aa B J w _ j f) λD s2 ⟨y,E,t,N,g,k,v,p,n,l,c⟩=>RO ?_)));subst n;exact aDQ t p N l (.inl rfl) λA C r b=>⟨v,_,r,b,c⟩
end
end L2
namespace Att
open PySem PySem.W PySem.Calls PyProof.Rows
theorem av8{P:Params}{h:b8}:∀(ns:ak a5) (vs:ak aq),WellAll P h vs (ns.map WData.int)->c9 vs ns:=by
 intro ns
 induction ns with
 |nil =>
  intro vs w;rw[rW]at w;cases w;exact .nil
 |cons n ns ih =>
  intro vs w;rw[bU]at w;cases w with
  |cons a b =>
   cases a;exact .cons _ _ (ih _ b)
theorem ak2{l:OpenLaw}{n:ay}(hn:l.most=aj n){P:Params}{h:b8}{args:ak WData}{vals:ak aq}
  (U:l.row.toRowW.claim.pre args=ax) (i:WellAll P h vals args) :
  ∃a vs ns,vals=[Value.ref a]/\args=[WData.list (ns.map WData.int)]/\h.get? a=aj {cls:=.type "list",data:=.seq vs.toArray}/\c9 vs ns/\ns.length<=n:=by
 have B:WShape.hasAll [] args [.list .int]=ax:=(pre_splitW U).1;have N:l.pre.holds [] {args:=args}=ax:=(pre_splitW U).2;obtain⟨d,r,rfl,h1,h2⟩:=hasAllW_cons B;obtain rfl:=hasAllW_nil h2;obtain⟨k,rfl,g⟩:=hasW_list h1;obtain⟨ns,rfl⟩:=items_int g;have hlen:ns.length<=n:=by
  unfold OpenLaw.pre at N;have z:(WTm.not (.lt (.lit (.int (n:a5))) (.len (.arg 0)))).holds [] {args:=[.list (ns.map .int)]}=ax:=by
   have z:=(holds_andW N).1;rw[hn]at z;exact z
  have j:=condW_of z (w_not (w_lt w_lit (w_len_list (w_arg rfl))));rw[lI]at j;refine Ms λq=>?_;have e:(n:a5)<((ns.length:ay):a5):=by omega
  first
   |(rw[vO e]at j;exact bz j (by decide))
   |(simp at j;omega)
 cases i with
 |cons c b =>
  cases b;cases c with
  |list f hall=>exact⟨_,_,ns,rfl,rfl,f,av8 ns _ hall,hlen⟩
theorem aoF(l:OpenLaw)(args:ak WData):l.row.toRowW.claim.post args (.bool ax) args=ax :=
 postW_of (r:=l.row.toRowW) (X:=(ax==ax))
  (show WShape.has [] (.bool ax) .bool=ax by first|rfl|decide|simp[WShape.has,WShape.arms,WShape.armsAll])
  (show(WTm.eq .res (.lit (.bool ax))).value [] {args:=args,res:=aj (.bool ax),after:=args}=aj (.bool (ax==ax))from w_eq_bool (w_res rfl) w_lit) rfl
theorem aHI{l:OpenLaw}{n:ay}{q:bh}{loose:ak ba}{XP:(ba->ar aq)->b8->Prop}{YP:bw->b8->Prop}{d:DefRec}
  (hn:l.most=aj n) (p:d.params.defaults=[])
  (call:∀(w:bw) (s₀ s₁:av) (mg mb:ba->ar aq) (fa:aw) (o:c5) (z j doc:aq) (a:aw) (vs:ak aq) (ns:ak a5),
   Ground q loose [] XP w s₀ mg mb s₁.heap->YP w s₁.heap ->
   s₁.heap.get? fa=aj o->o.data=.func (docDef d.name d.params d.body d.scope z j doc)->s₁.heap.CodeRec j d.name->mg d.name=aj (.ref fa) ->
   s₁.heap.get? a=aj {cls:=.type "list",data:=.seq vs.toArray}->c9 vs ns->ns.length<=n->s₁.gens=#[] ->
   codeAny (bq l.prog w) callerA (.call (.ref fa) ⟨[.ref a],[]⟩) (λr s'=>r=.ok (.ret (.bool ax))/\OldK s₁.heap s'.heap/\s'.os=s₁.os/\AllBare s'.gens) s₁) :
  WalkO q loose XP YP l.row.toRowW d [] (λf vs=>PySem.call f vs):=by
 intro w s₀ s₁ mg mb G ρ fa o z j doc i kV b hd h B s c args vals x m k N t v;obtain rfl:i=.none:=Dflts.none B p;obtain rfl:kV=.none:=Dflts.noKw B;obtain⟨a,vs,ns,rfl,rfl,u,hints,hlen⟩:=ak2 hn m t;refine enter_call (uF (call w s₀ s₁ mg mb fa o z j doc a vs ns G ρ b (fd_plain hd) h s u hints hlen c) λr s' U=>?_);obtain⟨rfl,h2,g,e⟩:=U;exact⟨.inl ⟨.bool ax,.bool ax,[],rfl,λ_=>rfl,.bool ax,aoF l _,λ_=>⟨List.Pairwise.nil,λ_ hm=>(nomatch hm)⟩⟩,h2,g,e⟩
section
variable{prog:bh}{w:bw}{A:bu}{E:aq->av->Prop}{s:av}{K:bj}
noncomputable def ledger(h:b8)(L d:aw):ak (aw×c5):=(List.range h.objs.size).filterMap λa=>if a=L\/a=d then ao else(h.get? a).map λo=>(a,o)
end
end Att
namespace L2
open PySem PySem.Spec PyProof.Rows
theorem SE:∀{vs:ak aq} {ns:ak a5},c9 vs ns->Vals (ns.map V.int) vs
 |_,_,.nil => .nil
 |_,_,.cons n t h => .cons ⟨t,rfl⟩ (SE h)
noncomputable def inClass(s:b7)(j:ay):b7:=match s with
 |.ClassDef _ _ _ body _ _ _ _ _ _ _=>body.getD j (.Pass ⟨0,0,0,0⟩)
 |_ => .Pass ⟨0,0,0,0⟩
noncomputable def iL(s:b7):dh:=match s with
 |.FunctionDef _ a _ _ _ _ _ _ _ _=>a
 |_=>{posonlyargs:=[],args:=[],vararg:=ao,kwonlyargs:=[],kw_defaults:=[],kwarg:=ao,defaults:=[]}
noncomputable def eM(s:b7):ak b7:=match s with
 |.FunctionDef _ _ b _ _ _ _ _ _ _=>b
 |_=>[]
noncomputable def aR(s:b7):cq:=match s with
 |.FunctionDef _ _ _ _ _ _ sc _ _ _=>sc
 |_=>{kind:=.function,names:=[],isGenerator:=au,isCoroutine:=au}
abbrev xY:pB:=λ_ _ _ _ _ _=>cp
abbrev E0:XK:=λ_ _ _=>cp
theorem apV{X:Cx}:Passes xY X E0:=λ_ _ _ _ _ _ _ h=>h.elim
structure uI(K:bj)(x qual:ba)(st:b7)(f:aw)(fd:c4):Prop where
 ex:∃(oc:aq) (od:ar aw) (kV doc pm:aq) (an:ar aw) (aO ct:aq) (gE:a8 (ar aq)),
  fd=ea x qual (iL st) (eM st) (aR st) .none kV doc pm an aO ct/\K.lookup f=aj ⟨oc,od,.func fd,gE⟩/\codeIn K aO qual=ax
 kp:keepIn K (.ref f)=ax
section
variable{P:bh}{w:bw}{K:bj}{mg:ba->ar aq}{base:b8}
theorem uI.binds{x qual:ba}{st:b7}{f:aw}{fd:c4}{ps:ak ba}(F:uI K x qual st f fd)
  (h:∀(kV doc pm:aq) (an:ar aw) (j ct:aq) (us:ak aq),us.length=ps.length->c7 (ea x qual (iL st) (eM st) (aR st) .none kV doc pm an j ct) ⟨us,[]⟩=pure (ps.zip us)):Binds K fd ps []:=by
 obtain⟨z,q,kV,doc,pm,an,j,ct,U,rfl,B,N⟩:=F.ex;exact .all (h kV doc pm an j ct)
theorem OW{x qual:ba}{st:b7}{f:aw}{B:aq}{od z:ar aw}{N:a8 (ar aq)}{kV doc q j ct:aq}(l:K.lookup f=aj ⟨B,od,.func (ea x qual (iL st) (eM st) (aR st) .none kV doc q z j ct),N⟩)
  (c:codeIn K j qual=ax) (k:keepIn K (.ref f)=ax):uI K x qual st f (ea x qual (iL st) (eM st) (aR st) .none kV doc q z j ct):=⟨⟨B,od,kV,doc,q,z,j,ct,N,rfl,l,c⟩,k⟩
end
section
variable{X:Cx}
theorem aF5:rZ X (.builtin "len") (λxs H Q=>∃a kvs,xs=[V.ref a]/\H a=aj (.dK kvs)/\Q (.int kvs.length) H):=by
 intro aa s J H xs B Q I r h;obtain⟨a,kvs,rfl,ha,q⟩:=h;obtain⟨u,rfl,j⟩:=vals1 r;cases j;exact aDZ I (.inl ha) λt s' z=>⟨.int kvs.length,H,z,⟨t,rfl⟩,q⟩
end
def oV(H H':Hp):Prop:=∀b o,H b=aj o->H' b=aj o
theorem oV.refl(H:Hp):oV H H:=λ_ _ h=>h
theorem oV.trans{H H1 H2:Hp}(a:oV H H1)(b:oV H1 H2):oV H H2:=λc o h=>b c o (a c o h)
theorem oV.seq{K:bj}{H H':Hp}{a:aw}{xs:ak V}(e:oV H H')(h:fV K H a xs):fV K H' a xs:=by
 rcases h with(h|⟨o,h⟩)|h
 ·exact .inl (.inl (e _ _ h))
 ·exact .inl (.inr ⟨o,e _ _ h⟩)
 ·exact .inr h
theorem Kg(env:Env):∀(names:ak (ba×du)) (cs:ak (ba×aw)),(∀y∈names,y.2=.free->∃c,env.cells.lookup y.1=aj c) ->
  ∃cl,(forIn names cs (λ(x:ba×du) (cs:ak (ba×aw))=>(match x with|(name,kind)=>if(kind==NameKind.free)=ax then(do let c<-cellOf env name;pure (ForInStep.yield ((name,c)::cs)))else pure (ForInStep.yield cs))):Sem (ak (ba×aw)))=pure cl /\
   (∀x c,cl.lookup x=aj c->cs.lookup x=aj c\/env.cells.lookup x=aj c)/\(∀y∈names,y.2=.free->∃c,cl.lookup y.1=aj c)/\(∀x c,cs.lookup x=aj c->∃c',cl.lookup x=aj c')
 |[],cs,_=>⟨cs,rfl,λ_ _ h => .inl h,λ_ h=>(nomatch h),λ_ c h=>⟨c,h⟩⟩
 |(n,k)::r,cs,h=>by
  by_cases a:k=.free
  ·subst a;obtain⟨c,b⟩:=h (n,.free) nE rfl;obtain⟨cl,e,h1,h2,B⟩:=Kg env r ((n,c)::cs) λy j=>h y (fY _ j);refine⟨cl,?_,λx d hd=>?_,λy j U=>?_,λx d hd=>?_⟩
   ·rw[List.forIn_cons];simp only[beq_self_eq_true,jP,cellOf,b,pure_bind];exact e
   ·rcases h1 x d hd with q|q
    ·rw[JY]at q;split at q
     ·rename_i N;have f:x=n:=by simpa using N
      subst f;exact .inr (b.trans q)
     ·exact .inl q
    ·exact .inr q
   ·rcases dU.mp j with z|z
    ·subst z;exact B n c (by simp)
    ·exact h2 y z U
   ·by_cases N:x=n
    ·subst N;exact B x c (by simp)
    ·have hb:(x==n)=au:=by simpa using N
     exact B x d (by rw[JY,hb];exact hd)
  ·obtain⟨cl,e,h1,h2,B⟩:=Kg env r cs λy j=>h y (fY _ j);have hb:(k==NameKind.free)=au:=by simpa using a
   refine⟨cl,?_,h1,λy j U=>?_,B⟩
   ·rw[List.forIn_cons];simp only[hb,kZ,iJ,pure_bind];exact e
   ·rcases dU.mp j with z|z
    ·subst z;exact bz U a
    ·exact h2 y z U
theorem ab1{scope:cq}{env:Env}(h:∀y∈scope.names,y.2=.free->∃c,env.cells.lookup y.1=aj c) :
  ∃cl,closureFor scope env=pure cl/\(∀x c,cl.lookup x=aj c->env.cells.lookup x=aj c)/\∀y∈scope.names,y.2=.free->∃c,cl.lookup y.1=aj c:=by
 obtain⟨cl,e,h1,h2,_⟩:=Kg env scope.names [] h;refine⟨cl,?_,λx c j=>(h1 x c j).resolve_left (by simp),h2⟩;unfold closureFor;refine Eq.trans (c3 (λm=>m >>= λcs=>pure cs) e) ?_;rfl
section
variable{prog:bh}{w:bw}{A:bu}{R:Result->av->Prop}{s:av}
theorem aE1{elt target iter:bx}{ifs:ak bx}{scope:cq}{pos:dk}{it acc:aq}{env:Env}(I:ay->av->Prop)
  (turn:∀n s,I n s->wpAny (bq prog w) A (ek it) (λr s₁=>match r with
   |none=>R (.ok .next) s₁
   | some v=>wpAny (bq prog w) A (letOwnedTupleGo target it v) (λ_ e=>wpAny (bq prog w) A (assign target env v) (λ_ s₂ =>
     wpAny (bq prog w) A (forIn ifs ax λc r=>if r=ax then do let ok<-isTrue c env (b9 c env);pure (ForInStep.yield ok)else pure (ForInStep.yield r)) (λok j =>
      if ok=ax then wpAny (bq prog w) A (b9 elt env) (λx z =>
       wpAny (bq prog w) A (call (.builtin "list.append") [acc,x]) (λ_ q=>∃m,m<n/\I m q) (λ_ _=>cp) z) (λ_ _=>cp) j
      else ∃m,m<n/\I m j) (λ_ _=>cp) s₂) (λ_ _=>cp) e) (λ_ _=>cp) s₁) (λ_ _=>cp) s)
  (n:ay) (h:I n s) :
  codeAny (bq prog w) A (.compLoop (.ListComp elt [⟨target,iter,ifs,0⟩] scope pos) 0 it acc env) R s:=by
 refine codeAny_loop rfl I (λn s f=>?_) n h;show wpAny _ A ((compTurn (.ListComp elt [⟨target,iter,ifs,0⟩] scope pos) 0 it acc env).onRaise (λx=>do noteFrame x env;theTreesLotGoes x)) _ _ s;refine wpAny_noted ?_;rw[compTurn_list];refine aL (wpAny_standAt (aL (mU (turn n s f) (λr s₁ N=>?_) λ_ _ h'=>h'.elim)));cases r with
 |none=>exact bG N
 |some v =>
  refine aL (mU N (λ_ e U=>?_) λ_ _ h'=>h'.elim);refine aL (mU U (λ_ s₂ d=>aL (mU d (λok j B=>?_) λ_ _ h'=>h'.elim)) λ_ _ h'=>h'.elim);cases ok with
  |false=>exact bG ⟨rfl,B⟩
  |true =>
   exact aL (aL (mU B (λx z b=>aL (mU b (λ_ q a=>bG (bG ⟨rfl,a⟩)) λ_ _ h'=>h'.elim)) λ_ _ h'=>h'.elim))
end
def QK(X:Cx)(ifs:ak bx)(t:TT):Prop :=
 ∀(aa:ak (aw×c5)) (s:av) (J:St) (H:Hp) (Q:br->Hp->Prop),Inv X aa J H s->t J H Q ->
  wpAny (bq X.prog X.w) X.A (forIn ifs ax λc r=>if r=ax then do let ok<-isTrue c X.env (b9 c X.env);pure (ForInStep.yield ok)else pure (ForInStep.yield r)) (TP X aa J Q) X.xe s
def ahZ:TT:=λ_ H Q=>Q ax H
theorem aoM{X:Cx}:QK X [] ahZ:=λ_ _ _ H _ I h=>wpAny_tests_nil ⟨H,I,h⟩
noncomputable def kN(X:Cx)(scope:cq)(q:ak ba)(js:ak ay)(cl:ak (ba×aw))(C:aw)(s:av)(H:Hp)(fp:ak aw):Cx :=
 {X with N:=q++js.map (λj=>X.N.getD j Str.empty),s₀:=s,H₀:=H,env:=compEnvC scope cl C X.env,outer:=X.stack,ex:=fp,fn:=λ_=>au,xe:=λ_ _=>cp}
noncomputable def AX(q:ak ba)(js:ak ay)(J:St):St:=q.map (λ_=>ao)++js.map (λj=>(J[j]?).join)
noncomputable def gk(env:Env)(n:ba)(k:du):du:=if(k==NameKind.free&&env.scope.kind == .function&&env.kindOf n==aj .cell)=ax then .cell else k
theorem Ue(env:Env)(names:ak (ba×du)):(names.map λ(n,k)=>if(k==NameKind.free&&env.scope.kind == .function&&env.kindOf n==aj .cell)then(n,NameKind.cell)else(n,k))=names.map λp=>(p.1,gk env p.1 p.2):=by
 refine QQ λp _=>?_;obtain⟨n,k⟩:=p;show(if(k==NameKind.free&&env.scope.kind == .function&&env.kindOf n==aj .cell)=ax then(n,NameKind.cell)else(n,k))=(n,gk env n k);unfold gk;split <;> rfl
theorem Ff(env:Env)(x:ba):∀names:ak (ba×du),(names.map λp=>(p.1,gk env p.1 p.2)).lookup x=(names.lookup x).map (gk env x)
 |[]=>rfl
 |(n,k)::r=>by
  rw[bU];cases j:x==n with
  |true =>
   have e:x=n:=by simpa using j
   subst e;rw[JY,JY];simp
  |false =>
   rw[JY,JY];simp only[j];exact Ff env x r
theorem lookup_mem{x:ba}{k:du}:∀{names:ak (ba×du)},names.lookup x=aj k->(x,k)∈names
 |[],h=>by simp at h
 |(n,q)::r,h=>by
  rw[JY]at h;cases j:x==n with
  |true =>
   have e:x=n:=by simpa using j
   subst e;simp only[beq_self_eq_true]at h;cases h;exact List.mem_cons_self ..
  |false =>
   simp only[j]at h;exact fY _ (lookup_mem h)
theorem Fg{env:Env}{names:ak (ba×du)}{x:ba}(h:names.lookup x=aj .free) :
  (names.map λ(n,k)=>if(k==NameKind.free&&env.scope.kind == .function&&env.kindOf n==aj .cell)then(n,NameKind.cell)else(n,k)).lookup x=aj .cell \/
  (names.map λ(n,k)=>if(k==NameKind.free&&env.scope.kind == .function&&env.kindOf n==aj .cell)then(n,NameKind.cell)else(n,k)).lookup x=aj .free:=by
 rw[Ue,Ff,h];show aj (gk env x .free)=aj .cell\/aj (gk env x .free)=aj .free;unfold gk;split
 ·exact .inl rfl
 ·exact .inr rfl
theorem Du{env:Env}{names:ak (ba×du)}{x:ba}(B:∀y∈names,y.2≠.cell)
  (h:(names.map λ(n,k)=>if(k==NameKind.free&&env.scope.kind == .function&&env.kindOf n==aj .cell)then(n,NameKind.cell)else(n,k)).lookup x=aj .cell \/
   (names.map λ(n,k)=>if(k==NameKind.free&&env.scope.kind == .function&&env.kindOf n==aj .cell)then(n,NameKind.cell)else(n,k)).lookup x=aj .free):(x,NameKind.free)∈names:=by
 rw[Ue,Ff]at h;cases e:names.lookup x with
 |none=>rw[e]at h;rcases h with h|h <;> cases h
 |some k =>
  have hm:=lookup_mem e
  by_cases j:k=.free
  ·rw[j]at hm;exact hm
  ·rw[e]at h;have q:gk env x k=k:=by
    unfold gk;have hb:(k==NameKind.free)=au:=by simpa using j
    rw[hb];rfl
   have h':gk env x k=.cell\/gk env x k=.free:=h.imp (λz=>kY z) λz=>kY z;rw[q]at h'
   rcases h' with z|z
   ·exact bz z (B _ hm)
   ·exact bz z j
structure CM(X:Cx)(scope:cq)(ls:ak ba)(js:ak ay):Prop where
 kind:scope.kind=.function
 cell:∀y∈scope.names,y.2≠.cell
 names:∀y∈scope.names,y.2=.local->scope.names.lookup y.1=aj .local
 free:∀y∈scope.names,y.2=.free->X.env.kindOf y.1=aj .cell\/X.env.kindOf y.1=aj .free
 WV:∀j∈js,∃x,X.N[j]?=aj x/\scope.names.lookup x=aj .free
section
variable{X:Cx}{aa:ak (aw×c5)}{J:St}{H:Hp}{s:av}
theorem atN{scope:cq}{j:ak ba}{js:ak ay}{cl:ak (ba×aw)}{C:aw}{fp:ak aw}(L:CM X scope j js)(I:Inv X aa J H s)
  (h1:∀x c,cl.lookup x=aj c->X.env.cells.lookup x=aj c) (h2:∀y∈scope.names,y.2=.free->∃c,cl.lookup y.1=aj c)
  {s':av} {H':Hp} (B:s'.heap.objs.size<=C) (bs:∀b o,X.base.get? b=aj o->s'.heap.get? b=aj o/\H' b=ao) (rK:X.base.objs.size<=s'.heap.objs.size)
  (oU:s'.heap.FunFrames X.base X.stack) (uB:∀b∈jA X.stack,H' b=ao)
  (EV:∀b∈fp,b≠C/\∀x c,X.env.cells.lookup x=aj c->c≠b) (yO:∀b o,X.base.get? b=aj o->b∉fp) (BR:∀b∈fp,b∉jA X.stack) :
  (kN X scope j js cl C s' H' fp).Ok where
 mod:=I.ok.mod
 kind:=L.kind
 glob:=I.ok.glob
 blt:=I.ok.blt
 above:=B
 inj:=λx y c a b=>I.ok.inj x y c (h1 x c a) (h1 y c b)
 has:=λx q=>h2 (x,.free) (Du (env:=X.env) L.cell q) rfl
 FF:=λx c z=>by cases z
 hd:=I.ok.hd
 frames:=I.ok.frames
 tO:=.inl rfl
 EV:=λb hb=>⟨(EV b hb).1,λx c e=>(EV b hb).2 x c (h1 x c e)⟩
 bs:=bs
 rK:=rK
 yO:=yO
 BR:=BR
 oU:=oU
 uB:=uB
theorem atL{z:ak ba}{js:ak ay}{i:ay}{v:V}(h:(AX z js J)[i]?=aj (aj v)):∃k j,i=z.length+k/\js[k]?=aj j/\J[j]?=aj (aj v):=by
 unfold AX at h
 by_cases hi:i<z.length
 ·rw[jJ (by simpa using hi),jV]at h;cases e:z[i]? with
  |none=>rw[e]at h;cases h
  |some y=>rw[e]at h;cases h
 ·rw[qS (by simpa using Ms hi),jV,lI]at h;cases e:js[i-z.length]? with
  |none=>rw[e]at h;cases h
  |some j =>
   rw[e]at h;refine⟨i-z.length,j,by omega,e,?_⟩;have h':(J[j]?).join=aj v:=kY h;cases q:J[j]? with
   |none=>rw[q]at h';cases h'
   |some o =>
    rw[q]at h';exact c3 aj h'
def LcR(b:ak ba)(js:ak ay)(g:TG)(tc:TT)(te:TE)(J:St)(Q:VK)(σ:It)(H1:Hp):Prop:=∀D,H1 D=ao ->
 ∃W:ay->ay->St->Hp->Prop,(∃m,W 0 m (AX b js J) (upd H1 D (.lst [])))/\∀i m z H',W i m z H' ->
  (σ.stop i H'/\Q (.ref D) H')\/(σ.go i H'/\∃N:St->Hp->Prop,(∀q H2,N q H2->∃B,B<m/\W (i+1) B q H2) /\
   ∀x H2,σ.CS i H' x H2->g x z H2 λj d=>tc j d λc a=>if c=ax then te j a λy U=>∃ys,U D=aj (.lst ys)/\ys.length<bc/\N j (upd U D (.lst (ys++[y])))else N j a)
def Bh(q:ak ba)(js:ak ay)(j:TI)(g:TG)(tc:TT)(te:TE):TE:=λJ H Q=>j J H (LcR q js g tc te J Q)
theorem atJ{elt tg iter:bx}{ifs:ak bx}{scope:cq}{pos aoE:dk}{f:ak ba}{js:ak ay}{wi:TI}{g:TG}{tc:TT}{te:TE}{use:ar (aq->Sem Unit)}{R:aq->av->Prop}{Q:V->Hp->Prop}(hc:X.calm=ax)(L:CM X scope f js)(hi:PI X tg iter wi)
  (hb:∀cl C s H fp,PG (kN X scope f js cl C s H fp) tg g/\QK (kN X scope f js cl C s H fp) ifs tc/\PE (kN X scope f js cl C s H fp) elt te)
  (hs:∀x,dm iter X.env x=pure x) (I:Inv X aa J H s) (h:Bh f js wi g tc te J H Q)
  (fin:∀d C M P m,Inv X aa J M P->qV X aa M C->P.heap.Ns C m->Q (.ref d) M->compPost (bq X.prog X.w) X.A X.xe use R (.ref d) C (.ok .next) P) :
  wpAny (bq X.prog X.w) X.A (comprehension (.ListComp elt [⟨tg,iter,ifs,0⟩] scope pos) scope X.env aoE (newList []) au (b9 iter X.env) use) R X.xe s:=by
 obtain⟨cl,fR,fA,jF⟩:=ab1 (scope:=scope) (env:=X.env) λy S hf=>I.ok.has y.1 (L.free y S hf);refine wpAny_comprehension_free rfl hs fR L.kind L.names (bM (hi aa s J H _ I h) λv s1 h1=>bM h1 λGa s2 h2=>?_);obtain⟨it,fp,tn,σ,a,e,I2,T,iA,f2,h2⟩:=h2;subst e;refine uM (wpAny_newFunctionEnv L.cell (by intro y S;simp at S) (λU Hc Gq=>?_) L.kind);dsimp only at Hc Gq ⊢;generalize Iq:s2.heap.push {cls:=.type "list",dict:=ao,data:=.seq ([]:ak aq).toArray}=B at Hc Gq ⊢;have hCz:B.objs.size=s2.heap.objs.size+1:=by rw[<-Iq,KP]
 have hD0:a s2.heap.objs.size=ao:=I2.aH.fresh cX;have Iu:a B.objs.size=ao:=I2.aH.fresh (by omega);have hDC:s2.heap.objs.size≠B.objs.size:=by omega
 have aAV:B.get? s2.heap.objs.size=aj {cls:=.type "list",dict:=ao,data:=.seq ([]:ak aq).toArray}:=by rw[<-Iq];exact gZ _ rfl
 have Fx:∀b o,s2.heap.get? b=aj o->B.get? b=aj o:=λb o e=>by rw[<-Iq];exact eI _ e
 have t:Inv X aa J (upd a s2.heap.objs.size (.lst [])) {s2 with heap:=B,toks:=s2.toks} :=
  I2.laid (t':=s2.toks) Fx cX (show iG X.prog X.w _ B _ (.lst [])from⟨by simp,[],0,.nil,aAV⟩)
 have Fy:∀b o,B.get? b=aj o->U.get? b=aj o:=λb o e=>(Gq.2 b (fS (dS e))).trans (eI _ e);have I4:Inv X aa J (upd a s2.heap.objs.size (.lst [])) {s2 with heap:=U,toks:=s2.toks+0}:=t.kept (h':=U) (t':=s2.toks+0) Fy;generalize hT:(a,(⟨tg,iter,ifs,0⟩:Comprehension))=avQ;clear hT avQ;have Jl:∀b∈fp,b<s2.heap.objs.size:=λb hb=>by
  obtain⟨o,e,_⟩:=T.obj 0 _ iA b hb;exact dS e
 have fpD:s2.heap.objs.size∉fp:=λz=>Nat.lt_irrefl _ (Jl _ z);have fpC:∀b∈fp,b≠B.objs.size:=λb hb=>fS (by rw[hCz];exact YI (Jl b hb));have okC:(kN X scope f js cl B.objs.size {s2 with heap:=B} (upd a s2.heap.objs.size (.lst [])) fp).Ok:=by
  refine atN L t fA jF cX t.bs (rV t.ok.rK t.sz) t.stack t.Bo (λb hb=>⟨fpC b hb,(f2 b hb).2.2.2.2.1⟩) (λb o e hb=>?_) (λb hb z=>?_)
  ·rcases(f2 b hb).2.2.2.1 with q|q
   ·exact I2.ok.yO b o e q
   ·exact bz (lG (dS (I2.ok.bs b o e).1) q) (Nat.lt_irrefl _)
  ·rcases dU.mp (t.MD b z)with q|q
   ·exact(f2 b hb).2.1 q
   ·exact(f2 b hb).2.2.1 q
 have IC:Inv (kN X scope f js cl B.objs.size {s2 with heap:=B} (upd a s2.heap.objs.size (.lst [])) fp) [] (AX f js J) (upd a s2.heap.objs.size (.lst [])) {s2 with heap:=U,toks:=s2.toks+0}:=by
  refine⟨okC,rfl,I4.bare,Un.kept Fy,⟨_,Hc,λi x v e1 e2 e3=>?_⟩,λx c e=>I4.cell x c (fA x c e),?_,λx c e=>I4.lV x c (fA x c e),λp hp=>?_,I4.aH,?_⟩
  ·obtain⟨k,j,rG,hj,hσ⟩:=atL e2;obtain⟨y,S,Gk⟩:=L.WV j (mQ hj);have Yj:x=y:=by
    have xJ:(f++js.map (λj=>X.N.getD j Str.empty))[i]?=aj x:=e1;rw[rG,qS (Nat.le_add_right ..),Nat.add_sub_cancel_left,jV,hj]at xJ;have Jz:X.N.getD j Str.empty=x:=kY xJ;rw[<-Jz,List.getD_eq_getElem?_getD,S];rfl
   subst Yj;have Zn:X.env.kindOf x=aj .cell\/X.env.kindOf x=aj .free:=by
    have hm:(x,NameKind.free)∈scope.names:=by
     have q:=Du (env:=X.env) L.cell (Fg (env:=X.env) Gk);exact q
    exact L.free _ hm rfl
   obtain⟨m,hn,hl⟩:=I4.loc;obtain⟨u,r,l⟩:=hl j x v S hσ (Zn.elim (λz => .inr (.inl z)) λz => .inr (.inr z));refine⟨u,r,.inr ⟨Fg (env:=X.env) Gk,?_⟩⟩
   rcases l with⟨kl,_⟩|⟨_,c,tZ,z⟩
   ·rcases Zn with q|q
    ·rw[q]at kl;cases kl
    ·rw[q]at kl;cases kl
   ·have hm:(x,NameKind.free)∈scope.names:=Du (env:=X.env) L.cell (Fg (env:=X.env) Gk);obtain⟨c',aaJ⟩:=jF _ hm rfl;have:=fA _ _ aaJ;rw[tZ]at this;cases this;exact⟨c,aaJ,z⟩
  ·show upd a s2.heap.objs.size (.lst []) B.objs.size=ao;rw[bE (dQ hDC)];exact Iu
  ·have BD:p∈X.pn:=by simpa[kN]using hp
   obtain⟨e,n,ne,nf,d⟩:=I4.pin p (nX _ BD);obtain⟨e3,_⟩:=t.pin p (nX _ BD);refine⟨e,n,?_,λz=>?_,d⟩
   ·exact fS (dS e3)
   ·rcases dU.mp (t.MD p.1 z)with q|q
    ·exact ne q
    ·exact nf q
  ·simp[AX,kN]
 obtain⟨Ie,hbI,hbE⟩:=hb cl B.objs.size {s2 with heap:=B} (upd a s2.heap.objs.size (.lst [])) fp;obtain⟨W,⟨m0,w0⟩,turn⟩:=h2 s2.heap.objs.size hD0;have Sz:tn 0 U:=T.keep _ _ _ iA λb hb o e=>Fy b o (Fx b o e);have eR:∀{G:Hp},(∀b∈fp,G b=ao)->∀b∈fp,qV (kN X scope f js cl B.objs.size {s2 with heap:=B} (upd a s2.heap.objs.size (.lst [])) fp) [] G b:=λhn b hb=>by
  refine⟨hn b hb,fpC b hb,λz=>?_,.inl hb,λx c e=>(f2 b hb).2.2.2.2.1 x c (fA x c e),λp hp=>?_⟩
  ·rcases dU.mp (t.MD b z)with q|q
   ·exact(f2 b hb).2.1 q
   ·exact(f2 b hb).2.2.1 q
  ·have BD:p∈X.pn:=by simpa[kN]using hp
   exact(f2 b hb).2.2.2.2.2 p (nX _ BD)
 have fr0:∀b∈fp,(upd a s2.heap.objs.size (.lst [])) b=ao:=λb hb=>by
  rw[bE (show b≠s2.heap.objs.size from fS (Jl b hb))];exact(f2 b hb).1
 have loop:∀s4:av,s4={s2 with heap:=U,toks:=s2.toks+0} ->
   codeAny (bq X.prog X.w) X.A (.compLoop (.ListComp elt [⟨tg,iter,ifs,0⟩] scope pos) 0 (.ref it) (.ref s2.heap.objs.size) (compEnvC scope cl B.objs.size X.env))
    (compPost (bq X.prog X.w) X.A X.xe use R (.ref s2.heap.objs.size) B.objs.size) s4:=by
  rintro s4 rfl;refine aE1 (λn s'=>∃i E G,Inv (kN X scope f js cl B.objs.size {s2 with heap:=B} (upd a s2.heap.objs.size (.lst [])) fp) [] E G s'/\tn i s'.heap/\(∀b∈fp,G b=ao)/\W i n E G) ?_ m0 ⟨0,_,_,IC,Sz,fr0,w0⟩;rintro n s5 ⟨i,K,M,I5,DD,WE,w5⟩
  rcases turn i n K M w5 with⟨stop,qn⟩|⟨go,N,hN,step⟩
  ·refine bM (T.done (kN X scope f js cl B.objs.size {s2 with heap:=B} (upd a s2.heap.objs.size (.lst [])) fp) rfl rfl rfl hc i [] s5 K M _ I5 (eR WE) DD stop) λr P ⟨hr,I6⟩=>?_;subst hr;obtain⟨m6,hn6,_⟩:=I6.loc;have un1:Un (jA X.stack) fp (upd a s2.heap.objs.size (.lst [])) M B P.heap:=I6.base;have un:=(Un.laid Fx cX hD0).trans un1;exact fin _ _ _ _ _ (I2.JG (s':=P) (ch:=fp) I6.os un I6.aH I6.bare λb hb=>⟨(f2 b hb).2.2.2.1,(f2 b hb).2.1,(f2 b hb).2.2.2.2.1,(f2 b hb).2.2.2.2.2⟩) (t.xG cX I6.free) hn6 qn
  ·refine bM (T.item (kN X scope f js cl B.objs.size {s2 with heap:=B} (upd a s2.heap.objs.size (.lst [])) fp) rfl rfl rfl hc i [] s5 K M _ I5 (eR WE) DD go) λr P ⟨u,hr,h6⟩=>?_;subst hr;refine bM h6 λ_ s7 zz=>?_;obtain⟨x,H7,I7,r7,y7,Bq,fr7⟩:=zz;have I7':=I7.pinned (eR fr7) (T.obj _ _ Bq);refine bM (Ie _ s7 K H7 x u _ I7' r7 (step x H7 y7)) λ_ s8 ⟨J8,H8,I8,q8⟩=>?_;refine bM (hbI _ s8 J8 H8 _ I8 q8) λok s9 ⟨H9,I9,q9⟩=>?_;have again:∀{D:St} {Ha:Hp} {sa:av},Inv (kN X scope f js cl B.objs.size {s2 with heap:=B} (upd a s2.heap.objs.size (.lst [])) fp) ([]++MN fp s7.heap) D Ha sa->N D Ha ->
     ∃m,m<n/\∃i E G,Inv (kN X scope f js cl B.objs.size {s2 with heap:=B} (upd a s2.heap.objs.size (.lst [])) fp) [] E G sa/\tn i sa.heap/\(∀b∈fp,G b=ao)/\W i m E G:=λ{D Ha sa} Ia na=>by
    obtain⟨m',hm,wa⟩:=hN D Ha na;refine⟨m',hm,i+1,D,Ha,Ia.SH,T.keep _ _ _ Bq λb hb o e=>(Ia.pin (b,o) (lO _ (lO _ (UG hb e)))).1,λb hb=>?_,wa⟩;obtain⟨o,e,d⟩:=T.obj _ _ Bq b hb;exact(Ia.pin (b,o) (lO _ (lO _ (UG hb e)))).2.1
   cases ok with
   |false=>exact again I9 q9
   |true =>
    refine bM (hbE _ s9 J8 H9 _ I9 q9) λy s10 zz=>?_;obtain⟨z,H10,I10,r10,ys,hD,bW,nn⟩:=zz;obtain⟨zz,aY,k,r,hl,e⟩:=I10.IA hD;refine call_meets F.slot_list_append ⟨_,e,rfl⟩ F.entry_list_append (F.args_list_append_2 _ _) (PySem.list_append s2.heap.objs.size aY.toArray k y (by rw[mP];omega)) ⟨e,?_⟩;refine again (I10.Fe (its':=aY++[y]) (t':=s10.toks) hD e ?_ (r.append (.cons r10 .nil)) ?_) nn
    ·simp
    ·simp;omega
 exact codeAny_compStart_list (loop _ rfl) (T.self _ 0 _ _ _ Sz (loop _ rfl))
theorem Inv.back{C:aw}{h':b8}(I:Inv X aa J H s)(f:qV X aa H C)(j:Heap.SameBut C s.heap h'):Inv X aa J H {s with heap:=h' }:=by
 have ne1:∀b,b∉[C]->b≠C:=λb hb z=>hb (by rw[z];exact Nf _);have B:Un (jA X.stack) [C] H H s.heap h':=⟨λb o e n a x=>(j.2 b (ne1 b x)).trans e,λb o e n a x=>⟨o.slots,(j.2 b (ne1 b x)).trans e⟩,λ_ _ _ n _=>n,λb o e x=>⟨o,(j.2 b (ne1 b x)).trans e⟩,λ_ _ q=>q,λ_ _ _ q=>q,λ_ d q=>⟨#[],by rw[q];simp⟩⟩;have U:fH X.prog X.w H h':=λb o e=>by
  refine(I.aH b o e).nN (λc u N q=>(j.2 c ?_).trans q) (λ_ q=>q) λ_ _ q=>q;rintro rfl
  rcases N with z|z
  ·subst z;rw[f.1]at e;cases e
  ·rw[f.1]at z;cases z
 exact I.JG (s':={s with heap:=h' }) (ch:=[C]) rfl B U I.bare λb hb=>by
  rw[lN.mp hb];exact⟨f.2.2.2.1,f.2.1,f.2.2.2.2.1,f.2.2.2.2.2⟩
theorem apA{elt tg iter:bx}{ifs:ak bx}{scope:cq}{pos:dk}{j:ak ba}{js:ak ay}{z:TI}{g:TG}{tc:TT}{te:TE}(U:X.calm=ax)(L:CM X scope j js)(hi:PI X tg iter z)
  (hb:∀cl C s H fp,PG (kN X scope j js cl C s H fp) tg g/\QK (kN X scope j js cl C s H fp) ifs tc/\PE (kN X scope j js cl C s H fp) elt te)
  (N:∀x,dm iter X.env x=pure x:=by intro _;rfl):PE X (.ListComp elt [⟨tg,iter,ifs,0⟩] scope pos) (Bh j js z g tc te):=by
 intro aa s J H Q I h;rw[eval_ListComp];exact atJ U L hi hb N I h λd C b c m a f hn q=>⟨m,hn,λh' B=>⟨.ref d,b,a.back f B,rfl,q⟩⟩
end
section
variable{X:Cx}
theorem aFX(c:X.calm=ax):rZ X (.builtin "sum") (λxs H Q=>∃(a:aw) (ns:ak a5),xs=[.ref a]/\fV X.K H a (ns.map V.int)/\Q (.int ns.sum) H):=by
 intro aa s J H xs d Q I r h;obtain⟨a,ns,rfl,U,q⟩:=h;obtain⟨u,rfl,N⟩:=vals1 r;cases N;obtain⟨j,B,pl,f⟩:=I.list U;have hi:c9 j ns:=intsAre_of B;obtain⟨xs,z⟩:=hi.allInts.items;have hl:s.heap.IsList a (intItems xs):=z ▸ pl.isList;refine sum_intListG (I.ok.hd c) hl λh' tk t' b=>?_;have e:preSum (numAt xs) xs.size=ns.sum:=by
  rw[preSum_eq,Nd (by simp),<-nums_intItems,<-z,show j.toArray.toList=j from rfl,hi.numsOf]
 exact⟨.int ns.sum,H,I.kept (t':=tk) b,⟨t',by rw[e]⟩,q⟩
theorem aF6:rZ X (.builtin "isinstance") (λxs H Q=>∃x n t b,xs=[x,.ty n]/\rQ X.K H x t/\et X.K t (.type n)=aj b/\Q (.bl b) H):=by
 intro aa s J H xs B Q I r h;obtain⟨x,n,t,b,rfl,ty,e,q⟩:=h;obtain⟨u,v,rfl,z,j⟩:=vals2 r;cases j;exact av6 I z ty e λtk=>⟨.bl b,H,I.tok tk,rfl,q⟩
end
inductive Dt where
 |int (i:a5)|bl (b:br)|str (x:ba)|cE|tup (ds:ak Dt)|lst (ds:ak Dt)
def Den(K:bj)(H:Hp):ay->V->Dt->Prop
 |_,v,.int j=>v=.int j
 |_,v,.bl b=>v=.bl b
 |_,v,.str x=>v=.str x
 |_,v,.cE=>v=.cE
 |0,_,.tup _=>cp
 |0,_,.lst _=>cp
 |n+1,v,.tup ds=>∃a xs,v=.ref a/\kH K H a xs/\Paired (Den K H n) xs ds
 |n+1,v,.lst ds=>∃a xs,v=.ref a/\fV K H a xs/\Paired (Den K H n) xs ds
structure HasFn(K:bj)(mg:ba->ar aq)(x:ba)(st:b7):Prop where
 ex:∃f fd,mg x=aj (.ref f)/\uI K x x st f fd
theorem kG{K:bj}{h:b8}{mg:ba->ar aq}{x:ba}{st:b7}{f:aw}{z:aq}{od N:ar aw}{B:a8 (ar aq)}{kV doc q j ct:aq}(X:K.In h)(G:h.Ns az mg)
  (a:cw K az x=aj (aj (.ref f))) (l:K.lookup f=aj ⟨z,od,.func (ea x x (iL st) (eM st) (aR st) .none kV doc q N j ct),B⟩)
  (c:codeIn K j x=ax) (k:keepIn K (.ref f)=ax):HasFn K mg x st:=⟨⟨f,_,mg_of X G a,OW l c k⟩⟩
structure Def(P:bh)(w:bw)(K:bj)(mg:ba->ar aq)(base:b8)(x:ba)(k:ay)(ps:ak ba)(sp:Sp):Prop where
 ex:∃f fd,jX P w K mg base xY k f fd ps sp/\mg x=aj (.ref f)/\keepIn K (.ref f)=ax/\Binds K fd ps []
theorem oV.new{H:Hp}{p:aw}{o:HO}(h:H p=ao):oV H (upd H p o):=λb u e=>by rw[bE (iW e h)];exact e
def aI5(K:bj)(H:Hp)(v:V)(ns:ak a5):Prop:=∃p,v=.ref p/\kH K H p (ns.map V.int)
def Rows(K:bj)(H:Hp)(xs:ak V)(rs:ak (ak a5)):Prop:=Paired (aI5 K H) xs rs
def aH4(h₀ h:b8)(H:Hp)(x:aw)(vs:a8 aq):Prop :=
 ∃T j ts,vs[1]?=aj (.ref T)/\T≠x/\h₀.get? T=ao/\H T=ao/\h.get? T=aj j/\j.data=.fields ts/\3<ts.size
def lZ(h₀ h:b8)(H:Hp)(x:aw)(cls:aq)(dx:ar aw)(tb:br):Prop :=
 h₀.get? x=ao/\H x=ao/\∃oe vs,h.get? x=aj oe/\oe.cls=cls/\oe.dict=dx/\oe.data=.fields vs/\1<vs.size/\((tb=au/\vs[1]?=aj .none)\/aH4 h₀ h H x vs)
theorem lZ.any{h₀ h:b8}{H:Hp}{x:aw}{cls:aq}{dx:ar aw}{tb:br}(e:lZ h₀ h H x cls dx tb):lZ h₀ h H x cls dx au:=by
 obtain⟨a,b,q,j,f,d,c,U,N,B⟩:=e;exact⟨a,b,q,j,f,d,c,U,N,B.imp (λz=>⟨rfl,z.2⟩) id⟩
structure mM(X:Cx):Prop where
 tO:X.stack=X.env::X.outer
 OX:X.env.frame=aj X.env.locals
 pn:X.pn=[]
theorem mM.mem{X:Cx}(t:mM X){b:aw}:b∈jA X.stack<->b=X.env.locals\/b∈X.fs:=by
 rw[t.tO];unfold jA;rw[aeA,t.OX];exact dU
section
variable{X:Cx}{J:St}{H:Hp}{s:av}
theorem Inv.Dw{h':b8}{ch:ak aw}(I:Inv X [] J H s)(t:mM X)(g:∀b∈ch,X.s₀.heap.get? b=ao/\H b=ao/\∃o vs,s.heap.get? b=aj o/\o.data=.fields vs)
  (keep:∀b o,b∉jA X.stack->b∉ch->s.heap.get? b=aj o->h'.get? b=aj o) (slot:∀b o,b∈jA X.stack->s.heap.get? b=aj o->∃sl,h'.get? b=aj {o with slots:=sl}) :
  Inv X [] J H {s with heap:=h' }:=by
 have C:∀c v,s.heap.IsCell c v->c∉ch:=λc v ⟨o,B,hd⟩ j=>by
  obtain⟨_,_,h,vs,e,d⟩:=g c j;rw[B]at e;cases e;rw[hd]at d;cases d
 have any:∀b o,b∉ch->s.heap.get? b=aj o->∃sl,h'.get? b=aj {o with slots:=sl}:=λb o j e=>by
  by_cases hb:b∈jA X.stack
  ·exact slot b o hb e
  ·exact⟨o.slots,keep b o hb j e⟩
 have cellK:∀c v,s.heap.IsCell c v->h'.IsCell c v:=λc v z=>by
  obtain⟨o,B,hd⟩:=id z;obtain⟨sl,e⟩:=any c o (C c v z) B;exact⟨_,e,hd⟩
 have old:∀b o,X.s₀.heap.get? b=aj o->b≠X.env.locals/\b∉ch:=λb o e =>
  ⟨fS (lG (dS e) I.ok.above),λj=>by rw[(g b j).1]at e;cases e⟩
 have w:∀b,b≠X.env.locals->b∉X.fs->b∉jA X.stack:=λb h1 h2 z=>(t.mem.mp z).elim h1 h2;refine⟨I.ok,I.os,I.bare,⟨λb o e n hb N=>?_,λb o e n hb N=>?_,I.base.free,λb o e N=>?_,I.base.oC,I.base.mJ,I.base.nM⟩,?_,λx c e=>?_,I.free,I.lV,λp D=>?_,λb u e=>?_,I.len⟩
 ·exact keep b o (w b (old b o e).1 hb) (old b o e).2 (I.base.keep b o e n hb N)
 ·obtain⟨sl,a⟩:=I.base.slot b o e n hb N;obtain⟨L,U⟩:=any b _ (old b o e).2 a;exact⟨L,U⟩
 ·obtain⟨h,a⟩:=I.base.there b o e N;obtain⟨sl,U⟩:=any b h (old b o e).2 a;exact⟨_,U⟩
 ·obtain⟨m,hn,hl⟩:=I.loc;obtain⟨o,es,F,B,hd,r⟩:=id hn;have A:X.env.locals∉ch:=λj=>by
   obtain⟨_,_,h,vs,e,d⟩:=g _ j;rw[B]at e;cases e;rw[hd]at d;cases d
  obtain⟨sl,e⟩:=any _ o A B;refine⟨m,⟨_,es,F,e,hd,r⟩,λi x v a U K=>?_⟩;obtain⟨u,E,l⟩:=hl i x v a U K;refine⟨u,E,?_⟩
  rcases l with l|⟨k,c,G,z⟩
  ·exact .inl l
  ·exact .inr ⟨k,c,G,cellK c _ z⟩
 ·obtain⟨v,z⟩:=I.cell x c e;exact⟨v,cellK c v z⟩
 ·rw[t.pn]at D;simp at D
 ·refine(I.aH b u e).nN (λc v j q=>keep c v ?_ ?_ q) (λ_ q=>q) λ_ _ q=>q
  ·intro z;have f:=I.Bo c z
   rcases j with y|y
   ·rw[y,e]at f;cases f
   ·rw[y]at f;cases f
  ·intro z;have f:=(g c z).2.1
   rcases j with y|y
   ·rw[y,e]at f;cases f
   ·rw[y]at f;cases f
variable{M:ei}{E:aq->av->Prop}{x:aw}{cls:aq}{dx:ar aw}
theorem lZ.UD(I:Inv X [] J H s){b:aw}{o:c5}{vs:a8 aq}(e:s.heap.get? b=aj o)(d:o.data=.fields vs):b∉jA X.stack:=λhm=>by
 obtain⟨_,z,q,j⟩:=I.stack.mem hm;rw[e]at q;cases q;exact j vs d
theorem abO(I:Inv X [] J H s)(t:mM X){oe:c5}{vs:a8 aq}{head:aq}{g:br}{Q:Unit->av->Prop}(l:X.s₀.heap.get? x=ao)(m:H x=ao)(he:s.heap.get? x=aj oe)(hd:oe.data=.fields vs)(hsz:1<vs.size)
  (q:∀h',Inv X [] J H {s with heap:=h' }->lZ X.s₀.heap h' H x oe.cls oe.dict ax->Q () {s with heap:=h' }) :
  wpAny M X.A (do let a<-frameOf X.env;let pl<-entryPlaceOf X.env.locals g;let b<-EntryCells.newEntry head a .none (cm X.env.locals) .none pl;setField (.ref x) 1 b) Q E s:=by
 have K:X.A.frames=aj (X.env::X.outer):=by rw[<-t.tO];exact I.ok.frames
 have hl:s.heap.FunFrames X.base (X.env::X.outer):=by rw[<-t.tO];exact I.stack
 have gU:x∉jA X.stack:=lZ.UD I he hd;have i:(X.env::X.outer).filterMap (·.frame)=jA X.stack:=by rw[t.tO];rfl
 refine aL (wpAny_frameOf_fun K hl t.OX λh1 j=>aL (wpAny_entryPlaceOf λpl y=>?_));rw[i]at j;unfold EntryCells.newEntry;unfold newFields;refine aL (uM ?_ (y.sizeOk5 _ _ _ _ _));have r:h1.get? x=aj oe:=(j.2.1 x gU).trans he;generalize p:({cls:=.type "traceback",dict:=ao,data:=.fields ([head,.ref X.env.locals,.none,cm X.env.locals,.none]++(if pl.isEmpty then List.replicate 6 Value.none else pl)).toArray}:c5)=to;have U:∃B,to.data=.fields B/\3<B.size:=⟨_,by rw[<-p],by simp only[mP,iN,fZ,CK];omega⟩;have N:to.isFreed=au:=by rw[<-p];rfl
 have n:(h1.push to).get? x=aj oe:=eI _ r;have k:h1.objs.size≠x:=JT (dS r);refine wpAny_setField n hd hsz ?_;have u:=Obj.data_mapFields hd (·.setIfInBounds 1 (Value.ref h1.objs.size));have f:=YZ (Obj.mapFields (·.setIfInBounds 1 (Value.ref h1.objs.size))) n (Obj.isFreed_of_fields u);have h:=(uH (h1.push to) (Obj.mapFields (·.setIfInBounds 1 (Value.ref h1.objs.size))) (dQ k)).trans (gZ h1 N);have kp:∀b o,b≠x->h1.get? b=aj o->((h1.push to).update x (Obj.mapFields (·.setIfInBounds 1 (Value.ref h1.objs.size)))).get? b=aj o:=λb o hb e =>
  (uH _ _ (dQ hb)).trans (eI _ e)
 have v:X.s₀.heap.get? h1.objs.size=ao:=by
  cases e:X.s₀.heap.get? h1.objs.size with
  |none=>rfl
  |some o =>
   have h2:=lG (dS e) I.sz;rw[j.1]at h2;exact bz h2 (Nat.lt_irrefl _)
 have L:H h1.objs.size=ao:=by rw[j.1];exact I.aH.fresh cX
 refine q _ (I.Dw t (ch:=[x]) (λb hb=>?_) (λb o hb w e=>?_) λb o hb e=>?_) ⟨l,m,_,_,f,Obj.cls_mapFields _ _,?_,u,by simpa using hsz,.inr ⟨h1.objs.size,to,?_⟩⟩
 ·rw[lN.mp hb];exact⟨l,m,oe,vs,he,hd⟩
 ·exact kp b o (λz=>w (by rw[z];exact lN.mpr rfl)) ((j.2.1 b hb).trans e)
 ·obtain⟨sl,C⟩:=j.2.2 b o e;exact⟨sl,kp b _ (λz=>gU (z ▸ hb)) C⟩
 ·obtain⟨c,d,D,sl⟩:=oe;cases D <;> rfl
 ·obtain⟨B,G,F⟩:=U;exact⟨B,by simp[hsz],k,v,L,h,G,F⟩
theorem Et(I:Inv X [] J H s)(t:mM X){tb:br}{Q:Unit->av->Prop}(e:lZ X.s₀.heap s.heap H x cls dx tb)
  (q:∀h',Inv X [] J H {s with heap:=h' }->lZ X.s₀.heap h' H x cls dx ax->Q () {s with heap:=h' }):wpAny M X.A (noteFrame (.ref x) X.env) Q E s:=by
 obtain⟨U,a,n,m,he,rfl,rfl,hd,j,r⟩:=id e;unfold noteFrame;simp only[t.OX]
 rcases r with⟨_,h1⟩|⟨T,k,N,h1,i,h,l,hT,B,f⟩
 ·refine aL (RT he hd h1 ?_);rw[bf (by decide)];exact abO I t U a he hd j q
 ·refine aL (RT he hd h1 ?_);rw[a9 (show(Value.ref T != Value.none)=ax from by simp)];obtain⟨c,d⟩:∃c,N[3]?=aj c:=⟨N[3],Pn f⟩;refine aL (RT hT B d ?_)
  by_cases hb:(c==cm X.env.locals)=ax
  ·rw[a9 hb];exact bG (q s.heap I ⟨U,a,n,m,he,rfl,rfl,hd,j,.inr ⟨T,k,N,h1,i,h,l,hT,B,f⟩⟩)
  ·rw[bf hb];refine aL (wpAny_setField hT B f ?_);have g:∀b,b≠T->(s.heap.update T (Obj.mapFields (·.setIfInBounds 3 Value.none))).get? b=s.heap.get? b:=λb hb=>uH _ _ (dQ hb);have u:T∉jA X.stack:=lZ.UD I hT B;have v:Inv X [] J H {s with heap:=s.heap.update T (Obj.mapFields (·.setIfInBounds 3 Value.none))}:=I.Dw t (ch:=[T]) (λb hb=>by
    rw[lN.mp hb];exact⟨h,l,k,N,hT,B⟩) (λb o _ p e=>(g b (λz=>p (by rw[z];exact lN.mpr rfl))).trans e) λb o hb e=>⟨o.slots,(g b (λz=>u (z ▸ hb))).trans e⟩
   exact abO v t U a ((g x (dQ i)).trans he) hd j q
theorem WI{A:bu}(I:Inv X [] J H s)(t:mM X){fo:ar aw}{Q:Unit->av->Prop}(e:lZ X.s₀.heap s.heap H x cls dx ax)
  (q:∀h',Inv X [] J H {s with heap:=h' }->lZ X.s₀.heap h' H x cls dx ax->Q () {s with heap:=h' }):wpAny M A (setFlight (.ref x) fo) Q E s:=by
 obtain⟨i,l,n,k,he,rfl,rfl,hd,B,u⟩:=id e
 rcases u with⟨z,_⟩|⟨T,p,m,h1,a,U,h,hT,j,c⟩
 ·cases z
 unfold setFlight;refine aL (RT he hd h1 ?_);rw[a9 (show(Value.ref T != Value.none)=ax from by simp)];refine wpAny_setField hT j c ?_;generalize (fo.elim Value.none λf=>cm f)=d;have N:∀b,b≠T->(s.heap.update T (Obj.mapFields (·.setIfInBounds 3 d))).get? b=s.heap.get? b:=λb hb=>uH _ _ (dQ hb);have v:T∉jA X.stack:=lZ.UD I hT j;have g:=Obj.data_mapFields j (·.setIfInBounds 3 d);refine q _ (I.Dw t (ch:=[T]) (λb hb=>?_) (λb o _ r e=>(N b (λz=>r (by rw[z];exact lN.mpr rfl))).trans e) λb o hb e=>⟨o.slots,(N b (λz=>v (z ▸ hb))).trans e⟩)
  ⟨i,l,n,k,(N x (dQ a)).trans he,rfl,rfl,hd,B,.inr ⟨T,_,_,h1,a,U,h,YZ _ hT (Obj.isFreed_of_fields g),g,by simpa using c⟩⟩
 rw[lN.mp hb];exact⟨U,h,p,m,hT,j⟩
end
abbrev WX:=St->aq->ar aw->Hp->Prop
def XE(X:Cx)(W:WX):aq->av->Prop:=λe s'=>∃J H' x cls dx,e=.ref x/\Inv X [] J H' s'/\lZ X.s₀.heap s'.heap H' x cls dx au/\W J cls dx H'
section
variable{X:Cx}
theorem apU(t:mM X){W:WX}:PassesOwn (bq X.prog X.w) X.A X.env (XE X W):=by
 rintro e s' ⟨J,d,x,cls,U,rfl,I,ex,w⟩;unfold notedBy;refine Et I t ex λh1 c j=>?_;unfold cameBackBy;obtain⟨h,l,n,i,he,p,s,hd,B,a⟩:=id j
 rcases a with⟨z,_⟩|⟨T,o,m,q,g,f,u,hT,k,r⟩
 ·cases z
 refine aL (RT he hd q ?_);rw[bf (show ¬((Value.ref T==Value.none)=ax)from by simp)];exact WI c t j λh2 b N=>⟨J,d,x,cls,U,rfl,b,N.any,w⟩
def pC(P:bh)(w:bw):pB:=λouter H s E e s'=>∃x cls dx H',e=.ref x/\s'.os=s.os/\AllBare s'.gens/\Un (jA outer) [] H H' s.heap s'.heap/\fH P w H' s'.heap/\lZ s.heap s'.heap H' x cls dx ax/\E cls dx H'
end
structure mO(X:Cx)(W:WX):Prop where
 top:mM X
 ex:X.ex=[]
 to:∀e s',XE X W e s'->X.xe e s'
 passes:PassesOwn (bq X.prog X.w) X.A X.env X.xe
theorem mO.of{X:Cx}(t:mM X)(j:X.ex=[])(W:WX):mO (X.nK (XE X W)) W where
 top:=⟨t.tO,t.OX,t.pn⟩
 ex:=j
 to:=λe s' ⟨J,z,x,cls,q,a,I,b,c⟩=>⟨J,z,x,cls,q,a,I.uS,b,c⟩
 passes:=apU t
theorem Inv.TX{X:Cx}{aa:ak (aw×c5)}{J:St}{H:Hp}{s:av}(I:Inv X aa J H s):Inv X [] J H s:=I.Ed λp j=>bz j (by simp)
theorem Inv.first{X:Cx}{aa:ak (aw×c5)}{J:St}{H:Hp}{s:av}(I:Inv X aa J H s)(q:X.ex=[]){b:aw}(h:s.heap.get? b=ao):X.s₀.heap.get? b=ao:=by
 cases e:X.s₀.heap.get? b with
 |none=>rfl
 |some o =>
  obtain⟨z,j⟩:=I.base.there b o e (by rw[q];simp);rw[h]at j;cases j
theorem lZ.first{X:Cx}{aa:ak (aw×c5)}{J:St}{H H':Hp}{s:av}{h':b8}{x:aw}{cls:aq}{dx:ar aw}{tb:br}(I:Inv X aa J H s)(j:X.ex=[])(e:lZ s.heap h' H' x cls dx tb) :
  lZ X.s₀.heap h' H' x cls dx tb:=by
 obtain⟨a,b,B,q,p,o,n,m,l,k⟩:=e;refine⟨I.first j a,b,B,q,p,o,n,m,l,k.imp id λ⟨T,N,z,i,h,g,f,d,c,U⟩=>⟨T,N,z,i,h,I.first j g,f,d,c,U⟩⟩
theorem iG.at{P:bh}{w:bw}{H:Hp}{h:b8}{a:aw}{o:HO}(x:iG P w H h a o):∃ob,h.get? a=aj ob:=by
 cases o with
 |lst xs=>obtain⟨_,_,_,_,e⟩:=x;exact⟨_,e⟩
 |tup xs=>obtain⟨_,_,_,_,e,_⟩:=x;exact⟨_,e⟩
 |dK j=>obtain⟨_,_,_,_,o,_,_,e,_⟩:=x;exact⟨_,e⟩
 |dT j=>obtain⟨_,_,_,_,o,_,_,e,_⟩:=x;exact⟨_,e⟩
 |set S n=>obtain⟨o,_,_,_,e,_⟩:=x;exact⟨_,e⟩
 |ins C B fs=>obtain⟨_,_,_,e,_⟩:=x;exact⟨_,e⟩
 |own y=>exact x
 |xd fs=>obtain⟨_,⟨_,_,_,e,_⟩,_⟩:=x;exact⟨_,e⟩
 |TL lo hi=>obtain⟨_,_,_,e⟩:=x;exact⟨_,e⟩
 |eR ob u=>obtain⟨e,_⟩:=x;exact⟨_,e⟩
 |iS z=>exact⟨_,show h.get? a=aj _ from x⟩
 |met f y=>exact⟨_,show h.get? a=aj _ from x⟩
 |ext q=>obtain⟨_,e,_⟩:=x;exact e
theorem fH.arM{P:bh}{w:bw}{H:Hp}{h:b8}{a:aw}(x:fH P w H h)(e:h.get? a=ao):H a=ao:=by
 cases q:H a with
 |none=>rfl
 |some o =>
  obtain⟨ob,j⟩:=(x a o q).at;rw[e]at j;cases j
section
variable{P:bh}{w:bw}{K:bj}{mg:ba->ar aq}{base:b8}
abbrev nU(P:bh)(w:bw)(K:bj)(mg:ba->ar aq)(base:b8)(N:ak ba)(qual:ba)(scope:cq)(f:aw)(j:aq)(A:bu)(outer:ak Env)(s:av)(H:Hp)(E:XK):Cx :=
 (mL (pC P w) P w K mg base N qual scope f j A outer s H E).nK (XE (mL (pC P w) P w K mg base N qual scope f j A outer s H E) λ_=>E)
theorem SJ{CX:pB}{N:ak ba}{qual:ba}{scope:cq}{f:aw}{j:aq}{A:bu}{outer:ak Env}{s:av}{H:Hp}{E:XK}:mM (mL CX P w K mg base N qual scope f j A outer s H E):=⟨rfl,rfl,rfl⟩
theorem bN{N:ak ba}{qual:ba}{scope:cq}{f:aw}{j:aq}{A:bu}{outer:ak Env}{s:av}{H:Hp}{E:XK}:mO (nU P w K mg base N qual scope f j A outer s H E) (λ_=>E):=mO.of SJ rfl _
theorem NF{N:ak ba}{qual:ba}{scope:cq}{f:aw}{z:aq}{A:bu}{outer:ak Env}{s:av}{H:Hp}{E:XK}{st:ak b7}{t:TS}(h:oW (nU P w K mg base N qual scope f z A outer s H E) st t) :
  oW (mL (pC P w) P w K mg base N qual scope f z A outer s H E) st t:=by
 intro aa U J l D I hw;refine mU (h aa U J l D (I.nK _) hw) (λ_ _ q=>q.uS) λe s' a=>?_;obtain⟨B,m,x,cls,g,rfl,k,ex,q⟩:=a;show wpAny _ _ (leaving _ _) _ _ _;unfold leaving;refine aL (Et (E:=λd n=>pC P w outer H s E d n) k SJ ex λh1 i c=>?_);refine WI i SJ c λh2 j b=>?_;exact⟨x,cls,g,m,rfl,j.os,j.bare,j.base,j.aH,b,q⟩
structure KY(P:bh)(w:bw)(K:bj)(mg:ba->ar aq)(base:b8)(x:ba)(k:ay)(ps:ak ba)(sp:Sp):Prop where
 ex:∃f fd,jX P w K mg base (pC P w) k f fd ps sp/\mg x=aj (.ref f)/\keepIn K (.ref f)=ax/\Binds K fd ps []
end
section
variable{X:Cx}{W:WX}{x:ba}{p pos np gX:dk}{e:bx}{es:ak bx}{t:TA}
def Bj(sp:Sp)(W:WX)(t:TA):TE:=λJ H Q=>t J H λvs H1=>sp vs H1 Q λcls dx H'=>W J cls dx H'
theorem apK{k:ay}{ps:ak ba}{sp:Sp}(T:mO X W)(D:KY X.prog X.w X.K X.mg X.base x k ps sp)(hr:cL k X.A)(l:Gl X x)(ha:PA X (e::es) t)
  (m:(x==("__debug__" : ba))=au:=by decide) (he:bg (e::es) X.env=(au,b9 e X.env)::bg es X.env:=by rfl) (n:(cx pos (bg es X.env)).any (·.1)=au:=by rfl) :
  PE X (.Call (.Name x p) (e::es) [] pos) (Bj sp W t):=by
 obtain⟨f,E,F,hm,i,hb⟩:=D.ex;intro aa s J H Q I h;refine yB (AW I l hm ?_ m);refine callWith_K (h₀:=X.base) I.ok.mod.sO i (bM (ha pos aa s J H _ I h) λN U ⟨d,y,j,r,q⟩=>⟨j.fF,?_⟩) he n;have hl:N.length=ps.length:=by rw[<-r.length];exact F.len _ _ _ _ q
 have c:=hb U N j.fF (by rw[pU];exact hl);rw[pU]at c;refine GR (uF (F.run X.A X.stack U y ⟨N,[]⟩ N d Q _ hr j.IX c r q) λr s' B=>?_);cases r with
 |error G =>
  obtain⟨a,cls,o,C,rfl,os,bare,un,aH,ex,g⟩:=B;have v:=(j.JG os un aH bare (λb z=>bz z (by simp))).TX;exact T.to _ _ ⟨J,C,a,cls,o,rfl,v,(ex.first j T.ex).any,g⟩
 |ok fl =>
  cases fl with
  |ret u=>exact j.after B
  |next=>exact False.elim B
  |brk=>exact False.elim B
  |cont=>exact False.elim B
noncomputable abbrev Kk:ak aq:=[.type "ValueError",.type "Exception",.type "BaseException",.type "object"]
structure QM(K:bj)(C:aw):Prop where
 inK:excIn K C Kk "ValueError.__new__" = ax
theorem QM.obj{K:bj}{C:aw}(ι:QM K C){h:b8}(X:K.In h):∃bm N nm q bs hdct sn sub ab col dd k0 k1 k2 k3 k5 z,h.get? C=aj (df nm q C N bs bm hdct sn sub ab col dd k0 k1 k2 k3 k5 "ValueError.__new__")/\h.Ns N z/\z "__init__" = ao/\OwnTail h Kk bm:=by
 have q:=ι.inK;unfold excIn at q;split at q
 ·rename_i dd cd sl d;split at q
  ·rename_i e bm k0 k1 k2 k3 n k5 hm B;simp only[mB,vS,ZP]at q;obtain⟨⟨⟨⟨⟨rfl,rfl⟩,j⟩,c⟩,aH⟩,U⟩:=q;obtain⟨nm,bs,mro,ns,a,hd,sn,sub,ab,col,del⟩:=cd;dsimp only at hm j aH U;subst hm j;have b:sl=#[k0,k1,k2,k3,aj (.builtin "ValueError.__new__"),k5]:=by
    obtain⟨l⟩:=sl;simp only at B;rw[B]
   subst b;exact⟨bm,ns,nm,a,bs,hd,sn,sub,ab,col,dd,k0,k1,k2,k3,k5,_,X _ _ d,.of_isNs (PySem.W.isNs_of_in X aH),PySem.W.nsMap_none_of_in X aH U,PySem.W.tail_of_in X c⟩
  ·cases q
 ·cases q
def ah3(W:WX)(C:aw)(t:TA):TS:=λ_ J H=>t J H λvs H1=>vs.length<=bc/\W J (.ref C) ao H1
theorem an6{C:aw}(T:mO X W)(i:X.calm=ax)(ι:QM X.K C)(g:Gl X x)(hm:X.mg x=aj (.ref C))(ha:PA X (e::es) t)
  (n:(x==("__debug__" : ba))=au:=by decide) (he:bg (e::es) X.env=(au,b9 e X.env)::bg es X.env:=by rfl) (o:(cx gX (bg (e::es) X.env)).any (·.1)=au:=by rfl) :
  PS X (.Raise (aj (.Call (.Name x np) (e::es) [] gX)) ao pos) (ah3 W C t):=by
 intro aa s J H D I h;obtain⟨p,N,nm,q,bs,hdct,sn,sub,ab,col,dd,k0,k1,k2,k3,k5,A,m,k,u,hT⟩:=ι.obj I.ok.mod.sO;have c:p.contains (.type "BaseException")=ax:=hT.hasType (by decide);refine wpAny_Raise_call_subT (nm:=nm) (q:=q) (N:=N) (bs:=bs) (hdct:=hdct) (sn:=sn) (sub:=sub) (ab:=ab) (col:=col) (dd:=dd) (k0:=k0) (k1:=k1) (k2:=k2) (k3:=k3) (k5:=k5) PySem.F.excBase_ValueError c (I.ok.hd i) o u (AW I g hm ⟨rfl,?_⟩ n);rw[he];refine Oz ?_;have z:=ha gX aa s J H _ I h;rw[he]at z;refine bM z λw U ⟨v,B,j,r,d,b⟩=>⟨rfl,by rw[<-r.length];exact d,j.bk _ _ m,k.keeps j.bk,hT.keeps j.bk,λh' a M=>?_⟩
 obtain⟨y,f,E,_⟩:=M.there;have l:B a=ao:=j.aH.arM M.new;refine T.to _ _ ⟨J,B,a,.ref C,ao,rfl,(j.kept (t':=U.toks) M.keeps).TX,⟨j.first T.ex M.new,l,_,_,f,rfl,rfl,rfl,by simp,.inl ⟨rfl,rfl⟩⟩,b⟩
end
structure XC(K:bj)(C:aw):Prop where
 ob:∃nm q N bs bm hdct sn sub ab col dd k0 k1 k2 k3 k5,K.lookup C=aj (df nm q C N bs bm hdct sn sub ab col dd k0 k1 k2 k3 k5 "ValueError.__new__")
 ga:cg K (.ref C) "__getattribute__" = aj (aj (.builtin "BaseException.__getattribute__"))
 gt:cg K (.ref C) "__getattr__" = aj ao
 cl:cg K (.ref C) "__class__" = aj (aj (.builtin "object.__class__"))
 be:cj K (.ref C) (.type "BaseException")=aj ax
 oj:cj K (.ref C) (.type "object")=aj ax
section
variable{prog:bh}{w:bw}{A:bu}{E:aq->av->Prop}{h:b8}{g:a8 GenState}{d:Drawn}{t:ay}{os:OsState}{a:aw}{o:c5}{K:bj}{C:aw}
theorem ae1{R:Result->av->Prop}(c:XC K C)(X:K.In h)(q:h.get? a=aj o)(z:o.cls=.ref C)(B:R (.ok (.ret (.ref C))) ⟨h,g,d,t,os⟩) :
  codeAny (bq prog w) A (.call (.builtin "getset_descriptor.__get__") ⟨[.builtin "object.__class__",.ref a,.ref C],[]⟩) R ⟨h,g,d,t,os⟩:=by
 have j:(⟨h,g,d,t,os⟩:av).TypeIs (.builtin "object.__class__") "getset_descriptor":=aeH;have L:Looks (bq prog w) h (isSubtype (.ref C) (.type (".".intercalate ("object.__class__".cutAt '.').dropLast))) ax:=by
  rw[F.owner_object_class];exact looks_subIn X c.oj
 refine ab0 F.slot_gs_get.plain F.entry_gs_get (F.slot_gs_get.check _ _ _ _ _ _ _ _ j (F.args_gs_get _ _ _) ?_)
 repeat (any_goals (first|assumption|(with_reducible refine LJ q ?_;rw[z])|with_reducible refine L.at ?_|wp_step))
 refine⟨Code.quiet_builtin _ (by decide +kernel),JE F.entry_object_class ?_⟩
 repeat (any_goals (first|assumption|(with_reducible refine LJ q ?_;rw[z])|wp_step))
theorem ae2{tk:Tok}{Q:Fin->av->Prop}(c:XC K C)(X:K.In h)(j:h.get? a=aj o)(q:o.cls=.ref C)(N:Q (.done (.ret (.ref C))) ⟨h,g,d,t,os⟩) :
  wpAny (bq prog w) A (Builtin.«object.__getattribute__» ⟨[.ref a,.str "__class__" tk],[]⟩) Q E ⟨h,g,d,t,os⟩:=by
 have z:(⟨h,g,d,t,os⟩:av).TypeIs (.builtin "object.__class__") "getset_descriptor":=aeH;have e:=aeH;have b:=F.slot_gs_get.lookup;have U:=F.slot_gs_set.lookup;have B:=looks_findIn (M:=bq prog w) X c.cl
 repeat (any_goals (first|assumption|(with_reducible refine LJ j ?_;rw[q])|with_reducible refine B.at ?_|wp_step))
 refine ae1 c X j q ?_
 repeat (any_goals (first|assumption|wp_step))
theorem ae3{M:ei}{j:aq}{Q:Unit->av->Prop}(c:XC K C)(X:K.In h)(q:h.get? a=aj o)(U:o.cls=.ref C)(B:Q () ⟨h,g,d,t,os⟩) :
  wpAny M A (checkBuiltinCall "BaseException.__getattribute__" ⟨[.ref a,j],[]⟩) Q E ⟨h,g,d,t,os⟩:=by
 have L:Looks M h (isInstance (.ref a) (.type "BaseException")) ax:=by
  refine PySem.W.Looks.andThen (a:=.ref C) ?_ (looks_subIn X c.be);rw[<-U];exact(PySem.W.Looks.ld q).andThen .now
 have N:builtinKind "BaseException.__getattribute__" = aj .slot:=by decide +kernel
 have z:splitId "BaseException.__getattribute__" = aj ("BaseException", "__getattribute__"):=by decide +kernel
 have ha:=F.args_bexc_ga (.ref a) j;exact PySem.W.check_slot (i := "BaseException.__getattribute__") (owner := "BaseException") (n := "__getattribute__") (self:=.ref a) (rest:=[j]) (kw:=[]) (s:=⟨h,g,d,t,os⟩) N z L ha B
theorem ae4{tk:Tok}{fill expr:br}{Q:aq->av->Prop}(c:XC K C)(X:K.In h)(q:h.get? a=aj o)(z:o.cls=.ref C)(b:Q (.ref C) ⟨h,g,d,t,os⟩) :
  wpAny (bq prog w) A (getAttrBy (.ref a) (.str "__class__" tk) fill expr) Q E ⟨h,g,d,t,os⟩:=by
 have e:=PySem.F.excAttr_ValueError.ga.bind (.ref a);have U:(expr&&onTheHeap (Value.builtin "BaseException.__getattribute__"))=au:=by cases expr <;> rfl
 have j:(Value.builtin "BaseException.__getattribute__" == Value.builtin "object.__getattribute__")=au:=by decide +kernel
 have B:(onTheHeap (Value.ref C)&&Value.builtin "BaseException.__getattribute__" == Value.builtin "object.__getattribute__")=au:=by rw[j];rfl
 have N:=looks_findIn (M:=bq prog w) X c.ga;have L2:=looks_findIn (M:=bq prog w) X c.gt
 repeat (any_goals (first|assumption|(with_reducible refine LJ q ?_;rw[z])|with_reducible refine N.at ?_|with_reducible refine L2.at ?_|wp_step))
 refine ab0 PySem.F.excAttr_ValueError.ga.plain F.entry_bexc_ga (ae3 c X q z (ae2 c X q z ?_))
 repeat (any_goals (first|assumption|wp_step))
theorem ae5{Q:ar aq->av->Prop}(c:XC K C)(X:K.In h)(j:h.get? a=aj o)(q:o.cls=.ref C)(z:Q (aj (.ref C)) ⟨h,g,d,t+1,os⟩) :
  wpAny (bq prog w) A (getAttr? (.ref a) "__class__") Q E ⟨h,g,d,t,os⟩:=by
 unfold getAttr? getAttrBy?
 repeat (any_goals (first|assumption|with_reducible apply ae4 c X j q|wp_step))
end
section
variable{K:bj}{C D x:aw}{oe:c5}{b:br}
theorem XC.get(c:XC K C):∃cd,PySem.W.clsIn K C=aj cd/\cd.mro.isEmpty=au/\cd.mro.contains (.ref C)=ax/\PySem.W.typeIn K (.ref C)=aj (.type "type"):=by
 obtain⟨nm,q,N,bs,bm,j,sn,sub,z,col,d,b,k1,a,U,B,e⟩:=c.ob;refine⟨{name:=nm,bases:=bs,mro:=.ref C::bm,ns:=N,qualname:=q,hasDict:=j,slotNames:=sn,subclasses:=sub,abstract:=z,collection:=col,hasDel:=au},?_,rfl,?_,?_⟩
 ·unfold PySem.W.clsIn;rw[e]
 ·simp
 ·show(K.lookup C).map (·.cls)=_;rw[e];rfl
theorem XC.isType(c:XC K C){M:ei}{h:b8}(X:K.In h):Looks M h (PySem.isType (.ref C)) ax:=by
 obtain⟨nm,q,N,bs,bm,j,sn,sub,d,col,b,a,k1,U,B,z,e⟩:=c.ob;intro i f g s' k q;unfold PySem.isType loadHead;exact aL (wpAny_loadPart (k _ _ (X _ _ e)) (bG q))
theorem at0(c:XC K D)(U:oe.cls=.ref D):PySem.W.KitX K (.ref x) (.ref D) (λh=>h.get? x=aj oe)where
 ty:=λM h _ p=>U ▸ (PySem.W.Looks.ld p).andThen .now
 it:=λ_ _ X _=>c.isType X
 ne:=λh b i A n sl X j=>by
  obtain⟨m,q,N,bs,w,B,l,sub,y,col,i,v,k1,u,r,o,e⟩:=c.ob;refine Bool.eq_false_iff.mpr λq=>?_;have f:D=b:=Value.ref.inj (vS.mp q);subst f;have z:=kY ((X _ _ e).symm.trans j);have a:=c3 Obj.data z;cases a
 ca:=λ{_ _ _ _ _ s} X p k=>by obtain⟨h,g,d,t,os⟩:=s;exact ae5 c X p U k
theorem at3(N:XC K D)(U:XC K C)(s:cj K (.ref D) (.ref C)=aj b):et K (.ref D) (.ref C)=aj b:=by
 unfold et;split
 ·rename_i q;have e:D=C:=Value.ref.inj (vS.mp q);subst e;obtain⟨B,h1,h2,z,_⟩:=N.get;change mroIn K D (.ref D)=aj b at s;unfold mroIn at s;rw[h1]at s;simp only[Option.bind_some,h2,z]at s;simpa using s
 ·obtain⟨B,h1,_,_,j⟩:=U.get;unfold PySem.W.kitCls;simp only[h1,j];exact s
theorem at1{T:cz}(s:cj K (.ref D) (.type T)=aj b)(hT:PySem.W.kitMeta T=ax):et K (.ref D) (.type T)=aj b:=by
 unfold et;rw[bf (by simp)];unfold PySem.W.kitCls;simp only[hT];exact s
theorem at5:PySem.W.kitMeta "ValueError" = ax:=by kernel_rfl
end
noncomputable def Cx.sY(X:Cx)(x:aw)(oe:c5):Cx:={X with A:=X.A.mark (aj (.ref x)),calm:=au,pn:=X.pn++[(x,oe)],xe:=λ_ _=>cp}
theorem Cx.Ok.sY{X:Cx}(ok:X.Ok)(x:aw)(oe:c5):(X.sY x oe).Ok :=
 ⟨ok.mod,ok.kind,ok.glob,ok.blt,ok.above,ok.inj,ok.has,ok.FF,λh=>Bool.noConfusion h,ok.frames,ok.tO,ok.EV,ok.bs,ok.rK,ok.yO,ok.BR,ok.oU,ok.uB⟩
section
variable{X:Cx}{J:St}{H:Hp}{s:av}{x:aw}{oe:c5}
theorem Inv.sY(I:Inv X [] J H s)(p:s.heap.get? x=aj oe/\H x=ao/\x≠X.env.locals/\x∉X.fs/\∀v,oe.data≠.cell v):Inv (X.sY x oe) [] J H s :=
 ⟨I.ok.sY x oe,I.os,I.bare,I.base,I.loc,I.cell,I.free,I.lV,λq j=>by
  have j:q∈(X.pn++[(x,oe)])++[]:=j;rw[pU]at j
  rcases lH.mp j with z|z
  ·exact I.pin q (nX _ z)
  ·rw[lN.mp z];exact p,I.aH,I.len⟩
theorem Inv.uncaught(ok:X.Ok)(I:Inv (X.sY x oe) [] J H s):Inv X [] J H s :=
 ⟨ok,I.os,I.bare,I.base,I.loc,I.cell,I.free,I.lV,λq j=>I.pin q (by
  rw[pU]at j ⊢;exact nX _ j),I.aH,I.len⟩
theorem lZ.pin{cls:aq}{dx:ar aw}{tb:br}(I:Inv X [] J H s)(t:mM X)(e:lZ X.s₀.heap s.heap H x cls dx tb):∃oe vs,oe.cls=cls/\oe.dict=dx/\oe.data=.fields vs/\s.heap.get? x=aj oe/\H x=ao/\x≠X.env.locals/\x∉X.fs/\∀v,oe.data≠.cell v:=by
 obtain⟨_,q,oe,vs,he,B,N,hd,_⟩:=e;have j:=lZ.UD I he hd;exact⟨oe,vs,B,N,hd,he,q,λz=>j (t.mem.mpr (.inl z)),λz=>j (t.mem.mpr (.inr z)),λv z=>by rw[hd]at z;cases z⟩
def amR(K:bj)(x:aw)(cls:aq):ak V->Hp->VK->Prop:=λxs H Q=>∃D,cls=.ref D/\XC K D /\
 ((∃C b,xs=[.ref x,.ref C]/\et K cls (.ref C)=aj b/\Q (.bl b) H)\/(∃T b,xs=[.ref x,.ty T]/\et K cls (.type T)=aj b/\Q (.bl b) H) \/
  ∃(p:aw) (cs:ak aw) (b:br),xs=[.ref x,.ref p]/\H p=aj (.tup (cs.map V.ref))/\kitAny K cls (cs.map Value.ref)=aj b/\Q (.bl b) H)
theorem LQ:∀{cs:ak aw} {us:ak aq},Vals (cs.map V.ref) us->us=cs.map Value.ref
 |[],_,.nil=>rfl
 |_::_,_,.cons r t=>by rw[bU,<-LQ t];congr
theorem aF7(i:(x,oe)∈X.pn):rZ X (.builtin "isinstance") (amR X.K x oe.cls):=by
 intro aa s J H k l Q I r h;obtain⟨D,a,c,h⟩:=h;have he:=(I.pin _ (nX _ i)).1;have Ω:=at0 (x:=x) c a;rw[a]at h
 rcases h with⟨C,b,rfl,e,q⟩|⟨T,b,rfl,e,q⟩|⟨p,cs,b,rfl,N,e,q⟩
 ·obtain⟨u,v,rfl,B,j⟩:=vals2 r;obtain rfl:u=.ref x:=B;obtain rfl:v=.ref C:=j;exact d9 Ω I.fF he e (by intro z;cases z) λtk=>⟨.bl b,H,I.tok tk,rfl,q⟩
 ·obtain⟨u,v,rfl,B,j⟩:=vals2 r;obtain rfl:u=.ref x:=B;obtain rfl:v=.type T:=j;exact d9 Ω I.fF he e (by intro z;cases z) λtk=>⟨.bl b,H,I.tok tk,rfl,q⟩
 ·obtain⟨u,v,rfl,B,j⟩:=vals2 r;obtain rfl:u=.ref x:=B;obtain rfl:v=.ref p:=j;obtain⟨_,y,f,⟨o,U,fR,n,d⟩⟩:=I.aH p _ N;obtain⟨t,m,g,w⟩:=o;simp only at fR d;subst fR d;rw[LQ f]at U;exact PySem.W.kia_tup Ω I.fF he U e (by intro z;cases z) λtk=>⟨.bl b,H,I.tok tk,rfl,q⟩
end
section
variable{M:ei}{A:bu}{E:aq->av->Prop}{h:b8}{g:a8 GenState}{d:Drawn}{t:ay}{os:OsState}{e:aw}{oe:c5}{K:bj}{C D:aw}{b:br}
theorem ae0{Q:br->av->Prop}(z:XC K C)(X:K.In h)(he:h.get? e=aj oe)(U:oe.cls=.ref D)(sb:cj K (.ref D) (.ref C)=aj b)(B:Q b ⟨h,g,d,t,os⟩) :
  wpAny M A (excMatches (.ref e) (.ref C)) Q E ⟨h,g,d,t,os⟩:=by
 obtain⟨l,q,N,bs,s,j,k,sub,u,col,r,p,k1,o,n,m,i⟩:=z.ob;have a:=X _ _ i;have L:=looks_subIn (M:=M) X sb;have c:=looks_subIn (M:=M) X z.be;have f:=tc_notTuple;unfold excMatches
 repeat (first|(with_reducible refine LJ he ?_;rw[U])|with_reducible refine LJ a ?_|with_reducible refine c.at ?_|with_reducible refine L.at ?_|wp_step)
 cases b <;> (wp_walk;exact B)
end
theorem WN{X:Cx}{M:ei}{A:bu}{E:aq->av->Prop}{J:St}{H:Hp}{s:av}{i:ay}{n:ba}{pos:dk}{Q:Unit->av->Prop}(I:Inv X [] J H s)(D:X.N.Nodup)(hi:X.N[i]?=aj n)(hl:X.env.scope.names.lookup n=aj .local)
  (h:∀s',Inv X [] (J.set i ao) H s'->Q () s'):wpAny M A (do bindName X.env n .none;unbindBehindTheSuite X.env n pos) Q E s:=by
 refine aL (wpAny_bindName (SS (v:=.cE) I D hi (.inl hl) rfl (λs1 B=>?_) (.inr hl)));unfold unbindBehindTheSuite;refine wpAny_onRaise ?_;have W:(X.env.scope.kind == .class||(X.env.scope.kind == .module&&X.env.locals != X.env.globals))=au:=by rw[I.ok.kind];rfl
 obtain⟨m,hn,C⟩:=id B.loc;have F:i<J.length:=by rw[I.len];exact(dA.mp hi).1
 have hv:m n=aj .none:=by
  obtain⟨u,L,l⟩:=C i n .cE hi (by rw[fG F]) (.inl hl);obtain rfl:u=Value.none:=L
  rcases l with⟨_,l⟩|⟨k,_⟩
  ·exact l
  ·have BH:X.env.kindOf n=aj .local:=hl
   rcases k with k|k <;> (rw[BH]at k;cases k)
 refine wpAny_unbindName_local hl hn hv W λh' u Hg U=>?_;have vQ:=B.vQ;obtain⟨oL,_,_,wX,_⟩:=id hn;refine h _ ⟨B.ok,B.os,B.bare,⟨λb o e nn hb f=>?_,λb o e nn hb f=>?_,B.base.free,λb o e f=>?_,B.base.oC,B.base.mJ,B.base.nM⟩,⟨_,Hg,λj y G a r V=>?_⟩,λy c e=>?_,B.free,B.lV,λp T=>?_,λb ob e=>?_,by simpa using I.len⟩
 ·exact(U.2 b (fS (lG (dS e) B.ok.above))).trans (B.base.keep b o e nn hb f)
 ·obtain⟨sl,a⟩:=B.base.slot b o e nn hb f;exact⟨sl,(U.2 b (fS (lG (dS e) B.ok.above))).trans a⟩
 ·obtain⟨R,a⟩:=B.base.there b o e f;exact⟨R,(U.2 b (fS (lG (dS e) B.ok.above))).trans a⟩
 ·have t:j≠i:=λz=>by
   subst z;rw[fG F]at r;cases r
  rw[iO (dQ t)]at r;obtain⟨K,P,q⟩:=C j y G a (by rw[iO (dQ t)];exact r) V;refine⟨K,P,?_⟩
  rcases q with⟨k,e⟩|⟨k,c,e,z⟩
  ·refine .inl ⟨k,?_⟩;have:y≠n:=λe=>t (Eu D a (e ▸ hi));simp[this,e]
  ·exact .inr ⟨k,c,e,z.sameBut U (vQ y c e)⟩
 ·obtain⟨x,z⟩:=B.cell y c e;exact⟨x,z.sameBut U (vQ y c e)⟩
 ·obtain⟨e,nn,ne,S,d⟩:=B.pin p T;exact⟨(U.2 p.1 ne).trans e,nn,ne,S,d⟩
 ·refine(B.aH b ob e).nN (λc x g q=>(U.2 c ?_).trans q) (λ_ q=>q) λ_ _ q=>q;rintro rfl;have w:=B.free
  rcases g with rfl|g
  ·rw[w]at e;cases e
  ·rw[w]at g;cases g
def YF(X:Cx)(st:b7)(t:TS):Prop:=∀(s:av) (J:St) (H:Hp) (D:Ends),Inv X [] J H s->t D J H->wpAny (bq X.prog X.w) X.A (exec st X.env) (SP X [] D) X.xe s
def vV(X:Cx)(st:ak b7)(t:TS):Prop:=∀(s:av) (J:St) (H:Hp) (D:Ends),Inv X [] J H s->t D J H->wpAny (bq X.prog X.w) X.A (execs st X.env) (SP X [] D) X.xe s
theorem PS.sI{X:Cx}{st:b7}{t:TS}(h:PS X st t):YF X st t:=h []
theorem oW.sI{X:Cx}{st:ak b7}{t:TS}(h:oW X st t):vV X st t:=h []
theorem an1{X:Cx}{st:b7}{rest:ak b7}{t u:TS}(h1:YF X st t)(h2:vV X rest u):vV X (st::rest) (Be t u):=by
 intro s J H D I h;refine wpAny_execs_cons (bM (h1 s J H {D with nx:=u D} I h) λf z q=>?_);cases f with
 |next =>
  obtain⟨j,N,B,q⟩:=q;exact h2 z j N D B q
 |brk=>exact q
 |cont=>exact q
 |ret u=>exact q
abbrev TH:=aw->aq->ar aw->TS
def PH(X:Cx)(j:ak ExceptHandler)(th:TH):Prop:=∀(s:av) (J:St) (H:Hp) (D:Ends) (x:aw) (cls:aq) (dx:ar aw),Inv X [] J H s->lZ X.s₀.heap s.heap H x cls dx ax->th x cls dx D J H ->
 wpAny (bq X.prog X.w) X.A (handleBy (.ref x) X.env j) (SP X [] D) X.xe s
def Sl:TH:=λ_ _ _ _ _ _=>cp
theorem aoR{X:Cx}:PH X [] Sl:=λ_ _ _ _ _ _ _ _ _ h=>h.elim
noncomputable def Ends.drop(D:Ends)(i:ay):Ends:=⟨λJ H=>D.nx (J.set i ao) H,D.rt,λJ H=>D.bk (J.set i ao) H,λJ H=>D.ct (J.set i ao) H⟩
def tH(K:bj)(C:aw)(i:ay)(ts th:TH):TH:=λx cls dx D J H=>∃E b,cls=.ref E/\cj K (.ref E) (.ref C)=aj b /\
 if b=ax then ts x cls dx (D.drop i) (J.set i (aj (.ref x))) H else th x cls dx D J H
section
variable{X:Cx}{C:aw}{i:ay}{n y:ba}{np pos:dk}{b₀:b7}{suite:ak b7}{rest:ak ExceptHandler}{ts th:TH}
theorem aoS(t:mM X)(c:XC X.K C)(M:Gl X y)(hm:X.mg y=aj (.ref C))(e:X.N.Nodup)(hi:X.N[i]?=aj n)(hl:X.env.scope.names.lookup n=aj .local)(G:∀x oe,oW (X.sY x oe) (b₀::suite) (ts x oe.cls oe.dict))(hr:PH X rest th)
  (R:(y==("__debug__" : ba))=au:=by decide):PH X (.ExceptHandler (aj (.Name y np)) (aj n) (b₀::suite) pos::rest) (tH X.K C i ts th):=by
 intro s J H D x cls S I ex h;obtain⟨E,b,rfl,sb,h⟩:=h;obtain⟨oe,vs,Q,OD,hd,he,L⟩:=ex.pin I t;have V:=I.sY (x:=x) (oe:=oe) ⟨he,L⟩;refine wpAny_handleBy_cons (codeAny_handlers_test (AW (X:=X.sY x oe) (s:=s) V M hm ?_ R)) (by intro q;cases q);obtain⟨hh,g,d,tk,os⟩:=s;refine ae0 c I.fF he Q sb ?_;cases b with
 |false =>
  exact hr _ J H D x _ S I ex (by simpa using h)
 |true =>
  rw[a9 rfl]at h;refine codeAny_handlers_suite_as (WI I t ex λh1 p k=>?_);obtain⟨o,w,A,l,P,T,F⟩:=k.pin p t;have m:=p.sY (x:=x) (oe:=o) ⟨T,F⟩;refine SS (X:=X.sY x o) (v:=.ref x) m e hi (.inl hl) rfl (λs2 W=>?_) (.inr hl);rw[<-A,<-l]at h;refine mU (G x o [] s2 (J.set i (aj (.ref x))) H (D.drop i) W h) (λf s3 q=>?_) λ_ _ z=>False.elim z;cases f with
  |next =>
   obtain⟨j,U,B,q⟩:=q;exact WN (B.uncaught I.ok) e hi hl λs' a=>⟨_,U,a,q⟩
  |brk =>
   obtain⟨j,U,B,q⟩:=q;exact WN (B.uncaught I.ok) e hi hl λs' a=>⟨_,U,a,q⟩
  |cont =>
   obtain⟨j,U,B,q⟩:=q;exact WN (B.uncaught I.ok) e hi hl λs' a=>⟨_,U,a,q⟩
  |ret u =>
   obtain⟨v,j,U,B,r,q⟩:=q;exact WN (B.uncaught I.ok) e hi hl λs' a=>⟨v,_,U,a,r,q⟩
def Sj(tb:WX->TS)(th:TH):TS:=λD J H=>tb (λj cls dx H'=>∀x,H' x=ao->th x cls dx D j H') D J H
theorem an3{U:ExceptHandler}{N:ak ExceptHandler}{body:ak b7}{tb:WX->TS}(t:mM X)(k:X.ex=[])(hb:∀W,vV (X.nK (XE X W)) body (tb W))(hh:PH X (U::N) th):YF X (.Try body (U::N) [] [] pos) (Sj tb th):=by
 intro s J H D I h;refine wpAny_Try_except (mU (hb _ s J H D (I.nK _) h) (λf b q=>?_) λe b q=>?_)
 ·have q:=q.uS;cases f with
  |next =>
   obtain⟨j,B,z,q⟩:=q;exact RU ⟨j,B,z,q⟩
  |brk=>exact q
  |cont=>exact q
  |ret u=>exact q
 ·obtain⟨j,B,x,cls,d,rfl,z,ex,q⟩:=q;refine Et z t ex λh1 i c=>WI i t c λh2 g a=>?_;exact hh _ j B D x cls d g a (q x a.2.1)
end
section
variable{P:bh}{w:bw}{K:bj}{mg:ba->ar aq}{base:b8}
theorem aCF{CX:pB}{k:ay}{f:aw}{name qual:ba}{params:dh}{body:ak b7}{scope:cq}{h kV doc d z ct p:aq}{i od:ar aw}
  {R:a8 (ar aq)} {N ps:ak ba} {sp:Sp} (C:K.lookup f=aj ⟨p,od,.func (ea name qual params body scope h kV doc d i z ct),R⟩) (M:codeIn K z qual=ax) (S:cY N ps scope)
  (len:∀vs H Q E,sp vs H Q E->vs.length=ps.length)
  (L:∀(A:bu) (outer:ak Env) (s:av) (H:Hp) (vs:ak V) (Q:VK) (E:XK),cL k (A.deeper (cy qual scope s.heap.objs.size f z))->sp vs H Q E ->
   ∃t,vV (mL CX P w K mg base N qual scope f z A outer s H E) body t/\t {nx:=λ_ H'=>Q .cE H',rt:=Q} (start N vs) H) :
  jX P w K mg base CX (k+1) f (ea name qual params body scope h kV doc d i z ct) ps sp:=by
 refine⟨len,λA outer s H args m vs Q E hr U hb r g=>?_⟩;have hl:=len _ _ _ _ g;have l:K.In s.heap:=U.mod.sO.keeps λb o e=>(U.bs b o e).1;have lim:s.heap.NoLimit:=U.mod.nolimit.keeps λb o e=>(U.bs b o e).1;have T:∀y∈ps.zip m,scope.names.lookup y.1=aj .local\/(scope.names.lookup y.1=aj .cell/\((cellsFrom (s.heap.objs.size+1) scope.names []).lookup y.1).isSome=ax):=λ⟨n,v⟩ D=>by
  rcases S.par n (YR D).1 with q|q
  ·exact .inl q
  ·exact .inr ⟨q,cellsFrom_some _ _ _ (.inl q)⟩
 refine abZ hr.depth (l _ _ C) rfl S.co S.gen rfl (codeRec_of l M) (hb _ _ _ _ ?_);refine Qq S.kind T λenv he c x=>?_;subst he;refine⟨lim.keeps x.toInCall.keep,codeAny_func ?_⟩;obtain⟨t,F,G⟩:=L A outer s H vs Q E (hr.deeper _) g;have I:Inv (mL CX P w K mg base N qual scope f z A outer s H E) [] (start N vs) H c:=Gf S hr.hd U hl r x;refine mU (F c (start N vs) H _ I G) (λfl s' B=>?_) λe s' B=>B;have fin:∀{j:St} {H':Hp} {v:V} {u:aq},Inv (mL CX P w K mg base N qual scope f z A outer s H E) [] j H' s'->RelV v u->Q v H'->CE outer P w H s Q u s' :=
  λ{j H' v u} σ a q=>⟨v,H',σ.os,σ.bare,σ.base,σ.aH,a,q⟩
 cases fl with
 |ret u =>
  obtain⟨v,j,H',σ,a,q⟩:=B;exact fin σ a q
 |next =>
  obtain⟨j,H',σ,q⟩:=B;exact fin (v:=V.cE) (u:=Value.none) σ rfl q
 |brk =>
  obtain⟨_,_,_,q⟩:=B;exact False.elim q
 |cont =>
  obtain⟨_,_,_,q⟩:=B;exact False.elim q
theorem vV.vA{X:Cx}{st:ak b7}{t:TS}(h:vV X.vA st t):vV X st t:=λs J H D I hw =>
 mU (h s J H D (I.nK _) hw) (λ_ _ q=>q.uS) λ_ _ z=>False.elim z
theorem Def.of0{x:ba}{st:b7}{N ps:ak ba}{k:ay}{sp:Sp}(h:HasFn K mg x st)(S:cY N ps (aR st))
  (bind:∀(kV doc pm:aq) (an:ar aw) (j ct:aq) (us:ak aq),us.length=ps.length->c7 (ea x x (iL st) (eM st) (aR st) .none kV doc pm an j ct) ⟨us,[]⟩=pure (ps.zip us))
  (len:∀vs H Q E,sp vs H Q E->vs.length=ps.length)
  (U:∀(f:aw) (j:aq) (A:bu) (outer:ak Env) (s:av) (H:Hp) (vs:ak V) (Q:VK) (E:XK),cL k (A.deeper (cy x (aR st) s.heap.objs.size f j))->sp vs H Q E ->
   ∃t,vV (mL xY P w K mg base N x (aR st) f j A outer s H E).vA (eM st) t/\t {nx:=λ_ H'=>Q .cE H',rt:=Q} (start N vs) H):Def P w K mg base x (k+1) ps sp:=by
 obtain⟨f,fd,hm,F⟩:=h.ex;refine⟨f,fd,?_,hm,F.kp,F.binds bind⟩;obtain⟨c,b,kV,doc,pm,an,j,ct,d,rfl,z,a⟩:=F.ex;refine aCF z a S len λA outer s H vs Q E hr B=>?_;obtain⟨t,h,q⟩:=U f j A outer s H vs Q E hr B;exact⟨t,h.vA,q⟩
end
noncomputable def Fs(scope sc:cq)(N:ak ba)(js:ak ay):br :=
 scope.kind == .function&&(scope.names.all λy=>y.2 != .cell&&(y.2 != .local||scope.names.lookup y.1==aj .local)&&(y.2 != .free||(sc.names.lookup y.1==aj .cell||sc.names.lookup y.1==aj .free))) &&
 js.all λj=>match N[j]? with
  |some x=>scope.names.lookup x==aj .free
  |none=>au
theorem CM.of{X:Cx}{scope:cq}{ls:ak ba}{js:ak ay}(sc:cq)(N:ak ba)(c:X.env.scope=sc)(b:X.N=N)(ok:Fs scope sc N js=ax):CM X scope ls js:=by
 unfold Fs at ok;rw[mB,mB]at ok;obtain⟨⟨h1,h2⟩,U⟩:=ok;rw[FV]at h2 U;refine⟨by simpa using h1,λy z=>?_,λy z hl=>?_,λy z hf=>?_,λj a=>?_⟩
 ·have q:=h2 y z;rw[mB,mB]at q;simpa using q.1.1
 ·have q:=h2 y z;rw[mB,mB]at q;simpa[hl]using q.1.2
 ·have q:=h2 y z;rw[mB,mB]at q;have B:=q.2;rw[hf]at B;unfold Env.kindOf;rw[c];simpa using B
 ·have q:=U j a;rw[b];cases e:N[j]? with
  |none=>rw[e]at q;cases q
  |some x=>rw[e]at q;exact⟨x,rfl,by simpa using q⟩
end L2
namespace PyProof.Rows
open PySem
noncomputable def qK:br->bb->a8 bb->ay->ay->ay->da bo Sem (ar ay):=sortPriv% PySem.Builtin.gallop
noncomputable def AM:ay->da bo Sem Unit:=sortPriv% PySem.Builtin.setMinGallop
noncomputable def NB:a8 bb->a8 bb->da bo Sem (a8 bb):=sortPriv% PySem.Builtin.mergeLo
noncomputable def NC:a8 bb->a8 bb->da bo Sem (a8 bb):=sortPriv% PySem.Builtin.mergeHi
def iM(M:ei)(A:bu)(E:aq->av->Prop)(s:av)(kd:dw)(P:bb->Prop)(rk:bb->a5):Prop :=
 ∀x y,P x->P y->∀(st:bo) (Q:ar br->bo->Prop),kindOf st=kd->Q (aj (decide (rk x<rk y))) st->wpS M A E s (lt' x y) Q st
theorem aBO(left:br)(key:bb)(arr:a8 bb)(base n ag:ay):qK left key arr base n ag=(do
 let beyond (i:ay):da bo Sem (ar br):=do
  let x<-cv arr (base+i)
  if left then lt' x key else return (<-lt' key x).map (!·)
 let mut sN:=0
 let mut iU:=1
 let mut lo:=0
 let mut hi:=0
 let aj right<-beyond ag|return ao
 if right then
  let j:=n-ag
  for _ in [0:n] do
   if iU>=j then break
   let aj more<-beyond (ag+iU)|return ao
   if !more then break
   sN:=iU
   iU:=2*iU+1
  lo:=ag+sN+1
  hi:=ag+min iU j
 else
  let j:=ag+1
  for _ in [0:n] do
   if iU>=j then break
   let aj found<-beyond (ag-iU)|return ao
   if found then break
   sN:=iU
   iU:=2*iU+1
  lo:=ag+1-min iU j
  hi:=ag-sN
 for _ in [0:n] do
  if lo>=hi then break
  let m:=lo+(hi-lo)/2
  let aj more<-beyond m|return ao
  if more then lo:=m+1 else hi:=m
 return aj hi):=rfl
section
variable{M:ei}{A:bu}{E:aq->av->Prop}{s:av}{kd:dw}{P:bb->Prop}{rk:bb->a5}
theorem afP(hL:iM M A E s kd P rk){st:bo}(q:kindOf st=kd){left:br}{key:bb}{arr:a8 bb}{base i:ay}{x:bb}(j:P key)(B:arr[base+i]?=aj x)(z:P x){Q:ar br->bo->Prop}
  (h:Q (aj (if left then decide (rk x<rk key)else !decide (rk key<rk x))) st):wpS M A E s (do
  let x<-cv arr (base+i)
  if left then lt' x key else return (<-lt' key x).map (!·)) Q st:=by
 have e:cv arr (base+i)=pure x:=by rw[elem'_eq,B]
 rw[e,pure_bind];cases left with
 |true=>exact hL x key z j st Q q h
 |false=>exact bJ (hL key x j z st _ q (dB h))
noncomputable def aa5(left:br)(key:bb)(arr:a8 bb)(base n j q:ay):da bo Sem (ar ay):=do
 let beyond (i:ay):da bo Sem (ar br):=do
  let x<-cv arr (base+i)
  if left then lt' x key else return (<-lt' key x).map (!·)
 let mut lo:=j
 let mut hi:=q
 for _ in [0:n] do
  if lo>=hi then break
  let m:=lo+(hi-lo)/2
  let aj more<-beyond m|return ao
  if more then lo:=m+1 else hi:=m
 return aj hi
theorem Qm{st:bo}{left:br}{key:bb}{arr:a8 bb}{base n:ay}(q:ay->br)
  (t:∀i,i<n->∀{Q:ar br->bo->Prop},Q (aj (q i)) st->wpS M A E s (do
  let x<-cv arr (base+i)
  if left then lt' x key else return (<-lt' key x).map (!·)) Q st) (mono:∀i j,i<=j->j<n->q j=ax->q i=ax) {Q:ar ay->bo->Prop}
  (h:∀k,k<=n->(∀i,i<k->q i=ax)->(∀i,k<=i->i<n->q i=au)->Q (aj k) st) {lo hi:ay} (h1:lo<=hi) (h2:hi<=n) (o:∀i,i<lo->q i=ax) (m:∀i,hi<=i->i<n->q i=au) :
  wpS M A E s (aa5 left key arr base n lo hi) Q st:=by
 unfold aa5;dsimp only;refine bJ (nZ (pX
  (I:=λi (c:ar (ar ay)×ay×ay) z=>z=st/\c.1=ao/\c.2.1<=c.2.2/\c.2.2<=n/\(∀i,i<c.2.1->q i=ax)/\(∀i,c.2.2<=i->i<n->q i=au)/\c.2.2-c.2.1<=n-i)
  (Q:=λ(c:ar (ar ay)×ay×ay) z=>z=st/\c.1=ao/\c.2.1=c.2.2/\c.2.2<=n/\(∀i,i<c.2.1->q i=ax)/\(∀i,c.2.2<=i->i<n->q i=au)) ?step ?fin ⟨rfl,rfl,h1,h2,o,m,by dsimp only;omega⟩) ?post)
 case fin =>
  rintro⟨r,lo,hi⟩ z ⟨e,b,f,U,N,B,p⟩;dsimp only at *;exact⟨e,b,by omega,U,N,B⟩
 case step =>
  rintro i ⟨r,lo,hi⟩ z _ u ⟨rfl,b,f,U,N,B,p⟩;dsimp only at *
  by_cases g:lo>=hi
  ·rw[a9 g];exact dj ⟨rfl,rfl,by dsimp only;omega,U,N,B⟩
  ·rw[bf g];refine bJ (t (lo+(hi-lo)/2) (by omega) ?_);dsimp only;cases hm:q (lo+(hi-lo)/2)with
   |true =>
    simp only[jP];refine dj ⟨rfl,rfl,by dsimp only;omega,U,λj a=>mono j _ (by dsimp only at a;omega) (by omega) hm,B,by dsimp only;omega⟩
   |false =>
    simp only[kZ,iJ];refine dj ⟨rfl,rfl,by dsimp only;omega,by dsimp only;omega,N,λj a l=>?_,by dsimp only;omega⟩;dsimp only at a;cases d:q j with
    |false=>rfl
    |true=>rw[mono _ j a l d]at hm;cases hm
 case post =>
  rintro⟨r,lo,hi⟩ z ⟨rfl,b,f,U,N,B⟩;dsimp only at *;subst b;exact dB (h hi U (by rw[<-f];exact N) B)
theorem Qk(hL:iM M A E s kd P rk){st:bo}(y:kindOf st=kd){left:br}{key:bb}{arr:a8 bb}{base n ag:ay}(v:P key)(o:∀i,i<n->∃x,arr[base+i]?=aj x/\P x)(hh:ag<n)(B:ay->br)
  (hb:∀i x,i<n->arr[base+i]?=aj x->B i=if left then decide (rk x<rk key)else !decide (rk key<rk x)) (mono:∀i j,i<=j->j<n->B j=ax->B i=ax) {Q:ar ay->bo->Prop}
  (h:∀k,k<=n->(∀i,i<k->B i=ax)->(∀i,k<=i->i<n->B i=au)->Q (aj k) st):wpS M A E s (qK left key arr base n ag) Q st:=by
 have m:∀i,i<n->∀{Q:ar br->bo->Prop},Q (aj (B i)) st->wpS M A E s (do
  let x<-cv arr (base+i)
  if left then lt' x key else return (<-lt' key x).map (!·)) Q st:=λi hi Q q=>by
  obtain⟨x,u,w⟩:=o i hi;rw[hb i x hi u]at q;exact afP hL y v u w q
 rw[aBO];dsimp only;refine bJ (m ag hh ?_);dsimp only;cases l:B ag with
 |true =>
  simp only[jP];refine bJ (nZ (pX
   (I:=λi (c:ar (ar ay)×ay×ay) U=>U=st/\c.1=ao/\B (ag+c.2.1)=ax/\c.2.1<c.2.2/\i+1<=c.2.2/\ag+c.2.1<n)
   (Q:=λ(c:ar (ar ay)×ay×ay) U=>U=st/\c.1=ao/\B (ag+c.2.1)=ax/\c.2.1<c.2.2/\ag+c.2.1<n/\(n-ag<=c.2.2\/B (ag+c.2.2)=au)) ?step ?fin (show _/\_/\B (ag+0)=ax/\(0:ay)<1/\0+1<=(1:ay)/\ag+0<n from⟨rfl,rfl,l,by decide,by decide,hh⟩)) ?post)
  case fin =>
   rintro⟨r,sN,iU⟩ U ⟨e,d,N,b,t,a⟩;dsimp only at *;exact⟨e,d,N,b,a,.inl (by omega)⟩
  case step =>
   rintro i ⟨r,sN,iU⟩ U _ g ⟨rfl,d,N,b,t,a⟩;dsimp only at *
   by_cases f:iU>=n-ag
   ·rw[a9 f];exact dB ⟨rfl,rfl,N,b,a,.inl f⟩
   ·rw[bf f];refine bJ (m (ag+iU) (by omega) ?_);dsimp only;cases hm:B (ag+iU)with
    |true =>
     simp only[Bool.not_true,kZ,iJ];exact dj ⟨rfl,rfl,hm,by dsimp only;omega,by dsimp only;omega,by dsimp only;omega⟩
    |false =>
     simp only[Bool.not_false,jP];exact dB ⟨rfl,rfl,N,b,a,.inr hm⟩
  case post =>
   rintro⟨r,sN,iU⟩ U ⟨rfl,d,N,b,a,p⟩;dsimp only at *;subst d;refine Qm (lo:=ag+sN+1) (hi:=ag+min iU (n-ag)) B (λi hi=>m i hi) mono h (by omega) (by omega) (λi hi=>mono i (ag+sN) (by omega) (by omega) N) (λi hi g=>?_)
   rcases p with z|z
   ·omega
   ·cases VU:B i with
    |false=>rfl
    |true =>
     by_cases hle:ag+iU<=i
     ·rw[mono _ i hle g VU]at z;cases z
     ·omega
 |false =>
  simp only[kZ,iJ];refine bJ (nZ (pX
   (I:=λi (c:ar (ar ay)×ay×ay) U=>U=st/\c.1=ao/\B (ag-c.2.1)=au/\c.2.1<c.2.2/\i+1<=c.2.2/\c.2.1<=ag)
   (Q:=λ(c:ar (ar ay)×ay×ay) U=>U=st/\c.1=ao/\B (ag-c.2.1)=au/\c.2.1<c.2.2/\c.2.1<=ag/\(ag+1<=c.2.2\/(c.2.2<=ag/\B (ag-c.2.2)=ax))) ?step ?fin (show _/\_/\B (ag-0)=au/\(0:ay)<1/\0+1<=(1:ay)/\0<=ag from⟨rfl,rfl,l,by decide,by decide,CG _⟩)) ?post)
  case fin =>
   rintro⟨r,sN,iU⟩ U ⟨e,d,N,b,t,a⟩;dsimp only at *;exact⟨e,d,N,b,a,.inl (by omega)⟩
  case step =>
   rintro i ⟨r,sN,iU⟩ U _ g ⟨rfl,d,N,b,t,a⟩;dsimp only at *
   by_cases f:iU>=ag+1
   ·rw[a9 f];exact dB ⟨rfl,rfl,N,b,a,.inl f⟩
   ·rw[bf f];refine bJ (m (ag-iU) (by omega) ?_);dsimp only;cases hm:B (ag-iU)with
    |true =>
     simp only[jP];exact dj ⟨rfl,rfl,N,b,a,.inr ⟨by dsimp only;omega,hm⟩⟩
    |false =>
     simp only[kZ,iJ];exact dj ⟨rfl,rfl,hm,by dsimp only;omega,by dsimp only;omega,by dsimp only;omega⟩
  case post =>
   rintro⟨r,sN,iU⟩ U ⟨rfl,d,N,b,a,p⟩;dsimp only at *;subst d;refine Qm (lo:=ag+1-min iU (ag+1)) (hi:=ag-sN) B (λi hi=>m i hi) mono h (by omega) (by omega) (λi hi=>?_) (λi hi g=>?_)
   ·rcases p with z|⟨C,z⟩
    ·omega
    ·exact mono i (ag-iU) (by omega) (by omega) z
   ·cases VU:B i with
    |false=>rfl
    |true=>rw[mono _ i hi g VU]at N;cases N
end
theorem asR(a b:a8 bb):NB a b=(do
 rule "list.sort.merge-lo"
 let ai:=a.size+b.size
 let done (ae:a8 bb) (ia ib:ay):=ae++a.extract ia a.size++b.extract ib b.size
 let j (ae:a8 bb) (ia ib:ay):=ae++b.extract ib b.size++a.extract ia a.size
 let mut ae:a8 bb:=#[<-cv b 0]
 let mut ia:=0
 let mut ib:=1
 if ib==b.size then return done ae ia ib
 if ia+1==a.size then return j ae ia ib
 let mut ah:=gallopOf (<-get)
 for _ in [0:ai] do
  let mut tD:=0
  let mut sZ:=0
  for _ in [0:ai] do
   let aj q<-lt' (<-cv b ib) (<-cv a ia)|return done ae ia ib
   if q then
    ae:=ae.push (<-cv b ib);ib:=ib+1;sZ:=sZ+1;tD:=0
    if ib==b.size then return done ae ia ib
    if sZ>=ah then break
   else
    ae:=ae.push (<-cv a ia);ia:=ia+1;tD:=tD+1;sZ:=0
    if ia+1==a.size then return j ae ia ib
    if tD>=ah then break
  rule "list.sort.gallop"
  ah:=ah+1
  for _ in [0:ai] do
   if ah>1 then ah:=ah-1
   AM ah
   let aj k<-qK au (<-cv b ib) a ia (a.size-ia) 0|return done ae ia ib
   tD:=k
   if k>0 then
    ae:=ae++a.extract ia (ia+k);ia:=ia+k
    if ia+1==a.size then return j ae ia ib
    if ia==a.size then return done ae ia ib
   ae:=ae.push (<-cv b ib);ib:=ib+1
   if ib==b.size then return done ae ia ib
   let aj k<-qK ax (<-cv a ia) b ib (b.size-ib) 0|return done ae ia ib
   sZ:=k
   if k>0 then
    ae:=ae++b.extract ib (ib+k);ib:=ib+k
    if ib==b.size then return done ae ia ib
   ae:=ae.push (<-cv a ia);ia:=ia+1
   if ia+1==a.size then return j ae ia ib
   if tD<7&&sZ<7 then break
  ah:=ah+1
  AM ah
 unsupported "internal:list.sort.merge-bound"):=rfl
section
variable{α:Type}{rk:α->a5}{al bl ae:ak α}{ia ib:ay}
abbrev dH(rk:α->a5)(l:ak α):Prop:=l.Pairwise λx y=>rk x<=rk y
structure MI(rk:α->a5)(al bl ae:ak α)(ia ib:ay):Prop where
 la:ia<=al.length
 lb:ib<=bl.length
 perm:ae.Perm (al.take ia++bl.take ib)
 AK:dH rk ae
 low:∀x∈ae,∀y∈al.drop ia++bl.drop ib,rk x<=rk y
theorem MI.TQ(h:MI rk al bl ae ia ib){y:α}(U:bl[ib]?=aj y)(sb:dH rk bl)(ha:∀x∈al.drop ia,rk y<=rk x):MI rk al bl (ae++[y]) ia (ib+1):=by
 have b:ib<bl.length:=(dA.mp U).1;have c:bl[ib]=y:=(dA.mp U).2;have ed:bl.drop ib=y::bl.drop (ib+1):=by rw[vZ b,c]
 have e:bl.take (ib+1)=bl.take ib++[y]:=by rw[ad2,U];rfl
 refine⟨h.la,b,?_,?_,λx a z B=>?_⟩
 ·rw[e,<-jW];exact h.perm.append_right [y]
 ·refine uG.mpr ⟨h.AK,by simp,λx a z B=>?_⟩;simp only[lN]at B;subst B;exact h.low x a z (by rw[ed];simp)
 ·have N:z∈al.drop ia++bl.drop ib:=by
   rw[ed]
   rcases lH.mp B with q|q
   ·exact nX _ q
   ·exact lO _ (fY _ q)
  rcases lH.mp a with q|q
  ·exact h.low x q z N
  ·simp only[lN]at q;subst q
   rcases lH.mp B with q|q
   ·exact ha z q
   ·have:=(List.pairwise_iff_getElem (R:=λx y=>rk x<=rk y)).mp sb;obtain⟨j,d,rfl⟩:=CL q;rw[Nj];rw[<-c];exact this ib (ib+1+j) b (by simp at d;omega) (by omega)
theorem MI.swap(h:MI rk al bl ae ia ib):MI rk bl al ae ib ia :=
 ⟨h.lb,h.la,h.perm.trans FQ,h.AK,λx z y j=>h.low x z y (by
  rcases lH.mp j with q|q
  ·exact lO _ q
  ·exact nX _ q)⟩
theorem MI.HQ(h:MI rk al bl ae ia ib){x:α}(j:al[ia]?=aj x)(sa:dH rk al)(hb:∀y∈bl.drop ib,rk x<=rk y):MI rk al bl (ae++[x]) (ia+1) ib:=(h.swap.TQ j sa hb).swap
theorem MI.HJ(h:MI rk al bl ae ia ib)(sa:dH rk al):∀k,ia+k<=al.length->(∀j x,j<k->al[ia+j]?=aj x->∀y∈bl.drop ib,rk x<=rk y)->MI rk al bl (ae++(al.drop ia).take k) (ia+k) ib
 |0,_,_=>by simpa using h
 |k+1,z,hb=>by
  have ih:=h.HJ sa k (by omega) λj x B=>hb j x (by omega);have q:al[ia+k]?=aj (al[ia+k]'(by omega)):=fL _;have e:(al.drop ia).take (k+1)=(al.drop ia).take k++[al[ia+k]'(by omega)]:=by
   rw[ad2,ad6,q];rfl
  rw[e,<-jW];exact ih.HQ q sa (hb k _ (by omega) q)
theorem MI.ak1(h:MI rk al bl ae ia ib)(sb:dH rk bl)(k:ay)(q:ib+k<=bl.length)(ha:∀j y,j<k->bl[ib+j]?=aj y->∀x∈al.drop ia,rk y<=rk x):MI rk al bl (ae++(bl.drop ib).take k) ia (ib+k):=(h.swap.HJ sb k q ha).swap
theorem MI.EX(h:MI rk al bl ae ia ib)(sa:dH rk al)(he:ib=bl.length):(ae++al.drop ia++bl.drop ib).Perm (al++bl)/\dH rk (ae++al.drop ia++bl.drop ib):=by
 subst he;have e:bl.drop bl.length=[]:=KD;rw[e,pU];have p:=h.perm;rw[List.take_length]at p;refine⟨?_,uG.mpr ⟨h.AK,sa.sublist (List.drop_sublist _ _),λx z y j=>h.low x z y (nX _ j)⟩⟩;have q:(al.take ia++bl++al.drop ia).Perm (al++bl):=by
  have:(al.take ia++bl++al.drop ia).Perm (al.take ia++al.drop ia++bl):=by
   rw[jW,jW];exact KG _ FQ
  rwa[xS]at this
 exact(p.append_right _).trans q
theorem MI.UT(h:MI rk al bl ae ia ib)(sb:dH rk bl)(he:ia+1=al.length)(hl:∀x∈al.drop ia,∀y∈bl,rk y<=rk x):(ae++bl.drop ib++al.drop ia).Perm (al++bl)/\dH rk (ae++bl.drop ib++al.drop ia):=by
 constructor
 ·have p:=h.perm;have q:(al.take ia++bl.take ib++(bl.drop ib++al.drop ia)).Perm (al++bl):=by
   have N:al.take ia++bl.take ib++(bl.drop ib++al.drop ia)=al.take ia++(bl.take ib++bl.drop ib++al.drop ia):=by simp only[jW]
   rw[N,xS];have:(al.take ia++(bl++al.drop ia)).Perm (al.take ia++(al.drop ia++bl)):=KG _ FQ;rwa[<-jW (al.take ia) (al.drop ia),xS]at this
  rw[jW];exact(p.append_right _).trans q
 ·refine uG.mpr ⟨uG.mpr ⟨h.AK,sb.sublist (List.drop_sublist _ _),λx B y j=>h.low x B y (lO _ j)⟩,?_,λx B y j=>?_⟩
  ·have e:(al.drop ia).length=1:=by simp;omega
   match hd:al.drop ia,e with
   |[z],_=>simp
  ·rcases lH.mp B with q|q
   ·exact h.low x q y (nX _ j)
   ·exact hl y j x (List.mem_of_mem_drop q)
end
section
variable{M:ei}{A:bu}{E:aq->av->Prop}{s:av}
theorem lJ{arr:a8 bb}{i:ay}{x:bb}{st:bo}{Q:bb->bo->Prop}(h:arr[i]?=aj x)(q:Q x st):wpS M A E s (cv arr i) Q st:=by
 rw[elem'_eq,h];exact dB q
theorem akU(g:ay):AM g=modify λs=>SortSt.mk' (kindOf s) (bp s) (cb s) g (dy s):=rfl
structure eX(st aJ:bo):Prop where
 kind:kindOf aJ=kindOf st
 arr:bp aJ=bp st
 pend:cb aJ=cb st
 failed:dy aJ=dy st
theorem eX.refl(st:bo):eX st st:=⟨rfl,rfl,rfl,rfl⟩
theorem RR{g:ay}{st:bo}{Q:Unit->bo->Prop}(h:∀j,eX st j->Q () j):wpS M A E s (AM g) Q st:=by
 rw[akU];exact GL (h _ ⟨rfl,rfl,rfl,rfl⟩)
theorem eX.trans{a b c:bo}(h:eX a b)(k:eX b c):eX a c:=⟨k.kind.trans h.kind,k.arr.trans h.arr,k.pend.trans h.pend,k.failed.trans h.failed⟩
end
theorem zH(ae a b:a8 bb)(ia ib:ay):(ae++a.extract ia a.size++b.extract ib b.size).toList=ae.toList++a.toList.drop ia++b.toList.drop ib:=by
 simp[ZQ,Nd]
theorem Tt(a:a8 bb)(i k:ay):(a.extract i (i+k)).toList=(a.toList.drop i).take k:=by
 simp[ZQ]
abbrev YO:=ar (a8 bb)×a8 bb×ay×ay×ay×ay
noncomputable def Fj(a b:a8 bb)(mg:ay)(z:a8 bb)(j q:ay):da bo Sem YO :=
 forIn [0:a.size+b.size] ((ao,z,j,q,0,0):YO) λ_ c=>do
  let y<-cv b c.2.2.2.1
  let x<-cv a c.2.2.1
  let r<-lt' y x
  match r with
  |some B =>
   if B=ax then do
    let y<-cv b c.2.2.2.1
    if(c.2.2.2.1+1==b.size)=ax then pure (ForInStep.done (aj (c.2.1.push y++a.extract c.2.2.1 a.size++b.extract (c.2.2.2.1+1) b.size),c.2.1.push y,c.2.2.1,c.2.2.2.1+1,0,c.2.2.2.2.2+1))
    else if c.2.2.2.2.2+1>=mg then pure (ForInStep.done (ao,c.2.1.push y,c.2.2.1,c.2.2.2.1+1,0,c.2.2.2.2.2+1))
    else pure (ForInStep.yield (ao,c.2.1.push y,c.2.2.1,c.2.2.2.1+1,0,c.2.2.2.2.2+1))
   else do
    let x<-cv a c.2.2.1
    if(c.2.2.1+1+1==a.size)=ax then pure (ForInStep.done (aj (c.2.1.push x++b.extract c.2.2.2.1 b.size++a.extract (c.2.2.1+1) a.size),c.2.1.push x,c.2.2.1+1,c.2.2.2.1,c.2.2.2.2.1+1,0))
    else if c.2.2.2.2.1+1>=mg then pure (ForInStep.done (ao,c.2.1.push x,c.2.2.1+1,c.2.2.2.1,c.2.2.2.2.1+1,0))
    else pure (ForInStep.yield (ao,c.2.1.push x,c.2.2.1+1,c.2.2.2.1,c.2.2.2.2.1+1,0))
  |_=>pure (ForInStep.done (aj (c.2.1++a.extract c.2.2.1 a.size++b.extract c.2.2.2.1 b.size),c.2.1,c.2.2.1,c.2.2.2.1,c.2.2.2.2.1,c.2.2.2.2.2))
structure FK(P:bb->Prop)(rk:bb->a5)(a b:a8 bb):Prop where
 pa:∀x∈a.toList,P x
 pb:∀x∈b.toList,P x
 sa:dH rk a.toList
 sb:dH rk b.toList
 top:∀x∈a.toList.drop (a.size-1),∀y∈b.toList,rk y<=rk x
def jK(rk:bb->a5)(a b m:a8 bb):Prop:=m.toList.Perm (a.toList++b.toList)/\dH rk m.toList
section
variable{M:ei}{A:bu}{E:aq->av->Prop}{s:av}{kd:dw}{P:bb->Prop}{rk:bb->a5}{a b:a8 bb}
theorem HH{l:ak bb}(h:dH rk l){i:ay}{x:bb}(q:l[i]?=aj x):∀z∈l.drop i,rk x<=rk z:=λz B=>by
 have hi:i<l.length:=(dA.mp q).1;have ex:l[i]=x:=(dA.mp q).2;obtain⟨j,N,rfl⟩:=CL B;rw[Nj,<-ex]
 by_cases U:j=0
 ·subst U;exact lY _
 ·exact(List.pairwise_iff_getElem (R:=λx y=>rk x<=rk y)).mp h i (i+j) hi (by simp at N;omega) (by omega)
theorem afG(hL:iM M A E s kd P rk)(T:FK P rk a b){st:bo}(D:kindOf st=kd){mg:ay}{v:a8 bb}{B N:ay}(F:MI rk a.toList b.toList v.toList B N)(h1:B+1<a.size)(h2:N<b.size){Q:YO->bo->Prop}
  (hr:∀m o i j x y,jK rk a b m->Q (aj m,o,i,j,x,y) st)
  (hn:∀ae ia ib x y,MI rk a.toList b.toList ae.toList ia ib->ia+1<a.size->ib<b.size->B+N<=ia+ib->Q (ao,ae,ia,ib,x,y) st):wpS M A E s (Fj a b mg v B N) Q st:=by
 unfold Fj;refine pX (I:=λ_ (c:YO) h=>h=st/\c.1=ao/\MI rk a.toList b.toList c.2.1.toList c.2.2.1 c.2.2.2.1/\c.2.2.1+1<a.size/\c.2.2.2.1<b.size/\B+N<=c.2.2.1+c.2.2.2.1) ?step ?fin ⟨rfl,rfl,F,h1,h2,oX _⟩
 case fin =>
  rintro⟨r,ae,ia,ib,x,y⟩ h ⟨rfl,u,l,k,d,C⟩;dsimp only at *;subst u;exact hn ae ia ib x y l k d C
 case step =>
  rintro i ⟨r,ae,ia,ib,H,G⟩ h _ K ⟨rfl,u,l,k,d,C⟩;dsimp only at *;subst u;have e:b[ib]?=aj b[ib]:=oR b ib d;have f:a[ia]?=aj (a[ia]'(by omega)):=oR a ia (by omega);generalize b[ib]=y at e;generalize a[ia]'(by omega)=x at f;have p:b.toList[ib]?=aj y:=by rw[mS];exact e
  have n:a.toList[ia]?=aj x:=by rw[mS];exact f
  refine bJ (lJ e (bJ (lJ f (bJ (hL y x (T.pb y (mQ p)) (T.pa x (mQ n)) h _ D ?_)))));dsimp only
  by_cases w:rk y<rk x
  ·rw[vO w,a9 rfl];refine bJ (lJ e ?_);have q:=l.TQ p T.sb λz t=>by have:=HH T.sa n z t;omega
   rw[<-GK]at q
   by_cases he:ib+1=b.size
   ·rw[a9 (by simpa using he)];refine dB (hr _ _ _ _ _ _ ?_);have g:=q.EX T.sa (by simpa using he);unfold jK;rw[zH];exact g
   ·rw[bf (by simpa using he)]
    by_cases U:G+1>=mg
    ·rw[a9 U];exact dB (hn _ _ _ _ _ q k (by omega) (by omega))
    ·rw[bf U];exact dj ⟨rfl,rfl,q,k,by dsimp only;omega,by dsimp only;omega⟩
  ·rw[nT w,bf (by simp)];refine bJ (lJ f ?_);have q:=l.HQ n T.sa λz t=>by have:=HH T.sb p z t;omega
   rw[<-GK]at q
   by_cases he:ia+1+1=a.size
   ·rw[a9 (by simpa using he)];refine dB (hr _ _ _ _ _ _ ?_);have g:=q.UT T.sb (by simpa using he) (by rw[show ia+1=a.size-1 by omega];exact T.top);unfold jK;rw[zH];exact g
   ·rw[bf (by simpa using he)]
    by_cases U:H+1>=mg
    ·rw[a9 U];exact dB (hn _ _ _ _ _ q (by omega) d (by omega))
    ·rw[bf U];exact dj ⟨rfl,rfl,q,by dsimp only;omega,d,by dsimp only;omega⟩
end
abbrev xR:=ar (a8 bb)×a8 bb×ay×ay×ay×ay×ay
noncomputable def UL(a b:a8 bb)(ae:a8 bb)(ia ib mg q j:ay):da bo Sem (d7 xR):=do
 let x<-cv a ia
 if(ia+1+1==a.size)=ax then pure (ForInStep.done (aj (ae.push x++b.extract ib b.size++a.extract (ia+1) a.size),ae.push x,ia+1,ib,mg,q,j))
 else if(decide (q<7)&&decide (j<7))=ax then pure (ForInStep.done (ao,ae.push x,ia+1,ib,mg,q,j))
 else pure (ForInStep.yield (ao,ae.push x,ia+1,ib,mg,q,j))
def Fl(a b:a8 bb)(ae:a8 bb)(ia ib mg j q:ay):da bo Sem (d7 xR):=do
 let x<-cv a ia
 let r<-qK ax x b ib (b.size-ib) 0
 match r with
 |some k =>
  if k>0 then
   if(ib+k==b.size)=ax then pure (ForInStep.done (aj (ae++b.extract ib (ib+k)++a.extract ia a.size++b.extract (ib+k) b.size),ae++b.extract ib (ib+k),ia,ib+k,mg,j,k))
   else UL a b (ae++b.extract ib (ib+k)) ia (ib+k) mg j k
  else UL a b ae ia ib mg j k
 |_=>pure (ForInStep.done (aj (ae++a.extract ia a.size++b.extract ib b.size),ae,ia,ib,mg,j,q))
def UM(a b:a8 bb)(ae:a8 bb)(ia ib mg q j:ay):da bo Sem (d7 xR):=do
 let y<-cv b ib
 if(ib+1==b.size)=ax then pure (ForInStep.done (aj (ae.push y++a.extract ia a.size++b.extract (ib+1) b.size),ae.push y,ia,ib+1,mg,q,j))
 else Fl a b (ae.push y) ia (ib+1) mg q j
def dE(a b:a8 bb)(ae:a8 bb)(ia ib mg q j:ay):da bo Sem (d7 xR):=do
 AM mg
 let y<-cv b ib
 let r<-qK au y a ia (a.size-ia) 0
 match r with
 |some k =>
  if k>0 then
   if(ia+k+1==a.size)=ax then pure (ForInStep.done (aj (ae++a.extract ia (ia+k)++b.extract ib b.size++a.extract (ia+k) a.size),ae++a.extract ia (ia+k),ia+k,ib,mg,k,j))
   else if(ia+k==a.size)=ax then pure (ForInStep.done (aj (ae++a.extract ia (ia+k)++a.extract (ia+k) a.size++b.extract ib b.size),ae++a.extract ia (ia+k),ia+k,ib,mg,k,j))
   else UM a b (ae++a.extract ia (ia+k)) (ia+k) ib mg k j
  else UM a b ae ia ib mg k j
 |_=>pure (ForInStep.done (aj (ae++a.extract ia a.size++b.extract ib b.size),ae,ia,ib,mg,q,j))
section
variable{M:ei}{A:bu}{E:aq->av->Prop}{s:av}{kd:dw}{P:bb->Prop}{rk:bb->a5}{a b:a8 bb}
def CI(rk:bb->a5)(a b:a8 bb)(lo:ay)(st:bo)(r:d7 xR)(j:bo):Prop:=eX st j/\(match r with
 |.done c=>(∃m,c.1=aj m/\jK rk a b m)\/(c.1=ao/\MI rk a.toList b.toList c.2.1.toList c.2.2.1 c.2.2.2.1/\c.2.2.1+1<a.size/\c.2.2.2.1<b.size/\lo<=c.2.2.1+c.2.2.2.1)
 | .yield c=>c.1=ao/\MI rk a.toList b.toList c.2.1.toList c.2.2.1 c.2.2.2.1/\c.2.2.1+1<a.size/\c.2.2.2.1<b.size/\lo<=c.2.2.1+c.2.2.2.1)
theorem nV{a:a8 bb}{i:ay}(h:i<a.size):∃x,a[i]?=aj x/\a.toList[i]?=aj x/\x∈a.toList:=by
 refine⟨a[i],oR a i h,?_,?_⟩
 ·rw[mS];exact oR a i h
 ·exact Array.getElem_mem_toList h
theorem Qg(T:FK P rk a b){st:bo}{ae:a8 bb}{ia ib mg c U lo:ay}(h:MI rk a.toList b.toList ae.toList ia ib)(h1:ia+1<a.size)(h2:ib<b.size)(N:∀x,a.toList[ia]?=aj x->∀z∈b.toList.drop ib,rk x<=rk z)(d:lo<=ia+ib+1) :
  wpS M A E s (UL a b ae ia ib mg c U) (CI rk a b lo st) st:=by
 obtain⟨x,B,q,_⟩:=nV (show ia<a.size by omega);unfold UL;refine bJ (lJ B ?_);have j:=h.HQ q T.sa (N x q);rw[<-GK]at j
 by_cases he:ia+1+1=a.size
 ·rw[a9 (by simpa using he)];refine dB ⟨eX.refl _,.inl ⟨_,rfl,?_⟩⟩;have g:=j.UT T.sb (by simpa using he) (by rw[show ia+1=a.size-1 by omega];exact T.top);unfold jK;rw[zH];exact g
 ·rw[bf (by simpa using he)];split
  ·exact dj ⟨eX.refl _,.inr ⟨rfl,j,by dsimp only;omega,h2,by dsimp only;omega⟩⟩
  ·exact dj ⟨eX.refl _,rfl,j,by dsimp only;omega,h2,by dsimp only;omega⟩
theorem HG{l:ak bb}(h:dH rk l){i j:ay}{x y:bb}(B:i<=j)(z:l[i]?=aj x)(q:l[j]?=aj y):rk x<=rk y :=
 HH h z y (mQ (i:=j-i) (by rw[ad6,show i+(j-i)=j by omega];exact q))
theorem abS{l:ak bb}{i:ay}{z:bb}(h:z∈l.drop i):∃j,i<=j/\l[j]?=aj z:=by
 obtain⟨j,q⟩:=List.getElem?_of_mem h;rw[ad6]at q;exact⟨i+j,by omega,q⟩
theorem Qn(hL:iM M A E s kd P rk){st:bo}(g:kindOf st=kd){left:br}{key:bb}{arr:a8 bb}(d:P key)(f:∀x∈arr.toList,P x)(e:dH rk arr.toList){base:ay}(hb:base<arr.size){Q:ar ay->bo->Prop}
  (h:∀k,base+k<=arr.size->(∀j x,j<k->arr.toList[base+j]?=aj x->(if left then rk x<rk key else rk x<=rk key))->(∀j x,base+k<=j->arr.toList[j]?=aj x->(if left then rk key<=rk x else rk key<rk x))->Q (aj k) st) :
  wpS M A E s (qK left key arr base (arr.size-base) 0) Q st:=by
 have NZ:∀i,i<arr.size-base->∃x,arr[base+i]?=aj x/\arr.toList[base+i]?=aj x/\x∈arr.toList:=λi hi=>nV (by omega);refine Qk hL g d (λi hi=>let ⟨x,N,_,b⟩:=NZ i hi; ⟨x,N,f x b⟩) (by omega) (λi=>match arr[base+i]? with|some x=>if left then decide (rk x<rk key)else !decide (rk key<rk x)|none=>au) (λi x hi z=>by simp only[z]) (λi j o B hb=>?_) (λk p n m=>h k (by omega) (λj x B z=>?_) (λj x B z=>?_))
 ·obtain⟨x,N,c,_⟩:=NZ i (by omega);obtain⟨y,a,U,_⟩:=NZ j B;simp only[N,a]at hb ⊢;have:=HG e (show base+i<=base+j by omega) c U;cases left with
  |true=>simp only[jP,BU]at hb ⊢;omega
  |false=>simp only[kZ,iJ,ZP,PJ]at hb ⊢;omega
 ·have q:=n j B;rw[mS]at z;simp only[z]at q;cases left with
  |true=>simpa using q
  |false=>simp only[kZ,iJ,ZP,PJ]at q ⊢;omega
 ·have l:j<arr.size:=by have:=(dA.mp z).1;simpa using this
  have q:=m (j-base) (by omega) (by omega);rw[mS]at z;rw[show base+(j-base)=j by omega]at q;simp only[z]at q;cases left with
  |true=>simp only[jP,PJ]at q ⊢;omega
  |false=>simp only[kZ,iJ,Bool.not_eq_false',BU]at q ⊢;exact q
theorem afH(hL:iM M A E s kd P rk)(T:FK P rk a b){st:bo}(o:kindOf st=kd){ae:a8 bb}{ia ib mg u t lo:ay}(h:MI rk a.toList b.toList ae.toList ia ib)(h1:ia+1<a.size)(h2:ib<b.size)(n:lo<=ia+ib+1) :
  wpS M A E s (Fl a b ae ia ib mg u t) (CI rk a b lo st) st:=by
 obtain⟨x,l,c,i⟩:=nV (show ia<a.size by omega);unfold Fl;refine bJ (lJ l (bJ (Qn hL o (T.pa x i) T.pb T.sb h2 λk p f e=>?_)));dsimp only;simp only[jP]at f e;have B:=h.ak1 T.sb k (by simpa using p) λj y U q z N=>by
  have:=f j y U q;have:=HH T.sa c z N;omega
 rw[<-Tt,<-aeN]at B;have last:∀y,a.toList[ia]?=aj y->∀z∈b.toList.drop (ib+k),rk y<=rk z:=λy q z N=>by
  rw[c]at q;cases q;obtain⟨j,U,r⟩:=abS N;exact e j z U r
 by_cases d:k>0
 ·rw[a9 d]
  by_cases he:ib+k=b.size
  ·rw[a9 (by simpa using he)];refine dB ⟨eX.refl _,.inl ⟨_,rfl,?_⟩⟩;have g:=B.EX T.sa (by simpa using he);unfold jK;rw[zH];exact g
  ·rw[bf (by simpa using he)];exact Qg T B h1 (by omega) last (by omega)
 ·rw[bf d];have m:k=0:=by omega
  subst m;exact Qg T h h1 h2 last n
theorem Qh(hL:iM M A E s kd P rk)(T:FK P rk a b){st:bo}(U:kindOf st=kd){ae:a8 bb}{ia ib mg d c lo:ay}(h:MI rk a.toList b.toList ae.toList ia ib)(h1:ia+1<a.size)(h2:ib<b.size)(N:∀y,b.toList[ib]?=aj y->∀z∈a.toList.drop ia,rk y<=rk z)(e:lo<=ia+ib+2) :
  wpS M A E s (UM a b ae ia ib mg d c) (CI rk a b lo st) st:=by
 obtain⟨y,B,q,_⟩:=nV h2;unfold UM;refine bJ (lJ B ?_);have j:=h.TQ q T.sb (N y q);rw[<-GK]at j
 by_cases he:ib+1=b.size
 ·rw[a9 (by simpa using he)];refine dB ⟨eX.refl _,.inl ⟨_,rfl,?_⟩⟩;have g:=j.EX T.sa (by simpa using he);unfold jK;rw[zH];exact g
 ·rw[bf (by simpa using he)];exact afH hL T U j h1 (by omega) (by omega)
end
def Fi(a b:a8 bb)(z:a8 bb)(j q U B N:ay):da bo Sem xR :=
 forIn [0:a.size+b.size] ((ao,z,j,q,U,B,N):xR) λ_ c =>
  if c.2.2.2.2.1>1 then dE a b c.2.1 c.2.2.1 c.2.2.2.1 (c.2.2.2.2.1-1) c.2.2.2.2.2.1 c.2.2.2.2.2.2 else dE a b c.2.1 c.2.2.1 c.2.2.2.1 c.2.2.2.2.1 c.2.2.2.2.2.1 c.2.2.2.2.2.2
section
variable{M:ei}{A:bu}{E:aq->av->Prop}{s:av}{kd:dw}{P:bb->Prop}{rk:bb->a5}{a b:a8 bb}
theorem CI.trans{lo:ay}{st j q:bo}{r:d7 xR}(g:eX st j)(h:CI rk a b lo j r q):CI rk a b lo st r q:=⟨g.trans h.1,h.2⟩
theorem afI(hL:iM M A E s kd P rk)(T:FK P rk a b){st:bo}(D:kindOf st=kd){ae:a8 bb}{ia ib mg I H lo:ay}(h:MI rk a.toList b.toList ae.toList ia ib)(h1:ia+1<a.size)(h2:ib<b.size)(v:lo<=ia+ib+2) :
  wpS M A E s (dE a b ae ia ib mg I H) (CI rk a b lo st) st:=by
 obtain⟨y,t,i,p⟩:=nV h2;unfold dE;refine bJ (RR λw B=>?_);have f:kindOf w=kd:=B.kind.trans D;refine bJ (lJ t (bJ (Qn hL f (T.pb y p) T.pa T.sa (by omega) λk K n m=>?_)));dsimp only;simp only[kZ,iJ]at n m;have N:=h.HJ T.sa k (by simpa using K) λj x e d z U=>by
  have:=n j x e d;have:=HH T.sb i z U;omega
 rw[<-Tt,<-aeN]at N;have o:∀z,b.toList[ib]?=aj z->∀x∈a.toList.drop (ia+k),rk z<=rk x:=λz U x d=>by
  rw[i]at U;cases U;obtain⟨j,e,F⟩:=abS d;have:=m j x e F;omega
 by_cases l:k>0
 ·rw[a9 l]
  by_cases he:ia+k+1=a.size
  ·rw[a9 (by simpa using he)];refine dB ⟨B,.inl ⟨_,rfl,?_⟩⟩;have g:=N.UT T.sb (by simpa using he) (by rw[show ia+k=a.size-1 by omega];exact T.top);unfold jK;rw[zH];exact g
  ·rw[bf (by simpa using he)]
   by_cases c:ia+k=a.size
   ·rw[a9 (by simpa using c)];refine dB ⟨B,.inl ⟨_,rfl,?_⟩⟩;have g:=N.swap.EX T.sb (by simpa using c);have G:a.toList.drop (ia+k)=[]:=List.drop_of_length_le (by simp;omega);unfold jK;rw[zH];rw[G,pU]at g ⊢;exact⟨g.1.trans FQ,g.2⟩
   ·rw[bf (by simpa using c)];exact nZ (Qh hL T f N (by omega) h2 o (by omega)) λr C q=>q.trans B
 ·rw[bf l];have u:k=0:=by omega
  subst u;exact nZ (Qh hL T f h h1 h2 o v) λr C q=>q.trans B
theorem afF(hL:iM M A E s kd P rk)(T:FK P rk a b){st:bo}(y:kindOf st=kd){p:a8 bb}{z B S K L:ay}(C:MI rk a.toList b.toList p.toList z B)(h1:z+1<a.size)(h2:B<b.size){Q:xR->bo->Prop}
  (hr:∀m c j,eX st j->jK rk a b m->Q (aj m,c) j)
  (hn:∀ae ia ib c j,eX st j->MI rk a.toList b.toList ae.toList ia ib->ia+1<a.size->ib<b.size->z+B+2<=ia+ib->Q (ao,ae,ia,ib,c) j):wpS M A E s (Fi a b p z B S K L) Q st:=by
 unfold Fi;refine pX (I:=λi (c:xR) j=>eX st j/\c.1=ao/\MI rk a.toList b.toList c.2.1.toList c.2.2.1 c.2.2.2.1/\c.2.2.1+1<a.size/\c.2.2.2.1<b.size/\(i=0->c.2.2.1=z/\c.2.2.2.1=B)/\(0<i->z+B+2<=c.2.2.1+c.2.2.2.1)) ?step ?fin ⟨eX.refl _,rfl,C,h1,h2,λ_=>⟨rfl,rfl⟩,λh=>bz h (by decide)⟩
 case fin =>
  rintro⟨r,ae,ia,ib,c⟩ j ⟨g,f,o,n,l,t,k⟩;dsimp only at *;subst f;exact hn ae ia ib c j g o n l (k (by omega))
 case step =>
  rintro i ⟨r,ae,ia,ib,mg,G,F⟩ j _ V ⟨g,f,o,n,l,t,k⟩;dsimp only at *;subst f;have X:z+B<=ia+ib:=by
   by_cases hi:i=0
   ·have:=t hi;omega
   ·have:=k (by omega);omega
  have H:∀mg,wpS M A E s (dE a b ae ia ib mg G F) (CI rk a b (z+B+2) j) j:=λmg=>afI hL T (g.kind.trans y) o n l (by omega);split
  all_goals
   refine nZ (H _) λr x q=>?_;obtain⟨d,q⟩:=q
   match r,q with
   |.done (aj m,c),.inl ⟨W,e,D⟩=>dsimp only at e;cases e;exact hr _ _ _ (g.trans d) D
   |.done (ao,R,U,N,c),.inr ⟨_,m,w,v,u⟩=>exact hn R U N c x (g.trans d) m w v u
   |.yield c,q=>exact⟨g.trans d,q.1,q.2.1,q.2.2.1,q.2.2.2.1,λh=>by omega,λ_=>q.2.2.2.2⟩
theorem gK{J α:Type}{c:Prop} [di c]{t e:da J Sem α}{Q:α->J->Prop}{st:J}(h1:c->wpS M A E s t Q st)(h2:¬c->wpS M A E s e Q st):wpS M A E s (if c then t else e) Q st:=by
 split
 ·exact h1 ‹_›
 ·exact h2 ‹_›
theorem afB(hL:iM M A E s kd P rk)(T:FK P rk a b)(ha:0<a.size)(hb:0<b.size)(n:∀y,b.toList[0]?=aj y->∀x∈a.toList,rk y<=rk x){st:bo}(w:kindOf st=kd):wpS M A E s (NB a b) (λm q=>eX st q/\jK rk a b m) st:=by
 rw[asR];refine bJ (wpS_lift (wG ⟨rfl,?_⟩));obtain⟨y,D,v,y3⟩:=nV hb;refine bJ (lJ D ?_);have N:MI rk a.toList b.toList (#[y]:a8 bb).toList 0 1:=by
  have S:MI rk a.toList b.toList [] 0 0:=⟨by simp,by simp,by simp,by simp,by simp⟩;exact S.TQ v T.sb (by simpa using n y v)
 refine gK (λhe=>?_) (λhe=>?_)
 ·have he:1=b.size:=by simpa using he
  refine dB ⟨eX.refl _,?_⟩;have g:=N.EX T.sa (by simpa using he);unfold jK;rw[zH];exact g
 have he:¬1=b.size:=by simpa using he
 refine gK (λz=>?_) (λz=>?_)
 ·have z:0+1=a.size:=by simpa using z
  refine dB ⟨eX.refl _,?_⟩;have g:=N.UT T.sb (by simpa using z) (by rw[show 0=a.size-1 by omega];exact T.top);unfold jK;rw[zH];exact g
 have z:¬0+1=a.size:=by simpa using z
 refine bJ (yA ?_);refine bJ (nZ (pX
  (I:=λi (c:ar (a8 bb)×a8 bb×ay×ay×ay) q=>eX st q/\c.1=ao/\MI rk a.toList b.toList c.2.1.toList c.2.2.1 c.2.2.2.1/\c.2.2.1+1<a.size/\c.2.2.2.1<b.size/\i<=c.2.2.1+c.2.2.2.1)
  (Q:=λ(c:ar (a8 bb)×a8 bb×ay×ay×ay) q=>eX st q/\∃m,c.1=aj m/\jK rk a b m) ?step ?fin ⟨eX.refl _,rfl,N,by dsimp only;omega,by dsimp only;omega,by dsimp only;omega⟩) ?post)
 case fin =>
  rintro⟨r,ae,h,d,c⟩ q ⟨g,l,u,t,p,C⟩;dsimp only at *;omega
 case post =>
  rintro⟨r,ae,h,d,c⟩ q ⟨g,m,e,B⟩;dsimp only at e;subst e;exact dB ⟨g,B⟩
 case step =>
  rintro i ⟨r,ae,h,d,mg⟩ q _ mI ⟨g,l,u,t,p,C⟩;dsimp only at l u t p C;subst l;refine bJ (show wpS M A E s (Fj a b mg ae h d) _ _ from afG hL T (g.kind.trans w) u t p (λm o i j x y B=>?_) (λae f U x y R L K n4=>?_))
  ·exact dB ⟨g,m,rfl,B⟩
  ·refine bJ (wpS_lift (wG ⟨rfl,?_⟩));refine bJ (show wpS M A E s (Fi a b ae f U (mg+1) x y) _ _ from afF hL T (g.kind.trans w) R L K (λm c X k B=>?_) (λae W V c X k H G F o4=>?_))
   ·exact dB ⟨g.trans k,m,rfl,B⟩
   ·refine bJ (RR λiA g2=>?_);exact dj ⟨(g.trans k).trans g2,rfl,H,G,F,by dsimp only;omega⟩
end
section
variable{α:Type}{rk:α->a5}{al bl ae:ak α}{na nb:ay}
structure MH(rk:α->a5)(al bl ae:ak α)(na nb:ay):Prop where
 la:na<=al.length
 lb:nb<=bl.length
 perm:ae.Perm (al.drop na++bl.drop nb)
 AK:ae.Pairwise λx y=>rk y<=rk x
 high:∀x∈ae,∀y∈al.take na++bl.take nb,rk y<=rk x
theorem Sg{l:ak α}{n:ay}{x:α}(j:l[n]?=aj x):l.take (n+1)=l.take n++[x]:=by rw[ad2,j];rfl
theorem WO{l:ak α}{n:ay}{x:α}(j:l[n]?=aj x):l.drop n=x::l.drop (n+1):=by
 have h:=(dA.mp j);rw[vZ h.1,h.2]
theorem aj0{l:ak α}(h:dH rk l){n:ay}{x:α}(q:l[n]?=aj x):∀y∈l.take n,rk y<=rk x:=λy j=>by
 have e:l=l.take n++x::l.drop (n+1):=by rw[<-WO q,xS]
 rw[e]at h;exact(uG.mp h).2.2 y j x (by simp)
theorem MH.swap(h:MH rk al bl ae na nb):MH rk bl al ae nb na :=
 ⟨h.lb,h.la,h.perm.trans FQ,h.AK,λx z y j=>h.high x z y (by
  rcases lH.mp j with q|q
  ·exact lO _ q
  ·exact nX _ q)⟩
theorem MH.HQ(h:MH rk al bl ae (na+1) nb){x:α}(N:al[na]?=aj x)(sa:dH rk al)(hb:∀y∈bl.take nb,rk y<=rk x):MH rk al bl (ae++[x]) na nb:=by
 have U:=Sg N;have ed:=WO N;have hi:=h.high;rw[U]at hi;refine⟨by have:=h.la;omega,h.lb,?_,?_,λy B z j=>?_⟩
 ·rw[ed];exact FQ.trans (KG [x] h.perm)
 ·refine uG.mpr ⟨h.AK,by simp,λy B z j=>?_⟩;simp only[lN]at j;subst j;exact hi y B z (by simp)
 ·rcases lH.mp B with q|q
  ·refine hi y q z ?_
   rcases lH.mp j with r|r
   ·exact nX _ (nX _ r)
   ·exact lO _ r
  ·simp only[lN]at q;subst q
   rcases lH.mp j with r|r
   ·exact aj0 sa N z r
   ·exact hb z r
theorem MH.HJ(sa:dH rk al):∀k na,MH rk al bl ae (na+k) nb->(∀j x,na<=j->j<na+k->al[j]?=aj x->∀y∈bl.take nb,rk y<=rk x)->MH rk al bl (ae++((al.drop na).take k).reverse) na nb
 |0,na,h,_=>by simpa using h
 |k+1,na,h,hb=>by
  have q:al[na]?=aj (al[na]'(by have:=h.la;omega)):=fL _;have ih:=MH.HJ sa k (na+1) (by rw[show na+1+k=na+(k+1)by omega];exact h) λj x h1 h2=>hb j x (by omega) (by omega);have e:((al.drop na).take (k+1)).reverse=((al.drop (na+1)).take k).reverse++[al[na]'(by have:=h.la;omega)]:=by
   rw[WO q,List.take_succ_cons,List.reverse_cons]
  rw[e,<-jW];exact ih.HQ q sa (hb na _ (by omega) (by omega) q)
theorem MH.all(h:MH rk al bl ae na nb):(al.take na++bl.take nb++ae.reverse).Perm (al++bl):=by
 have p:(al.take na++bl.take nb++ae.reverse).Perm (al.take na++bl.take nb++(al.drop na++bl.drop nb)):=KG _ ((List.reverse_perm _).trans h.perm);refine p.trans ?_;have e:al.take na++bl.take nb++(al.drop na++bl.drop nb)=al.take na++(bl.take nb++al.drop na++bl.drop nb):=by simp only[jW]
 have j:al++bl=al.take na++(al.drop na++bl.take nb++bl.drop nb):=by
  rw[jW (al.drop na),xS,<-jW,xS]
 rw[e,j];exact KG _ (FQ.append_right _)
theorem MH.rev(h:MH rk al bl ae na nb):dH rk ae.reverse:=List.pairwise_reverse.mpr h.AK
theorem MH.abP(h:MH rk al bl ae na nb)(sb:dH rk bl)(he:na=0):(al.take na++bl.take nb++ae.reverse).Perm (al++bl)/\dH rk (al.take na++bl.take nb++ae.reverse):=by
 refine⟨h.all,?_⟩;have hi:=h.high;have r:=h.rev;subst he;rw[Nc,xT]at hi ⊢;exact uG.mpr ⟨sb.sublist (YQ _ _),r,λx q y j=>hi y (List.mem_reverse.mp j) x q⟩
theorem MH.EX(h:MH rk al bl ae na nb)(sa:dH rk al)(he:nb=0):(al.take na++bl.take nb++ae.reverse).Perm (al++bl)/\dH rk (al.take na++bl.take nb++ae.reverse):=by
 have q:=h.swap.abP sa he;subst he;refine⟨h.all,?_⟩;rw[Nc,xT]at q;rw[Nc,pU];exact q.2
theorem MH.aCI(h:MH rk al bl ae na nb)(sa:dH rk al)(sb:dH rk bl)(hl:∀y∈bl.take nb,∀x∈al,rk y<=rk x):(bl.take nb++al.take na++ae.reverse).Perm (al++bl)/\dH rk (bl.take nb++al.take na++ae.reverse):=by
 refine⟨h.swap.all.trans FQ,uG.mpr ⟨uG.mpr ⟨sb.sublist (YQ _ _),sa.sublist (YQ _ _),λx q y j=>hl x q y (ad3 j)⟩,h.rev,λx q y j=>?_⟩⟩;refine h.high y (List.mem_reverse.mp j) x ?_
 rcases lH.mp q with r|r
 ·exact lO _ r
 ·exact nX _ r
end
theorem Ka(ae a b:a8 bb)(na nb:ay):(a.extract 0 na++b.extract 0 nb++ae.reverse).toList=a.toList.take na++b.toList.take nb++ae.toList.reverse:=by
 simp[ZQ]
theorem akZ(a:a8 bb)(i k:ay):((a.extract i (i+k)).reverse).toList=((a.toList.drop i).take k).reverse:=by
 simp[ZQ]
section
variable{M:ei}{A:bu}{E:aq->av->Prop}{s:av}{kd:dw}{P:bb->Prop}{rk:bb->a5}{a b:a8 bb}
theorem ZW(hL:iM M A E s kd P rk){st:bo}(e:kindOf st=kd){left:br}{key:bb}{arr:a8 bb}{base n ag:ay}(c:P key)(N:∀i,i<n->∃x,arr[base+i]?=aj x/\P x)(d:∀i j x y,i<=j->j<n->arr[base+i]?=aj x->arr[base+j]?=aj y->rk x<=rk y)(hb:ag<n){Q:ar ay->bo->Prop}
  (h:∀k,k<=n->(∀j x,j<k->arr[base+j]?=aj x->(if left then rk x<rk key else rk x<=rk key))->(∀j x,k<=j->j<n->arr[base+j]?=aj x->(if left then rk key<=rk x else rk key<rk x))->Q (aj k) st) :
  wpS M A E s (qK left key arr base n ag) Q st:=by
 refine Qk hL e c N hb (λi=>match arr[base+i]? with|some x=>if left then decide (rk x<rk key)else !decide (rk key<rk x)|none=>au) (λi x hi B=>by simp only[B]) (λi j f z hb=>?_) (λk m l g=>h k (by omega) (λj x z B=>?_) (λj x z b B=>?_))
 ·obtain⟨x,a,_⟩:=N i (by omega);obtain⟨y,U,_⟩:=N j z;simp only[a,U]at hb ⊢;have:=d i j x y f z a U;cases left with
  |true=>simp only[jP,BU]at hb ⊢;omega
  |false=>simp only[kZ,iJ,ZP,PJ]at hb ⊢;omega
 ·have q:=l j z;simp only[B]at q;cases left with
  |true=>simpa using q
  |false=>simp only[kZ,iJ,ZP,PJ]at q ⊢;omega
 ·have q:=g j z b;simp only[B]at q;cases left with
  |true=>simp only[jP,PJ]at q ⊢;omega
  |false=>simp only[kZ,iJ,Bool.not_eq_false',BU]at q ⊢;exact q
end
theorem asS(a b:a8 bb):NC a b=(do
 rule "list.sort.merge-hi"
 let ai:=a.size+b.size
 let done (ae:a8 bb) (na nb:ay):=a.extract 0 na++b.extract 0 nb++ae.reverse
 let j (ae:a8 bb) (na nb:ay):=b.extract 0 nb++a.extract 0 na++ae.reverse
 let mut na:=a.size-1
 let mut nb:=b.size
 let mut ae:a8 bb:=#[<-cv a na]
 if na==0 then return done ae na nb
 if nb==1 then return j ae na nb
 let mut ah:=gallopOf (<-get)
 for _ in [0:ai] do
  let mut tD:=0
  let mut sZ:=0
  for _ in [0:ai] do
   let aj q<-lt' (<-cv b (nb-1)) (<-cv a (na-1))|return done ae na nb
   if q then
    na:=na-1;ae:=ae.push (<-cv a na);tD:=tD+1;sZ:=0
    if na==0 then return done ae na nb
    if tD>=ah then break
   else
    nb:=nb-1;ae:=ae.push (<-cv b nb);sZ:=sZ+1;tD:=0
    if nb==1 then return j ae na nb
    if sZ>=ah then break
  rule "list.sort.gallop"
  ah:=ah+1
  for _ in [0:ai] do
   if ah>1 then ah:=ah-1
   AM ah
   let aj at_<-qK au (<-cv b (nb-1)) a 0 na (na-1)|return done ae na nb
   let k:=na-at_
   tD:=k
   if k>0 then
    ae:=ae++(a.extract at_ na).reverse;na:=at_
    if na==0 then return done ae na nb
   nb:=nb-1;ae:=ae.push (<-cv b nb)
   if nb==1 then return j ae na nb
   let aj at_<-qK ax (<-cv a (na-1)) b 0 nb (nb-1)|return done ae na nb
   let k:=nb-at_
   sZ:=k
   if k>0 then
    ae:=ae++(b.extract at_ nb).reverse;nb:=at_
    if nb==1 then return j ae na nb
    if nb==0 then return done ae na nb
   na:=na-1;ae:=ae.push (<-cv a na)
   if na==0 then return done ae na nb
   if tD<7&&sZ<7 then break
  ah:=ah+1
  AM ah
 unsupported "internal:list.sort.merge-bound"):=rfl
abbrev YY:=ar (a8 bb)×ay×ay×a8 bb×ay×ay
abbrev zR:=ar (a8 bb)×ay×ay×a8 bb×ay×ay×ay
noncomputable def Hq(a b:a8 bb)(mg:ay)(j q:ay)(z:a8 bb):da bo Sem YY :=
 forIn [0:a.size+b.size] ((ao,j,q,z,0,0):YY) λ_ c=>do
  let y<-cv b (c.2.2.1-1)
  let x<-cv a (c.2.1-1)
  let r<-lt' y x
  match r with
  |some B =>
   if B=ax then do
    let x<-cv a (c.2.1-1)
    if(c.2.1-1==0)=ax then pure (ForInStep.done (aj (a.extract 0 (c.2.1-1)++b.extract 0 c.2.2.1++(c.2.2.2.1.push x).reverse),c.2.1-1,c.2.2.1,c.2.2.2.1.push x,c.2.2.2.2.1+1,0))
    else if c.2.2.2.2.1+1>=mg then pure (ForInStep.done (ao,c.2.1-1,c.2.2.1,c.2.2.2.1.push x,c.2.2.2.2.1+1,0))
    else pure (ForInStep.yield (ao,c.2.1-1,c.2.2.1,c.2.2.2.1.push x,c.2.2.2.2.1+1,0))
   else do
    let y<-cv b (c.2.2.1-1)
    if(c.2.2.1-1==1)=ax then pure (ForInStep.done (aj (b.extract 0 (c.2.2.1-1)++a.extract 0 c.2.1++(c.2.2.2.1.push y).reverse),c.2.1,c.2.2.1-1,c.2.2.2.1.push y,0,c.2.2.2.2.2+1))
    else if c.2.2.2.2.2+1>=mg then pure (ForInStep.done (ao,c.2.1,c.2.2.1-1,c.2.2.2.1.push y,0,c.2.2.2.2.2+1))
    else pure (ForInStep.yield (ao,c.2.1,c.2.2.1-1,c.2.2.2.1.push y,0,c.2.2.2.2.2+1))
  |_=>pure (ForInStep.done (aj (a.extract 0 c.2.1++b.extract 0 c.2.2.1++c.2.2.2.1.reverse),c.2.1,c.2.2.1,c.2.2.2.1,c.2.2.2.2.1,c.2.2.2.2.2))
noncomputable def VM(a b:a8 bb)(na nb:ay)(ae:a8 bb)(mg q j:ay):da bo Sem (d7 zR):=do
 let x<-cv a (na-1)
 if(na-1==0)=ax then pure (ForInStep.done (aj (a.extract 0 (na-1)++b.extract 0 nb++(ae.push x).reverse),na-1,nb,ae.push x,mg,q,j))
 else if(decide (q<7)&&decide (j<7))=ax then pure (ForInStep.done (ao,na-1,nb,ae.push x,mg,q,j))
 else pure (ForInStep.yield (ao,na-1,nb,ae.push x,mg,q,j))
def Hr(a b:a8 bb)(na nb:ay)(ae:a8 bb)(mg j q:ay):da bo Sem (d7 zR):=do
 let x<-cv a (na-1)
 let r<-qK ax x b 0 nb (nb-1)
 match r with
 |some k =>
  if nb-k>0 then
   if(k==1)=ax then pure (ForInStep.done (aj (b.extract 0 k++a.extract 0 na++(ae++(b.extract k nb).reverse).reverse),na,k,ae++(b.extract k nb).reverse,mg,j,nb-k))
   else if(k==0)=ax then pure (ForInStep.done (aj (a.extract 0 na++b.extract 0 k++(ae++(b.extract k nb).reverse).reverse),na,k,ae++(b.extract k nb).reverse,mg,j,nb-k))
   else VM a b na k (ae++(b.extract k nb).reverse) mg j (nb-k)
  else VM a b na nb ae mg j (nb-k)
 |_=>pure (ForInStep.done (aj (a.extract 0 na++b.extract 0 nb++ae.reverse),na,nb,ae,mg,j,q))
def VN(a b:a8 bb)(na nb:ay)(ae:a8 bb)(mg q j:ay):da bo Sem (d7 zR):=do
 let y<-cv b (nb-1)
 if(nb-1==1)=ax then pure (ForInStep.done (aj (b.extract 0 (nb-1)++a.extract 0 na++(ae.push y).reverse),na,nb-1,ae.push y,mg,q,j))
 else Hr a b na (nb-1) (ae.push y) mg q j
def tY(a b:a8 bb)(na nb:ay)(ae:a8 bb)(mg q j:ay):da bo Sem (d7 zR):=do
 AM mg
 let y<-cv b (nb-1)
 let r<-qK au y a 0 na (na-1)
 match r with
 |some k =>
  if na-k>0 then
   if(k==0)=ax then pure (ForInStep.done (aj (a.extract 0 k++b.extract 0 nb++(ae++(a.extract k na).reverse).reverse),k,nb,ae++(a.extract k na).reverse,mg,na-k,j))
   else VN a b k nb (ae++(a.extract k na).reverse) mg (na-k) j
  else VN a b na nb ae mg (na-k) j
 |_=>pure (ForInStep.done (aj (a.extract 0 na++b.extract 0 nb++ae.reverse),na,nb,ae,mg,q,j))
def Ho(a b:a8 bb)(j q:ay)(z:a8 bb)(U B N:ay):da bo Sem zR :=
 forIn [0:a.size+b.size] ((ao,j,q,z,U,B,N):zR) λ_ c =>
  if c.2.2.2.2.1>1 then tY a b c.2.1 c.2.2.1 c.2.2.2.1 (c.2.2.2.2.1-1) c.2.2.2.2.2.1 c.2.2.2.2.2.2 else tY a b c.2.1 c.2.2.1 c.2.2.2.1 c.2.2.2.2.1 c.2.2.2.2.2.1 c.2.2.2.2.2.2
structure CB(P:bb->Prop)(rk:bb->a5)(a b:a8 bb):Prop where
 pa:∀x∈a.toList,P x
 pb:∀x∈b.toList,P x
 sa:dH rk a.toList
 sb:dH rk b.toList
 bot:∀y∈b.toList.take 1,∀x∈a.toList,rk y<=rk x
section
variable{M:ei}{A:bu}{E:aq->av->Prop}{s:av}{kd:dw}{P:bb->Prop}{rk:bb->a5}{a b:a8 bb}
theorem Bc{l:ak bb}{i:ay}{z:bb}(h:z∈l.take i):∃j,j<i/\l[j]?=aj z:=by
 obtain⟨j,q⟩:=List.getElem?_of_mem h;rw[KA]at q;split at q
 ·exact⟨j,‹_›,q⟩
 ·cases q
theorem SW{l:ak bb}(h:dH rk l){i:ay}{x:bb}(hi:0<i)(z:l[i-1]?=aj x):∀y∈l.take i,rk y<=rk x:=λy q=>by
 obtain⟨j,B,e⟩:=Bc q;exact HG h (by omega) e z
theorem MH.TR{ae:a8 bb}{na nb:ay}(h:MH rk a.toList b.toList ae.toList na nb)(hn:0<na){x:bb}(j:a.toList[na-1]?=aj x)(sa:dH rk a.toList)(hb:∀y∈b.toList.take nb,rk y<=rk x):MH rk a.toList b.toList (ae.push x).toList (na-1) nb:=by
 rw[GK];exact MH.HQ (na:=na-1) (by rw[show na-1+1=na by omega];exact h) j sa hb
theorem MH.Vg{ae:a8 bb}{na nb:ay}(h:MH rk a.toList b.toList ae.toList na nb)(hn:0<nb){x:bb}(j:b.toList[nb-1]?=aj x)(sb:dH rk b.toList)(hb:∀y∈a.toList.take na,rk y<=rk x):MH rk a.toList b.toList (ae.push x).toList na (nb-1):=(h.swap.TR hn j sb hb).swap
theorem MH.Tu{ae:a8 bb}{na nb k:ay}(h:MH rk a.toList b.toList ae.toList na nb)(sa:dH rk a.toList)(q:k<=na)(hb:∀j x,k<=j->j<na->a.toList[j]?=aj x->∀y∈b.toList.take nb,rk y<=rk x):MH rk a.toList b.toList (ae++(a.extract k na).reverse).toList k nb:=by
 obtain⟨d,rfl⟩:∃d,na=k+d:=⟨na-k,by omega⟩;rw[aeN,akZ];exact MH.HJ sa d k h hb
theorem MH.ak0{ae:a8 bb}{na nb k:ay}(h:MH rk a.toList b.toList ae.toList na nb)(sb:dH rk b.toList)(q:k<=nb)(hb:∀j x,k<=j->j<nb->b.toList[j]?=aj x->∀y∈a.toList.take na,rk y<=rk x):MH rk a.toList b.toList (ae++(b.extract k nb).reverse).toList na k:=(h.swap.Tu sb q hb).swap
theorem MH.VX{ae:a8 bb}{na nb:ay}(h:MH rk a.toList b.toList ae.toList na nb)(sb:dH rk b.toList)(he:na=0):jK rk a b (a.extract 0 na++b.extract 0 nb++ae.reverse):=by
 unfold jK;rw[Ka];exact h.abP sb he
theorem MH.aBE{ae:a8 bb}{na nb:ay}(h:MH rk a.toList b.toList ae.toList na nb)(sa:dH rk a.toList)(he:nb=0):jK rk a b (a.extract 0 na++b.extract 0 nb++ae.reverse):=by
 unfold jK;rw[Ka];exact h.EX sa he
theorem MH.VV{ae:a8 bb}{na nb:ay}(h:MH rk a.toList b.toList ae.toList na nb)(T:CB P rk a b)(he:nb=1):jK rk a b (b.extract 0 nb++a.extract 0 na++ae.reverse):=by
 unfold jK;rw[Ka];exact h.aCI T.sa T.sb (by rw[he];exact T.bot)
theorem afK(hL:iM M A E s kd P rk)(T:CB P rk a b){st:bo}(C:kindOf st=kd){mg:ay}{p:a8 bb}{B N:ay}(D:MH rk a.toList b.toList p.toList B N)(h1:0<B)(h2:1<N){Q:YY->bo->Prop}
  (hr:∀m c,jK rk a b m->Q (aj m,c) st)
  (hn:∀ae na nb c,MH rk a.toList b.toList ae.toList na nb->0<na->1<nb->na+nb<=B+N->Q (ao,na,nb,ae,c) st):wpS M A E s (Hq a b mg B N p) Q st:=by
 unfold Hq;refine pX (I:=λ_ (c:YY) d=>d=st/\c.1=ao/\MH rk a.toList b.toList c.2.2.2.1.toList c.2.1 c.2.2.1/\0<c.2.1/\1<c.2.2.1/\c.2.1+c.2.2.1<=B+N) ?step ?fin ⟨rfl,rfl,D,h1,h2,oX _⟩
 case fin =>
  rintro⟨r,na,nb,ae,c⟩ d ⟨rfl,h,q,U,e,u⟩;dsimp only at *;subst h;exact hn ae na nb c q U e u
 case step =>
  rintro i ⟨r,na,nb,ae,H,G⟩ d _ F ⟨rfl,h,q,U,e,u⟩;dsimp only at *;subst h;have la:=q.la;have lb:=q.lb;rw[gJ]at la lb;obtain⟨y,l,k,v⟩:=nV (show nb-1<b.size by omega);obtain⟨x,o,n,w⟩:=nV (show na-1<a.size by omega);refine bJ (lJ l (bJ (lJ o (bJ (hL y x (T.pb y v) (T.pa x w) d _ C ?_)))));dsimp only
  by_cases t:rk y<rk x
  ·rw[vO t,a9 rfl];refine bJ (lJ o ?_);have j:=q.TR U n T.sa λz f=>by have:=SW T.sb (by omega) k z f;omega
   refine gK (λhe=>?_) (λhe=>?_)
   ·exact dB (hr _ _ (j.VX T.sb (by simpa using he)))
   ·have he:¬na-1=0:=by simpa using he
    refine gK (λg=>?_) (λg=>?_)
    ·exact dB (hn _ _ _ _ j (by omega) e (by omega))
    ·exact dj ⟨rfl,rfl,j,by dsimp only;omega,e,by dsimp only;omega⟩
  ·rw[nT t,bf (by simp)];refine bJ (lJ l ?_);have j:=q.Vg (by omega) k T.sb λz f=>by have:=SW T.sa (by omega) n z f;omega
   refine gK (λhe=>?_) (λhe=>?_)
   ·exact dB (hr _ _ (j.VV T (by simpa using he)))
   ·have he:¬nb-1=1:=by simpa using he
    refine gK (λg=>?_) (λg=>?_)
    ·exact dB (hn _ _ _ _ j U (by omega) (by omega))
    ·exact dj ⟨rfl,rfl,j,U,by dsimp only;omega,by dsimp only;omega⟩
def QY(rk:bb->a5)(a b:a8 bb)(hi:ay)(st:bo)(r:d7 zR)(j:bo):Prop:=eX st j/\(match r with
 |.done c=>(∃m,c.1=aj m/\jK rk a b m)\/(c.1=ao/\MH rk a.toList b.toList c.2.2.2.1.toList c.2.1 c.2.2.1/\0<c.2.1/\1<c.2.2.1/\c.2.1+c.2.2.1<=hi)
 | .yield c=>c.1=ao/\MH rk a.toList b.toList c.2.2.2.1.toList c.2.1 c.2.2.1/\0<c.2.1/\1<c.2.2.1/\c.2.1+c.2.2.1<=hi)
theorem Qi(T:CB P rk a b){st:bo}{ae:a8 bb}{na nb mg d c hi:ay}(h:MH rk a.toList b.toList ae.toList na nb)(h1:0<na)(h2:1<nb)(N:∀x,a.toList[na-1]?=aj x->∀z∈b.toList.take nb,rk z<=rk x)(e:na+nb<=hi+1) :
  wpS M A E s (VM a b na nb ae mg d c) (QY rk a b hi st) st:=by
 have la:=h.la;rw[gJ]at la;obtain⟨x,B,q,_⟩:=nV (show na-1<a.size by omega);unfold VM;refine bJ (lJ B ?_);have j:=h.TR h1 q T.sa (N x q);refine gK (λhe=>?_) (λhe=>?_)
 ·exact dB ⟨eX.refl _,.inl ⟨_,rfl,j.VX T.sb (by simpa using he)⟩⟩
 ·have he:¬na-1=0:=by simpa using he
  refine gK (λU=>?_) (λU=>?_)
  ·exact dj ⟨eX.refl _,.inr ⟨rfl,j,by dsimp only;omega,h2,by dsimp only;omega⟩⟩
  ·exact dj ⟨eX.refl _,rfl,j,by dsimp only;omega,h2,by dsimp only;omega⟩
theorem Ql(hL:iM M A E s kd P rk){st:bo}(e:kindOf st=kd){left:br}{key:bb}{arr:a8 bb}(b:P key)(d:∀x∈arr.toList,P x)(c:dH rk arr.toList){n:ay}(l:0<n)(hn:n<=arr.size){Q:ar ay->bo->Prop}
  (h:∀k,k<=n->(∀j x,j<k->arr.toList[j]?=aj x->(if left then rk x<rk key else rk x<=rk key))->(∀j x,k<=j->j<n->arr.toList[j]?=aj x->(if left then rk key<=rk x else rk key<rk x))->Q (aj k) st) :
  wpS M A E s (qK left key arr 0 n (n-1)) Q st:=by
 refine ZW hL e b (λi hi=>?_) (λi j x y g z q B=>?_) (by omega) (λk f h1 h2=>h k f (λj x z q=>h1 j x z ?_) (λj x z N q=>h2 j x z N ?_))
 ·obtain⟨x,a,_,U⟩:=nV (show 0+i<arr.size by omega);exact⟨x,a,d x U⟩
 ·rw[<-mS]at q B;exact HG c (show 0+i<=0+j by omega) q B
 ·rw[zM,<-mS];exact q
 ·rw[zM,<-mS];exact q
theorem afL(hL:iM M A E s kd P rk)(T:CB P rk a b){st:bo}(p:kindOf st=kd){ae:a8 bb}{na nb mg v u hi:ay}(h:MH rk a.toList b.toList ae.toList na nb)(h1:0<na)(h2:1<nb)(o:na+nb<=hi+1) :
  wpS M A E s (Hr a b na nb ae mg v u) (QY rk a b hi st) st:=by
 have la:=h.la;have lb:=h.lb;rw[gJ]at la lb;obtain⟨x,l,d,i⟩:=nV (show na-1<a.size by omega);unfold Hr;refine bJ (lJ l (bJ (Ql hL p (T.pa x i) T.pb T.sb (by omega) lb λk r f e=>?_)));dsimp only;simp only[jP]at f e;have N:=h.ak0 T.sb r λj y c g B z U=>by
  have:=e j y c g B;have:=SW T.sa h1 d z U;omega
 have last:∀y,a.toList[na-1]?=aj y->∀z∈b.toList.take k,rk z<=rk y:=λy B z U=>by
  rw[d]at B;cases B;obtain⟨j,c,t⟩:=Bc U;have:=f j z c t;omega
 refine gK (λm=>?_) (λm=>?_)
 ·refine gK (λhe=>?_) (λhe=>?_)
  ·exact dB ⟨eX.refl _,.inl ⟨_,rfl,N.VV T (by simpa using he)⟩⟩
  ·have he:¬k=1:=by simpa using he
   refine gK (λq=>?_) (λq=>?_)
   ·exact dB ⟨eX.refl _,.inl ⟨_,rfl,N.aBE T.sa (by simpa using q)⟩⟩
   ·have q:¬k=0:=by simpa using q
    exact Qi T N h1 (by omega) last (by omega)
 ·have n:k=nb:=by omega
  subst n;exact Qi T h h1 h2 last o
theorem Qj(hL:iM M A E s kd P rk)(T:CB P rk a b){st:bo}(U:kindOf st=kd){ae:a8 bb}{na nb mg d c hi:ay}(h:MH rk a.toList b.toList ae.toList na nb)(h1:0<na)(h2:1<nb)(N:∀y,b.toList[nb-1]?=aj y->∀z∈a.toList.take na,rk z<=rk y)(e:na+nb<=hi+2) :
  wpS M A E s (VN a b na nb ae mg d c) (QY rk a b hi st) st:=by
 have lb:=h.lb;rw[gJ]at lb;obtain⟨y,B,j,_⟩:=nV (show nb-1<b.size by omega);unfold VN;refine bJ (lJ B ?_);have q:=h.Vg (by omega) j T.sb (N y j);refine gK (λhe=>?_) (λhe=>?_)
 ·exact dB ⟨eX.refl _,.inl ⟨_,rfl,q.VV T (by simpa using he)⟩⟩
 ·have he:¬nb-1=1:=by simpa using he
  exact afL hL T U q h1 (by omega) (by omega)
theorem afM(hL:iM M A E s kd P rk)(T:CB P rk a b){st:bo}(C:kindOf st=kd){ae:a8 bb}{na nb mg G F hi:ay}(h:MH rk a.toList b.toList ae.toList na nb)(h1:0<na)(h2:1<nb)(u:na+nb<=hi+2) :
  wpS M A E s (tY a b na nb ae mg G F) (QY rk a b hi st) st:=by
 have la:=h.la;have lb:=h.lb;rw[gJ]at la lb;obtain⟨y,n,e,m⟩:=nV (show nb-1<b.size by omega);unfold tY;refine bJ (RR λv N=>?_);have d:kindOf v=kd:=N.kind.trans C;refine bJ (lJ n (bJ (Ql hL d (T.pb y m) T.pa T.sa h1 la λk H i g=>?_)));dsimp only;simp only[kZ,iJ]at i g;have f:=h.Tu T.sa H λj x c o U z B=>by
  have:=g j x c o U;have:=SW T.sb (by omega) e z B;omega
 have l:∀z,b.toList[nb-1]?=aj z->∀x∈a.toList.take k,rk x<=rk z:=λz B x U=>by
  rw[e]at B;cases B;obtain⟨j,c,D⟩:=Bc U;exact i j x c D
 refine gK (λp=>?_) (λp=>?_)
 ·refine gK (λhe=>?_) (λhe=>?_)
  ·exact dB ⟨N,.inl ⟨_,rfl,f.VX T.sb (by simpa using he)⟩⟩
  ·have he:¬k=0:=by simpa using he
   exact nZ (Qj hL T d f (by omega) h2 l (by omega)) λr w q=>⟨N.trans q.1,q.2⟩
 ·have t:k=na:=by omega
  subst t;exact nZ (Qj hL T d h h1 h2 l u) λr w q=>⟨N.trans q.1,q.2⟩
theorem afJ(hL:iM M A E s kd P rk)(T:CB P rk a b){st:bo}(C:kindOf st=kd){t:a8 bb}{z B S K L:ay}(d:MH rk a.toList b.toList t.toList z B)(h1:0<z)(h2:1<B){Q:zR->bo->Prop}
  (hr:∀m c j,eX st j->jK rk a b m->Q (aj m,c) j)
  (hn:∀ae na nb c j,eX st j->MH rk a.toList b.toList ae.toList na nb->0<na->1<nb->na+nb+2<=z+B->Q (ao,na,nb,ae,c) j):wpS M A E s (Ho a b z B t S K L) Q st:=by
 unfold Ho;have la:=d.la;have lb:=d.lb;rw[gJ]at la lb;refine pX (I:=λi (c:zR) j=>eX st j/\c.1=ao/\MH rk a.toList b.toList c.2.2.2.1.toList c.2.1 c.2.2.1/\0<c.2.1/\1<c.2.2.1/\(i=0->c.2.1=z/\c.2.2.1=B)/\(0<i->c.2.1+c.2.2.1+2<=z+B)) ?step ?fin ⟨eX.refl _,rfl,d,h1,h2,λ_=>⟨rfl,rfl⟩,λh=>bz h (by decide)⟩
 case fin =>
  rintro⟨r,na,nb,ae,c⟩ j ⟨g,k,p,o,n,u,l⟩;dsimp only at *;subst k;exact hn ae na nb c j g p o n (l (by omega))
 case step =>
  rintro i ⟨r,na,nb,ae,mg,G,F⟩ j _ V ⟨g,k,p,o,n,u,l⟩;dsimp only at *;subst k;have X:na+nb<=z+B:=by
   by_cases hi:i=0
   ·have:=u hi;omega
   ·have:=l (by omega);omega
  have H:∀mg,wpS M A E s (tY a b na nb ae mg G F) (QY rk a b (z+B-2) j) j:=λmg=>afM hL T (g.kind.trans C) p o n (by omega);split
  all_goals
   refine nZ (H _) λr y q=>?_;obtain⟨f,q⟩:=q
   match r,q with
   |.done (aj m,c),.inl ⟨W,e,D⟩=>dsimp only at e;cases e;exact hr _ _ _ (g.trans f) D
   |.done (ao,U,N,R,c),.inr ⟨_,m,x,w,v⟩=>exact hn R U N c y (g.trans f) m x w (by dsimp only at v;omega)
   |.yield c,q=>exact⟨g.trans f,q.1,q.2.1,q.2.2.1,q.2.2.2.1,λh=>by omega,λ_=>by have:=q.2.2.2.2;omega⟩
theorem afC(hL:iM M A E s kd P rk)(T:CB P rk a b)(ha:0<a.size)(hb:0<b.size)(h:∀x,a.toList[a.size-1]?=aj x->∀y∈b.toList,rk y<=rk x){st:bo}(p:kindOf st=kd):wpS M A E s (NC a b) (λm j=>eX st j/\jK rk a b m) st:=by
 rw[asS];refine bJ (wpS_lift (wG ⟨rfl,?_⟩));obtain⟨x,u,o,V⟩:=nV (show a.size-1<a.size by omega);refine bJ (lJ u ?_);have U:MH rk a.toList b.toList (#[x]:a8 bb).toList (a.size-1) b.size:=by
  have L:MH rk a.toList b.toList (#[]:a8 bb).toList a.size b.size:=⟨by simp,by simp,by simp,by simp,by simp⟩;exact L.TR ha o T.sa (by rw[Nd (by simp)];exact h x o)
 refine gK (λhe=>?_) (λhe=>?_)
 ·exact dB ⟨eX.refl _,U.VX T.sb (by simpa using he)⟩
 have he:¬a.size-1=0:=by simpa using he
 refine gK (λz=>?_) (λz=>?_)
 ·exact dB ⟨eX.refl _,U.VV T (by simpa using z)⟩
 have z:¬b.size=1:=by simpa using z
 refine bJ (yA ?_);refine bJ (nZ (pX
  (I:=λi (c:ar (a8 bb)×ay×ay×a8 bb×ay) j=>eX st j/\c.1=ao/\MH rk a.toList b.toList c.2.2.2.1.toList c.2.1 c.2.2.1/\0<c.2.1/\1<c.2.2.1/\i+c.2.1+c.2.2.1<=a.size+b.size)
  (Q:=λ(c:ar (a8 bb)×ay×ay×a8 bb×ay) j=>eX st j/\∃m,c.1=aj m/\jK rk a b m) ?step ?fin ⟨eX.refl _,rfl,U,by dsimp only;omega,by dsimp only;omega,by dsimp only;omega⟩) ?post)
 case fin =>
  rintro⟨r,na,nb,ae,c⟩ j ⟨g,f,n,l,k,t⟩;dsimp only at *;omega
 case post =>
  rintro⟨r,na,nb,ae,c⟩ j ⟨g,m,e,q⟩;dsimp only at e;subst e;exact dB ⟨g,q⟩
 case step =>
  rintro i ⟨r,na,nb,ae,mg⟩ j _ mI ⟨g,f,n,l,k,t⟩;dsimp only at f n l k t;subst f;refine bJ (show wpS M A E s (Hq a b mg na nb ae) _ _ from afK hL T (g.kind.trans p) n l k (λm c q=>?_) (λae N B c K H G X=>?_))
  ·exact dB ⟨g,m,rfl,q⟩
  ·refine bJ (wpS_lift (wG ⟨rfl,?_⟩));refine bJ (show wpS M A E s (Ho a b N B ae (mg+1) c.1 c.2) _ _ from afJ hL T (g.kind.trans p) K H G (λm c R d q=>?_) (λae F D c R d C w v W=>?_))
   ·exact dB ⟨g.trans d,m,rfl,q⟩
   ·refine bJ (RR λiA S=>?_);exact dj ⟨(g.trans d).trans S,rfl,C,w,v,by dsimp only;omega⟩
end
noncomputable def Kr(rk:bb->a5)(xs:a8 bb)(i:ay):a5:=match xs[i]? with
 |some p=>rk p
 |none=>0
theorem QV{rk:bb->a5}{xs ys:a8 bb}{i j:ay}(h:xs[i]?=ys[j]?):Kr rk xs i=Kr rk ys j:=by unfold Kr;rw[h]
def Up(rk:bb->a5)(xs:a8 bb)(lo n:ay):Prop:=∀i j,i<=j->j<n->Kr rk xs (lo+i)<=Kr rk xs (lo+j)
def Dn(rk:bb->a5)(xs:a8 bb)(lo n:ay):Prop:=∀i j,i<=j->j<n->Kr rk xs (lo+j)<=Kr rk xs (lo+i)
theorem aI4{rk:bb->a5}{xs:a8 bb}{src d:ay}(j:src<xs.size)(hd:d<=src)(k:ay) :
  Kr rk (bubble xs src d) k=if k=src-d then Kr rk xs src else if src-d<k/\k<=src then Kr rk xs (k-1)else Kr rk xs k:=by
 have e:=getElem?_bubble j d hd k
 by_cases h1:k=src-d
 ·rw[a9 h1]at e ⊢;exact QV e
 ·rw[bf h1]at e ⊢
  by_cases h2:src-d<k/\k<=src
  ·rw[a9 h2]at e ⊢;exact QV e
  ·rw[bf h2]at e ⊢;exact QV e
theorem Nm{rk:bb->a5}{xs:a8 bb}{i j:ay}(q:j<=xs.size)(k:ay) :
  Kr rk (mirror xs i j ((j-i)/2)) k=if i<=k/\k<j then Kr rk xs (i+j-1-k)else Kr rk xs k:=by
 have e:=getElem?_mirror_all (i:=i) q k
 by_cases h1:i<=k/\k<j
 ·rw[a9 h1]at e ⊢;exact QV e
 ·rw[bf h1]at e ⊢;exact QV e
theorem QU{rk:bb->a5}{xs:a8 bb}{i j:ay}(q:j<=xs.size)(heq:∀k,i<=k->k<j->Kr rk xs k=Kr rk xs (j-1))(k:ay) :
  Kr rk (mirror xs i j ((j-i)/2)) k=Kr rk xs k:=by
 rw[Nm q];split
 ·rw[heq _ (by omega) (by omega),heq k (by omega) (by omega)]
 ·rfl
structure Bs(kd:dw)(x0:a8 bb)(lo:ay)(p0:a8 (ay×ay×ay))(st:bo):Prop where
 kind:kindOf st=kd
 failed:dy st=ao
 pend:cb st=p0
 perm:(bp st).Perm x0
 pre:∀k,k<lo->(bp st)[k]?=x0[k]?
section
variable{M:ei}{A:bu}{E:aq->av->Prop}{s:av}{kd:dw}{P:bb->Prop}{rk:bb->a5}{x0:a8 bb}{lo:ay}{p0:a8 (ay×ay×ay)}
theorem Bs.size{st:bo}(h:Bs kd x0 lo p0 st):(bp st).size=x0.size:=h.perm.size_eq
theorem Bs.mirror{st:bo}(h:Bs kd x0 lo p0 st){i j:ay}(hi:lo<=i)(z:j<=x0.size):Bs kd x0 lo p0 (setArr st (mirror (bp st) i j ((j-i)/2))) :=
 ⟨h.kind,h.failed,h.pend,(mirror_perm _ _ _ _).trans h.perm,λk q=>by
  rw[<-h.pre k q];show(PyProof.Rows.mirror (bp st) i j ((j-i)/2))[k]?=_;rw[getElem?_mirror_all (by rw[h.size];exact z),bf (by omega)]⟩
theorem Bs.bubble{st:bo}(h:Bs kd x0 lo p0 st){src d:ay}(j:src<x0.size)(hd:lo+d<=src):Bs kd x0 lo p0 (setArr st (bubble (bp st) src d)) :=
 ⟨h.kind,h.failed,h.pend,(bubble_perm _ _ _).trans h.perm,λk q=>by
  rw[<-h.pre k q];show(PyProof.Rows.bubble (bp st) src d)[k]?=_;rw[getElem?_bubble (by rw[h.size];exact j) d (by omega),bf (by omega),bf (by omega)]⟩
theorem LI(hL:iM M A E s kd P rk)(N:∀x∈x0.toList,P x){st:bo}(q:Bs kd x0 lo p0 st){i j:ay}{Q:ar br->bo->Prop}(hi:i<x0.size)(d:j<x0.size)
  (h:Q (aj (decide (Kr rk (bp st) i<Kr rk (bp st) j))) st):wpS M A E s (ltAt' i j) Q st:=by
 obtain⟨x,B,_,b⟩:=nV (show i<(bp st).size by rw[q.size];exact hi);obtain⟨y,z,_,U⟩:=nV (show j<(bp st).size by rw[q.size];exact d);have c:=(ZR.mp q.perm).mem_iff (a:=x);have g:=(ZR.mp q.perm).mem_iff (a:=y);rw[ltAt'_eq];refine bJ (yA ?_);show wpS _ _ _ _ (do let x<-cv (bp st) i;let y<-cv (bp st) j;lt' x y) Q st;refine bJ (lJ B (bJ (lJ z ?_)));refine hL x y (N x (c.mp b)) (N y (g.mp U)) st Q q.kind ?_;have f:Kr rk (bp st) i=rk x:=by unfold Kr;rw[B]
 have e:Kr rk (bp st) j=rk y:=by unfold Kr;rw[z]
 rw[f,e]at h;exact h
theorem RS{st:bo}{i j:ay}{Q:Unit->bo->Prop}(h:Q () (setArr st (mirror (bp st) i j ((j-i)/2)))):wpS M A E s (en i j) Q st:=by
 rw[reverseSlice'_eq];exact GL h
theorem afO(hL:iM M A E s kd P rk)(D:∀x∈x0.toList,P x){st:bo}{n ok:ay}{Q:br->bo->Prop}(hn:lo+n<=x0.size)(aH:ok<=n)(F:Bs kd x0 lo p0 st)(u:Up rk (bp st) lo ok)
  (h:∀q,Bs kd x0 lo p0 q->Up rk (bp q) lo n->Q ax q):wpS M A E s (binarySort' lo n ok) Q st:=by
 rw[binarySort'_eq];refine bJ (nZ (pX (I:=λk c q=>c=(ao,())/\Bs kd x0 lo p0 q/\Up rk (bp q) lo (min k n))
  (Q:=λc q=>c=(ao,())/\Bs kd x0 lo p0 q/\Up rk (bp q) lo n) ?step ?fin ?init) ?post)
 case post =>
  rintro c q ⟨rfl,N,B⟩;exact dB (h q N B)
 case init =>
  refine⟨rfl,F,λi j g w=>?_⟩
  by_cases h1:ok=0
  ·have:i=j:=by omega
   subst this;exact lY _
  ·exact u i j g (by omega)
 case fin =>
  rintro c q ⟨y,N,B⟩;refine⟨y,N,?_⟩;rwa[show min (max (max ok 1) n) n=n by omega]at B
 case step =>
  rintro k c q C v ⟨rfl,N,B⟩;rw[show min k n=k by omega]at B;have e:lo+k<x0.size:=by omega
  refine bJ (nZ (pX (I:=λx c z=>z=q/\∃l r,c=(ao,l,r)/\l<=r/\r<=k/\r-l<=k-x /\
    (∀i,i<l->Kr rk (bp q) (lo+i)<=Kr rk (bp q) (lo+k))/\(∀i,r<=i->i<k->Kr rk (bp q) (lo+k)<Kr rk (bp q) (lo+i)))
   (Q:=λc z=>z=q/\∃l r,c=(ao,l,r)/\l<=k /\
    (∀i,i<l->Kr rk (bp q) (lo+i)<=Kr rk (bp q) (lo+k))/\(∀i,l<=i->i<k->Kr rk (bp q) (lo+k)<Kr rk (bp q) (lo+i))) ?istep ?ifin ?iinit) ?ipost)
  case iinit=>exact⟨rfl,0,k,rfl,by omega,by omega,by omega,λi hi=>by omega,λi h1 h2=>by omega⟩
  case ifin =>
   rintro c z ⟨rfl,l,r,rfl,d,f,hm,a,U⟩;have:l=r:=by omega
   subst this;exact⟨rfl,l,l,rfl,f,a,U⟩
  case istep =>
   rintro x c z _ t ⟨rfl,l,r,rfl,d,f,hm,a,U⟩;dsimp only
   by_cases m:l>=r
   ·rw[a9 m];have:l=r:=by omega
    subst this;exact dB ⟨rfl,l,l,rfl,f,a,U⟩
   ·rw[bf m];refine bJ (LI hL D N e (by omega) ?_)
    by_cases b:Kr rk (bp z) (lo+k)<Kr rk (bp z) (lo+(l+r)/2)
    ·simp only[b,JC,jP];refine dB ⟨rfl,l,(l+r)/2,rfl,by omega,by omega,by omega,a,λi h1 h2=>?_⟩;exact Int.lt_of_lt_of_le b (B _ _ h1 h2)
    ·simp only[b,JD,kZ,iJ];refine dB ⟨rfl,(l+r)/2+1,r,rfl,by omega,by omega,by omega,λi h1=>?_,U⟩;exact KN (B i ((l+r)/2) (by omega) (by omega)) (Int.not_lt.mp b)
  case ipost =>
   rintro c z ⟨rfl,l,r,rfl,G,a,U⟩;show wpS _ _ _ _ (do moveDown' (lo+k) (lo+l);pure (ForInStep.yield (ao,()))) _ _;rw[moveDown'_eq];refine bJ (GL (dB ⟨rfl,N.bubble e (by omega),?_⟩));rw[show min (k+1) n=k+1 by omega];have p:lo+k<(bp z).size:=by rw[N.size];exact e
   intro i j g w;show Kr rk (bubble (bp z) (lo+k) (lo+k-(lo+l))) (lo+i)<=Kr rk (bubble (bp z) (lo+k) (lo+k-(lo+l))) (lo+j);have o:∀i,Kr rk (bubble (bp z) (lo+k) (lo+k-(lo+l))) (lo+i)=if i=l then Kr rk (bp z) (lo+k)else if l<i/\i<=k then Kr rk (bp z) (lo+(i-1))else Kr rk (bp z) (lo+i):=λi=>by
    rw[aI4 p (by omega)]
    by_cases h1:i=l
    ·rw[a9 h1,a9 (by omega)]
    ·rw[bf h1,bf (by omega)]
     by_cases h2:l<i/\i<=k
     ·rw[a9 h2,a9 (by omega),show lo+i-1=lo+(i-1)by omega]
     ·rw[bf h2,bf (by omega)]
   rw[o,o]
   repeat' split
   all_goals first
    |(exfalso;omega)
    |exact lY _
    |exact a _ (by omega)
    |exact Nx (U _ (by omega) (by omega))
    |exact B _ _ (by omega) (by omega)
end
noncomputable def XW(lo a nrem:ay):da bo Sem AscSt :=
 forIn [a:nrem] ((ao,a):AscSt) λ_ c=>do
  let x<-ltAt' (lo+c.2) (lo+c.2-1)
  match x with
  |some j=>if j=ax then pure (ForInStep.done (ao,c.2))else pure (ForInStep.yield (ao,c.2+1))
  |_=>pure (ForInStep.done (aj ao,c.2))
noncomputable def SQ(lo n0 nrem:ay):da bo Sem (ar ay):=do
 let mut n:=n0
 en lo (lo+n)
 for _ in [n:nrem] do
  let aj j<-ltAt' (lo+n) (lo+n-1)|return ao
  if j then break
  n:=n+1
 return aj n
noncomputable def Kb(lo n nrem:ay):da bo Sem DescSt :=
 forIn [n:nrem] ((ao,n,0):DescSt) λ_ c=>do
  let x<-ltAt' (lo+c.2.1) (lo+c.2.1-1)
  match x with
  |some j =>
   if j=ax then
    if c.2.2>0 then do
     en (lo+c.2.1-(c.2.2+1)) (lo+c.2.1)
     pure (ForInStep.yield (ao,c.2.1+1,0))
    else pure (ForInStep.yield (ao,c.2.1+1,0))
   else do
    let x<-ltAt' (lo+c.2.1-1) (lo+c.2.1)
    match x with
    |some q =>
     if q=ax then pure (ForInStep.done (ao,c.2.1,c.2.2))
     else pure (ForInStep.yield (ao,c.2.1+1,c.2.2+1))
    |_=>pure (ForInStep.done (aj ao,c.2.1,c.2.2))
  |_=>pure (ForInStep.done (aj ao,c.2.1,c.2.2))
noncomputable def WQ(lo n0 nrem:ay):da bo Sem (ar ay):=do
 let mut n:=n0
 rule "list.sort.descending-run"
 n:=n+1
 let mut lT:=0
 for _ in [n:nrem] do
  let aj j<-ltAt' (lo+n) (lo+n-1)|return ao
  if j then
   if lT>0 then en (lo+n-(lT+1)) (lo+n)
   lT:=0
  else
   let aj q<-ltAt' (lo+n-1) (lo+n)|return ao
   if q then break
   lT:=lT+1
  n:=n+1
 if lT>0 then en (lo+n-(lT+1)) (lo+n)
 en lo (lo+n)
 for _ in [n:nrem] do
  let aj j<-ltAt' (lo+n) (lo+n-1)|return ao
  if j then break
  n:=n+1
 return aj n
section
variable{M:ei}{A:bu}{E:aq->av->Prop}{s:av}{kd:dw}{P:bb->Prop}{rk:bb->a5}{x0:a8 bb}{lo:ay}{p0:a8 (ay×ay×ay)}
theorem Qp(hL:iM M A E s kd P rk)(g:∀x∈x0.toList,P x){st:bo}{a nrem:ay}{Q:AscSt->bo->Prop}(hn:lo+nrem<=x0.size)(ha:1<=a)(U:a<=nrem)(k:Bs kd x0 lo p0 st)(e:Up rk (bp st) lo a)
  (h:∀n,a<=n->n<=nrem->Up rk (bp st) lo n->(n=nrem\/Kr rk (bp st) (lo+n)<Kr rk (bp st) (lo+n-1))->Q (ao,n) st) :
  wpS M A E s (XW lo a nrem) Q st:=by
 unfold XW;refine pX (I:=λx c B=>B=st/\c=(ao,x)/\Up rk (bp st) lo x) ?step ?fin ⟨rfl,rfl,e⟩
 case fin =>
  rintro c B ⟨rfl,rfl,z⟩;rw[show max a nrem=nrem by omega]at z ⊢;exact h nrem U cX z (.inl rfl)
 case step =>
  rintro x c B m p ⟨rfl,rfl,z⟩;dsimp only;refine bJ (LI hL g k (by omega) (by omega) ?_)
  by_cases N:Kr rk (bp B) (lo+x)<Kr rk (bp B) (lo+x-1)
  ·simp only[N,JC,jP];exact dB (h x m (by omega) z (.inr N))
  ·simp only[N,JD,kZ,iJ];refine dB ⟨rfl,rfl,λi j f o=>?_⟩
   by_cases l:j<x
   ·exact z i j f l
   ·have b:j=x:=by omega
    subst b
    by_cases d:i=j
    ·subst d;exact lY _
    ·have q:=z i (j-1) (by omega) (by omega);rw[show lo+(j-1)=lo+j-1 by omega]at q;exact KN q (Int.not_lt.mp N)
theorem Qe(hL:iM M A E s kd P rk)(c:∀x∈x0.toList,P x){st:bo}{n nrem:ay}{Q:ar ay->bo->Prop}(hn:lo+nrem<=x0.size)(h1:1<=n)(a:n<=nrem)(U:Bs kd x0 lo p0 st)
  (b:Dn rk (bp st) lo n) (h:∀m B,Bs kd x0 lo p0 B->1<=m->m<=nrem->Up rk (bp B) lo m->Q (aj m) B) :
  wpS M A E s (SQ lo n nrem) Q st:=by
 unfold SQ;have z:lo+n<=(bp st).size:=by rw[U.size];omega
 refine bJ (RS ?_);have N:=U.mirror (i:=lo) (j:=lo+n) cX (by omega);refine bJ (show wpS M A E s (XW lo n nrem) _ _ from Qp hL c hn h1 a N ?_ λm k d e _=>dB (h m _ N (by omega) d e));intro i j g f;show Kr rk (mirror (bp st) lo (lo+n) ((lo+n-lo)/2)) (lo+i)<=Kr rk (mirror (bp st) lo (lo+n) ((lo+n-lo)/2)) (lo+j);rw[Nm z,Nm z,a9 (by omega),a9 (by omega)];have q:=b (n-1-j) (n-1-i) (by omega) (by omega);rw[show lo+(n-1-j)=lo+(lo+n)-1-(lo+j)by omega,show lo+(n-1-i)=lo+(lo+n)-1-(lo+i)by omega]at q;exact q
theorem afN(hL:iM M A E s kd P rk)(r:∀x∈x0.toList,P x){st:bo}{n nrem:ay}{Q:DescSt->bo->Prop}(hn:lo+nrem<=x0.size)(h1:1<=n)(w:n<=nrem)(D:Bs kd x0 lo p0 st)
  (y:Dn rk (bp st) lo n)
  (h:∀m lT z,Bs kd x0 lo p0 z->n<=m->m<=nrem->Dn rk (bp z) lo m->lT+1<=m->(∀i,lo+m-(lT+1)<=i->i<lo+m->Kr rk (bp z) i=Kr rk (bp z) (lo+m-1))->Q (ao,m,lT) z) :
  wpS M A E s (Kb lo n nrem) Q st:=by
 unfold Kb;refine pX (I:=λx c z=>∃lT,c=(ao,x,lT)/\Bs kd x0 lo p0 z/\Dn rk (bp z) lo x/\lT+1<=x /\
   (∀i,lo+x-(lT+1)<=i->i<lo+x->Kr rk (bp z) i=Kr rk (bp z) (lo+x-1))) ?step ?fin ⟨0,rfl,D,y,by omega,λi h1 h2=>by congr 1;omega⟩
 case fin =>
  rintro c z ⟨lT,rfl,B,N,U,he⟩;rw[show max n nrem=nrem by omega]at N U he ⊢;exact h nrem lT z B w cX N U he
 case step =>
  rintro x c z F H ⟨lT,rfl,B,N,U,he⟩;dsimp only;have f:lo+x<=(bp z).size:=by rw[B.size];omega
  refine bJ (LI hL r B (by omega) (by omega) ?_)
  by_cases d:Kr rk (bp z) (lo+x)<Kr rk (bp z) (lo+x-1)
  ·simp only[d,JC,jP];have v:∀a:a8 bb,(∀k,Kr rk a k=Kr rk (bp z) k)->Dn rk a lo (x+1):=by
    intro a p i j l C;rw[p,p]
    by_cases o:j<x
    ·exact N i j l o
    ·have b:j=x:=by omega
     subst b
     by_cases e:i=j
     ·subst e;exact lY _
     ·have q:=N i (j-1) (by omega) (by omega);rw[show lo+(j-1)=lo+j-1 by omega]at q;exact KN (Nx d) q
   refine gK (λG=>?_) (λG=>?_)
   ·exact bJ (RS (dB ⟨0,rfl,B.mirror (by omega) (by omega),v _ (QU f he),by omega,λi h1 h2=>by congr 1;omega⟩))
   ·exact dB ⟨0,rfl,B,v _ (λ_=>rfl),by omega,λi h1 h2=>by congr 1;omega⟩
  ·simp only[d,JD,kZ,iJ];refine bJ (LI hL r B (by omega) (by omega) ?_)
   by_cases u:Kr rk (bp z) (lo+x-1)<Kr rk (bp z) (lo+x)
   ·simp only[u,JC,jP];exact dB (h x lT z B F (by omega) N U he)
   ·simp only[u,JD,kZ,iJ];have t:Kr rk (bp z) (lo+x)=Kr rk (bp z) (lo+x-1):=by omega
    refine dB ⟨lT+1,rfl,B,λi j l C=>?_,by omega,λi h1 h2=>?_⟩
    ·by_cases o:j<x
     ·exact N i j l o
     ·have b:j=x:=by omega
      subst b
      by_cases e:i=j
      ·subst e;exact lY _
      ·have q:=N i (j-1) (by omega) (by omega);rw[show lo+(j-1)=lo+j-1 by omega]at q;rw[t];exact q
    ·rw[show lo+(x+1)-1=lo+x by omega]
     by_cases g:i=lo+x
     ·subst g;rfl
     ·rw[t];exact he i (by omega) (by omega)
theorem Qo(hL:iM M A E s kd P rk)(N:∀x∈x0.toList,P x){st:bo}{n nrem:ay}{Q:ar ay->bo->Prop}(hn:lo+nrem<=x0.size)(b:n+1<=nrem)(f:Bs kd x0 lo p0 st)
  (c:Dn rk (bp st) lo (n+1)) (h:∀m q,Bs kd x0 lo p0 q->1<=m->m<=nrem->Up rk (bp q) lo m->Q (aj m) q) :
  wpS M A E s (WQ lo n nrem) Q st:=by
 unfold WQ;refine bJ (wpS_lift (wG ⟨rfl,?_⟩));refine bJ (show wpS M A E s (Kb lo (n+1) nrem) _ _ from afN hL N hn (by omega) b f c λm lT q B l a U k he=>?_);have z:lo+m<=(bp q).size:=by rw[B.size];omega
 refine gK (λg=>?_) (λg=>?_)
 ·refine wpS_bind (RS (show wpS M A E s (SQ lo m nrem) _ _ from Qe hL N hn (by omega) a (B.mirror (by dsimp only;omega) (by dsimp only;omega)) ?_ h));intro i j e d;show Kr rk (mirror (bp q) _ _ _) (lo+j)<=Kr rk (mirror (bp q) _ _ _) (lo+i);rw[QU z he,QU z he];exact U i j e d
 ·exact(show wpS M A E s (SQ lo m nrem) _ _ from Qe hL N hn (by omega) a B U h)
theorem afA(hL:iM M A E s kd P rk)(U:∀x∈x0.toList,P x){st:bo}{nrem:ay}{Q:ar ay->bo->Prop}(hn:lo+nrem<=x0.size)(h1:1<=nrem)(z:Bs kd x0 lo p0 st)
  (h:∀m e,Bs kd x0 lo p0 e->1<=m->m<=nrem->Up rk (bp e) lo m->Q (aj m) e) :
  wpS M A E s (countRun' lo nrem) Q st:=by
 rw[countRun'_eq];refine bJ (show wpS M A E s (XW lo 1 nrem) _ _ from Qp hL U hn (oX 1) h1 z (λi j l g=>by
  have:i=j:=by omega
  subst this;exact lY _) λn u f a C=>?_)
 refine gK (λN=>?_) (λN=>?_)
 ·exact dB (h n st z u f a)
 ·have N:¬n=nrem:=by simpa using N
  have o:=C.resolve_left N;refine gK (λb=>?_) (λb=>?_)
  ·have b:n>1:=b;refine wpS_bind (LI hL U z (by omega) (by dsimp only;omega) ?_);dsimp only
   by_cases t:Kr rk (bp st) lo<Kr rk (bp st) (lo+n-1)
   ·refine gK (λ_=>dB (h n st z u f a)) (λq=>bz (vO t) q)
   ·refine gK (λq=>bz (El q) t) (λ_=>?_);have B:lo+n<=(bp st).size:=by rw[z.size];omega
    have hall:∀k,lo<=k->k<lo+n->Kr rk (bp st) k=Kr rk (bp st) (lo+n-1):=by
     intro k F G;have r:=a 0 (k-lo) (by omega) (by omega);have p:=a (k-lo) (n-1) (by omega) (by omega);rw[show lo+(k-lo)=k by omega]at r p;rw[show lo+(n-1)=lo+n-1 by omega]at p;rw[Nat.add_zero]at r;omega
    refine bJ (RS (show wpS M A E s (WQ lo n nrem) _ _ from Qo hL U hn (by omega) (z.mirror cX (by omega)) ?_ h));intro i j l g;show Kr rk (mirror (bp st) _ _ _) (lo+j)<=Kr rk (mirror (bp st) _ _ _) (lo+i);rw[QU B hall,QU B hall]
    by_cases D:j<n
    ·rw[hall (lo+i) (by omega) (by omega),hall (lo+j) (by omega) (by omega)];exact lY _
    ·have w:j=n:=by omega
     subst w
     by_cases c:i=j
     ·subst c;exact lY _
     ·rw[hall (lo+i) (by omega) (by omega)];exact Nx o
  ·have d:n=1:=by dsimp only at b;omega
   subst d;refine(show wpS M A E s (WQ lo 1 nrem) _ _ from Qo hL U hn (by omega) z ?_ h);intro i j l g
   by_cases c:i=j
   ·subst c;exact lY _
   ·have v:i=0:=by omega
    have y:j=1:=by omega
    subst v;subst y;exact Nx o
end
theorem asT(i:ay):mergeAt' i=(do
 let s<-get
 let (aj (sa,na,power),aj (sb,nb,_)):=((cb s)[i]?,(cb s)[i+1]?)|unsupported "internal:list.sort.pending"
 set (setPending s (((cb s).setIfInBounds i (sa,na+nb,power)).eraseIdxIfInBounds (i+1)))
 let aj k<-qK au (<-cv (bp s) sb) (bp s) sa na 0|return au
 let (sa,na):=(sa+k,na-k)
 if na==0 then return ax
 let aj nb<-qK ax (<-cv (bp s) (sa+na-1)) (bp s) sb nb (nb-1)|return au
 if nb==0 then return ax
 let x:=(bp s).extract sa sb
 let y:=(bp s).extract sb (sb+nb)
 let merged<-if na<=nb then NB x y else NC x y
 modify λs=>setArr s (merged.toList.zipIdx.foldl (λa (p,j)=>a.setIfInBounds (sa+j) p) (bp s))
 return (dy (<-get)).isNone):=rfl
theorem acN{p:ay}:∀(l:ak bb) (k:ay) (arr:a8 bb),p+k+l.length<=arr.size->∀i,((l.zipIdx k).foldl (λa (x,j)=>a.setIfInBounds (p+j) x) arr)[i]?=if p+k<=i/\i<p+k+l.length then l[i-(p+k)]? else arr[i]?
 |[],k,arr,h,i=>by
  rw[bf (by simp only[CK];omega)];rfl
 |x::l,k,arr,h,i=>by
  rw[fZ]at h;have ih:=acN (p:=p) l (k+1) (arr.setIfInBounds (p+k) x) (by rw[Array.size_setIfInBounds];omega) i;rw[List.zipIdx_cons,List.foldl_cons];refine ih.trans ?_;rw[fZ]
  by_cases h1:p+(k+1)<=i/\i<p+(k+1)+l.length
  ·rw[a9 h1,a9 (by omega),show i-(p+k)=i-(p+(k+1))+1 by omega,QR]
  ·rw[bf h1]
   by_cases h2:i=p+k
   ·subst h2;rw[a9 (by omega),Nat.sub_self,ad7,Array.getElem?_setIfInBounds_self_of_lt (by omega)]
   ·rw[bf (by omega),Array.getElem?_setIfInBounds_ne (by omega)]
theorem aHE{p:ay}{l pre mid post:ak bb}{arr:a8 bb}(h:arr.toList=pre++mid++post)(q:pre.length=p)(hl:l.length=mid.length):(l.zipIdx.foldl (λa (x,j)=>a.setIfInBounds (p+j) x) arr).toList=pre++l++post:=by
 have z:arr.size=pre.length+mid.length+post.length:=by rw[<-gJ,h];simp[YJ]
 refine FU λi=>?_;rw[mS,acN l 0 arr (by omega) i,<-mS,h]
 by_cases h1:p+0<=i/\i<p+0+l.length
 ·rw[a9 h1,jW,qS (by omega),jJ (by omega),q];rfl
 ·rw[bf h1]
  by_cases h2:i<p
  ·rw[jW,jW,jJ (by omega),jJ (by omega)]
  ·rw[qS (by simp only[iN];omega),qS (by simp only[iN];omega),iN,iN,hl]
theorem ae9{J:Type}{M:ei}{A:bu}{E:aq->av->Prop}{s:av}{x:J}{Q:PUnit->J->Prop}{st:J}(h:Q ⟨⟩ x):wpS M A E s (set x:da J Sem PUnit) Q st:=by
 unfold wpS;rw[StateT.run_set];exact wpAny_pure ⟨rfl,h⟩
section
variable{M:ei}{A:bu}{E:aq->av->Prop}{s:av}{kd:dw}{P:bb->Prop}{rk:bb->a5}
theorem Wu{pre mid post:ak bb}{arr:a8 bb}(h:arr.toList=pre++(mid++post)){j:ay}(q:j<mid.length):arr[pre.length+j]?=mid[j]?:=by
 rw[<-mS,h,qS (by omega),jJ (by omega)];congr 1;omega
theorem Wv{pre mid post:ak bb}{arr:a8 bb}(h:arr.toList=pre++mid++post){i j:ay}(hi:i=pre.length)(q:j=pre.length+mid.length):(arr.extract i j).toList=mid:=by
 subst hi q;rw[ZQ,List.extract_eq_take_drop,h,jW,List.drop_left];rw[show pre.length+mid.length-pre.length=mid.length by omega,List.take_left]
theorem SV{q j:ak bb}(h1:dH rk q)(h2:dH rk j)(h:∀x∈q,∀y∈j,rk x<=rk y):dH rk (q++j):=uG.mpr ⟨h1,h2,h⟩
theorem Ta{q j:ak bb}(h:dH rk (q++j)):dH rk q/\dH rk j/\∀x∈q,∀y∈j,rk x<=rk y:=uG.mp h
theorem afE(hL:iM M A E s kd P rk){a b:a8 bb}(pa:∀x∈a.toList,P x)(pb:∀x∈b.toList,P x)(sa:dH rk a.toList)(sb:dH rk b.toList)(ha:0<a.size)(hb:0<b.size)(top:∀x,a.toList[a.size-1]?=aj x->∀y∈b.toList,rk y<=rk x)(bot:∀y,b.toList[0]?=aj y->∀x∈a.toList,rk y<=rk x){c:Prop} [di c]{st:bo}(N:kindOf st=kd) :
  wpS M A E s (if c then NB a b else NC a b) (λm U=>eX st U/\jK rk a b m) st:=by
 obtain⟨x,g,B,f⟩:=nV (show a.size-1<a.size by omega);obtain⟨y,e,q,d⟩:=nV hb;refine gK (λ_=>afB hL ⟨pa,pb,sa,sb,λz j=>?_⟩ ha hb bot N) (λ_=>afC hL ⟨pa,pb,sa,sb,λz j=>?_⟩ ha hb top N)
 ·rw[WO B,List.drop_of_length_le (by simp;omega)]at j;simp only[lN]at j;subst j;exact top z B
 ·rw[Sg q,Nc,xT]at j;simp only[lN]at j;subst j;exact bot z q
theorem afD(hL:iM M A E s kd P rk){st:bo}(S:kindOf st=kd)(hf:dy st=ao){i pw q:ay}{pre RA RB post:ak bb}(h:(bp st).toList=pre++(RA++(RB++post)))(hP:∀x∈(bp st).toList,P x)
  (p1:(cb st)[i]?=aj (pre.length,RA.length,pw)) (p2:(cb st)[i+1]?=aj (pre.length+RA.length,RB.length,q)) (hA:dH rk RA) (H:dH rk RB) (a0:0<RA.length) (b0:0<RB.length) {Q:br->bo->Prop}
  (R:∀u C,kindOf u=kd->dy u=ao->cb u=((cb st).setIfInBounds i (pre.length,RA.length+RB.length,pw)).eraseIdxIfInBounds (i+1)->(bp u).toList=pre++(C++post)->C.Perm (RA++RB)->dH rk C->Q ax u) :
  wpS M A E s (mergeAt' i) Q st:=by
 rw[asT];refine bJ (yA ?_);rw[p1,p2];refine bJ (ae9 ?_);generalize hp:((cb st).setIfInBounds i (pre.length,RA.length+RB.length,pw)).eraseIdxIfInBounds (i+1)=pend at R ⊢;have L:∀j,j<RA.length->(bp st)[pre.length+j]?=RA[j]?:=λj b=>Wu h b;have h':(bp st).toList=(pre++RA)++(RB++post):=by rw[h,jW]
 have K:∀j,j<RB.length->(bp st)[pre.length+RA.length+j]?=RB[j]?:=λj b=>by
  have:=Wu h' b;rwa[iN]at this
 have PA:∀x∈RA,P x:=λx d=>hP x (by rw[h];simp[d]);have PB:∀x∈RB,P x:=λx d=>hP x (by rw[h];simp[d]);obtain⟨y,G⟩:∃y,RB[0]?=aj y:=⟨RB[0],oR RB 0 b0⟩;have X:=mQ G;refine bJ (lJ (by rw[<-G];exact K 0 b0) ?_);have BI:kindOf (setPending st pend)=kd:=S;refine bJ (ZW hL BI (PB y X) (λj b=>?_) (λj1 j2 x1 x2 Hk b p t=>?_) a0 (λk fA bW eV=>?_))
 ·exact⟨RA[j],by rw[L j b];exact oR RA j b,PA _ (Ni _)⟩
 ·rw[L _ (by omega)]at p t;exact HG hA Hk p t
 simp only[kZ,iJ]at bW eV;obtain⟨N,B,rfl,lA1⟩:∃N B,RA=N++B/\N.length=k:=⟨RA.take k,RA.drop k,(xS k RA).symm,by rw[JZ];omega⟩;have lA:(N++B).length=N.length+B.length:=iN;obtain⟨Tz,Tx,amF⟩:=Ta hA;have Xe:∀x∈N,rk x<=rk y:=λx d=>by
  obtain⟨j,b,e⟩:=CL d;exact bW j x (by omega) (by rw[L j (by omega),jJ b,oR N j b,e])
 have as4:∀x∈B,rk y<=rk x:=λx d=>by
  obtain⟨j,b,e⟩:=CL d;have:=eV (k+j) x (by omega) (by omega) (by rw[L _ (by omega),qS (by omega),show k+j-N.length=j by omega,oR B j b,e]);omega
 have Xd:∀x∈RB,rk y<=rk x:=λx d=>HH H G x (by simpa using d);refine gK (λhe=>?_) (λhe=>?_)
 ·have he:(N++B).length-k=0:=by simpa using he
  have eA2:B=[]:=xV (by omega);subst eA2;rw[pU]at *;exact dB (R _ (N++RB) S hf rfl (by rw[jW];exact h) (FW _) (SV Tz H λx d z U=>by have:=Xe x d;have:=Xd z U;omega))
 have he:¬(N++B).length-k=0:=by simpa using he
 obtain⟨x,d⟩:∃x,B[B.length-1]?=aj x:=⟨B[B.length-1],oR B _ (by omega)⟩;have hxA:=mQ d;have ex:(bp st)[pre.length+k+((N++B).length-k)-1]?=aj x:=by
  rw[show pre.length+k+((N++B).length-k)-1=pre.length+((N++B).length-1)by omega,L _ (by omega),qS (by omega),show(N++B).length-1-N.length=B.length-1 by omega];exact d
 refine bJ (lJ ex ?_);refine bJ (ZW hL BI (PA x (lO _ hxA)) (λj b=>?_) (λj1 j2 x1 x2 Hk b p t=>?_) (by omega) (λn jF Zg Zt=>?_))
 ·exact⟨RB[j],by rw[K j b];exact oR RB j b,PB _ (Ni _)⟩
 ·rw[K _ (by omega)]at p t;exact HG H Hk p t
 simp only[jP]at Zg Zt;obtain⟨f,l,rfl,lB1⟩:∃f l,RB=f++l/\f.length=n:=⟨RB.take n,RB.drop n,(xS n RB).symm,by rw[JZ];omega⟩;have lB:(f++l).length=f.length+l.length:=iN;obtain⟨W,V,amD⟩:=Ta H;have Hs:∀z∈f,rk z<=rk x:=λz U=>by
  obtain⟨j,b,e⟩:=CL U;have:=Zg j z (by omega) (by rw[K j (by omega),jJ b,oR f j b,e]);omega
 have tY:∀z∈l,rk x<=rk z:=λz U=>by
  obtain⟨j,b,e⟩:=CL U;exact Zt (n+j) z (by omega) (by omega) (by rw[K _ (by omega),qS (by omega),show n+j-f.length=j by omega,oR l j b,e])
 have Sb:∀z∈B,rk z<=rk x:=λz U=>by
  obtain⟨j,b,e⟩:=CL U;exact HG Tx (show j<=B.length-1 by omega) (by rw[oR B j b,e]) d
 have Pq:∀z∈N,∀v∈f++l,rk z<=rk v:=λz U v hv=>by have:=Xe z U;have:=Xd v hv;omega
 refine gK (λF=>?_) (λF=>?_)
 ·have F:n=0:=by simpa using F
  have eB1:f=[]:=xV (by omega);subst eB1;rw[xT]at *;refine dB (R _ (N++B++l) S hf rfl (by rw[h,jW (N++B)]) (FW _) (SV hA H λz U v hv=>?_))
  rcases lH.mp U with r|r
  ·exact Pq z r v hv
  ·have:=Sb z r;have:=tY v hv;omega
 have F:¬n=0:=by simpa using F
 have D:((bp st).extract (pre.length+k) (pre.length+(N++B).length)).toList=B:=Wv (pre:=pre++N) (post:=f++l++post) (by rw[h];simp only[jW]) (by simp only[iN];omega) (by simp only[iN];omega);have w:((bp st).extract (pre.length+(N++B).length) (pre.length+(N++B).length+n)).toList=f:=Wv (pre:=pre++(N++B)) (post:=l++post) (by rw[h];simp only[jW]) (by simp only[iN]) (by simp only[iN];omega);have T:((bp st).extract (pre.length+k) (pre.length+(N++B).length)).size=B.length:=by rw[<-gJ,D]
 have szb:((bp st).extract (pre.length+(N++B).length) (pre.length+(N++B).length+n)).size=f.length:=by rw[<-gJ,w]
 have both:∀(c:Prop) [di c],wpS M A E s (if c then NB ((bp st).extract (pre.length+k) (pre.length+(N++B).length)) ((bp st).extract (pre.length+(N++B).length) (pre.length+(N++B).length+n))else NC ((bp st).extract (pre.length+k) (pre.length+(N++B).length)) ((bp st).extract (pre.length+(N++B).length) (pre.length+(N++B).length+n))) (λm u=>eX (setPending st pend) u/\jK rk ((bp st).extract (pre.length+k) (pre.length+(N++B).length)) ((bp st).extract (pre.length+(N++B).length) (pre.length+(N++B).length+n)) m) (setPending st pend):=λc _=>by
  refine afE hL (by rw[D];exact λz U=>PA z (lO _ U)) (by rw[w];exact λz U=>PB z (nX _ U)) (by rw[D];exact Tx) (by rw[w];exact W) (by omega) (by omega) (λz U=>?_) (λz U=>?_) BI
  ·rw[D,T,d]at U;cases U;rw[w];exact Hs
  ·rw[w]at U;rw[jJ (by omega)]at G;rw[G]at U;cases U;rw[D];exact as4
 have bT:=both True;have bF:=both cp;rw[a9 trivial]at bT;rw[bf id]at bF;refine gK (λ_=>bJ (nZ bT λm o gm=>?_)) (λ_=>bJ (nZ bF λm o gm=>?_))
 all_goals
  obtain⟨g,I,gs⟩:=gm;rw[D,w]at I;refine bJ (GL (bJ (yA (dB ?_))));have p:dy o=ao:=g.failed.trans hf;have ef:(dy (setArr o (m.toList.zipIdx.foldl (λa (x,j)=>a.setIfInBounds (pre.length+k+j) x) (bp o)))).isNone=ax:=by
   show(dy o).isNone=ax;rw[p];rfl
  have fin:Q ax (setArr o (m.toList.zipIdx.foldl (λa (x,j)=>a.setIfInBounds (pre.length+k+j) x) (bp o))):=by
   refine R _ (N++m.toList++l) (g.kind.trans S) p g.pend ?_ ?_ ?_
   ·show(m.toList.zipIdx.foldl (λa (x,j)=>a.setIfInBounds (pre.length+k+j) x) (bp o)).toList=_;rw[show bp o=bp st from g.arr];rw[aHE (pre:=pre++N) (mid:=B++f) (post:=l++post) (by rw[h];simp only[jW]) (by rw[iN];omega) I.length_eq];simp only[jW]
   ·have t:N++B++(f++l)=N++(B++f)++l:=by simp only[jW]
    rw[t];exact(KG N I).append_right l
   ·refine SV (SV Tz gs λz U v hv=>?_) V λz U v hv=>?_
    ·rcases lH.mp (I.mem_iff.mp hv)with r|r
     ·exact amF z U v r
     ·exact Pq z U v (nX _ r)
    ·rcases lH.mp U with r|r
     ·exact Pq z r v (lO _ hv)
     ·rcases lH.mp (I.mem_iff.mp r)with r|r
      ·have:=Sb z r;have:=tY v hv;omega
      ·exact amD z r v hv
  rw[<-ef]at fin;exact fin
end
noncomputable def starts:ay->ak (ak bb)->ak (ay×ay)
 |_,[]=>[]
 |o,R::Rs=>(o,R.length)::starts (o+R.length) Rs
theorem SU:∀(o:ay) (j R2:ak (ak bb)),starts o (j++R2)=starts o j++starts (o+j.flatten.length) R2
 |o,[],R2=>by simp[starts]
 |o,R::j,R2=>by
  rw[QS,starts,starts,SU,ad8,iN,QS,YJ]
theorem ME:∀(o:ay) (Rs:ak (ak bb)),(starts o Rs).length=Rs.length
 |_,[]=>rfl
 |o,R::Rs=>by rw[starts,fZ,fZ,ME]
noncomputable abbrev sl(p:ay×ay×ay):ay×ay:=(p.1,p.2.1)
def uK(rk:bb->a5)(pend:a8 (ay×ay×ay))(l rest:ak bb):Prop :=
 ∃Rs:ak (ak bb),l=Rs.flatten++rest/\pend.toList.map sl=starts 0 Rs/\∀R∈Rs,0<R.length/\dH rk R
section
variable{rk:bb->a5}{pend:a8 (ay×ay×ay)}{l rest:ak bb}
theorem uK.push{R:ak bb}(h:uK rk pend l (R++rest))(h0:0<R.length)(z:dH rk R){lo q:ay}(j:lo+R.length+rest.length=l.length):uK rk (pend.push (lo,R.length,q)) l rest:=by
 obtain⟨Rs,e,m,hR⟩:=h;refine⟨Rs++[R],by rw[e];simp,?_,λS hS=>?_⟩
 ·rw[GK,xU,m,SU];have:lo=0+Rs.flatten.length:=by
   rw[e]at j;simp only[iN]at j;omega
  rw[this];rfl
 ·rcases lH.mp hS with q|q
  ·exact hR S q
  ·simp only[lN]at q;subst q;exact⟨h0,z⟩
theorem uK.last{pw i:ay}(h:uK rk pend l rest):uK rk (pend.modify i λx=>match x with|(st,len,_)=>(st,len,pw)) l rest:=by
 obtain⟨Rs,e,m,hR⟩:=h;refine⟨Rs,e,?_,hR⟩;rw[<-m];refine FU λj=>?_;rw[jV,jV,mS,mS,Array.getElem?_modify];split
 ·cases pend[j]? <;> rfl
 ·rfl
theorem uK.size(h:uK rk pend l rest):pend.size+rest.length<=l.length:=by
 obtain⟨Rs,rfl,m,hR⟩:=h;have e:pend.size=Rs.length:=by
  have:=c3 List.length m;rwa[lI,gJ,ME]at this
 rw[iN,e];have:∀Rs:ak (ak bb),(∀R∈Rs,0<R.length/\dH rk R)->Rs.length<=Rs.flatten.length:=by
  intro Rs
  induction Rs with
  |nil=>intro _;simp
  |cons R Rs ih =>
   intro h;have h1:=ih λS hS=>h S (fY _ hS);have h2:=(h R (by simp)).1;rw[fZ,ad8,iN];omega
 have:=this Rs hR;omega
theorem uK.done(h:uK rk pend l [])(h1:pend.size<=1):dH rk l:=by
 obtain⟨Rs,rfl,m,hR⟩:=h;have e:pend.size=Rs.length:=by
  have:=c3 List.length m;rwa[lI,gJ,ME]at this
 rw[pU]
 match Rs,hR with
 |[],_=>simp
 |[R],hR=>simpa using(hR R (by simp)).2
 |_::_::_,_=>simp only[fZ]at e;omega
theorem Rw{β:Type}{l:ak β}{i:ay}(h:i+1<l.length):∃j x y q,l=j++x::y::q/\j.length=i :=
 ⟨l.take i,l[i],l[i+1],l.drop (i+2),by rw[<-vZ,<-vZ,xS],by rw[JZ];omega⟩
variable{M:ei}{A:bu}{E:aq->av->Prop}{s:av}{kd:dw}{P:bb->Prop}
structure Go(rk:bb->a5)(kd:dw)(x0:a8 bb)(rest:ak bb)(st:bo):Prop where
 kind:kindOf st=kd
 failed:dy st=ao
 perm:(bp st).Perm x0
 WS:uK rk (cb st) (bp st).toList rest
theorem Qf(hL:iM M A E s kd P rk){x0:a8 bb}(W:∀x∈x0.toList,P x){st:bo}(h:Go rk kd x0 rest st){i:ay}(hi:i+1<(cb st).size){Q:br->bo->Prop}
  (S:∀j,Go rk kd x0 rest j->(cb j).size+1=(cb st).size->Q ax j):wpS M A E s (mergeAt' i) Q st:=by
 obtain⟨T,V,f,Rs,e,m,hR⟩:=h;have el:(cb st).size=Rs.length:=by
  have:=c3 List.length m;rwa[lI,gJ,ME]at this
 obtain⟨B,RA,RB,R2,rfl,l1⟩:=Rw (show i+1<Rs.length by omega);obtain⟨N,x,y,t,q,H⟩:=Rw (show i+1<(cb st).toList.length by rw[gJ];omega);rw[q,xU,SU,zM]at m;have G:=List.append_inj m (by rw[lI,ME];omega);obtain⟨F,d⟩:=G;simp only[bU,starts,qT]at d;obtain⟨c,b,D⟩:=d;obtain⟨x1,x2,a⟩:=x;obtain⟨y1,y2,p⟩:=y;simp only[QJ]at c b;obtain⟨rfl,rfl⟩:=c;obtain⟨rfl,rfl⟩:=b;have v:(cb st)[i]?=aj (B.flatten.length,RA.length,a):=by
  rw[<-mS,q,qS (by omega),show i-N.length=0 by omega];rfl
 have u:(cb st)[i+1]?=aj (B.flatten.length+RA.length,RB.length,p):=by
  rw[<-mS,q,qS (by omega),show i+1-N.length=1 by omega];rfl
 have k:=hR RA (by simp);have g:=hR RB (by simp);refine afD hL T V (pre:=B.flatten) (RA:=RA) (RB:=RB) (post:=R2.flatten++rest) (by rw[e];simp) (λz L=>W z ((ZR.mp f).mem_iff.mp L)) v u k.2 g.2 k.1 g.1 λj C K X w n l c2=>?_;have I:C.length=RA.length+RB.length:=by rw[l.length_eq,iN]
 have o:(cb j).toList=N++(B.flatten.length,RA.length+RB.length,a)::t:=by
  rw[w,Array.toList_eraseIdxIfInBounds,Array.toList_setIfInBounds,q,<-H];simp[List.eraseIdx_append_of_length_le]
 refine S j ⟨K,X,?_,B++C::R2,?_,?_,λR U=>?_⟩ ?_
 ·refine Array.Perm.trans ?_ f;rw[ZR,n,e];simp only[List.flatten_append,ad8,jW];refine KG _ ?_;rw[<-jW RA RB];exact l.append_right _
 ·rw[n];simp
 ·rw[o,xU,SU,F,bU,D,starts,I,zM,YJ]
 ·rcases lH.mp U with r|r
  ·exact hR R (nX _ r)
  ·rcases dU.mp r with r|r
   ·subst r;exact⟨by omega,c2⟩
   ·exact hR R (by simp[r])
 ·rw[<-gJ,o,<-gJ,q];simp;omega
end
section
variable{M:ei}{A:bu}{E:aq->av->Prop}{s:av}{kd:dw}{P:bb->Prop}{rk:bb->a5}
theorem Up.ajZ{xs:a8 bb}{lo n:ay}(h:Up rk xs lo n)(hn:lo+n<=xs.size):dH rk ((xs.toList.drop lo).take n):=by
 refine List.pairwise_iff_getElem.mpr λi j hi B N=>?_;rw[JZ,Nh,gJ]at hi B;have q:=h i j (by omega) (by omega);have g:∀k (z:lo+k<xs.size),Kr rk xs (lo+k)=rk xs[lo+k]:=λk z=>by unfold Kr;rw[getElem?_pos xs (lo+k) z]
 rw[g i (by omega),g j (by omega)]at q;rw[List.getElem_take,List.getElem_take,Nj,Nj];exact q
theorem Go.made{x0:a8 bb}{rest:ak bb}{st j:bo}(h:Go rk kd x0 rest st){lo n:ay}(a:lo+rest.length=(bp st).size)(q:Bs kd (bp st) lo (cb st) j)(hn:lo+n<=(bp st).size)(B:Up rk (bp j) lo n) :
  ∃R z,Go rk kd x0 (R++z) j/\R.length=n/\dH rk R/\lo+n+z.length=(bp st).size:=by
 obtain⟨b,hf,N,Rs,e,m,hR⟩:=h;have sz:=q.size;have lf:Rs.flatten.length=lo:=by
  have:=c3 List.length e;rw[gJ,iN]at this;omega
 have U:(bp j).toList.take lo=Rs.flatten:=by
  refine FU λi=>?_
  by_cases hi:i<lo
  ·rw[List.getElem?_take_of_lt hi,mS,q.pre i hi,<-mS,e,jJ (by omega)]
  ·rw[KC (by rw[JZ];omega),KC (by omega)]
 refine⟨((bp j).toList.drop lo).take n,((bp j).toList.drop lo).drop n,⟨q.kind,q.failed,q.perm.trans N,Rs,?_,by rw[q.pend];exact m,hR⟩,?_,B.ajZ (by omega),?_⟩
 ·rw[xS,<-U,xS]
 ·rw[JZ,Nh,gJ];omega
 ·rw[Nh,Nh,gJ];omega
theorem Go.Ts{x0:a8 bb}{rest j:ak bb}{st:bo}(h:Go rk kd x0 rest st){p:a8 (ay×ay×ay)}(q:uK rk p (bp st).toList j):Go rk kd x0 j (setPending st p):=⟨h.kind,h.failed,h.perm,q⟩
theorem Go.bs{x0:a8 bb}{rest:ak bb}{st:bo}(h:Go rk kd x0 rest st)(lo:ay):Bs kd (bp st) lo (cb st) st:=⟨h.kind,h.failed,rfl,.refl _,λ_ _=>rfl⟩
theorem ae8(hL:iM M A E s kd P rk){x0:a8 bb}(D:∀x∈x0.toList,P x){st:bo}(hk:kindOf st=kd)(hf:dy st=ao)(ha:bp st=x0)(hp:cb st=#[]){Q:Unit->bo->Prop}
  (h:∀z,(bp z).Perm x0->dy z=ao->dH rk (bp z).toList->Q () z):wpS M A E s sortRuns' Q st:=by
 have g0:Go rk kd x0 x0.toList st:=⟨hk,hf,by rw[ha],[],by rw[ha];rfl,by rw[hp];rfl,by simp⟩;rw[sortRuns'_eq];refine bJ (yA ?_);dsimp only;rw[ha];generalize minRun' x0.size x0.size 0=m;refine bJ (nZ (pX
  (I:=λi c z=>∃lo rest,c=(ao,lo)/\i<=lo/\lo+rest.length=x0.size/\Go rk kd x0 rest z)
  (Q:=λc z=>c.1=ao/\Go rk kd x0 [] z) ?step ?fin ⟨0,x0.toList,rfl,oX _,by simp,g0⟩) ?post)
 case fin =>
  rintro c z ⟨lo,rest,rfl,h1,h2,g⟩;have:rest=[]:=xV (by omega);subst this;exact⟨rfl,g⟩
 case step =>
  rintro i c z _ hi ⟨lo,rest,rfl,h1,h2,g⟩;have w:(bp z).size=x0.size:=g.perm.size_eq;refine gK (λl=>?_) (λl=>?_)
  ·have l:lo>=x0.size:=l;have:rest=[]:=xV (by omega);subst this;exact dB ⟨rfl,g⟩
  have l:¬lo>=x0.size:=l;have BN:∀x∈(bp z).toList,P x:=λx hx=>D x ((ZR.mp g.perm).mem_iff.mp hx);refine bJ (afA hL BN (lo:=lo) (nrem:=x0.size-lo) (by omega) (by omega) (g.bs lo) λn o X He tV V=>?_);refine gK (λH=>?a) (λH=>?b)
  case' a =>
   have H:n<m:=H;refine bJ (wpS_lift (wG ⟨rfl,?_⟩));refine bJ (afO hL BN (lo:=lo) (n:=min (x0.size-lo) m) (by omega) (by omega) X V λB F Yq=>?_);refine gK (λq=>bz q (by decide)) (λ_=>?_);have C:1<=min (x0.size-lo) m:=by omega
   have y:min (x0.size-lo) m<=x0.size-lo:=by omega
   dsimp only;generalize min (x0.size-lo) m=n2 at C y Yq ⊢;obtain⟨R,U,N,v,S,lU⟩:=g.made (by omega) F (by omega) Yq
  case' b =>
   dsimp only;obtain⟨R,U,N,v,S,lU⟩:=g.made (by omega) X (by omega) V
  all_goals
   refine bJ (yA ?_);generalize u:R.length=rl at v;subst v;have fin:∀B,Go rk kd x0 (R++U) B->Go rk kd x0 U (setPending B ((cb B).push (lo,rl,0))):=λB d=>d.Ts (by
    rw[<-u];exact d.WS.push (by omega) S (by have:=d.perm.size_eq;have e:=gJ (xs:=bp B);omega))
   have last:∀B,Go rk kd x0 (R++U) B->∃K MJ,((ao,lo+rl):ar Unit×ay)=(ao,K)/\i+1<=K/\K+MJ.length=x0.size/\Go rk kd x0 MJ (setPending B ((cb B).push (lo,rl,0))):=λB d=>⟨lo+rl,U,rfl,by omega,by omega,fin B d⟩
   split
   ·rename_i T p q1 _;generalize power' x0.size (2*T+p) (2*T+p+p+rl) x0.size=pw;refine bJ (nZ (pX (I:=λ_ c z=>c=(ao,())/\Go rk kd x0 (R++U) z) (Q:=λc z=>c=(ao,())/\Go rk kd x0 (R++U) z) ?istep (λ_ _ hh=>hh) ⟨rfl,N⟩) ?ipost)
    case istep =>
     rintro j c L _ _ ⟨rfl,f⟩;refine bJ (yA ?_)
     by_cases W:(cb L).size>1
     ·rw[a9 W,oR _ _ (by omega)];refine gK (λ_=>dB ⟨rfl,f⟩) (λ_=>?_);refine bJ (Qf hL D f (by omega) λDD G _=>?_);exact gK (λq=>bz q (by decide)) (λ_=>dB ⟨rfl,G⟩)
     ·rw[bf W];exact dB ⟨rfl,f⟩
    case ipost =>
     rintro c L ⟨rfl,f⟩;have G:=f.Ts (f.WS.last (pw:=pw) (i:=(cb L).size-1));refine bJ (GL (bJ (GL (dB ?_))));exact last _ G
   ·exact bJ (GL (dB (last _ N)))
 case post =>
  rintro⟨r,lo⟩ z ⟨e,g⟩;dsimp only at e;subst e;have w:(bp z).size=x0.size:=g.perm.size_eq;have hc:=g.WS.size;have e:=gJ (xs:=bp z);rw[CK]at hc;refine bJ (nZ (pX (I:=λt c k=>c=(ao,())/\Go rk kd x0 [] k/\(cb k).size+t<=x0.size+1) (Q:=λc k=>c=(ao,())/\Go rk kd x0 [] k/\(cb k).size<=1) ?s2 ?f2 ⟨rfl,g,by omega⟩) ?p2)
  case f2 =>
   rintro c o ⟨e,N,h2⟩;exact⟨e,N,by omega⟩
  case p2 =>
   rintro c o ⟨rfl,N,h2⟩;exact dB (h o N.perm N.failed (N.WS.done h2))
  case s2 =>
   rintro t c o _ _ ⟨rfl,N,h2⟩;refine bJ (yA (gK (λh1=>dB ⟨rfl,N,h1⟩) (λh1=>?_)));refine bJ (Qf hL D N ?_ λB d h3=>?_)
   ·generalize Option.any _ _=cc;cases cc <;> simp only[kZ,jP,iJ] <;> omega
   ·exact gK (λq=>bz q (by decide)) (λ_=>dB ⟨rfl,d,by omega⟩)
end
section
variable{prog:bh}{w:bw}{A:bu}{E:aq->av->Prop}{s:av}
theorem as3:iM (bq prog w) A E s oneType' (λp=>∃n t,p.1=.int n t) (λp=>numOf p.1):=by
 rintro⟨x,N⟩ ⟨y,B⟩ ⟨n,t,q⟩ ⟨m,u,j⟩ st Q z h;dsimp only at q j;subst q j;rw[lt'_eq];refine bJ (yA ?_);rw[z,keyLt'_oneType];refine bJ (wpS_lift (GS (oneLt_int ⟨rfl,?_⟩)));exact dB h
theorem ajY{xs:a8 bb}{n:ay}(h:dH (λp=>numOf p.1) xs.toList)(hn:n<=xs.size):SortedTo xs n:=λi j z q=>by
 rw[K_eq (show i<xs.size by omega),K_eq (show j<xs.size by omega)]
 by_cases e:i=j
 ·subst e;exact lY _
 ·have:=List.pairwise_iff_getElem.mp h i j (by rw[gJ];omega) (by rw[gJ];omega) (by omega);simpa using this
theorem Xl{a:aw}{vs:ak aq}{ns:ak a5}{n:ay}{P:PySem.Fin->av->Prop}(b:s.heap.get? a=aj (de "list" vs.toArray n))
  (g:c9 vs ns) (hl:vs.length<=bc)
  (h:∀(ae:a8 aq) (N:ak a5),c9 ae.toList N->N.Perm ns->N.Pairwise (· <= ·)->P (.done (.ret .none)) {s with heap:=eu s.heap a vs ae}) :
  wpAny (bq prog w) A (Builtin.«list.sort» ⟨[.ref a],[]⟩) P E s:=by
 rw[list_sort_plain];have ha:a<s.heap.objs.size:=dS b;refine aL (listItems_at b rfl ?_);refine aL (listUpdate_at b rfl ?_ (by rw[mP];exact hl) AU);obtain⟨k,l⟩:∃k,(s.heap.update a (Obj.mapSeq λ_=>#[])).get? a=aj (de "list" #[] k):=⟨_,VZ b (λ_=>#[])⟩;refine aL (seqEpoch_at l rfl ?_);refine aL (wpAny_newTuple ?_ (by show vs.length<=_;exact hl));refine aL (wpAny_newList ?_ AU);refine GQ ?_;have c:(((s.heap.update a (Obj.mapSeq λ_=>#[])).push (de "tuple" vs.toArray 0)).push (de "list" #[] 0)).get? a=aj (de "list" #[] k):=by
  rw[Heap.get?_push_ne _ _ _ (by rw[size_push',Heap.size_update];exact fS (YI ha)),Heap.get?_push_ne _ _ _ (by rw[Heap.size_update];exact fS ha)];exact l
 show wpAny (bq prog w) A _ P E {s with heap:=((s.heap.update a (Obj.mapSeq λ_=>#[])).push (de "tuple" vs.toArray 0)).push (de "list" #[] 0)};dsimp only;have d:vs.toArray.size=vs.length:=by simp
 have fin:∀B:bo,(bp B).Perm (pairsOf vs)->SortedTo (bp B) (pairsOf vs).size ->
   P (.done (.ret .none)) {s with heap:=eu s.heap a vs ((bp B).map (·.2))}:=by
  intro B U f;obtain⟨N,h1,h2,r⟩:=sorted_out g U f;exact h _ N h1 h2 r
 by_cases h2:vs.toArray.size<2
 ·rw[a9 h2,a9 h2];refine aL (bG ?_);rw[StateT.run_pure];refine aL (bG ?_);dsimp only;refine aL (seqEpoch_at c rfl ?_);refine aL (listUpdate_at c rfl ?_ AU (by rw[Array.size_map];show(pairsOf vs).size<=_;rw[pairsOf_size];omega));simp only[bne_self_eq_false,kZ,iJ];refine bG (fin (SortSt.mk' general' (vs.toArray.zip vs.toArray) #[] 7 ao) (Array.Perm.refl _) ?_);intro i j v o;have:i=j:=by rw[pairsOf_size]at o;omega
  subst this;exact lY _
 ·rw[bf h2,bf h2];obtain⟨z,q,rest,rfl⟩:∃z q rest,vs=z::q::rest:=by
   match vs,d,h2 with
   |[],_,h2=>simp at h2
   |[_],_,h2=>simp at h2
   |z::q::rest,_,_=>exact⟨z,q,rest,rfl⟩
  rw[keyKind_ints g];refine aL (bG ?_);refine aL (mU (ae8 as3 (x0:=pairsOf (z::q::rest)) (st:=SortSt.mk' oneType' ((z::q::rest).toArray.zip (z::q::rest).toArray) #[] 7 ao)
   (Q:=λ_ B=>(bp B).Perm (pairsOf (z::q::rest))/\dy B=ao/\SortedTo (bp B) (pairsOf (z::q::rest)).size)
   g.intKeys rfl rfl rfl rfl λB m u t=>⟨m,u,ajY t (by rw[m.size_eq];exact oX _)⟩) ?_ λ_ _ e=>e)
  rintro⟨⟨⟩,B⟩ s' ⟨rfl,U,p,f⟩;dsimp only;refine aL (seqEpoch_at c rfl ?_);refine aL (listUpdate_at c rfl ?_ AU (by refine rV (Nat.le_of_eq ((Array.size_map ..).trans (U.size_eq.trans (pairsOf_size _)))) ?_;omega));rw[p];simp only[bne_self_eq_false,kZ,iJ];exact bG (fin B U f)
end
end PyProof.Rows
namespace L2
open PySem PySem.Spec PyProof.Rows
section
variable{X:Cx}
theorem aFZ(hc:X.calm=ax):rZ X (.builtin "sorted") (λxs H Q=>∃d kvs B,xs=[.ref d]/\H d=aj (.dK kvs)/\kvs.map (·.1)=B.map Sum.inl/\B.length<4000 /\
  ∀(ms:ak a5) (l:aw),ms.Perm B->ms.Pairwise (· <= ·)->H l=ao->Q (.ref l) (upd H l (.lst (ms.map V.int)))):=by
 intro aa s J H xs N Q I r h;obtain⟨d,kvs,B,rfl,hd,D,Iv,q⟩:=h;obtain⟨u,rfl,M⟩:=vals1 r;cases M;obtain⟨z,lo,o,rel,dd⟩:=JA I.aH hd;obtain⟨ep,P⟩:=dd.dictAt;have y:o.length=B.length:=by
  rw[<-rel.length,<-lI (f:=(·.1)),D,lI]
 have S:(4000:ay)<=bc:=by decide
 refine Calls.call_function_entry kind_sorted plain_sorted entry_sorted (args_sorted1 _) ?_;unfold Builtin.«sorted»;refine aL (m:=checkCount "sorted" 1 1 _) (bG ?_);refine aL (PySem.W.kdu_collect (A:=X.A.in1) (PySem.W.kdl_dict (knd:=kE X.prog X.w) (kvs:=o) (ep:=ep) lo) (I.ok.hd hc) P (by omega) λh' tk acc Hi C=>?_);have hl:acc.toList.length=B.length:=by rw[gJ,C.1,y]
 have hI:c9 acc.toList B:=by
  refine intsAre_of (ns:=B) ?_;have key:∀(js:ak a5) (N:ak aq),N.length=js.length->(∀(i:ay) (v:aq),N[i]?=aj v->∃(j:a5) (t:Tok),js[i]?=aj j/\v=Value.int j t)->Vals (js.map V.int) N:=by
   intro js
   induction js with
   |nil=>intro N hl _;cases N with
    |nil=>exact .nil
    |cons _ _=>simp at hl
   |cons j js ih =>
    intro N hl hv;cases N with
    |nil=>simp at hl
    |cons v N =>
     obtain⟨j',t,a,U⟩:=hv 0 v rfl;cases a;exact .cons ⟨t,U⟩ (ih N (by simpa using hl) λi w hw=>hv (i+1) w (by simpa using hw))
  refine key B acc.toList hl λi v hv=>?_;obtain⟨k,x,a,U⟩:=C.2 i v (by rw[<-mS];exact hv);have c:(o.map (·.1))[i]?=aj k:=by rw[jV,a];rfl
  rw[<-rel.keys,D,jV]at c;cases E:B[i]? with
  |none=>rw[E]at c;cases c
  |some j =>
   rw[E]at c;have e5:(Sum.inl j:Key)=k:=kY c;subst e5
   rcases vE (k:=Sum.inl j) (v:=v) U with⟨i',t,p,R⟩|⟨_,_,p,_⟩
   ·cases p;exact⟨j,t,rfl,R⟩
   ·cases p
 refine aL (wpAny_newList ?_ (by rw[hl];omega));have n:(h'.push (de "list" acc.toList.toArray 0)).get? h'.objs.size=aj (de "list" acc.toList.toArray 0):=gZ _ rfl;refine aL (GQ (wI slot_list_sort ⟨_,n,rfl⟩ entry_list_sort (Xl n hI (by omega) λae g a1 F a3=>⟨_,rfl,?_⟩) (args_list_sort _)));refine bG ⟨_,rfl,?_⟩;have G:Inv X aa J H {s with heap:=h',toks:=tk}:=I.kept Hi;have hf:H h'.objs.size=ao:=G.aH.fresh cX;obtain⟨a,K⟩:∃a,((h'.push (de "list" acc.toList.toArray 0)).update h'.objs.size (Obj.mapSeq λ_=>#[])).get? h'.objs.size=aj (de "list" #[] a):=⟨_,VZ n (λ_=>#[])⟩;have L:=eI (de "list" #[] 0) (eI (de "tuple" acc.toList.toArray 0) K);obtain⟨U,Hb⟩:∃U,(eu (h'.push (de "list" acc.toList.toArray 0)) h'.objs.size acc.toList ae).get? h'.objs.size=aj (de "list" ae U):=⟨_,VZ L (λ_=>ae)⟩;have kp:∀b u,h'.get? b=aj u->(eu (h'.push (de "list" acc.toList.toArray 0)) h'.objs.size acc.toList ae).get? b=aj u:=λb u e=>by
  have hb:b≠h'.objs.size:=fS (dS e);unfold eu;exact(uH _ _ (dQ hb)).trans (eI _ (eI _ ((uH _ _ (dQ hb)).trans (eI _ e))))
 have hv:Vals (g.map V.int) ae.toList:=SE a1;have T:g.length=B.length:=F.length_eq;refine⟨.ref h'.objs.size,upd H h'.objs.size (.lst (g.map V.int)),G.laid (t':=tk) kp cX ?_,rfl,q g _ F a3 hf⟩;exact⟨by rw[lI];omega,ae.toList,U,hv,Hb⟩
end
end L2
namespace V2
open PySem PySem.Spec PyProof.Rows L2
inductive A where
 |int (i:a5)|bl (b:br)|str (x:ba)|cE|ty (n:cz)|adr (p:aw)|WL (p d:aw) (f:ba) (i:a5)|gl (x:ba)|dW (ns:ak a5)
 |tup (ds:ak A)|lst (ds:ak A)|aI (k:ay)
inductive Fd where
 |val (a:A)|lst (ds:ak A)|bA (kvs:ak (Key×A))
@[simp] noncomputable def Fd.own:Fd->br
 |.val _=>au
 |_=>ax
inductive Cell where
 |lst (ds:ak A)|bA (kvs:ak (Key×A))|ins (cls:ba) (fs:ak (ba×Fd))|tab (x:ba) (pos:dk) (qual:ba)|dead
@[simp] def Cell.noOwn:Cell->br
 |.ins _ fs=>fs.all λp=>!p.2.own
 |_=>ax
structure Exc where
 cls:ba
 fs:ak (ba×A)
inductive Rs(α:Type)where
 |ok (a:α)|exc (x:Exc)
abbrev aE:=ak Cell
abbrev Ev:=ak (ar A)
abbrev Mo(α:Type):=aE->ar (Rs α×aE)
@[simp] noncomputable def ret{α:Type}(a:α):Mo α:=λZ=>aj (.ok a,Z)
@[simp] noncomputable def mb{α β:Type}(m:Mo α)(k:α->Mo β):Mo β:=λZ =>
 match m Z with
 |some (.ok a,Z1)=>k a Z1
 |some (.exc x,Z1)=>aj (.exc x,Z1)
 |none=>ao
@[simp] noncomputable def stuck{α:Type}:Mo α:=λ_=>ao
@[simp] noncomputable def need{α:Type}(o:ar α):Mo α:=λZ=>o.map λa=>(.ok a,Z)
@[simp] noncomputable def pS(p:Prop) [di p]:Mo Unit:=λZ=>if p then aj (.ok (),Z)else ao
mutual
def Den(K:bj)(G:Hp)(O:ak aw):V->A->Prop
 |v,.int j=>v=.int j
 |v,.bl b=>v=.bl b
 |v,.str x=>v=.str x
 |v,.cE=>v=.cE
 |v,.ty n=>v=.ty n
 |v,.adr p=>v=.ref p
 |v,.WL p d f i=>v=.ref p/\G d=aj (.xd [(f,.int i)])
 |v,.gl x=>∃C,cw K az x=aj (aj (.ref C))/\v=.ref C
 |v,.dW ns=>∃a,v=.ref a/\fV K G a (ns.map V.int)
 |v,.tup ds=>∃a xs,v=.ref a/\G a=aj (.tup xs)/\bC K G O xs ds
 |v,.lst ds=>∃a xs,v=.ref a/\G a=aj (.lst xs)/\bC K G O xs ds
 |v,.aI k=>∃a,v=.ref a/\O[k]?=aj a
def bC(K:bj)(G:Hp)(O:ak aw):ak V->ak A->Prop
 |xs,[]=>xs=[]
 |xs,d::ds=>∃x r,xs=x::r/\Den K G O x d/\bC K G O r ds
end
structure Ext(G:Hp)(O:ak aw)(G':Hp)(O':ak aw):Prop where
 same:oV G G'
 pre:∀(k:ay) (a:aw),O[k]?=aj a->O'[k]?=aj a
theorem Ext.refl(G:Hp)(O:ak aw):Ext G O G O:=⟨oV.refl _,λ_ _ h=>h⟩
theorem Ext.trans{G B z:Hp}{O q j:ak aw}(a:Ext G O B q)(b:Ext B q z j):Ext G O z j:=⟨a.same.trans b.same,λk x h=>b.pre k x (a.pre k x h)⟩
section
variable{K:bj}{G G':Hp}{O O':ak aw}
mutual
theorem Den.ext(e:Ext G O G' O'):∀{v:V} {d:A},Den K G O v d->Den K G' O' v d
 |_,.int _,h=>by simpa only[Den]using h
 |_,.bl _,h=>by simpa only[Den]using h
 |_,.str _,h=>by simpa only[Den]using h
 |_,.cE,h=>by simpa only[Den]using h
 |_,.ty _,h=>by simpa only[Den]using h
 |_,.adr _,h=>by simpa only[Den]using h
 |_,.WL _ _ _ _,h=>by
  simp only[Den]at h ⊢;exact⟨h.1,e.same _ _ h.2⟩
 |_,.gl _,h=>by simpa only[Den]using h
 |_,.dW _,h=>by
  simp only[Den]at h ⊢;obtain⟨a,h1,h2⟩:=h;exact⟨a,h1,e.same.seq h2⟩
 |_,.tup ds,h=>by
  simp only[Den]at h ⊢;obtain⟨a,xs,h1,h2,j⟩:=h;exact⟨a,xs,h1,e.same _ _ h2,bC.ext e j⟩
 |_,.lst ds,h=>by
  simp only[Den]at h ⊢;obtain⟨a,xs,h1,h2,j⟩:=h;exact⟨a,xs,h1,e.same _ _ h2,bC.ext e j⟩
 |_,.aI k,h=>by
  simp only[Den]at h ⊢;obtain⟨a,h1,h2⟩:=h;exact⟨a,h1,e.pre _ _ h2⟩
theorem bC.ext(e:Ext G O G' O'):∀{xs:ak V} {ds:ak A},bC K G O xs ds->bC K G' O' xs ds
 |_,[],h=>by simpa only[bC]using h
 |_,d::ds,h=>by
  simp only[bC]at h ⊢;obtain⟨x,r,h1,h2,j⟩:=h;exact⟨x,r,h1,Den.ext e h2,bC.ext e j⟩
end
theorem xK{xs:ak V}:bC K G O xs []<->xs=[]:=by simp only[bC]
theorem bC.length:∀{xs:ak V} {ds:ak A},bC K G O xs ds->xs.length=ds.length
 |_,[],h=>by simp only[bC]at h;subst h;rfl
 |_,d::ds,h=>by
  simp only[bC]at h;obtain⟨x,r,rfl,h2,j⟩:=h;simp only[fZ,bC.length j]
theorem bC.nil:bC K G O [] []:=by simp only[bC]
theorem bC.cons{x:V}{xs:ak V}{d:A}{ds:ak A}(h:Den K G O x d)(t:bC K G O xs ds):bC K G O (x::xs) (d::ds):=by
 simp only[bC];exact⟨x,xs,rfl,h,t⟩
theorem bC.pF{xs:ak V}{d:A}{ds:ak A}(h:bC K G O xs (d::ds)):∃x r,xs=x::r/\Den K G O x d/\bC K G O r ds:=by simpa only[bC]using h
theorem bC.get:∀{xs:ak V} {ds:ak A} {i:ay} {d:A},bC K G O xs ds->ds[i]?=aj d->∃x,xs[i]?=aj x/\Den K G O x d
 |_,[],_,_,_,e=>by simp at e
 |_,_::_,0,_,h,e=>by
  obtain⟨x,r,rfl,h2,j⟩:=h.pF;simp at e;subst e;exact⟨x,rfl,h2⟩
 |_,_::_,i+1,_,h,e=>by
  obtain⟨x,r,rfl,h2,j⟩:=h.pF;simp at e;obtain⟨y,z,q⟩:=bC.get j e;exact⟨y,by simpa using z,q⟩
theorem bC.append:∀{xs ys:ak V} {ds es:ak A},bC K G O xs ds->bC K G O ys es->bC K G O (xs++ys) (ds++es)
 |_,_,[],_,h,t=>by rw[xK]at h;subst h;exact t
 |_,_,d::ds,_,h,t=>by
  obtain⟨x,r,rfl,h2,j⟩:=h.pF;exact .cons h2 (bC.append j t)
theorem bC.set{x:V}{d:A}(q:Den K G O x d):∀{xs:ak V} {ds:ak A} (n:ay),bC K G O xs ds->bC K G O (xs.set n x) (ds.set n d)
 |_,[],n,h=>by rw[xK]at h;subst h;exact bC.nil
 |_,e::ds,0,h=>by
  obtain⟨y,r,rfl,h2,j⟩:=h.pF;exact .cons q j
 |_,e::ds,n+1,h=>by
  obtain⟨y,r,rfl,h2,j⟩:=h.pF;exact .cons h2 (bC.set q n j)
theorem WR:∀(ns:ak a5),bC K G O (ns.map V.int) (ns.map A.int)
 |[] => .nil
 |n::ns => .cons (by simp only[Den]) (WR ns)
end
def aH5(K:bj)(G H:Hp)(a:aw)(x:ba)(pos:dk)(qual:ba):Prop :=
 G a=ao/\(∃c,tabIn K x=aj (c,a))/\∃ps,H a=aj (.iS ps)/\TriplesOk ps.toList /\
  (codeAmong pos ps.toList=ao\/∃c' j vs t,codeAmong pos ps.toList=aj (.ref c')/\G c'=aj (.eR j (.own 0))/\j.data=.fields vs/\vs[1]?=aj (.str qual t))
def kI(K:bj)(G:Hp)(O:ak aw)(H:Hp)(v:V):Fd->Prop
 |.val a=>Den K G O v a
 |.lst ds=>∃b xs,v=.ref b/\G b=ao/\b∉O/\H b=aj (.lst xs)/\bC K G O xs ds
 |.bA kvs=>∃b,∃j:ak (Key×V),v=.ref b/\G b=ao/\b∉O/\H b=aj (.dK j)/\j.map (·.1)=kvs.map (·.1)/\bC K G O (j.map (·.2)) (kvs.map (·.2))
def jY(K:bj)(G:Hp)(O:ak aw)(H:Hp):ak (ba×V)->ak (ba×Fd)->Prop
 |[],[]=>True
 |(f,v)::j,(g,d)::fs=>f=g/\kI K G O H v d/\jY K G O H j fs
 |_,_=>cp
def tJ(K:bj)(G:Hp)(O:ak aw)(H:Hp)(a:aw):Cell->Prop
 |.lst ds=>G a=ao/\∃xs,H a=aj (.lst xs)/\bC K G O xs ds
 |.bA kvs=>G a=ao/\∃j:ak (Key×V),H a=aj (.dK j)/\j.map (·.1)=kvs.map (·.1)/\bC K G O (j.map (·.2)) (kvs.map (·.2))
 |.ins cls fs=>G a=ao/\∃C dx,∃j:ak (ba×V),cw K az cls=aj (aj (.ref C))/\H a=aj (.ins C dx j)/\jY K G O H j fs
 |.tab x pos qual=>aH5 K G H a x pos qual
 |.dead=>True
def jU(H:Hp)(O:ak aw)(Z:aE)(k i:ay)(b:aw):Prop:=∃a cls fs C dx j g h fd,O[k]?=aj a/\Z[k]?=aj (.ins cls fs)/\H a=aj (.ins C dx j)/\fs[i]?=aj (g,fd)/\fd.own=ax/\j[i]?=aj (h,.ref b)
structure Wd(K:bj)(G:Hp)(O:ak aw)(Z:aE)(H:Hp):Prop where
 sub:oV G H
 inj:O.Nodup
 len:O.length=Z.length
 live:∀a∈O,∃o,H a=aj o
 aI:∀(k:ay) (c:Cell) (a:aw),Z[k]?=aj c->O[k]?=aj a->tJ K G O H a c
 sep:∀(b:aw) (k i k' i':ay),jU H O Z k i b->jU H O Z k' i' b->k=k'/\i=i'
section
variable{K:bj}{G G' H H':Hp}{O O':ak aw}{Z:aE}{a p:aw}
theorem kI.mono{v:V}{fd:Fd}(h:kI K G O H v fd)(e:Ext G O G' O')(c:∀b o,b∉O->G b=ao->H b=aj o->b∉O'/\G' b=ao/\H' b=aj o):kI K G' O' H' v fd:=by
 cases fd with
 |val a=>exact Den.ext e h
 |lst ds =>
  obtain⟨b,xs,h1,h2,U,N,B⟩:=h;obtain⟨z,q,j⟩:=c b _ U h2 N;exact⟨b,xs,h1,q,z,j,B.ext e⟩
 |bA d =>
  obtain⟨b,ws,h1,h2,U,N,B,f⟩:=h;obtain⟨z,q,j⟩:=c b _ U h2 N;exact⟨b,ws,h1,q,z,j,B,f.ext e⟩
theorem jY.map{j:bj}{G' H':Hp}{O':ak aw}(f:∀v fd,kI K G O H v fd->kI j G' O' H' v fd):∀{ws:ak (ba×V)} {fs:ak (ba×Fd)},jY K G O H ws fs->jY j G' O' H' ws fs
 |[],[],_=>trivial
 |(_,_)::_,(_,_)::_,h=>⟨h.1,f _ _ h.2.1,jY.map f h.2.2⟩
 |[],_::_,h=>h.elim
 |_::_,[],h=>h.elim
theorem tJ.mono{c:Cell}(h:tJ K G O H a c)(e:Ext G O G' O')(j:G' a=G a)(hh:H' a=H a)(l:∀b o,b∉O->G b=ao->H b=aj o->b∉O'/\G' b=ao/\H' b=aj o):tJ K G' O' H' a c:=by
 cases c with
 |lst ds=>obtain⟨g,xs,h1,h2⟩:=h;exact⟨j.trans g,xs,hh.trans h1,h2.ext e⟩
 |bA k=>obtain⟨g,ws,h1,h2,z⟩:=h;exact⟨j.trans g,ws,hh.trans h1,h2,z.ext e⟩
 |ins cls fs=>obtain⟨g,C,n,ws,h0,h1,h2⟩:=h;exact⟨j.trans g,C,n,ws,h0,hh.trans h1,h2.map λ_ _ q=>q.mono e l⟩
 |tab x pos qual =>
  obtain⟨g,m,f,h1,h2,z⟩:=h;exact⟨j.trans g,m,f,hh.trans h1,h2,z.imp id λ⟨p,i,B,t,d,U,N⟩=>⟨p,i,B,t,d,e.same _ _ U,N⟩⟩
 |dead=>trivial
theorem Wd.addr(w:Wd K G O Z H){k:ay}{c:Cell}(h:Z[k]?=aj c):∃a,O[k]?=aj a:=by
 have j:=(dA.mp h).1;exact⟨O[k]'(by rw[w.len];exact j),fL _⟩
theorem Wd.ne(w:Wd K G O Z H)(j:H p=ao)(ha:a∈O):a≠p:=by
 obtain⟨o,q⟩:=w.live a ha;exact iW q j
theorem Wd.oQ(w:Wd K G O Z H)(j:H p=ao):G p=ao:=by
 cases e:G p with
 |none=>rfl
 |some o=>rw[w.sub _ _ e]at j;cases j
theorem jU.to{k i:ay}{b:aw}{O':ak aw}{Z Z':aE}(h:jU H O Z k i b)(h1:∀a,O[k]?=aj a->O'[k]?=aj a/\∀o,H a=aj o->H' a=aj o)(h2:∀cls fs,Z[k]?=aj (.ins cls fs)->Z'[k]?=aj (.ins cls fs)):jU H' O' Z' k i b:=by
 obtain⟨a,cls,fs,C,c,ws,g,h',fd,j,U,N,B,z,q⟩:=h;exact⟨a,cls,fs,C,c,ws,g,h',fd,(h1 a j).1,h2 _ _ U,(h1 a j).2 _ N,B,z,q⟩
theorem jU.no{k i:ay}{b:aw}{c:Cell}(h:jU H O Z k i b)(B:Z[k]?=aj c)(hn:c.noOwn=ax):cp:=by
 obtain⟨a,cls,fs,C,e,ws,g,h',fd,d,j,U,z,q,N⟩:=h;rw[B]at j;cases j;simp only[Cell.noOwn,FV]at hn;have:=hn _ (mQ z);simp only[]at this;rw[q]at this;cases this
theorem Wd.grow(w:Wd K G O Z H)(s:oV H H'):Wd K G O Z H' where
 sub:=w.sub.trans s
 inj:=w.inj
 len:=w.len
 live:=λa ha=>let ⟨o,j⟩:=w.live a ha; ⟨o,s _ _ j⟩
 aI:=λk c a h1 h2=>by
  have q:=w.aI k c a h1 h2;cases c with
  |lst ds=>obtain⟨g,xs,h1,h2⟩:=q;exact⟨g,xs,s _ _ h1,h2⟩
  |bA U=>obtain⟨g,ws,h1,h2,l⟩:=q;exact⟨g,ws,s _ _ h1,h2,l⟩
  |ins cls fs=>obtain⟨g,C,m,ws,h0,h1,h2⟩:=q;exact⟨g,C,m,ws,h0,s _ _ h1,h2.map λ_ _ q=>q.mono (Ext.refl _ _) λb o x y z=>⟨x,y,s _ _ z⟩⟩
  |tab x pos qual =>
   obtain⟨g,f,N,h1,h2⟩:=q;exact⟨g,f,N,s _ _ h1,h2⟩
  |dead=>trivial
 sep:=λb k i d e h1 h2=>by
  have back:∀{k i},jU H' O Z k i b->jU H O Z k i b:=λh=>h.to (λa ha=>⟨ha,λo j=>by
   obtain⟨n,B⟩:=w.live a (mQ ha);have:=s _ _ B;rw[j]at this;cases this;exact B⟩) λ_ _ q=>q
  exact w.sep b k i d e (back h1) (back h2)
theorem HX{α:Type}:∀{l:ak α} {i j:ay} {x:α},l.Nodup->l[i]?=aj x->l[j]?=aj x->i=j
 |[],_,_,_,_,h,_=>by simp at h
 |y::l,0,0,_,_,_,_=>rfl
 |y::l,0,j+1,x,n,h1,h2=>by
  simp at h1 h2;subst h1;exact bz (mQ h2) (tF.mp n).1
 |y::l,i+1,0,x,n,h1,h2=>by
  simp at h1 h2;subst h2;exact bz (mQ h1) (tF.mp n).1
 |y::l,i+1,j+1,x,n,h1,h2=>by
  simp at h1 h2;rw[HX (tF.mp n).2 h1 h2]
theorem HZ{α:Type}{l:ak α}{k:ay}{x:α}(h:l[k]?=aj x):x∈l:=mQ h
theorem Ext.new(j:G p=ao)(o:HO):Ext G O (upd G p o) O:=⟨oV.new j,λ_ _ h=>h⟩
theorem Wd.new(w:Wd K G O Z H)(j:H p=ao)(o:HO):Wd K (upd G p o) O Z (upd H p o)where
 sub:=λb u h=>by
  by_cases e:b=p
  ·subst e;rw[eL]at h ⊢;exact h
  ·rw[bE e]at h ⊢;exact w.sub _ _ h
 inj:=w.inj
 len:=w.len
 live:=λa ha=>by rw[bE (w.ne j ha)];exact w.live a ha
 aI:=λk c a h1 h2=>by
  have n:=w.ne j (HZ h2);exact(w.aI k c a h1 h2).mono (Ext.new (w.oQ j) o) (bE n) (bE n) λb u x y z=>by
   have nb:b≠p:=iW z j;exact⟨x,by rw[bE nb];exact y,by rw[bE nb];exact z⟩
 sep:=λb k i B N h1 h2=>by
  have back:∀{k i},jU (upd H p o) O Z k i b->jU H O Z k i b:=λh=>h.to (λa ha=>⟨ha,λu U=>by rwa[bE (w.ne j (mQ ha))]at U⟩) λ_ _ q=>q;exact w.sep b k i B N (back h1) (back h2)
theorem Ext.cell(x:aw):Ext G O G (O++[x]):=⟨oV.refl _,λk a h=>by
 rw[jJ (dA.mp h).1];exact h⟩
theorem Wd.cell(w:Wd K G O Z H)(j:H p=ao){o:HO}{c:Cell}(t:tJ K G (O++[p]) (upd H p o) p c)(f:c.noOwn=ax:=by rfl):Wd K G (O++[p]) (Z++[c]) (upd H p o)where
 sub:=λb u h=>by
  have e:b≠p:=λe=>by subst e;rw[w.sub _ _ h]at j;cases j
  rw[bE e];exact w.sub _ _ h
 inj:=by
  rw[YS];exact⟨w.inj,by simp,λa ha b hb=>by simp at hb;subst hb;exact w.ne j ha⟩
 len:=by simp[w.len]
 live:=λa ha=>by
  rcases lH.mp ha with h|h
  ·rw[bE (w.ne j h)];exact w.live a h
  ·simp at h;subst h;exact⟨o,eL⟩
 aI:=λk A a h1 h2=>by
  by_cases q:k<O.length
  ·rw[jJ q]at h2;rw[jJ (by rw[<-w.len];exact q)]at h1;exact(w.aI k A a h1 h2).mono (Ext.cell p) rfl (bE (w.ne j (HZ h2))) λb u x y z=>by
    have nb:b≠p:=iW z j;exact⟨by simp[x,nb],y,by rw[bE nb];exact z⟩
  ·have U:k=O.length:=by
    have:=(dA.mp h2).1;simp at this;omega
   subst U;simp at h2;subst h2;rw[w.len]at h1;simp at h1;subst h1;exact t
 sep:=λb k i r s h1 h2=>by
  have back:∀{k i},jU (upd H p o) (O++[p]) (Z++[c]) k i b->jU H O Z k i b:=λ{k i} h=>by
   have h0:=h;obtain⟨a,cls,fs,C,v,ws,g,h',fd,N,B,d,n,m,l⟩:=h
   by_cases q:k<Z.length
   ·rw[jJ q]at B;rw[jJ (by rw[w.len];exact q)]at N;rw[bE (w.ne j (HZ N))]at d;exact⟨a,cls,fs,C,v,ws,g,h',fd,N,B,d,n,m,l⟩
   ·have U:k=Z.length:=by
     have:=(dA.mp B).1;simp at this;omega
    subst U;exact(h0.no (by simp) f).elim
  exact w.sep b k i r s (back h1) (back h2)
theorem Wd.put(w:Wd K G O Z H){k:ay}{c:Cell}{o:HO}(B:O[k]?=aj a)(t:G a=ao)(v:tJ K G O (upd H a o) a c)(l:c.noOwn=ax:=by rfl):Wd K G O (Z.set k c) (upd H a o)where
 sub:=λb u h=>by
  have e:b≠a:=λe=>by subst e;rw[t]at h;cases h
  rw[bE e];exact w.sub _ _ h
 inj:=w.inj
 len:=by rw[CJ];exact w.len
 live:=λb hb=>by
  by_cases e:b=a
  ·subst e;exact⟨o,eL⟩
  ·rw[bE e];exact w.live b hb
 aI:=λj D b h1 h2=>by
  by_cases q:j=k
  ·subst q;rw[B]at h2;cases h2;have hl:j<Z.length:=by rw[<-w.len];exact(dA.mp B).1
   rw[fG hl]at h1;cases h1;exact v
  ·rw[iO (dQ q)]at h1;have gU:b≠a:=λe=>by
    subst e;exact q (HX w.inj h2 B)
   exact(w.aI j D b h1 h2).mono (Ext.refl _ _) rfl (bE gU) λb u x y z=>by
    have nb:b≠a:=λe=>by subst e;exact x (HZ B)
    exact⟨x,y,by rw[bE nb];exact z⟩
 sep:=λb j i r s h1 h2=>by
  have back:∀{j i},jU (upd H a o) O (Z.set k c) j i b->jU H O Z j i b:=λ{j i} h=>by
   have h0:=h;obtain⟨f,cls,fs,C,A,ws,g,h',fd,d,U,N,p,n,m⟩:=h
   by_cases q:j=k
   ·subst q;have hl:j<Z.length:=by rw[<-w.len];exact(dA.mp B).1
    exact(h0.no (by rw[fG hl]) l).elim
   ·rw[iO (dQ q)]at U;have gU:f≠a:=λe=>by subst e;exact q (HX w.inj d B)
    rw[bE gU]at N;exact⟨f,cls,fs,C,A,ws,g,h',fd,d,U,N,p,n,m⟩
  exact w.sep b j i r s (back h1) (back h2)
theorem Wd.freeze(w:Wd K G O Z H){k:ay}{o:HO}(B:O[k]?=aj a)(r:G a=ao)(p:H a=aj o):Wd K (upd G a o) O (Z.set k .dead) H where
 sub:=λb u h=>by
  by_cases e:b=a
  ·subst e;rw[eL]at h;cases h;exact p
  ·rw[bE e]at h;exact w.sub _ _ h
 inj:=w.inj
 len:=by rw[CJ];exact w.len
 live:=w.live
 aI:=λj t b h1 h2=>by
  by_cases q:j=k
  ·subst q;have hl:j<Z.length:=by rw[<-w.len];exact(dA.mp B).1
   rw[fG hl]at h1;cases h1;trivial
  ·rw[iO (dQ q)]at h1;have gU:b≠a:=λe=>by
    subst e;exact q (HX w.inj h2 B)
   exact(w.aI j t b h1 h2).mono (Ext.new r o) (bE gU) rfl λb u x y z=>by
    have nb:b≠a:=λe=>by subst e;exact x (HZ B)
    exact⟨x,by rw[bE nb];exact y,z⟩
 sep:=λb j i m n h1 h2=>by
  have back:∀{j i},jU H O (Z.set k .dead) j i b->jU H O Z j i b:=λ{j i} h=>by
   have h0:=h;obtain⟨v,cls,fs,C,s,ws,g,h',fd,l,N,f,d,c,U⟩:=h
   by_cases q:j=k
   ·subst q;have hl:j<Z.length:=by rw[<-w.len];exact(dA.mp B).1
    exact(h0.no (by rw[fG hl]) rfl).elim
   ·rw[iO (dQ q)]at N;exact⟨v,cls,fs,C,s,ws,g,h',fd,l,N,f,d,c,U⟩
  exact w.sep b j i m n (back h1) (back h2)
end
def gH(K:bj)(G:Hp)(O:ak aw)(J:L2.St)(Y:Ev):Prop:=J.length=Y.length/\∀(i:ay) (d:A),Y[i]?=aj (aj d)->∃v,J[i]?=aj (aj v)/\Den K G O v d
theorem gH.ext{K:bj}{G G':Hp}{O O':ak aw}{J:L2.St}{Y:Ev}(r:gH K G O J Y)(e:Ext G O G' O'):gH K G' O' J Y:=⟨r.1,λi d h=>let ⟨v,h1,h2⟩:=r.2 i d h; ⟨v,h1,h2.ext e⟩⟩
theorem gH.set{K:bj}{G:Hp}{O:ak aw}{J:L2.St}{Y:Ev}(r:gH K G O J Y)(j:ay){v:V}{d:A}(h:Den K G O v d):gH K G O (J.set j (aj v)) (Y.set j (aj d)):=by
 refine⟨by rw[CJ,CJ];exact r.1,λi e he=>?_⟩
 by_cases q:i=j
 ·subst q;have hl:i<Y.length:=by
   have:=(dA.mp he).1;rwa[CJ]at this
  rw[fG hl]at he;cases he;exact⟨v,fG (by rw[r.1];exact hl),h⟩
 ·rw[iO (dQ q)]at he ⊢;exact r.2 i e he
theorem gH.unset{K:bj}{G:Hp}{O:ak aw}{J:L2.St}{Y:Ev}(r:gH K G O J Y)(j:ay)(o:ar V):gH K G O (J.set j o) (Y.set j ao):=by
 refine⟨by rw[CJ,CJ];exact r.1,λi e he=>?_⟩
 by_cases q:i=j
 ·subst q;have hl:i<Y.length:=by
   have:=(dA.mp he).1;rwa[CJ]at this
  rw[fG hl]at he;cases he
 ·rw[iO (dQ q)]at he ⊢;exact r.2 i e he
def aeI(K:bj)(G:Hp)(O:ak aw)(H:Hp)(x:Exc)(cls:aq)(dx:ar aw):Prop :=
 (∃C,cw K az x.cls=aj (aj (.ref C))/\cls=.ref C)/\((x.fs=[]/\dx=ao)\/∃d f i,dx=aj d/\x.fs=[(f,.int i)]/\G d=aj (.xd [(f,.int i)]))
abbrev Rl(α β:Type):=Hp->ak aw->β->α->Prop
def bP{α β:Type}(K:bj)(rel:Rl α β)(W:WX)(G:Hp)(O:ak aw)(J:L2.St)(Q:β->Hp->Prop):ar (Rs α×aE)->Prop
 |some (.ok a,Z')=>∀v H' G' O',Ext G O G' O'->Wd K G' O' Z' H'->rel G' O' v a->Q v H'
 |some (.exc x,Z')=>∀cls dx H' G' O',Ext G O G' O'->Wd K G' O' Z' H'->aeI K G' O' H' x cls dx->W J cls dx H'
 |none=>cp
theorem bP.ext{α β:Type}{K:bj}{rel:Rl α β}{W:WX}{G U:Hp}{O q:ak aw}{J:L2.St}{Q:β->Hp->Prop}{r:ar (Rs α×aE)}(h:bP K rel W G O J Q r)(e:Ext G O U q):bP K rel W U q J Q r:=by
 match r,h with
 |some (.ok a,z),h=>exact λv B N j x w d=>h v B N j (e.trans x) w d
 |some (.exc x,z),h=>exact λcls b B N j x w d=>h cls b B N j (e.trans x) w d
theorem bP.mb{α β B z:Type}{K:bj}{rel:Rl α β}{N:Rl B z}{W:WX}{G:Hp}{O:ak aw}{J:L2.St}{Q:z->Hp->Prop}{Q1:β->Hp->Prop}{m:Mo α}{k:α->Mo B}{Z:aE}(h:bP K N W G O J Q (mb m k Z))
  (U:∀a Z1 v H1 q j,Ext G O q j->Wd K q j Z1 H1->rel q j v a->bP K N W q j J Q (k a Z1)->Q1 v H1):bP K rel W G O J Q1 (m Z):=by
 unfold V2.mb at h
 revert h
 generalize m Z=r;intro h
 match r,h with
 |some (.ok a,Z1),h=>exact λv H1 q j x w d=>U a Z1 v H1 q j x w d (bP.ext h x)
 |some (.exc x,Z1),h=>exact h
theorem bP.need{α β j:Type}{K:bj}{q:Rl α β}{W:WX}{G:Hp}{O:ak aw}{J:L2.St}{Q:β->Hp->Prop}{o:ar j}{k:j->Mo α}{Z:aE}(h:bP K q W G O J Q (V2.mb (need o) k Z)):∃a,o=aj a/\bP K q W G O J Q (k a Z):=by
 cases o with
 |none=>exact False.elim h
 |some a=>exact⟨a,rfl,h⟩
theorem bP.pS{α β:Type}{K:bj}{q:Rl α β}{W:WX}{G:Hp}{O:ak aw}{J:L2.St}{Q:β->Hp->Prop}{p:Prop} [di p]{k:Unit->Mo α}{Z:aE}(h:bP K q W G O J Q (V2.mb (pS p) k Z)):p/\bP K q W G O J Q (k () Z):=by
 unfold V2.mb V2.pS at h
 by_cases j:p
 ·rw[a9 j]at h;exact⟨j,h⟩
 ·rw[bf j]at h;exact False.elim h
def fW{α β:Type}(K:bj)(rel:Rl α β)(W:WX)(t:L2.St->Hp->(β->Hp->Prop)->Prop)(f:Ev->Mo α):Prop :=
 ∀G O Z H J Y Q,Wd K G O Z H->gH K G O J Y->bP K rel W G O J Q (f Y Z)->t J H Q
def DH:Rl br br:=λ_ _ b c=>b=c
def VE(X:Cx)(W:WX)(e:bx)(f:Ev->Mo A):Prop:=∃t,PE X e t/\fW X.K (Den X.K) W t f
def VT(X:Cx)(W:WX)(e:bx)(f:Ev->Mo br):Prop:=∃t,PT X e t/\fW X.K DH W t f
def VW(X:Cx)(W:WX)(e:bx)(f:Ev->Mo br):Prop:=∃t,PW X e t/\fW X.K DH W t f
def VA(X:Cx)(W:WX)(es:ak bx)(f:Ev->Mo (ak A)):Prop:=∃t,PA X es t/\fW X.K (bC X.K) W t f
end V2
namespace V2
open PySem PySem.Spec PyProof.Rows L2
section
variable{K:bj}{G H:Hp}{O:ak aw}{Z:aE}{v:V}{a:A}
noncomputable def fP(Z:aE):A->ar (ak A)
 |.lst ds=>aj ds
 |.dW ns=>aj (ns.map A.int)
 |.aI k=>match Z[k]? with
  |some (.lst ds)=>aj ds
  |_=>ao
 |_=>ao
def gD(Z:aE):A->ar (ak A)
 |.tup ds=>aj ds
 |a=>fP Z a
theorem AV(w:Wd K G O Z H)(d:Den K G O v a){ds:ak A}(h:fP Z a=aj ds):∃p xs,v=.ref p/\fV K H p xs/\bC K G O xs ds:=by
 cases a with
 |lst es =>
  simp only[fP,kX]at h;subst h;simp only[Den]at d;obtain⟨p,xs,h1,h2,j⟩:=d;exact⟨p,xs,h1,fV.of (w.sub _ _ h2),j⟩
 |dW ns =>
  simp only[fP,kX]at h;subst h;simp only[Den]at d;obtain⟨p,h1,h2⟩:=d;exact⟨p,_,h1,w.sub.seq h2,WR ns⟩
 |aI k =>
  simp only[fP]at h;cases e:Z[k]? with
  |none=>rw[e]at h;cases h
  |some c =>
   rw[e]at h;cases c with
   |lst es =>
    simp only[kX]at h;subst h;simp only[Den]at d;obtain⟨p,h1,h2⟩:=d;obtain⟨g,xs,j,q⟩:=w.aI k _ p e h2;exact⟨p,xs,h1,fV.of j,q⟩
   |_=>cases h
 |_=>simp[fP]at h
theorem Bt(w:Wd K G O Z H)(d:Den K G O v a){ds:ak A}(h:gD Z a=aj ds):∃p xs,v=.ref p/\(fV K H p xs\/kH K H p xs)/\bC K G O xs ds:=by
 cases a with
 |tup es =>
  simp only[gD,kX]at h;subst h;simp only[Den]at d;obtain⟨p,xs,h1,h2,j⟩:=d;exact⟨p,xs,h1,.inr (kH.of (w.sub _ _ h2)),j⟩
 |_ =>
  obtain⟨p,xs,h1,h2,j⟩:=AV w d h;exact⟨p,xs,h1,.inl h2,j⟩
theorem Vl(w:Wd K G O Z H)(d:Den K G O v a){ds:ak A}(h:fP Z a=aj ds)(q:∀ns,a≠.dW ns):∃p xs,v=.ref p/\H p=aj (.lst xs)/\bC K G O xs ds:=by
 cases a with
 |lst es =>
  simp only[fP,kX]at h;subst h;simp only[Den]at d;obtain⟨p,xs,h1,h2,j⟩:=d;exact⟨p,xs,h1,w.sub _ _ h2,j⟩
 |dW ns=>exact bz rfl (q ns)
 |aI k =>
  simp only[fP]at h;cases e:Z[k]? with
  |none=>rw[e]at h;cases h
  |some c =>
   rw[e]at h;cases c with
   |lst es =>
    simp only[kX]at h;subst h;simp only[Den]at d;obtain⟨p,h1,h2⟩:=d;obtain⟨g,xs,j,z⟩:=w.aI k _ p e h2;exact⟨p,xs,h1,j,z⟩
   |_=>cases h
 |_=>simp[fP]at h
end
@[simp] noncomputable def mE(c:br)(ds:ak A):Mo A:=λZ=>if c then aj (.ok (.aI Z.length),Z++[.lst ds])else aj (.ok (.lst ds),Z)
section
variable{K:bj}{G H:Hp}{O:ak aw}{Z:aE}{W:WX}{J:L2.St}{Q:VK}
theorem HY{c:br}{ds:ak A}{xs:ak V}{p:aw}(w:Wd K G O Z H)(j:H p=ao)(d:bC K G O xs ds)(h:bP K (Den K) W G O J Q (mE c ds Z)):Q (.ref p) (upd H p (.lst xs)):=by
 cases c with
 |true =>
  refine h _ _ G (O++[p]) (Ext.cell p) (w.cell j ⟨w.oQ j,xs,eL,d.ext (Ext.cell p)⟩) ?_;simp only[Den];exact⟨p,rfl,by rw[<-w.len];simp⟩
 |false =>
  refine h _ _ _ _ (Ext.new (w.oQ j) (.lst xs)) (w.new j _) ?_;simp only[Den];exact⟨p,xs,rfl,eL,d.ext (Ext.new (w.oQ j) _)⟩
@[simp] def Ey(ds:ak A):Mo A:=ret (.tup ds)
theorem Wt{ds:ak A}{xs:ak V}{p:aw}(w:Wd K G O Z H)(j:H p=ao)(d:bC K G O xs ds)(h:bP K (Den K) W G O J Q (Ey ds Z)):Q (.ref p) (upd H p (.tup xs)):=by
 refine h _ _ _ _ (Ext.new (w.oQ j) (.tup xs)) (w.new j _) ?_;simp only[Den];exact⟨p,xs,rfl,eL,d.ext (Ext.new (w.oQ j) _)⟩
theorem nA{α β:Type}{rel:Rl α β}{Q:β->Hp->Prop}{a:α}{b:β}(w:Wd K G O Z H)(d:rel G O b a)(h:bP K rel W G O J Q (ret a Z)):Q b H:=h b H G O (Ext.refl _ _) w d
end
section
variable{X:Cx}{W:WX}{e a b:bx}{es:ak bx}{pos:dk}{fa fb:Ev->Mo A}{fs:Ev->Mo (ak A)}
@[simp] def eE(i:ay):Ev->Mo A:=λY=>need (Y[i]?).join
theorem join_some{α:Type}{o:ar (ar α)}{x:α}(h:o.join=aj x):o=aj (aj x):=by
 cases o with
 |none=>cases h
 |some y=>cases y with
  |none=>cases h
  |some z=>cases h;rfl
theorem akI{K:bj}{i:ay}:fW K (Den K) W (Bd i) (eE i):=by
 intro G q z H J j Q w r h;unfold eE need at h;cases e:(j[i]?).join with
 |none=>rw[e]at h;exact False.elim h
 |some d =>
  rw[e]at h;obtain⟨v,h1,h2⟩:=r.2 i d (join_some e);exact⟨v,h1,h v H G q (Ext.refl _ _) w h2⟩
theorem vv(i:ay){x:ba}(j:X.N[i]?=aj x:=by rfl)(hv:QG X.env.scope x:=by first|exact Or.inl rfl|exact Or.inr (Or.inl rfl)|exact Or.inr (Or.inr rfl))(hd:(x==("__debug__" : ba))=au:=by decide)
  (q:(x==("__classdict__" : ba))=au:=by decide):VE X W (.Name x pos) (eE i):=⟨_,Ef j hv hd q,akI⟩
@[simp] noncomputable def wO(i:ay):Ev->Mo A:=λY Z=>match (Y[i]?).join with
 |some (.aI k)=>match Z[k]? with
  |some (.lst ds)=>aj (.ok (.lst ds),Z.set k .dead)
  |_=>ao
 |_=>ao
theorem akL{K:bj}{i:ay}:fW K (Den K) W (Bd i) (wO i):=by
 intro G N U H J B Q w r h;unfold wO at h;cases e:(B[i]?).join with
 |none=>rw[e]at h;exact False.elim h
 |some d =>
  rw[e]at h;cases d with
  |aI k =>
   simp only at h;cases j:U[k]? with
   |none=>rw[j]at h;exact False.elim h
   |some c =>
    rw[j]at h;cases c with
    |lst ds =>
     obtain⟨v,h1,h2⟩:=r.2 i _ (join_some e);simp only[Den]at h2;obtain⟨p,rfl,z⟩:=h2;obtain⟨g,q,b,a⟩:=w.aI k _ p j z;refine⟨_,h1,h _ H (upd G p (.lst q)) N (Ext.new g _) (w.freeze z g b) ?_⟩;simp only[Den];exact⟨p,q,rfl,eL,a.ext (Ext.new g _)⟩
    |_=>exact False.elim h
  |_=>exact False.elim h
theorem vf(i:ay){x:ba}(j:X.N[i]?=aj x:=by rfl)(hv:QG X.env.scope x:=by first|exact Or.inl rfl|exact Or.inr (Or.inl rfl)|exact Or.inr (Or.inr rfl))(hd:(x==("__debug__" : ba))=au:=by decide)
  (q:(x==("__classdict__" : ba))=au:=by decide):VE X W (.Name x pos) (wO i):=⟨_,Ef j hv hd q,akL⟩
theorem HI{K:bj}{v:V}{d:A}(h:∀G O,Den K G O v d):fW K (Den K) W (tC v) (λ_=>ret d):=λG O _ _ _ _ _ w _ q=>nA w (h G O) q
theorem aK{i:a5}{j}:VE X W (.Constant (.int i) j pos) (λ_=>ret (.int i)):=⟨_,apD,HI λ_ _=>by simp only[Den]⟩
theorem uQ{i:br}{j}:VE X W (.Constant (.bool i) j pos) (λ_=>ret (.bl i)):=⟨_,apQ,HI λ_ _=>by simp only[Den]⟩
theorem LO{x:ba}{j}:VE X W (.Constant (.str x) j pos) (λ_=>ret (.str x)):=⟨_,aoZ,HI λ_ _=>by simp only[Den]⟩
theorem Rc{x:ba}{p:aw}(j:Gl X x)(hm:X.mg x=aj (.ref p))(q:cw X.K az x=aj (aj (.ref p)))(hd:(x==("__debug__" : ba))=au:=by decide):VE X W (.Name x pos) (λ_=>ret (.gl x)) :=
 ⟨_,Vu (v:=.ref p) j hm rfl hd,HI λ_ _=>by simp only[Den];exact⟨p,q,rfl⟩⟩
theorem Rb{x:ba}{i:a5}(j:Gl X x)(hm:∃t,X.mg x=aj (.int i t))(hd:(x==("__debug__" : ba))=au:=by decide):VE X W (.Name x pos) (λ_=>ret (.int i)):=by
 obtain⟨t,hm⟩:=hm;exact⟨_,Vu (v:=.int i) j hm ⟨t,rfl⟩ hd,HI λ_ _=>by simp only[Den]⟩
theorem Ae{x:ba}{n:cz}(j:Gl X x)(hm:X.mg x=ao)(hv:d6 x=aj (.type n))(hn:x≠"__name__":=by decide)(hd:(x==("__debug__" : ba))=au:=by decide):VE X W (.Name x pos) (λ_=>ret (.ty n)) :=
 ⟨_,apP (v:=.ty n) j hm hv rfl hn hd,HI λ_ _=>by simp only[Den]⟩
theorem aS:VA X W [] (λ_=>ret []):=⟨_,HR,λ_ _ _ _ _ _ _ w _ q=>nA w .nil q⟩
@[simp] def aB(f:Ev->Mo A)(g:Ev->Mo (ak A)):Ev->Mo (ak A):=λY=>mb (f Y) λx=>mb (g Y) λxs=>ret (x::xs)
theorem aF(h1:VE X W e fa)(h2:VA X W es fs)(k:bg (e::es) X.env=(au,b9 e X.env)::bg es X.env:=by rfl):VA X W (e::es) (aB fa fs):=by
 obtain⟨t,i,g⟩:=h1;obtain⟨u,p2,s2⟩:=h2;refine⟨_,DJ i p2 k,λG N a H J z Q w r h=>?_⟩;refine g G N a H J z _ w r (bP.mb h λx q v n o j c f m h1=>?_);refine s2 o j q n J z _ f (r.ext c) (bP.mb h1 λp U s y A B b d l h2=>?_);exact nA d (.cons (m.ext b) l) h2
@[simp] def kK(g:Ev->Mo (ak A)):Ev->Mo A:=λY=>mb (g Y) λxs=>mb (pS (xs.length<=bc)) λ_=>Ey xs
theorem oA{k}(h:VA X W es fs):VE X W (.Tuple es k pos) (kK fs):=by
 obtain⟨t,p,s⟩:=h;refine⟨_,aoY p,λG B U H J q Q w r h=>?_⟩;refine s G B U H J q _ w r (bP.mb h λc N e f g z d a j h1=>?_);obtain⟨hl,h2⟩:=bP.pS h1;exact⟨by rw[j.length];exact hl,λp b=>Wt a b j h2⟩
@[simp] def lD(c:br)(g:Ev->Mo (ak A)):Ev->Mo A:=λY=>mb (g Y) λxs=>mb (pS (xs.length<=bc)) λ_=>mE c xs
theorem rC(c:br)(h:VA X W es fs):VE X W (.List es pos) (lD c fs):=by
 obtain⟨t,p,s⟩:=h;refine⟨_,ao7 p,λG B U H J q Q w r h=>?_⟩;refine s G B U H J q _ w r (bP.mb h λd N f g i z e a j h1=>?_);obtain⟨hl,h2⟩:=bP.pS h1;exact⟨by rw[j.length];exact hl,λp b=>HY a b j h2⟩
def zL(K:bj)(W:WX)(r:R2)(g:A->A->Mo A):Prop :=
 ∀G O Z H J x y a b Q,Wd K G O Z H->Den K G O x a->Den K G O y b->bP K (Den K) W G O J Q (g a b Z)->r x y H Q
def nW(X:Cx)(W:WX)(f:aq->aq->Sem aq)(g:A->A->Mo A):Prop:=∃r,jC X f r/\zL X.K W r g
@[simp] def aC(g:A->A->Mo A)(f h:Ev->Mo A):Ev->Mo A:=λY=>mb (f Y) λx=>mb (h Y) λy=>g x y
theorem SY{K:bj}{r:R2}{g:A->A->Mo A}{ta tb:TE}(i:zL K W r g)(h1:fW K (Den K) W ta fa)(h2:fW K (Den K) W tb fb):fW K (Den K) W (LZ r ta tb) (aC g fa fb):=by
 intro G a b H J U Q w q h;refine h1 G a b H J U _ w q (bP.mb h λx N v n p z d f l h1=>?_);refine h2 p z N n J U _ f (q.ext d) (bP.mb h1 λy B u m o j c e k h2=>?_);exact i o j B m J v u x y Q e (l.ext c) k h2
theorem aZ{j:Operator}{g:A->A->Mo A}(U:nW X W (c6 j) g)(ha:VE X W a fa)(hb:VE X W b fb):VE X W (.BinOp a j b pos) (aC g fa fb):=by
 obtain⟨r,N,B⟩:=U;obtain⟨t,z,q⟩:=ha;obtain⟨u,p2,s2⟩:=hb;exact⟨_,ao1 N z p2,SY B q s2⟩
@[simp] def gI(C:a5->a5->Prop) [∀i j,di (C i j)](g:a5->a5->A):A->A->Mo A
 |.int i,.int j=>mb (pS (C i j)) λ_=>ret (g i j)
 |_,_=>stuck
theorem TZ{K:bj}{C:a5->a5->Prop} [∀i j,di (C i j)]{g:a5->a5->V}{g':a5->a5->A}(B:∀G O i j,Den K G O (g i j) (g' i j)):zL K W (rI C g) (gI C g'):=by
 intro G O U H J x y a b Q w z q h;cases a with
 |int i =>
  cases b with
  |int j =>
   simp only[Den]at z q;obtain⟨N,h2⟩:=bP.pS h;exact⟨i,j,z,q,N,nA w (B _ _ _ _) h2⟩
  |_=>exact False.elim h
 |_=>exact False.elim h
@[simp] def IU(g:a5->a5->A):A->A->Mo A
 |.int i,.int j=>ret (g i j)
 |_,_=>stuck
theorem MQ{K:bj}{g:a5->a5->V}{g':a5->a5->A}(B:∀G O i j,Den K G O (g i j) (g' i j)):zL K W (yI g) (IU g'):=by
 intro G O N H J x y a b Q w z q h;cases a with
 |int i =>
  cases b with
  |int j =>
   simp only[Den]at z q;exact⟨i,j,z,q,nA w (B _ _ _ _) h⟩
  |_=>exact False.elim h
 |_=>exact False.elim h
instance:∀i j,di (qY i j):=λi j=>by unfold qY;infer_instance
instance:∀i j,di (uL i j):=λi j=>by unfold uL;infer_instance
instance:∀i j,di (GJ i j):=λi j=>by unfold GJ;infer_instance
@[simp] def rH:=IU λi j => .int (i-j)
@[simp] def xD:=gI qY λi j => .int (i*j)
@[simp] def oS:=gI uL λi j => .int (i/j)
@[simp] def gV:=gI (λ_ j=>0<j) λi j => .int (i%j)
@[simp] def BO:=gI GJ λi j => .int (i ^ j.toNat)
theorem uY:nW X W (c6 .Sub) rH:=⟨_,ap4,MQ λ_ _ _ _=>by simp only[Den]⟩
theorem yM:nW X W (c6 .Mult) xD:=⟨_,ap8,TZ λ_ _ _ _=>by simp only[Den]⟩
theorem wU:nW X W (c6 .FloorDiv) oS:=⟨_,aqE,TZ λ_ _ _ _=>by simp only[Den]⟩
theorem nC:nW X W (c6 .Mod) gV:=⟨_,ap9,TZ λ_ _ _ _=>by simp only[Den]⟩
theorem MR:nW X W (c6 .Pow) BO:=⟨_,ap5,TZ λ_ _ _ _=>by simp only[Den]⟩
@[simp] noncomputable def NJ:A->br
 |.dW _=>ax
 |_=>au
theorem Wk{a:A}(h:NJ a=au):∀ns,a≠.dW ns:=λns e=>by subst e;cases h
@[simp] def Jj(c:br)(a b:A):Mo A:=λZ=>match fP Z a,fP Z b with
  |some xs,aj ys=>if NJ a||NJ b||decide (bc<xs.length+ys.length)then ao else mE c (xs++ys) Z
  |_,_=>ao
@[simp] def IW(c:br):A->A->Mo A
 |.int i,.int j=>ret (.int (i+j))
 |.tup xs,.tup ys=>mb (pS (0<xs.length/\xs.length+ys.length<=bc)) λ_=>Ey (xs++ys)
 |a,b=>Jj c a b
theorem ap3{K:bj}{c:br}:zL K W Um (Jj c):=by
 intro G m B H J x y a b Q w l k h;unfold Jj at h
 match j:fP B a,z:fP B b with
 |none,_=>rw[j]at h;exact False.elim h
 |some N,ao=>rw[j,z]at h;exact False.elim h
 |some N,aj e =>
  rw[j,z]at h;simp only at h
  by_cases hb:(NJ a||NJ b||decide (bc<N.length+e.length))=ax
  ·rw[a9 hb]at h;exact False.elim h
  ·rw[bf hb]at h;simp only[Bool.or_eq_true,BU,not_or,Bool.not_eq_true]at hb;obtain⟨p,g,rfl,h2,d⟩:=Vl w l j (Wk hb.1.1);obtain⟨q,f,rfl,i,U⟩:=Vl w k z (Wk hb.1.2);exact⟨p,q,g,f,rfl,rfl,h2,i,by rw[d.length,U.length];omega,λr hr=>HY w hr (d.append U) h⟩
theorem dI(c:br):nW X W (c6 .Add) (IW c):=by
 refine⟨_,aqI.or (aqH.or aqG),?_⟩;intro G d f H J x y a b Q w z j h;unfold IW at h;split at h
 ·simp only[Den]at z j;exact .inl ⟨_,_,z,j,nA w (by simp only[Den]) h⟩
 ·rename_i m l;simp only[Den]at z j;obtain⟨p,U,rfl,h2,B⟩:=z;obtain⟨q,g,rfl,i,N⟩:=j;obtain⟨⟨n,k⟩,h⟩:=bP.pS h;refine .inr (.inr ⟨p,q,U,g,rfl,rfl,kH.of (w.sub _ _ h2),kH.of (w.sub _ _ i),?_,by rw[B.length,N.length];exact k,λe=>?_,λ_ r hr=>Wt w hr (B.append N) h⟩)
  ·intro e;subst e;have:=B.length;simp at this;omega
  ·subst e;refine nA w ?_ h;simp only[Den];exact⟨p,U,rfl,h2,by simpa using B.append N⟩
 ·exact .inr (.inl (ap3 G d f H J x y _ _ Q w z j h))
end
noncomputable def cJ:ay->A->br
 |_,.int _=>ax
 |_,.bl _=>ax
 |_,.cE=>ax
 |_,.str x=>PyData.canLay0 (.str x)
 |n+1,.tup ds=>ds.all (cJ n)
 |n+1,.lst ds=>ds.all (cJ n)
 |_,_=>au
noncomputable def BS(f:A->A->br):ak A->ak A->br
 |[],[]=>ax
 |x::xs,y::ys=>f x y&&BS f xs ys
 |_,_=>au
def gQ:ay->A->A->br
 |_,.int i,.int j=>i==j
 |_,.bl i,.bl j=>i==j
 |_,.bl i,.int j=>(if i then 1 else 0)==j
 |_,.int i,.bl j=>i==(if j then 1 else 0)
 |_,.cE,.cE=>ax
 |_,.str x,.str y=>x==y
 |n+1,.tup xs,.tup ys=>BS (gQ n) xs ys
 |n+1,.lst xs,.lst ys=>BS (gQ n) xs ys
 |_,_,_=>au
noncomputable def toPy:ay->A->PyData
 |_,.int i => .int i
 |_,.bl i => .bool i
 |_,.str x => .str x
 |n+1,.tup ds => .tuple (ds.map (toPy n))
 |n+1,.lst ds => .list (ds.map (toPy n))
 |_,_ => .none
theorem WW:∀(ds:ak A) (n:ay),(∀d∈ds,cJ n d=ax->PyData.canLay0 (toPy n d)=ax)->ds.all (cJ n)=ax->PyData.canLayAll0 (ds.map (toPy n))=ax
 |[],_,_,_=>rfl
 |d::ds,n,ih,h=>by
  simp only[Nl,mB]at h;simp only[bU,PyData.canLayAll0,mB];exact⟨ih d nE h.1,WW ds n (λe he=>ih e (fY _ he)) h.2⟩
theorem HC:∀(n:ay) (a:A),cJ n a=ax->PyData.canLay0 (toPy n a)=ax:=by
 intro n
 induction n with
 |zero=>intro a h;cases a <;> first|rfl|exact h|cases h
 |succ n ih =>
  intro a h;cases a with
  |tup ds=>exact WW ds n (λd _=>ih d) h
  |lst ds=>exact WW ds n (λd _=>ih d) h
  |str x=>exact h
  |int i=>rfl
  |bl b=>rfl
  |cE=>rfl
  |_=>cases h
theorem Kc:∀(ds:ak A) (n:ay),(∀d∈ds,(toPy n d).depth<=n)->PyData.depthAll (ds.map (toPy n))<=n
 |[],_,_=>CG _
 |d::ds,n,ih=>by
  simp only[bU,PyData.depthAll];exact Nat.max_le.mpr ⟨ih d nE,Kc ds n λe he=>ih e (fY _ he)⟩
theorem Ba:∀(n:ay) (a:A),(toPy n a).depth<=n:=by
 intro n
 induction n with
 |zero=>intro a;cases a <;> exact oX _
 |succ n ih =>
  intro a;cases a with
  |tup ds=>exact Nat.succ_le_succ (Kc ds n λd _=>ih d)
  |lst ds=>exact Nat.succ_le_succ (Kc ds n λd _=>ih d)
  |_=>exact CG _
theorem abJ:∀(xs ys:ak A) (n:ay),(∀x∈xs,∀y∈ys,PyData.eqv (toPy n x) (toPy n y)=gQ n x y)->PyData.eqvAll (xs.map (toPy n)) (ys.map (toPy n))=BS (gQ n) xs ys
 |[],[],_,_=>rfl
 |[],_::_,_,_=>rfl
 |_::_,[],_,_=>rfl
 |x::xs,y::ys,n,ih=>by
  simp only[bU,PyData.eqvAll,BS];rw[ih x nE y nE,abJ xs ys n λa ha b hb=>ih a (fY _ ha) b (fY _ hb)]
theorem Az:∀(n:ay) (a b:A),cJ n a=ax->cJ n b=ax->PyData.eqv (toPy n a) (toPy n b)=gQ n a b:=by
 intro n
 induction n with
 |zero=>intro a b ha hb;cases a <;> cases b <;> first|rfl|(simp[cJ]at ha;done)|(simp[cJ]at hb;done)
 |succ n ih =>
  intro a b ha hb;have lst:∀q j:ak A,q.all (cJ n)=ax->j.all (cJ n)=ax->PyData.eqvAll (q.map (toPy n)) (j.map (toPy n))=BS (gQ n) q j:=λq j h1 h2 =>
   abJ q j n λx B y z=>ih x y (FV.mp h1 x B) (FV.mp h2 y z)
  cases a <;> cases b <;> first|rfl|(simp[cJ]at ha;done)|(simp[cJ]at hb;done)|exact lst _ _ ha hb
section
variable{X:Cx}{aa:ak (aw×c5)}{J:L2.St}{H:Hp}{s:av}{O:ak aw}
theorem readsAll(n:ay)(ih:∀(v:V) (u:aq) (a:A),cJ n a=ax->Den X.K H O v a->RelV v u->∃as,Reads s.heap u (toPy n a) as) :
  ∀(ds:ak A) (xs:ak V) (us:ak aq),ds.all (cJ n)=ax->bC X.K H O xs ds->Vals xs us->∃as,ReadsAll s.heap us (ds.map (toPy n)) as
 |[],xs,us,_,d,r=>by
  rw[xK]at d;subst d;cases r;exact⟨_,.nil⟩
 |a::ds,xs,us,h,d,r=>by
  obtain⟨x,t,rfl,U,N⟩:=d.pF;simp only[Nl,mB]at h;cases r with
  |cons q j =>
   obtain⟨as,B⟩:=ih _ _ _ h.1 U q;obtain⟨bs,z⟩:=readsAll n ih ds _ _ h.2 N j;exact⟨_,.cons B z⟩
theorem HN(I:Inv X aa J H s):∀(n:ay) (v:V) (u:aq) (a:A),cJ n a=ax->Den X.K H O v a->RelV v u->∃as,Reads s.heap u (toPy n a) as:=by
 intro n
 induction n with
 |zero =>
  intro v u a h d r;cases a with
  |int i=>simp only[Den]at d;subst d;obtain⟨t,rfl⟩:=r;exact⟨_,.int i t⟩
  |bl b=>simp only[Den]at d;subst d;cases r;exact⟨_,.bool b⟩
  |str x=>simp only[Den]at d;subst d;obtain⟨t,rfl⟩:=r;exact⟨_,.str x t⟩
  |cE=>simp only[Den]at d;subst d;cases r;exact⟨_,.none⟩
  |_=>cases h
 |succ n ih =>
  intro v u a h d r;cases a with
  |int i=>simp only[Den]at d;subst d;obtain⟨t,rfl⟩:=r;exact⟨_,.int i t⟩
  |bl b=>simp only[Den]at d;subst d;cases r;exact⟨_,.bool b⟩
  |str x=>simp only[Den]at d;subst d;obtain⟨t,rfl⟩:=r;exact⟨_,.str x t⟩
  |cE=>simp only[Den]at d;subst d;cases r;exact⟨_,.none⟩
  |tup ds =>
   simp only[Den]at d;obtain⟨p,z,rfl,h2,c⟩:=d;cases r;obtain⟨j,B,pl,e⟩:=I.tuple (kH.of h2);obtain⟨as,q⟩:=readsAll n ih ds z j h c B;obtain⟨o,N,U,m,hd⟩:=(show s.heap.IsTuple p j.toArray from pl);exact⟨_,.tuple N U hd (by simpa using q)⟩
  |lst ds =>
   simp only[Den]at d;obtain⟨p,z,rfl,h2,c⟩:=d;cases r;obtain⟨j,B,pl,e⟩:=I.list (fV.of h2);obtain⟨as,q⟩:=readsAll n ih ds z j h c B;obtain⟨o,N,U,m,hd⟩:=pl.isList;exact⟨_,.list N U hd (by simpa using q)⟩
  |_=>cases h
end
def Dx(K:bj)(neg:br):R2:=λx y H Q=>∃O a b,cJ 8 a=ax/\cJ 8 b=ax/\Den K H O x a/\Den K H O y b/\Q (.bl (if neg then !gQ 8 a b else gQ 8 a b)) H
theorem aqF{X:Cx}(e:X.A.units+64<e4):jC X (cn .Eq) (Dx X.K au):=by
 intro aa s J H x y v u Q I z j h;obtain⟨d,a,b,h1,h2,c,U,q⟩:=h;obtain⟨g,N⟩:=HN I 8 x v a h1 c z;obtain⟨bs,B⟩:=HN I 8 y u b h2 U j;have f:=Ba 8 a;refine SeqAt.compareEq_reads N B (HC 8 a h1) (HC 8 b h2) (by omega) ?_;rw[Az 8 a b h1 h2];exact⟨.bl (gQ 8 a b),H,I,rfl,q⟩
theorem ap7{X:Cx}(e:X.A.units+64<e4):jC X (cn .NotEq) (Dx X.K ax):=by
 intro aa s J H x y v u Q I z j h;obtain⟨d,a,b,h1,h2,c,U,q⟩:=h;obtain⟨g,N⟩:=HN I 8 x v a h1 c z;obtain⟨bs,B⟩:=HN I 8 y u b h2 U j;have f:=Ba 8 a;refine SeqAt.compareNe_reads N B (HC 8 a h1) (HC 8 b h2) (by omega) ?_;rw[Az 8 a b h1 h2];exact⟨.bl (!gQ 8 a b),H,I,rfl,q⟩
noncomputable def wV(f:A->ar A):ak A->ar (ak A)
 |[]=>aj []
 |x::xs=>match f x,wV f xs with
  |some y,aj ys=>aj (y::ys)
  |_,_=>ao
def res(Z:aE):ay->A->ar A
 |0,a=>if cJ 8 a=ax then aj a else ao
 |n+1,a=>if cJ 8 a=ax then aj a else match a with
  |.tup ds=>(wV (res Z n) ds).map .tup
  |.lst ds=>(wV (res Z n) ds).map .lst
  |.aI k=>match Z[k]? with
   |some (.lst ds)=>(wV (res Z n) ds).map .lst
   |_=>ao
  |_=>ao
section
variable{K:bj}{G H:Hp}{O:ak aw}{Z:aE}
theorem Wd.abI(w:Wd K G O Z H):Ext G O H O:=⟨w.sub,λ_ _ h=>h⟩
theorem UH{f:A->ar A}(ih:∀v a b,Den K G O v a->f a=aj b->Den K H O v b):∀(ds es:ak A) (xs:ak V),bC K G O xs ds->wV f ds=aj es->bC K H O xs es
 |[],es,xs,d,h=>by
  simp only[wV,kX]at h;subst h;rw[xK]at d ⊢;exact d
 |a::ds,es,xs,d,h=>by
  obtain⟨x,t,rfl,N,B⟩:=d.pF;simp only[wV]at h;split at h
  ·rename_i y j z q;cases h;exact .cons (ih _ _ _ N z) (UH ih ds j t B q)
  ·cases h
theorem TM(w:Wd K G O Z H):∀(n:ay) (v:V) (a b:A),Den K G O v a->res Z n a=aj b->Den K H O v b:=by
 intro n
 induction n with
 |zero =>
  intro v a b d h;simp only[res]at h;split at h
  ·cases h;exact d.ext w.abI
  ·cases h
 |succ n ih =>
  intro v a b d h;simp only[res]at h;split at h
  ·cases h;exact d.ext w.abI
  ·split at h
   ·rename_i ds _;simp only[CD]at h;obtain⟨es,h1,rfl⟩:=h;simp only[Den]at d ⊢;obtain⟨p,j,B,z,q⟩:=d;exact⟨p,j,B,w.sub _ _ z,UH ih ds es j q h1⟩
   ·rename_i ds _;simp only[CD]at h;obtain⟨es,h1,rfl⟩:=h;simp only[Den]at d ⊢;obtain⟨p,j,B,z,q⟩:=d;exact⟨p,j,B,w.sub _ _ z,UH ih ds es j q h1⟩
   ·rename_i k _;split at h
    ·rename_i ds e;simp only[CD]at h;obtain⟨es,h1,rfl⟩:=h;simp only[Den]at d ⊢;obtain⟨p,B,z⟩:=d;obtain⟨g,j,q,N⟩:=w.aI k _ p e z;exact⟨p,j,B,q,UH ih ds es j N h1⟩
    ·cases h
   ·cases h
end
def xF(neg:br)(a b:A):Mo A:=λZ=>match res Z 6 a,res Z 6 b with
 |some x,aj y=>if(cJ 8 x&&cJ 8 y)=ax then aj (.ok (.bl (if neg then !gQ 8 x y else gQ 8 x y)),Z)else ao
 |_,_=>ao
def iK:=xF au
def qL:=xF ax
section
variable{X:Cx}{W:WX}{e a b c:bx}{pos:dk}{fa fb fc:Ev->Mo A}{ta tb:Ev->Mo br}
theorem Vz{K:bj}{neg:br}:zL K W (Dx K neg) (xF neg):=by
 intro G q e H J x y a b Q w d c h;unfold xF at h;split at h
 ·rename_i B z U N;split at h
  ·rename_i j;rw[mB]at j;exact⟨q,B,z,j.1,j.2,TM w 6 x a B d U,TM w 6 y b z c N,h _ H G q (Ext.refl _ _) w (by simp only[Den])⟩
  ·exact False.elim h
 ·exact False.elim h
theorem qB(j:X.A.units+64<e4):nW X W (cn .Eq) iK:=⟨_,aqF j,Vz⟩
theorem HV(j:X.A.units+64<e4):nW X W (cn .NotEq) qL:=⟨_,ap7 j,Vz⟩
@[simp] def qM:=IU λi j => .bl (decide (i<j))
@[simp] def BP:=IU λi j => .bl (decide (i<=j))
@[simp] def vL:=IU λi j => .bl (decide (j<i))
@[simp] def Je:=IU λi j => .bl (decide (j<=i))
theorem uZ:nW X W (cn .Lt) qM:=⟨_,aqA,MQ λ_ _ _ _=>by simp only[Den]⟩
theorem MT:nW X W (cn .LtE) BP:=⟨_,aqB,MQ λ_ _ _ _=>by simp only[Den]⟩
theorem DN:nW X W (cn .Gt) vL:=⟨_,aqC,MQ λ_ _ _ _=>by simp only[Den]⟩
theorem aq7:nW X W (cn .GtE) Je:=⟨_,aqD,MQ λ_ _ _ _=>by simp only[Den]⟩
noncomputable def NK:A->ar br
 |.cE=>aj ax
 |_=>aj au
@[simp] def IV:A->Mo br
 |.bl b=>ret b
 |_=>stuck
@[simp] def cA(f:Ev->Mo A):Ev->Mo br:=λY=>mb (f Y) IV
theorem Bv{K:bj}{t:TE}(h:fW K (Den K) W t fa):fW K DH W (Sk t) (cA fa):=by
 intro G N a H J z Q w r q;refine h G N a H J z _ w r (bP.mb q λx U v e f B d c j h1=>?_);cases x with
 |bl b=>simp only[Den]at j;exact⟨b,j,nA c rfl h1⟩
 |_=>exact False.elim h1
theorem CY{j:CmpOp}{g:A->A->Mo A}(U:nW X W (cn j) g)(ha:VE X W a fa)(hb:VE X W b fb)(hm:dq j b=au):VE X W (.Compare a [j] [b] pos) (aC g fa fb):=by
 obtain⟨r,N,B⟩:=U;obtain⟨t,z,q⟩:=ha;obtain⟨u,p2,s2⟩:=hb;exact⟨_,apL N z p2 hm,SY B q s2⟩
theorem fI{j:CmpOp}{g:A->A->Mo A}(U:nW X W (cn j) g)(ha:VE X W a fa)(hb:VE X W b fb)(hm:dq j b=au):VT X W (.Compare a [j] [b] pos) (cA (aC g fa fb)):=by
 obtain⟨r,N,B⟩:=U;obtain⟨t,z,q⟩:=ha;obtain⟨u,p2,s2⟩:=hb;exact⟨_,anV N z p2 hm,Bv (SY B q s2)⟩
@[simp] def HA(g g':A->A->Mo A)(q f2 j:Ev->Mo A):Ev->Mo A:=λY=>mb (q Y) λx=>mb (f2 Y) λy=>mb (g x y) λz=>mb (IV z) λk=>if k then mb (j Y) λu=>g' y u else ret (.bl au)
theorem akP{K:bj}{r C:R2}{g g':A->A->Mo A}{t s p:TE}(V:zL K W r g)(S:zL K W C g')(h1:fW K (Den K) W t fa)(h2:fW K (Den K) W s fb)(h3:fW K (Den K) W p fc):fW K (Den K) W (So r C t s p) (HA g g' fa fb fc):=by
 intro G F I H J j Q w q h;refine h1 G F I H J j _ w q (bP.mb h λx e v H1 G1 a n R d1 h1=>?_);refine h2 G1 a e H1 J j _ R (q.ext n) (bP.mb h1 λy d u H2 G2 U l P E h2=>?_);refine V G2 U d H2 J v u x y _ P (d1.ext l) E (bP.mb h2 λz c z' H3 G3 N i o D f=>?_);cases z with
 |bl k =>
  simp only[Den]at D;refine⟨k,D,?_⟩;cases k with
  |true=>exact h3 G3 N c H3 J j _ o (q.ext ((n.trans l).trans i)) (bP.mb f λm b T H4 G4 B L M d4 X=>S G4 B b H4 J u T y m Q M (E.ext (i.trans L)) d4 X)
  |false=>exact nA o (by simp only[Den]) f
 |_=>exact False.elim f
theorem agL{j B:CmpOp}{g g':A->A->Mo A}(k:nW X W (cn j) g)(d:nW X W (cn B) g')(ha:VE X W a fa)(hb:VE X W b fb)(l:VE X W c fc)
  (hm:lastMarks [j,B] [b,c]=au:=by with_unfolding_all rfl):VE X W (.Compare a [j,B] [b,c] pos) (HA g g' fa fb fc):=by
 obtain⟨r,i,h⟩:=k;obtain⟨n,z,q⟩:=d;obtain⟨t,f,U⟩:=ha;obtain⟨u,p2,s2⟩:=hb;obtain⟨m,e,N⟩:=l;exact⟨_,apM i z f p2 e hm,akP h q U s2 N⟩
theorem wL(h:VE X W e fa)(he:∀whole,isTrue e X.env whole=(do let v<-whole;standAt e.pos;holding [v] (truthy v)):=by intro _;rfl):VT X W e (cA fa):=by
 obtain⟨t,p,s⟩:=h;exact⟨_,anT p he,Bv s⟩
@[simp] def kB(f g:Ev->Mo br):Ev->Mo br:=λY=>mb (f Y) λc=>if c then ret ax else g Y
@[simp] def sF(f:Ev->Mo br):Ev->Mo br:=λY=>mb (f Y) λc=>ret (!c)
variable{rest:ak bx}
theorem uP(h:VT X W a ta):VW X W (.BoolOp .Or [a] pos) ta:=let ⟨t,p,s⟩:=h; ⟨t,pw_or1 p,s⟩
theorem rB(h1:VT X W a ta)(h2:VW X W (.BoolOp .Or (b::rest) pos) tb):VW X W (.BoolOp .Or (a::b::rest) pos) (kB ta tb):=by
 obtain⟨t,f,e⟩:=h1;obtain⟨u,p2,s2⟩:=h2;refine⟨_,pw_or f p2,λG N U H J z Q w r h=>?_⟩;refine e G N U H J z _ w r (bP.mb h λc q i k l j d B g h1=>?_);cases(show i=c from g);cases c with
 |false=>exact s2 l j q k J z Q B (r.ext d) h1
 |true=>exact nA B rfl h1
theorem VW.vt(h:VW X W e ta):VT X W e ta:=let ⟨t,p,s⟩:=h; ⟨t,p.pt,s⟩
theorem CW(h:VT X W a ta):VT X W (.UnaryOp .Not a pos) (sF ta):=by
 obtain⟨t,p,s⟩:=h;refine⟨_,anU p,λG z N H J j Q w r h=>?_⟩;refine s G z N H J j _ w r (bP.mb h λc B d f g q e U b h1=>?_);cases(show d=c from b);exact nA U rfl h1
@[simp] def yD(f g:Ev->Mo A):Ev->Mo A:=λY=>mb (f Y) λx=>mb (IV x) λc=>if c then g Y else ret (.bl au)
@[simp] def GW(f g:Ev->Mo A):Ev->Mo A:=λY=>mb (f Y) λx=>mb (IV x) λc=>if c then ret (.bl ax)else g Y
@[simp] def Rp(f:Ev->Mo A):Ev->Mo A:=λY=>mb (f Y) λx=>mb (IV x) λc=>ret (.bl (!c))
theorem GV{j}(h:VE X W a fa):VE X W (.BoolOp j [a] pos) fa:=let ⟨t,p,s⟩:=h; ⟨t,ao2 p,s⟩
theorem SA(h1:VE X W a fa)(h2:VE X W (.BoolOp .And (b::rest) pos) fb):VE X W (.BoolOp .And (a::b::rest) pos) (yD fa fb):=by
 obtain⟨t,g,f⟩:=h1;obtain⟨u,p2,s2⟩:=h2;refine⟨_,apS g p2,λG U d H J z Q w r h=>?_⟩;refine f G U d H J z _ w r (bP.mb h λx q v i k j e B N h1=>?_);cases x with
 |bl c =>
  simp only[Den]at N;refine⟨c,N,?_⟩;cases c with
  |true=>exact s2 k j q i J z Q B (r.ext e) h1
  |false=>exact nA B (by simp only[Den]) h1
 |_=>exact False.elim h1
theorem Af(h1:VE X W a fa)(h2:VE X W (.BoolOp .Or (b::rest) pos) fb):VE X W (.BoolOp .Or (a::b::rest) pos) (GW fa fb):=by
 obtain⟨t,g,f⟩:=h1;obtain⟨u,p2,s2⟩:=h2;refine⟨_,ao0 g p2,λG U d H J z Q w r h=>?_⟩;refine f G U d H J z _ w r (bP.mb h λx q v i k j e B N h1=>?_);cases x with
 |bl c =>
  simp only[Den]at N;refine⟨c,N,?_⟩;cases c with
  |false=>exact s2 k j q i J z Q B (r.ext e) h1
  |true=>exact nA B (by simp only[Den]) h1
 |_=>exact False.elim h1
theorem af9(h:VE X W a fa):VE X W (.UnaryOp .Not a pos) (Rp fa):=by
 obtain⟨t,p,s⟩:=h;refine⟨_,ao3 p,λG B U H J q Q w r h=>?_⟩;refine s G B U H J q _ w r (bP.mb h λx N v e f z d b j h1=>?_);cases x with
 |bl c =>
  simp only[Den]at j;exact⟨c,j,nA b (by simp only[Den]) h1⟩
 |_=>exact False.elim h1
@[simp] def Am(t:Ev->Mo br)(f g:Ev->Mo A):Ev->Mo A:=λY=>mb (t Y) λc=>if c then f Y else g Y
theorem Ra(l:VT X W c ta)(h1:VE X W a fa)(h2:VE X W b fb):VE X W (.IfExp c a b pos) (Am ta fa fb):=by
 obtain⟨o,k,s0⟩:=l;obtain⟨t,i,g⟩:=h1;obtain⟨u,p2,s2⟩:=h2;refine⟨_,apE k i p2,λG e f H J z Q w r h=>?_⟩;refine s0 G e f H J z _ w r (bP.mb h λc q n U d j B N m h1=>?_);cases(show n=c from m);cases c with
 |true=>exact g d j q U J z Q N (r.ext B) h1
 |false=>exact s2 d j q U J z Q N (r.ext B) h1
@[simp] def LS(f:Ev->Mo A):Ev->Mo A:=λY=>mb (f Y) λx=>match x with
 |.int i=>ret (.int (-i))
 |_=>stuck
theorem Qz(h:VE X W a fa):VE X W (.UnaryOp .USub a pos) (LS fa):=by
 obtain⟨t,p,s⟩:=h;refine⟨_,aoX agX p,λG B U H J q Q w r h=>?_⟩;refine s G B U H J q _ w r (bP.mb h λx N v e f z d b j h1=>?_);cases x with
 |int c =>
  simp only[Den]at j;exact⟨c,j,nA b (by simp only[Den]) h1⟩
 |_=>exact False.elim h1
end
inductive Out where
 |nx|bk|ct|ret (a:A)|exc (x:Exc)
abbrev OS:=ar (Out×Ev×aE)
abbrev MS:=Ev->aE->OS
def aH9(K:bj)(W:WX)(G:Hp)(O:ak aw)(D:Ends)(J:L2.St)(H:Hp):Out->Prop
 |.nx=>D.nx J H
 |.bk=>D.bk J H
 |.ct=>D.ct J H
 |.ret a=>∀v,Den K G O v a->D.rt v H
 |.exc x=>∀cls dx,aeI K G O H x cls dx->W J cls dx H
def fK(K:bj)(W:WX)(G:Hp)(O:ak aw)(D:Ends):OS->Prop
 |some (o,Y',Z')=>∀j H' G' O',Ext G O G' O'->Wd K G' O' Z' H'->gH K G' O' j Y'->aH9 K W G' O' D j H' o
 |none=>cp
@[simp] noncomputable def sM{α:Type}(m:Mo α)(Y:Ev)(k:α->aE->OS):aE->OS:=λZ=>match m Z with
 |some (.ok a,Z1)=>k a Z1
 |some (.exc x,Z1)=>aj (.exc x,Y,Z1)
 |none=>ao
section
variable{K:bj}{W:WX}{G:Hp}{O:ak aw}{Z:aE}{J:L2.St}{Y:Ev}{D:Ends}
theorem fK.ext{B:Hp}{j:ak aw}{r:OS}(h:fK K W G O D r)(e:Ext G O B j):fK K W B j D r:=by
 match r,h with
 |some (o,N,U),h=>exact λq a b z x w d=>h q a b z (e.trans x) w d
theorem fK.sM{α β:Type}{rel:Rl α β}{m:Mo α}{k:α->aE->OS}{Q1:β->Hp->Prop}(h:fK K W G O D (V2.sM m Y k Z))(r:gH K G O J Y)
  (N:∀a Z1 v H1 z j,Ext G O z j->Wd K z j Z1 H1->rel z j v a->fK K W z j D (k a Z1)->Q1 v H1):bP K rel W G O J Q1 (m Z):=by
 unfold V2.sM at h
 revert h
 generalize m Z=q;intro h
 match q,h with
 |some (.ok a,Z1),h=>exact λv H1 z j x w d=>N a Z1 v H1 z j x w d (fK.ext h x)
 |some (.exc x,Z1),h=>exact λcls U b c B e w d=>h J b c B e w (r.ext e) cls U d
end
def rR(K:bj)(W:WX)(t:TS)(f:MS):Prop:=∀G O Z H J Y D,Wd K G O Z H->gH K G O J Y->fK K W G O D (f Y Z)->t D J H
def VS(X:Cx)(W:WX)(st:b7)(f:MS):Prop:=∃t,PS X st t/\rR X.K W t f
def gY(X:Cx)(W:WX)(st:ak b7)(f:MS):Prop:=∃t,oW X st t/\rR X.K W t f
def QI(K:bj)(W:WX)(t:TG)(g:A->MS):Prop:=∀G O Z H J Y v a D,Wd K G O Z H->gH K G O J Y->Den K G O v a->fK K W G O D (g a Y Z)->t v J H D.nx
def aH6(K:bj)(W:WX)(t:CC)(g:ak A->MS):Prop:=∀G O Z H J Y vs as D,Wd K G O Z H->gH K G O J Y->bC K G O vs as->fK K W G O D (g as Y Z)->t vs J H D.nx
def VG(X:Cx)(W:WX)(tg:bx)(g:A->MS):Prop:=∃t,PG X tg t/\QI X.K W t g
def XY(X:Cx)(W:WX)(j:ak bx)(g:ak A->MS):Prop:=∃t,QL X j t/\aH6 X.K W t g
@[simp] noncomputable def iC:MS:=λY Z=>aj (.nx,Y,Z)
@[simp] noncomputable def aQ(f g:MS):MS:=λY Z=>match f Y Z with
 |some (.nx,Y1,Z1)=>g Y1 Z1
 |r=>r
section
variable{X:Cx}{W:WX}{st:b7}{rest:ak b7}{f g:MS}{e:bx}{fe:Ev->Mo A}{pos:dk}
theorem yN{K:bj}{G H:Hp}{O:ak aw}{Z:aE}{J:L2.St}{Y:Ev}{D:Ends}(w:Wd K G O Z H)(r:gH K G O J Y)(h:fK K W G O D (aj (.nx,Y,Z))):D.nx J H:=h J H G O (Ext.refl _ _) w r
theorem iP:gY X W [] iC:=⟨_,anZ,λ_ _ _ _ _ _ _ w r h=>yN w r h⟩
theorem To{K:bj}{t u:TS}(h1:rR K W t f)(h2:rR K W u g):rR K W (Be t u) (aQ f g):=by
 intro G c b H J U D w r h;refine h1 G c b H J U _ w r ?_;unfold aQ at h
 revert h
 generalize f U b=q;intro h
 match q,h with
 |some (.nx,j,z),h=>exact λB i k N x d e=>h2 k N z i B j D d e (fK.ext h x)
 |some (.bk,j,z),h=>exact h
 |some (.ct,j,z),h=>exact h
 |some (.ret a,j,z),h=>exact h
 |some (.exc a,j,z),h=>exact h
theorem aV(h1:VS X W st f)(h2:gY X W rest g):gY X W (st::rest) (aQ f g):=by
 obtain⟨t,q,j⟩:=h1;obtain⟨u,p2,s2⟩:=h2;exact⟨_,an0 q p2,To j s2⟩
theorem bH(h1:VS X W st f):gY X W [st] f:=let ⟨t,p,s⟩:=h1; ⟨t,anY p,s⟩
@[simp] def kL(fe:Ev->Mo A):MS:=λY=>sM (fe Y) Y λ_ Z=>aj (.nx,Y,Z)
theorem mX(h:VE X W e fe)(c:ew e ao pos.line X.env=pure au:=by rfl):VS X W (.Expr e pos) (kL fe):=by
 obtain⟨t,p,s⟩:=h;refine⟨_,aoB p c,λG z N H J j D w r h=>?_⟩;exact s G z N H J j _ w r (fK.sM h r λa B v f g q U b d h1=>yN b (r.ext U) h1)
@[simp] def cR(fe:Ev->Mo A):MS:=λY=>sM (fe Y) Y λa Z=>aj (.ret a,Y,Z)
theorem eB(h:VE X W e fe):VS X W (.Return (aj e) pos) (cR fe):=by
 obtain⟨t,p,s⟩:=h;refine⟨_,an5 p,λG z N H J q D w r h=>?_⟩;exact s G z N H J q _ w r (fK.sM h r λa B v d f j U b c h1=>h1 J d f j (Ext.refl _ _) b (r.ext U) v c)
@[simp] def fO(c:Ev->Mo br)(f g:MS):MS:=λY=>sM (c Y) Y λb Z=>if b then f Y Z else g Y Z
theorem hX{c:bx}{a b:ak b7}{fc:Ev->Mo br}(n:VT X W c fc)(h1:gY X W a f)(h2:gY X W b g):VS X W (.If c a b pos) (fO fc f g):=by
 obtain⟨s,m,s0⟩:=n;obtain⟨t,l,k⟩:=h1;obtain⟨u,p2,s2⟩:=h2;refine⟨_,an8 m l p2,λG e i H J z D w r h=>?_⟩;refine s0 G e i H J z _ w r (fK.sM h r λc q p U d j B N o h1=>?_);cases(show p=c from o);cases c with
 |true=>exact k d j q U J z D N (r.ext B) h1
 |false=>exact s2 d j q U J z D N (r.ext B) h1
@[simp] noncomputable def gN(i:ay):A->MS:=λa Y Z=>aj (.nx,Y.set i (aj a),Z)
theorem af7{i:ay}{x:ba}(z:X.N.Nodup)(hi:X.N[i]?=aj x)(j:Loc X.env.scope x)(q:X.fn x=ax\/X.env.scope.names.lookup x=aj .local:=by first|exact .inl rfl|exact .inr rfl|assumption):VG X W (.Name x pos) (gN i) :=
 ⟨_,aoW z hi j q,λ_ _ _ _ _ _ _ _ _ w r d h=>yN w (r.set i d) h⟩
@[simp] noncomputable def jR:ak A->MS:=λas Y Z=>match as with
 |[]=>aj (.nx,Y,Z)
 |_=>ao
@[simp] def dN(g:A->MS)(gs:ak A->MS):ak A->MS:=λas=>match as with
 |a::r=>aQ (g a) (gs r)
 |[]=>λ_ _=>ao
theorem sD:XY X W [] jR:=⟨_,aoT,λG z B H J q N j D w r d h=>by
 cases j with
 |nil=>rw[xK]at d;exact⟨d,yN w r h⟩
 | cons=>exact False.elim h⟩
theorem iQ{es:ak bx}{g:A->MS}{gs:ak A->MS}(h1:VG X W e g)(h2:XY X W es gs)
  (p:(dr (e::es) X.env).map (·.2)=assign e X.env::(dr es X.env).map (·.2):=by rfl):XY X W (e::es) (dN g gs):=by
 obtain⟨t,o,m⟩:=h1;obtain⟨u,p2,s2⟩:=h2;refine⟨_,aoU o p2 p,λG k i H J f C b D w r d h=>?_⟩;cases b with
 |nil=>exact False.elim h
 |cons a b =>
  obtain⟨x,U,rfl,v,s⟩:=d.pF;refine⟨x,U,rfl,m G k i H J f x a {D with nx:=λB c=>u U B c D.nx} w r v ?_⟩;simp only[dN,aQ]at h
  revert h
  generalize g a f i=q;intro h
  match q,h with
  |some (.nx,j,z),h=>exact λB c y N x l n=>s2 y N z c B j U b D l n (s.ext x) (fK.ext h x)
  |some (.bk,j,z),h=>exact h
  |some (.ct,j,z),h=>exact h
  |some (.ret a,j,z),h=>exact h
  |some (.exc a,j,z),h=>exact h
@[simp] noncomputable def jG(n:ay)(gs:ak A->MS):A->MS:=λa Y Z=>match a with
 |.tup ds=>if ds.length=n then gs ds Y Z else ao
 |_=>ao
theorem sE{es:ak bx}{k:ay}{n:ay}{gs:ak A->MS}(b:X.calm=ax)(h:XY X W es gs)
  (hn:(dr es X.env).length=n:=by rfl) (U:(dr es X.env).findIdx? (·.1)=ao:=by rfl):VG X W (.Tuple es k pos) (jG n gs):=by
 obtain⟨t,p,s⟩:=h;refine⟨_,aoV b p hn U,λG B N H J z v a D w r d h=>?_⟩;unfold jG at h;cases a with
 |tup ds =>
  simp only at h
  by_cases hl:ds.length=n
  ·rw[a9 hl]at h;simp only[Den]at d;obtain⟨p,j,rfl,h2,q⟩:=d;exact⟨p,j,rfl,kH.of (w.sub _ _ h2),by rw[q.length];exact hl,s G B N H J z j ds D w r q h⟩
  ·rw[bf hl]at h;exact False.elim h
 |_=>exact False.elim h
@[simp] def bK(fe:Ev->Mo A)(g:A->MS):MS:=λY=>sM (fe Y) Y λa Z=>g a Y Z
theorem Tr{K:bj}{te:TE}{t:TG}{g:A->MS}(h1:fW K (Den K) W te fe)(h2:QI K W t g):rR K W (Bl te t) (bK fe g):=by
 intro G B N H J z D w r h;exact h1 G B N H J z _ w r (fK.sM h r λa q v d e j U b c h1=>h2 e j q d J z v a D b (r.ext U) c h1)
theorem LN{tg:bx}{g:A->MS}(he:VE X W e fe)(B:VG X W tg g)(z:swapsWithSole [tg] e pos.line X.env=pure au:=by rfl)(hw:swappedStores [tg] e X.env=pure ao:=by rfl)
  (h1:(dr [tg] X.env).map (·.2)=[assign tg X.env]:=by rfl):VS X W (.Assign [tg] e pos) (bK fe g):=by
 obtain⟨t,q,j⟩:=he;obtain⟨u,p2,s2⟩:=B;exact⟨_,aoD q p2 z hw h1,Tr j s2⟩
theorem af2{i:ay}{x:ba}{pos':dk}(a:X.N.Nodup)(hi:X.N[i]?=aj x)(z:Loc X.env.scope x)(he:VE X W e fe)(B:ew e (aj (.Name x pos')) pos.line X.env=pure au:=by rfl)(U:X.fn x=ax\/X.env.scope.names.lookup x=aj .local:=by first|exact .inl rfl|exact .inr rfl|assumption) :
  VS X W (.Assign [.Name x pos'] e pos) (bK fe (gN i)):=by
 obtain⟨t,q,j⟩:=he;exact⟨_,an4 a hi z q B U,Tr j λ_ _ _ _ _ _ _ _ _ w r d h=>yN w (r.set i d) h⟩
structure Src where
 ds:ak A
 ok:aE->Prop
structure KI(K:bj)(G:Hp)(O:ak aw)(σ:It)(S:Src):Prop where
 go:∀G' O' Z' H',Ext G O G' O'->Wd K G' O' Z' H'->S.ok Z'->∀i,i<S.ds.length->σ.go i H'
 stop:∀G' O' Z' H',Ext G O G' O'->Wd K G' O' Z' H'->S.ok Z'->∀i,S.ds.length<=i->σ.stop i H'
 CS:∀G' O' Z' H',Ext G O G' O'->Wd K G' O' Z' H'->S.ok Z'->∀i x H2 d,S.ds[i]?=aj d->σ.CS i H' x H2->∃G2,Ext G' O' G2 O'/\Wd K G2 O' Z' H2/\Den K G2 O' x d
def Dv(K:bj):Rl Src It:=λG O σ S=>KI K G O σ S
def VI(X:Cx)(W:WX)(tg iter:bx)(f:Ev->Mo Src):Prop:=∃t,PI X tg iter t/\fW X.K (Dv X.K) W t f
open Classical in
noncomputable def eZ(ok:aE->Prop)(g:A->MS)(b:MS):ak A->MS
 |[],Y,Z=>if ok Z then aj (.nx,Y,Z)else ao
 | x::xs,Y,Z=>if ok Z then(match g x Y Z with
  | some (.nx,Y0,Z0)=>(match b Y0 Z0 with
   |some (.nx,Y1,Z1)=>eZ ok g b xs Y1 Z1
   |some (.ct,Y1,Z1)=>eZ ok g b xs Y1 Z1
   |some (.bk,Y1,Z1)=>aj (.nx,Y1,Z1)
   | r=>r)
  |some (.exc e,Y0,Z0)=>aj (.exc e,Y0,Z0)
  | _=>ao)else ao
@[simp] noncomputable def iT(fi:Ev->Mo Src)(g:A->MS)(b:MS):MS:=λY=>sM (fi Y) Y λS Z=>eZ S.ok g b S.ds Y Z
theorem aCM{K:bj}{G:Hp}{O:ak aw}{D:Ends}{ok:aE->Prop}{g:A->MS}{b:MS}{xs:ak A}{Y:Ev}{Z:aE}(h:fK K W G O D (eZ ok g b xs Y Z)):ok Z:=by
 cases xs with
 |nil =>
  unfold eZ at h
  by_cases j:ok Z
  ·exact j
  ·rw[bf j]at h;exact False.elim h
 |cons =>
  unfold eZ at h
  by_cases j:ok Z
  ·exact j
  ·rw[bf j]at h;exact False.elim h
theorem akM{K:bj}{wi:TI}{tg:TG}{tb:TS}{fi:Ev->Mo Src}{g:A->MS}{b:MS}(hi:fW K (Dv K) W wi fi)(hg:QI K W tg g)(hb:rR K W tb b):rR K W (Sm wi tg tb) (iT fi g b):=by
 intro G O Z H J Y D w r h;refine hi G O Z H J Y _ w r (fK.sM h r λS Z1 σ H1 G1 E x1 w1 j1 h1=>?_);refine⟨λi m v V=>m=S.ds.length-i/\i<=S.ds.length/\∃t B N e,Ext G1 E t B/\Wd K t B N V/\gH K t B v e/\fK K W t B D (eZ S.ok g b (S.ds.drop i) e N),
  ⟨_,rfl,CG _,G1,E,Z1,Y,Ext.refl _ _,w1,r.ext x1,by simpa using h1⟩,?_⟩
 rintro i m v V ⟨rfl,hil,t,B,N,e,R,X,r',h'⟩;have aH:=aCM h'
 by_cases bW:i<S.ds.length
 ·right
  refine⟨j1.go t B N V R X aH i bW,λM T=>∃L o Q P,Ext G1 E L o/\Wd K L o Q T/\gH K L o M P/\fK K W L o D (eZ S.ok g b (S.ds.drop (i+1)) P Q),λM T n=>?_,λx T y=>?_⟩
  ·exact⟨S.ds.length-(i+1),by omega,rfl,bW,n⟩
  ·obtain⟨L,p,w2,d2⟩:=j1.CS t B N V R X aH i x T S.ds[i] (fL bW) y;rw[vZ bW]at h';unfold eZ at h';rw[a9 aH]at h';refine hg L B N T v e x S.ds[i] {D with nx:=λu H3=>tb _ u H3} w2 (r'.ext p) d2 ?_
   revert h'
   generalize g S.ds[i] e N=q;intro h'
   match q,h' with
   |some (.nx,C,F),h' =>
    intro u H3 G3 O3 I w3 r3;refine hb G3 O3 F H3 u C _ w3 r3 ?_;simp only at h'
    revert h'
    generalize b C F=q2;intro h'
    match q2,h' with
    |some (.nx,U,c),h'=>exact λz s l j d f k=>⟨l,j,c,U,(R.trans (p.trans I)).trans d,f,k,fK.ext h' ((p.trans I).trans d)⟩
    |some (.ct,U,c),h'=>exact λz s l j d f k=>⟨l,j,c,U,(R.trans (p.trans I)).trans d,f,k,fK.ext h' ((p.trans I).trans d)⟩
    |some (.bk,U,c),h'=>exact λz s l j d f k=>h' z s l j ((p.trans I).trans d) f k
    |some (.ret a,U,c),h'=>exact λz s l j d f k=>h' z s l j ((p.trans I).trans d) f k
    |some (.exc a,U,c),h'=>exact λz s l j d f k=>h' z s l j ((p.trans I).trans d) f k
   |some (.exc a,C,F),h'=>exact λz s l j d f k=>h' z s l j (p.trans d) f k
 ·have yZ:i=S.ds.length:=by omega
  subst yZ
  left
  rw[KD]at h';unfold eZ at h';rw[a9 aH]at h';exact⟨j1.stop t B N V R X aH _ cX,yN X r' h'⟩
theorem sC{tg iter:bx}{body:ak b7}{fi:Ev->Mo Src}{g:A->MS}{b:MS}(U:PassesOwn (bq X.prog X.w) X.A X.env X.xe)(c:X.calm=ax)(hi:VI X W tg iter fi)(a:VG X W tg g)(hb:gY X W body b)
  (N:∀x,dm iter X.env x=pure x:=by intro _;rfl):VS X W (.For tg iter body [] pos) (iT fi g b):=by
 obtain⟨f,B,q⟩:=hi;obtain⟨e,p2,s2⟩:=a;obtain⟨d,z,j⟩:=hb;exact⟨_,an9 U c B p2 z N,akM q s2 j⟩
def nG(c:Ev->Mo br)(b:MS):ay->MS
 |0,_,_=>ao
 | n+1,Y,Z=>sM (c Y) Y (λk Z1=>if k then(match b Y Z1 with
   |some (.nx,Y1,Z2)=>nG c b n Y1 Z2
   |some (.ct,Y1,Z2)=>nG c b n Y1 Z2
   |some (.bk,Y1,Z2)=>aj (.nx,Y1,Z2)
   | r=>r)else aj (.nx,Y,Z1)) Z
theorem akH{K:bj}{tc:TT}{tb:TS}{c:Ev->Mo br}{b:MS}(n:Ev->aE->ay)(T:fW K DH W tc c)(hb:rR K W tb b):rR K W (Si tc tb) (λY Z=>nG c b (n Y Z) Y Z):=by
 intro G I Z H J Y D w r h;refine⟨λm f L=>∃t U i N,Ext G I t U/\Wd K t U i L/\gH K t U f N/\fK K W t U D (nG c b m N i),⟨_,G,I,Z,Y,Ext.refl _ _,w,r,h⟩,?_⟩;rintro m f L ⟨t,U,i,N,P,R,C,h'⟩;cases m with
 |zero=>exact False.elim h'
 |succ m =>
  unfold nG at h';refine T t U i L f N _ R C (fK.sM h' C λk y S X G1 F A M V h1=>?_);cases(show S=k from V);cases k with
  |false=>exact yN M (C.ext A) h1
  |true =>
   refine⟨λu Q=>∃E g x v,Ext G I E g/\Wd K E g x Q/\gH K E g u v/\fK K W E g D (nG c b m v x),λu Q q=>⟨m,YH _,q⟩,?_⟩;refine hb G1 F y X f N _ M (C.ext A) ?_;simp only[jP]at h1
   revert h1
   generalize b N y=q;intro h1
   match q,h1 with
   |some (.nx,B,d),h1=>exact λz s p j e l o=>⟨p,j,d,B,(P.trans A).trans e,l,o,fK.ext h1 e⟩
   |some (.ct,B,d),h1=>exact λz s p j e l o=>⟨p,j,d,B,(P.trans A).trans e,l,o,fK.ext h1 e⟩
   |some (.bk,B,d),h1=>exact λz s p j e l o=>h1 z s p j e l o
   |some (.ret a,B,d),h1=>exact λz s p j e l o=>h1 z s p j e l o
   |some (.exc a,B,d),h1=>exact λz s p j e l o=>h1 z s p j e l o
theorem Aa{j:bx}{body:ak b7}{c:Ev->Mo br}{b:MS}(n:Ev->aE->ay)(B:PassesOwn (bq X.prog X.w) X.A X.env X.xe)(N:VT X W j c)(hb:gY X W body b):VS X W (.While j body [] pos) (λY Z=>nG c b (n Y Z) Y Z):=by
 obtain⟨a,z,q⟩:=N;obtain⟨U,p2,s2⟩:=hb;exact⟨_,an2 B z p2,akH n q s2⟩
@[simp] def srcOf(a:A)(ds:ak A):Src:=⟨ds,λZ=>gD Z a=aj ds⟩
theorem Bu{Z:aE}{a:A}{ds:ak A}(h:fP Z a=aj ds):gD Z a=aj ds:=by
 cases a with
 |tup es=>simp[fP]at h
 |_=>exact h
theorem Xk{Z:aE}{a:A}{ds:ak A}(h:gD Z a=aj ds)(ha:∀es,a≠.tup es):fP Z a=aj ds:=by
 cases a with
 |tup es=>exact bz rfl (ha es)
 |_=>exact h
theorem aoN{tg l:bx}{tl:TE}(hl:PE X l tl):PI X tg l (λJ H R=>tl J H λx H1=>∃a,x=.ref a/\(((∃xs,fV X.K H1 a xs)/\R (Nt X.K a) H1)\/((∃xs,kH X.K H1 a xs)/\R (Nr X.K a) H1))):=by
 intro aa s J H R I h;refine bM (hl aa s J H _ I h) λv j ⟨x,H1,z,c,d⟩=>?_;obtain⟨a,e,q⟩:=d;subst e;cases c
 rcases q with⟨⟨xs,B⟩,q⟩|⟨⟨xs,B⟩,q⟩
 ·obtain⟨N,U,p,f⟩:=z.list B;refine wpAny_pyIter_list p.isList ?_;refine⟨j.heap.objs.size,[j.heap.objs.size],_,_,H1,rfl,z.kept (t':=j.toks) λb o e=>eI _ e,ag7 a _,⟨_,gZ _ rfl,rfl,rfl⟩,λb hb=>?_,q⟩;have e:b=j.heap.objs.size:=by simpa using hb
  subst e;exact z.xG cX (z.aH.fresh cX)
 ·obtain⟨N,U,p,f⟩:=z.tuple B;refine wpAny_pyIter_tuple (show j.heap.IsTuple a N.toArray from p) ?_;refine⟨j.heap.objs.size,[j.heap.objs.size],_,_,H1,rfl,z.kept (t':=j.toks) λb o e=>eI _ e,ag5 a _,⟨_,gZ _ rfl,rfl,rfl⟩,λb hb=>?_,q⟩;have e:b=j.heap.objs.size:=by simpa using hb
  subst e;exact z.xG cX (z.aH.fresh cX)
@[simp] def jD(f:Ev->Mo A):Ev->Mo Src:=λY=>mb (f Y) λa Z=>match gD Z a with
 |some ds=>aj (.ok (srcOf a ds),Z)
 |none=>ao
theorem avY{K:bj}{G:Hp}{O:ak aw}{p:aw}{a:A}{ds:ak A}(d:Den K G O (.ref p) a)(ha:∀es,a≠.tup es):KI K G O (Nt K p) (srcOf a ds):=by
 have key:∀U j B b,Ext G O U j->Wd K U j B b->gD B a=aj ds->∃N,fV K b p N/\bC K U j N ds:=λU j B b e w h=>by
  obtain⟨q,N,h1,h2,c⟩:=AV w (d.ext e) (Xk h ha);cases h1;exact⟨N,h2,c⟩
 refine⟨λU j B b e w h i hi=>?_,λU j B b e w h i hi=>?_,λU j B b e w h i x n y k hd=>?_⟩
 ·obtain⟨N,h2,c⟩:=key U j B b e w h;have hl:i<N.length:=by rw[c.length];exact hi
  exact⟨N,N[i],h2,fL hl⟩
 ·obtain⟨N,h2,c⟩:=key U j B b e w h;exact⟨N,h2,by rw[c.length];exact hi⟩
 ·obtain⟨N,h2,c⟩:=key U j B b e w h;obtain⟨m,l⟩:=hd;subst m;obtain⟨z,f,g⟩:=c.get k;rw[l N h2]at f;cases f;exact⟨U,Ext.refl _ _,w,g⟩
theorem avX{K:bj}{G:Hp}{O:ak aw}{p:aw}{ds es:ak A}(d:Den K G O (.ref p) (.tup es)):KI K G O (Nr K p) (srcOf (.tup es) ds):=by
 have key:∀U j B a,Ext G O U j->Wd K U j B a->gD B (.tup es)=aj ds->∃N,kH K a p N/\bC K U j N ds:=λU j B a e w h=>by
  simp only[gD,kX]at h;subst h;have d':=d.ext e;simp only[Den]at d';obtain⟨q,N,h1,h2,b⟩:=d';cases h1;exact⟨N,kH.of (w.sub _ _ h2),b⟩
 refine⟨λU j B a e w h i hi=>?_,λU j B a e w h i hi=>?_,λU j B a e w h i x m y g hd=>?_⟩
 ·obtain⟨N,h2,b⟩:=key U j B a e w h;have hl:i<N.length:=by rw[b.length];exact hi
  exact⟨N,N[i],h2,fL hl⟩
 ·obtain⟨N,h2,b⟩:=key U j B a e w h;exact⟨N,h2,by rw[b.length];exact hi⟩
 ·obtain⟨N,h2,b⟩:=key U j B a e w h;obtain⟨l,k⟩:=hd;subst l;obtain⟨z,c,f⟩:=b.get g;rw[k N h2]at c;cases c;exact⟨U,Ext.refl _ _,w,f⟩
theorem tM{tg l:bx}{fe:Ev->Mo A}(h:VE X W l fe):VI X W tg l (jD fe):=by
 obtain⟨t,p,s⟩:=h;refine⟨_,aoN p,λG k m H J i R w r h=>?_⟩;refine s G k m H J i _ w r (bP.mb h λa U v f g B x N j h1=>?_);cases e:gD U a with
 |none=>simp only[e]at h1;exact False.elim h1
 |some ds =>
  simp only[e]at h1;obtain⟨q,u,h2,C,y⟩:=Bt N j e;subst h2;refine⟨q,rfl,?_⟩;cases a with
  |tup es =>
   right
   simp only[Den]at j;obtain⟨n,b,d,c,o⟩:=id j;cases d;exact⟨⟨_,kH.of (N.sub _ _ c)⟩,h1 _ f g B (Ext.refl _ _) N (avX (by simpa only[Den]using j))⟩
  |_ =>
   left
   obtain⟨n,b,d,c,o⟩:=AV N j (Xk e (by intro _ z;cases z));cases d;exact⟨⟨_,c⟩,h1 _ f g B (Ext.refl _ _) N (avY j (by intro _ z;cases z))⟩
@[simp] noncomputable def AQ(lo:a5)(n:ay):Src:=⟨(List.range n).map λ(i:ay)=>A.int (lo+(i:a5)),λ_=>True⟩
def DE(i:a5):Prop:=-(2 ^ 62)<=i/\i<2 ^ 62
instance (i:a5):di (DE i):=by unfold DE;infer_instance
theorem avZ{K:bj}{G:Hp}{O:ak aw}{lo:a5}{n:ay}:KI K G O (YU lo n) (AQ lo n):=by
 refine⟨λ_ _ _ _ _ _ _ i hi=>show i<n by simpa[AQ]using hi,λ_ _ _ _ _ _ _ i hi=>show n<=i by simpa[AQ]using hi,λa z B c e w h i x b y q hd=>?_⟩;obtain⟨U,N⟩:=hd;subst U N;refine⟨a,Ext.refl _ _,w,?_⟩;simp only[AQ,jV]at q;cases e:(List.range n)[i]? with
 |none=>rw[e]at q;cases q
 |some j =>
  rw[e]at q;cases q;have:=(dA.mp e).2;simp at this;subst this;simp only[Den]
@[simp] def yC(f:Ev->Mo (ak A)):Ev->Mo Src:=λY=>mb (f Y) λas=>match as with
 |[.int j]=>mb (pS (DE j)) λ_=>ret (AQ 0 j.toNat)
 |_=>stuck
theorem Qx{tg a:bx}{fs:Ev->Mo (ak A)}{p:dk}(g:Gl X "range")(hm:X.mg "range" = ao)(ha:VA X W [a] fs)(f:bg [a] X.env=[(au,b9 a X.env)]:=by rfl):VI X W tg (.Call (.Name "range" p) [a] [] pos) (yC fs):=by
 obtain⟨t,p,s⟩:=ha;refine⟨_,aoO g hm p f,λG b d H J N R w r h=>?_⟩;refine s G b d H J N _ w r (bP.mb h λm c l n o U k e i h1=>?_);split at h1
 ·rename_i j;obtain⟨v,t,rfl,z,q⟩:=i.pF;rw[xK]at q;subst q;simp only[Den]at z;subst z;obtain⟨B,h2⟩:=bP.pS h1;exact⟨j,rfl,B.1,B.2,nA e avZ h2⟩
 ·exact False.elim h1
end
section
variable{X:Cx}{W:WX}{e a b:bx}{es:ak bx}{pos:dk}{fa fb:Ev->Mo A}{fs:Ev->Mo (ak A)}
@[simp] def bO(a i:A):Mo A:=λZ=>match gD Z a,i with
 |some ds,.int n=>match fU ds n with
  |some d=>aj (.ok d,Z)
  |none=>ao
 |_,_=>ao
theorem aHK{K:bj}{G:Hp}{O:ak aw}{xs:ak V}{ds:ak A}{n:a5}{d:A}(h:bC K G O xs ds)(e:fU ds n=aj d):∃x,fU xs n=aj x/\Den K G O x d:=by
 unfold fU at e ⊢;rw[h.length];cases q:BA ds.length n with
 |none=>rw[q]at e;cases e
 |some j=>rw[q]at e;exact h.get e
theorem bZ(ha:VE X W a fa)(hb:VE X W b fb)(g:adQ b):VE X W (.Subscript a b pos) (aC bO fa fb):=by
 obtain⟨t,f,c⟩:=ha;obtain⟨u,p2,s2⟩:=hb;refine⟨_,apC avT f p2 g,SY ?_ c s2⟩;intro G z m H J x y a i Q w l q h;unfold bO at h;split at h
 ·rename_i ds n k;split at h
  ·rename_i d e;simp only[Den]at q;have fin:∀v,Den X.K G z v d->Q v H:=λv hv=>h v H G z (Ext.refl _ _) w hv;obtain⟨p,B,rfl,j,hd⟩:=Bt w l k;obtain⟨v,U,N⟩:=aHK hd e
   rcases j with j|j
   ·exact .inl ⟨p,B,n,v,rfl,q,j,U,fin v N⟩
   ·exact .inr (.inl ⟨p,B,n,v,rfl,q,j,U,fin v N⟩)
  ·exact False.elim h
 ·exact False.elim h
def aeK(K:bj)(W:WX)(r:ak V->Hp->VK->Prop)(g:ak A->Mo A):Prop :=
 ∀G O Z H J xs as Q,Wd K G O Z H->bC K G O xs as->bP K (Den K) W G O J Q (g as Z)->r xs H Q
def zZ(X:Cx)(W:WX)(f:aq)(g:ak A->Mo A):Prop:=∃r,rZ X f r/\aeK X.K W r g
@[simp] def aX(g:ak A->Mo A)(f:Ev->Mo (ak A)):Ev->Mo A:=λY=>mb (f Y) g
theorem akO{K:bj}{r:ak V->Hp->VK->Prop}{g:ak A->Mo A}{t:TA}(c:aeK K W r g)(h:fW K (bC K) W t fs):fW K (Den K) W (Bk r t) (aX g fs):=by
 intro G N U H J B Q w q h2;exact h G N U H J B _ w q (bP.mb h2 λe z b f i j k a d h1=>c i j z f J b e Q a d h1)
theorem kJ{id:cz}{x:ba}{g:ak A->Mo A}{p:dk}(B:zZ X W (.builtin id) g)(z:Gl X x)(hm:X.mg x=ao)(hv:d6 x=aj (.builtin id))(ha:VA X W (e::es) fs)(hn:x≠"__name__":=by decide)(N:(x==("__debug__" : ba))=au:=by decide)
  (he:bg (e::es) X.env=(au,b9 e X.env)::bg es X.env:=by rfl) (U:(cx pos (bg es X.env)).any (·.1)=au:=by rfl):VE X W (.Call (.Name x p) (e::es) [] pos) (aX g fs):=by
 obtain⟨r,b,a⟩:=B;obtain⟨t,q,j⟩:=ha;exact⟨_,Eg b z hm hv q hn N he U,akO a j⟩
theorem JB{K:bj}{G:Hp}{O:ak aw}{xs:ak V}{d:A}(h:bC K G O xs [d]):∃x,xs=[x]/\Den K G O x d:=by
 obtain⟨x,r,rfl,h1,h2⟩:=h.pF;rw[xK]at h2;subst h2;exact⟨x,rfl,h1⟩
theorem PF{K:bj}{G:Hp}{O:ak aw}{xs:ak V}{d d':A}(h:bC K G O xs [d,d']):∃x y,xs=[x,y]/\Den K G O x d/\Den K G O y d':=by
 obtain⟨x,r,rfl,h1,h2⟩:=h.pF;obtain⟨y,rfl,j⟩:=JB h2;exact⟨x,y,rfl,h1,j⟩
@[simp] def sU(as:ak A):Mo A:=λZ=>match as with
 | [a]=>(match gD Z a with
  |some ds=>aj (.ok (.int ds.length),Z)
  | none=>ao)
 |_=>ao
theorem xN:zZ X W (.builtin "len") sU:=by
 refine⟨_,aF4,?_⟩;intro G j N H J U b Q w d h;unfold sU at h;split at h
 ·rename_i a;split at h
  ·rename_i ds e;obtain⟨x,rfl,B⟩:=JB d;obtain⟨p,q,rfl,h2,z⟩:=Bt w B e;exact⟨p,q,rfl,h2,h _ H G j (Ext.refl _ _) w (by simp only[Den,z.length])⟩
  ·exact False.elim h
 ·exact False.elim h
@[simp] def xE(as:ak A):Mo A:=match as with
 |[.int i,.int j]=>ret (.int (max i j))
 |_=>stuck
@[simp] def WB(as:ak A):Mo A:=match as with
 |[.int i,.int j]=>ret (.int (min i j))
 |_=>stuck
theorem PN(B:X.calm=ax):zZ X W (.builtin "max") xE:=by
 refine⟨_,aF3 B,?_⟩;intro G N U H J a b Q w d h;unfold xE at h;split at h
 ·rename_i i j;obtain⟨x,y,rfl,z,q⟩:=PF d;simp only[Den]at z q;subst z q;refine⟨i,j,rfl,?_⟩;have e:(if j>i then j else i)=max i j:=by split <;> omega
  rw[e];exact nA w (by simp only[Den]) h
 ·exact False.elim h
theorem aGB(B:X.calm=ax):zZ X W (.builtin "min") WB:=by
 refine⟨_,aF2 B,?_⟩;intro G N U H J a b Q w d h;unfold WB at h;split at h
 ·rename_i i j;obtain⟨x,y,rfl,z,q⟩:=PF d;simp only[Den]at z q;subst z q;refine⟨i,j,rfl,?_⟩;have e:(if j<i then j else i)=min i j:=by split <;> omega
  rw[e];exact nA w (by simp only[Den]) h
 ·exact False.elim h
noncomputable def intsOf:ak A->ar (ak a5)
 |[]=>aj []
 |.int i::r=>(intsOf r).map (i :: ·)
 |_=>ao
theorem Gg{K:bj}{G:Hp}{O:ak aw}:∀{ds:ak A} {xs:ak V} {ns:ak a5},intsOf ds=aj ns->bC K G O xs ds->xs=ns.map V.int
 |[],xs,ns,h,d=>by
  simp only[intsOf,kX]at h;subst h;rw[xK]at d;subst d;rfl
 |a::ds,xs,ns,h,d=>by
  obtain⟨x,t,rfl,j,q⟩:=d.pF;cases a with
  |int i =>
   simp only[intsOf,CD]at h;obtain⟨ms,h1,rfl⟩:=h;simp only[Den]at j;subst j;rw[Gg h1 q];rfl
  |_=>simp[intsOf]at h
theorem Yc(ns:ak a5):intsOf (ns.map A.int)=aj ns:=by
 induction ns with
 |nil=>rfl
 |cons n ns ih=>simp[intsOf,ih]
@[simp] def OT(as:ak A):Mo A:=λZ=>match as with
 | [a]=>(match (fP Z a).bind intsOf with
  |some ns=>aj (.ok (.int ns.sum),Z)
  | none=>ao)
 |_=>ao
theorem aF9(q:X.calm=ax):zZ X W (.builtin "sum") OT:=by
 refine⟨_,aFX q,?_⟩;intro G j b H J f g Q w d h;unfold OT at h;split at h
 ·rename_i a;split at h
  ·rename_i ns e;obtain⟨x,rfl,U⟩:=JB d;rw[QN]at e;obtain⟨ds,N,B⟩:=e;obtain⟨p,c,rfl,h2,z⟩:=AV w U N;rw[Gg B z]at h2;exact⟨p,ns,rfl,h2,h _ H G j (Ext.refl _ _) w (by simp only[Den])⟩
  ·exact False.elim h
 ·exact False.elim h
noncomputable def pG(Z:aE):A->ar cz
 |.int _=>aj "int"
 |.bl _=>aj "bool"
 |.str _=>aj "str"
 |.cE=>aj "NoneType"
 |.tup _=>aj "tuple"
 |.lst _=>aj "list"
 |.aI k=>match Z[k]? with
  |some (.lst _)=>aj "list"
  |some (.bA _)=>aj "dict"
  |_=>ao
 |_=>ao
theorem ag3{K:bj}{G H:Hp}{O:ak aw}{Z:aE}{v:V}{a:A}{t:cz}(w:Wd K G O Z H)(d:Den K G O v a)(h:pG Z a=aj t):rQ K H v (.type t):=by
 cases a with
 |int i=>simp only[pG,kX]at h;subst h;simp only[Den]at d;subst d;exact .int i
 |bl i=>simp only[pG,kX]at h;subst h;simp only[Den]at d;subst d;exact .bl i
 |str i=>simp only[pG,kX]at h;subst h;simp only[Den]at d;subst d;exact .str i
 |cE=>simp only[pG,kX]at h;subst h;simp only[Den]at d;subst d;exact .cE
 |tup ds=>simp only[pG,kX]at h;subst h;simp only[Den]at d;obtain⟨p,j,rfl,h2,_⟩:=d;exact .tup (w.sub _ _ h2)
 |lst ds=>simp only[pG,kX]at h;subst h;simp only[Den]at d;obtain⟨p,j,rfl,h2,_⟩:=d;exact .lst (w.sub _ _ h2)
 |aI k =>
  simp only[Den]at d;obtain⟨p,rfl,z⟩:=d;simp only[pG]at h;split at h
  ·rename_i ds e;cases h;obtain⟨g,j,q,_⟩:=w.aI k _ p e z;exact .lst q
  ·rename_i ds e;cases h;obtain⟨g,j,q,_⟩:=w.aI k _ p e z;exact .dK q
  ·cases h
 |_=>simp[pG]at h
noncomputable def EC(t n:cz):ar br:=if(["int", "bool", "str", "NoneType", "tuple", "list"].elem t&&["int", "bool", "tuple", "list", "str"].elem n)=ax then aj (t==n||(t == "bool" && n == "int"))else ao
theorem av7(K:bj){t n:cz}{b:br}(h:EC t n=aj b):et K (.type t) (.type n)=aj b:=by
 unfold EC at h;split at h
 ·rename_i e;cases h;simp only[List.elem_eq_mem,mB,BU,dU,zP,yK]at e;obtain⟨rfl|rfl|rfl|rfl|rfl|rfl,rfl|rfl|rfl|rfl|rfl⟩:=e <;> first|kernel_rfl|(unfold et;rw[a9 (beq_self_eq_true _)];rfl)
 ·cases h
@[simp] def WD(as:ak A):Mo A:=λZ=>match as with
 | [a,.ty n]=>(match (pG Z a).bind λt=>EC t n with
  |some b=>aj (.ok (.bl b),Z)
  | none=>ao)
 |_=>ao
theorem acH:zZ X W (.builtin "isinstance") WD:=by
 refine⟨_,aF6,?_⟩;intro G q U H J c f Q w d h;unfold WD at h;split at h
 ·rename_i a n;split at h
  ·rename_i b e;rw[QN]at e;obtain⟨t,B,z⟩:=e;obtain⟨x,y,rfl,N,j⟩:=PF d;simp only[Den]at j;subst j;exact⟨x,n,_,b,rfl,ag3 w N B,av7 _ z,h _ H G q (Ext.refl _ _) w (by simp only[Den])⟩
  ·exact False.elim h
 ·exact False.elim h
def Mu(K:bj)(W:WX)(r:V->ak V->Hp->VK->Prop)(g:A->ak A->Mo A):Prop :=
 ∀G O Z H J x xs a as Q,Wd K G O Z H->Den K G O x a->bC K G O xs as->bP K (Den K) W G O J Q (g a as Z)->r x xs H Q
def yR(Z:aE)(a:A):Prop:=∃ds,fP Z a=aj ds
open Classical in
@[simp] noncomputable def pZ(g:A->ak A->Mo A)(fo:Ev->Mo A)(f:Ev->Mo (ak A)):Ev->Mo A:=λY=>mb (fo Y) λo Z=>if yR Z o then mb (f Y) (λas=>g o as) Z else ao
theorem ag1{K:bj}{G H:Hp}{O:ak aw}{Z:aE}{v:V}{a:A}(w:Wd K G O Z H)(d:Den K G O v a)(h:yR Z a):Av K "list" v H:=by
 obtain⟨ds,e⟩:=h;obtain⟨p,j,rfl,q,_⟩:=AV w d e;exact .inl ⟨rfl,j,q⟩
theorem AG{name:ba}{af:dk}{id:cz}{r:V->ak V->Hp->VK->Prop}{g:A->ak A->Mo A}(pa:PlainAttrs "list")(slot:Slot "list" name id)(M:typeOf (.builtin id)=pure (.type "method_descriptor"))(hm:MtR X id r)(hv:Mu X.K W r g)(y:VE X W a fa)(ha:VA X W (e::es) fs)
  (p:ck a name X.env (b9 a X.env)=b9 a X.env:=by rfl)
  (E:((cx pos (bg (e::es) X.env)).all (λx=>!x.1)&&(backToKw pos (dn [] X.env)).all (λx=>x.1.isSome)
   && decide ((e::es).length+([]:ak Keyword).length+(if([]:ak Keyword).isEmpty then 0 else 1)<30))=ax:=by rfl)
  (n:(af.endLine==pos.line)=ax:=by rfl) (s:bg (e::es) X.env=(au,b9 e X.env)::bg es X.env:=by rfl) (L:(cx pos (bg es X.env)).any (·.1)=au:=by rfl) :
  VE X W (.Call (.Attribute a name af) (e::es) [] pos) (pZ g fa fs):=by
 obtain⟨t,o,m⟩:=y;obtain⟨u,p2,s2⟩:=ha;refine⟨_,apO pa slot M hm o p2 p E n s L,λG c d H J N Q w r h=>?_⟩;refine m G c d H J N _ w r (bP.mb h λx B v I R q i U b h1=>?_);split at h1
 ·rename_i hl;refine⟨ag1 U b hl,s2 R q B I J N _ U (r.ext i) (bP.mb h1 λD z l F P j f k C h2=>?_)⟩;exact hv P j z F J v l x D Q k (b.ext f) C h2
 ·exact False.elim h1
noncomputable def sX(Z:aE):A->ar (ay×ak A)
 |.aI k=>match Z[k]? with
  |some (.lst ds)=>aj (k,ds)
  |_=>ao
 |_=>ao
theorem acC{K:bj}{G H:Hp}{O:ak aw}{Z:aE}{v:V}{a:A}{k:ay}{ds:ak A}(w:Wd K G O Z H)(d:Den K G O v a)(h:sX Z a=aj (k,ds)):∃p xs,v=.ref p/\O[k]?=aj p/\G p=ao/\H p=aj (.lst xs)/\bC K G O xs ds:=by
 cases a with
 |aI j =>
  simp only[sX]at h;split at h
  ·rename_i es e;cases h;simp only[Den]at d;obtain⟨p,rfl,q⟩:=d;obtain⟨g,xs,B,z⟩:=w.aI k _ p e q;exact⟨p,xs,rfl,q,g,B,z⟩
  ·cases h
 |_=>simp[sX]at h
@[simp] def uA(o:A)(as:ak A):Mo A:=λZ=>match sX Z o,as with
 |some (k,ds),[y]=>if ds.length<bc then aj (.ok .cE,Z.set k (.lst (ds++[y])))else ao
 |_,_=>ao
theorem DZ:Mu X.K W Uo uA:=by
 intro G q f H J x i a l Q w d b h;unfold uA at h;split at h
 ·rename_i k ds y e;split at h
  ·rename_i hl;obtain⟨p,z,rfl,B,g,N,j⟩:=acC w d e;obtain⟨u,rfl,U⟩:=JB b;refine⟨p,z,u,rfl,rfl,N,by rw[j.length];exact hl,?_⟩;exact h _ _ G q (Ext.refl _ _) (w.put (c:=.lst (ds++[y])) B g ⟨g,_,eL,j.append (.cons U .nil)⟩) (by simp only[Den])
  ·exact False.elim h
 ·exact False.elim h
end
mutual
def Cl(n:ay):A->Prop
 |.aI k=>k<n
 |.tup ds=>gC n ds
 |.lst ds=>gC n ds
 |_=>True
def gC(n:ay):ak A->Prop
 |[]=>True
 |d::ds=>Cl n d/\gC n ds
end
section
variable{K:bj}{G:Hp}{O:ak aw}
mutual
theorem Den.cl:∀{v:V} {d:A},Den K G O v d->Cl O.length d
 |_,.int _,_=>by simp only[Cl]
 |_,.bl _,_=>by simp only[Cl]
 |_,.str _,_=>by simp only[Cl]
 |_,.cE,_=>by simp only[Cl]
 |_,.ty _,_=>by simp only[Cl]
 |_,.adr _,_=>by simp only[Cl]
 |_,.WL _ _ _ _,_=>by simp only[Cl]
 |_,.gl _,_=>by simp only[Cl]
 |_,.dW _,_=>by simp only[Cl]
 |_,.tup ds,h=>by
  simp only[Den]at h;simp only[Cl];obtain⟨a,xs,_,_,j⟩:=h;exact bC.cl j
 |_,.lst ds,h=>by
  simp only[Den]at h;simp only[Cl];obtain⟨a,xs,_,_,j⟩:=h;exact bC.cl j
 |_,.aI k,h=>by
  simp only[Den]at h;simp only[Cl];obtain⟨a,_,h2⟩:=h;exact(dA.mp h2).1
theorem bC.cl:∀{xs:ak V} {ds:ak A},bC K G O xs ds->gC O.length ds
 |_,[],_=>by simp only[gC]
 |_,d::ds,h=>by
  simp only[bC]at h;simp only[gC];obtain⟨x,r,_,h2,j⟩:=h;exact⟨Den.cl h2,bC.cl j⟩
end
mutual
theorem Den.cut{O':ak aw}{n:ay}(e:∀k,k<n->O[k]?=O'[k]?):∀{v:V} {d:A},Den K G O' v d->Cl n d->Den K G O v d
 |_,.int _,h,_=>by simpa only[Den]using h
 |_,.bl _,h,_=>by simpa only[Den]using h
 |_,.str _,h,_=>by simpa only[Den]using h
 |_,.cE,h,_=>by simpa only[Den]using h
 |_,.ty _,h,_=>by simpa only[Den]using h
 |_,.adr _,h,_=>by simpa only[Den]using h
 |_,.WL _ _ _ _,h,_=>by simpa only[Den]using h
 |_,.gl _,h,_=>by simpa only[Den]using h
 |_,.dW _,h,_=>by simpa only[Den]using h
 |_,.tup ds,h,c=>by
  simp only[Den]at h ⊢;simp only[Cl]at c;obtain⟨a,xs,h1,h2,j⟩:=h;exact⟨a,xs,h1,h2,bC.cut e j c⟩
 |_,.lst ds,h,c=>by
  simp only[Den]at h ⊢;simp only[Cl]at c;obtain⟨a,xs,h1,h2,j⟩:=h;exact⟨a,xs,h1,h2,bC.cut e j c⟩
 |_,.aI k,h,c=>by
  simp only[Den]at h ⊢;simp only[Cl]at c;obtain⟨a,h1,h2⟩:=h;exact⟨a,h1,(e k c).trans h2⟩
theorem bC.cut{O':ak aw}{n:ay}(e:∀k,k<n->O[k]?=O'[k]?):∀{xs:ak V} {ds:ak A},bC K G O' xs ds->gC n ds->bC K G O xs ds
 |_,[],h,_=>by simpa only[bC]using h
 |_,d::ds,h,c=>by
  simp only[bC]at h ⊢;simp only[gC]at c;obtain⟨x,r,h1,h2,j⟩:=h;exact⟨x,r,h1,Den.cut e h2 c.1,bC.cut e j c.2⟩
end
def tI(n:ay):Fd->Prop
 |.val a=>Cl n a
 |.lst ds=>gC n ds
 |.bA kvs=>gC n (kvs.map (·.2))
def rY(n:ay):ak (ba×Fd)->Prop
 |[]=>True
 |p::r=>tI n p.2/\rY n r
def LF(n:ay):Cell->Prop
 |.lst ds=>gC n ds
 |.bA kvs=>gC n (kvs.map (·.2))
 |.ins _ fs=>rY n fs
 |_=>True
theorem kI.cl{H:Hp}{v:V}{fd:Fd}(h:kI K G O H v fd):tI O.length fd:=by
 cases fd with
 |val a=>exact Den.cl h
 |lst ds=>obtain⟨_,_,_,_,_,_,q⟩:=h;exact q.cl
 |bA j=>obtain⟨_,_,_,_,_,_,_,q⟩:=h;exact q.cl
theorem jY.cl{H:Hp}:∀{ws:ak (ba×V)} {fs:ak (ba×Fd)},jY K G O H ws fs->rY O.length fs
 |[],[],_=>trivial
 |(_,_)::_,(_,_)::_,h=>⟨h.2.1.cl,h.2.2.cl⟩
 |[],_::_,h=>h.elim
 |_::_,[],h=>h.elim
theorem tJ.cl{H:Hp}{a:aw}{c:Cell}(h:tJ K G O H a c):LF O.length c:=by
 cases c with
 |lst ds=>obtain⟨_,_,_,q⟩:=h;exact q.cl
 |bA j=>obtain⟨_,_,_,_,q⟩:=h;exact q.cl
 |ins cls fs=>obtain⟨_,_,_,_,_,_,q⟩:=h;exact q.cl
 |tab x pos qual=>trivial
 |dead=>trivial
theorem kI.cut{H:Hp}{O':ak aw}{n:ay}{v:V}{fd:Fd}(h:kI K G O' H v fd)(e:∀k,k<n->O[k]?=O'[k]?)(hi:∀b,b∉O'->b∉O)(c:tI n fd):kI K G O H v fd:=by
 cases fd with
 |val a=>exact Den.cut e h c
 |lst ds=>obtain⟨b,xs,h1,h2,z,q,j⟩:=h;exact⟨b,xs,h1,h2,hi b z,q,j.cut e c⟩
 |bA B=>obtain⟨b,ws,h1,h2,z,q,j,N⟩:=h;exact⟨b,ws,h1,h2,hi b z,q,j,N.cut e c⟩
theorem jY.cut{H:Hp}{O':ak aw}{n:ay}(e:∀k,k<n->O[k]?=O'[k]?)(hi:∀b,b∉O'->b∉O):∀{ws:ak (ba×V)} {fs:ak (ba×Fd)},jY K G O' H ws fs->rY n fs->jY K G O H ws fs
 |[],[],_,_=>trivial
 |(_,_)::_,(_,_)::_,h,c=>⟨h.1,h.2.1.cut e hi c.1,jY.cut e hi h.2.2 c.2⟩
 |[],_::_,h,_=>h.elim
 |_::_,[],h,_=>h.elim
theorem tJ.cut{H:Hp}{O':ak aw}{n:ay}{a:aw}{c:Cell}(h:tJ K G O' H a c)(e:∀k,k<n->O[k]?=O'[k]?)(hi:∀b,b∉O'->b∉O)(j:LF n c):tJ K G O H a c:=by
 cases c with
 |lst ds=>obtain⟨g,xs,h1,h2⟩:=h;exact⟨g,xs,h1,h2.cut e j⟩
 |bA q=>obtain⟨g,ws,h1,h2,z⟩:=h;exact⟨g,ws,h1,h2,z.cut e j⟩
 |ins cls fs=>obtain⟨g,C,B,ws,h0,h1,h2⟩:=h;exact⟨g,C,B,ws,h0,h1,h2.cut e hi j⟩
 |tab x pos qual=>exact h
 |dead=>trivial
theorem Ext.cut{G':Hp}{O':ak aw}(e:Ext G O G' O'):∀k,k<O.length->O[k]?=O'[k]?:=λk j=>by
 rw[fL j,e.pre k _ (fL j)]
theorem Wd.cut{G' H H':Hp}{O':ak aw}{Z Z':aE}(w:Wd K G O Z H)(U:Wd K G' O' Z' H')(e:Ext G O G' O')(o:Z'.take Z.length=Z):Wd K G' O Z H' where
 sub:=U.sub
 inj:=w.inj
 len:=w.len
 live:=λa ha=>by
  obtain⟨k,j,m⟩:=CL ha;exact U.live a (mQ (e.pre k a (by rw[<-m];exact fL j)))
 aI:=λk c a h1 h2=>by
  have j:k<Z.length:=(dA.mp h1).1;have p:Z'[k]?=aj c:=by
   rw[<-o,KA]at h1;rw[a9 j]at h1;exact h1
  have q:=U.aI k c a p (e.pre k a h2);have d:=w.aI k c a h1 h2;cases c with
  |lst ds =>
   obtain⟨g,xs,N,B⟩:=q;obtain⟨_,_,_,l⟩:=d;exact⟨g,xs,N,B.cut e.cut l.cl⟩
  |bA r =>
   obtain⟨g,ws,N,B,l⟩:=q;obtain⟨_,_,_,_,f⟩:=d;exact⟨g,ws,N,B,l.cut e.cut f.cl⟩
  |ins cls fs =>
   obtain⟨g,C,u,ws,h0,N,B⟩:=q;obtain⟨_,_,_,_,_,_,f⟩:=d;exact⟨g,C,u,ws,h0,N,B.cut (n:=O.length) e.cut (λb hb z=>hb (by
    obtain⟨k,j,m⟩:=CL z;exact mQ (e.pre k b (by rw[<-m];exact fL j)))) f.cl⟩
  |tab x pos qual=>exact q
  |dead=>trivial
 sep:=λb k i s t h1 h2=>by
  have back:∀{k i},jU H' O Z k i b->jU H' O' Z' k i b:=λ{k i} h=>h.to (λa ha=>⟨e.pre k a ha,λ_ z=>z⟩) λcls fs q=>by
   have j:k<Z.length:=(dA.mp q).1;rw[<-o,KA,a9 j]at q;exact q
  exact U.sep b k i s t (back h1) (back h2)
end
open Classical in
noncomputable def trim(Z:aE):ar (Rs A×aE)->ar (Rs A×aE)
 |some (.ok a,Z')=>if Z'.take Z.length=Z/\Cl Z.length a then aj (.ok a,Z)else aj (.ok a,Z')
 |some (.exc x,Z')=>if Z'.take Z.length=Z/\gC Z.length (x.fs.map (·.2))then aj (.exc x,Z)else aj (.exc x,Z')
 |none=>ao
theorem ahC{K:bj}{W:WX}{G H:Hp}{O:ak aw}{Z:aE}{J:L2.St}{Q:VK}{r:ar (Rs A×aE)}(w:Wd K G O Z H)(h:bP K (Den K) W G O J Q (trim Z r)):bP K (Den K) W G O J Q r:=by
 match r,h with
 |some (.ok a,B),h =>
  simp only[trim]at h;split at h
  ·rename_i j;exact λv U b z e N d=>h v U b O ⟨e.same,λ_ _ q=>q⟩ (w.cut N e j.1) (d.cut e.cut (by rw[w.len];exact j.2))
  ·exact h
 |some (.exc x,B),h =>
  simp only[trim]at h;split at h
  ·rename_i j;intro cls c U b z e N d;refine h cls c U b O ⟨e.same,λ_ _ q=>q⟩ (w.cut N e j.1) d
  ·exact h
@[simp] def fE:OS->ar (Rs A×aE)
 |some (.nx,_,Z)=>aj (.ok .cE,Z)
 |some (.ret a,_,Z)=>aj (.ok a,Z)
 |some (.exc x,_,Z)=>aj (.exc x,Z)
 |_=>ao
@[simp] noncomputable def OY(n:ay)(ds:ak A):Ev:=ds.map aj++List.replicate (n-ds.length) ao
@[simp] noncomputable def cV(n:ay)(b:MS):ak A->Mo A:=λds Z=>trim Z (fE (b (OY n ds) Z))
def sG(K:bj)(n:ay)(F:ak A->Mo A):Sp:=λvs H Q E=>vs.length=n/\∃G O Z ds,Wd K G O Z H/\bC K G O vs ds/\bP K (Den K) (λ_=>E) G O [] Q (F ds Z)
abbrev cP(P:bh)(w:bw)(K:bj)(mg:ba->ar aq)(base:b8)(x:ba)(k:ay)(ps:ak ba)(F:ak A->Mo A):Prop:=KY P w K mg base x k ps (sG K ps.length F)
theorem aCV{K:bj}{G:Hp}{O:ak aw}{N:ak ba}{vs:ak V}{ds:ak A}(d:bC K G O vs ds):gH K G O (L2.start N vs) (OY N.length ds):=by
 unfold L2.start OY;have hl:=d.length;refine⟨by simp[hl],λi a h=>?_⟩
 by_cases hi:i<ds.length
 ·rw[jJ (by simpa using hi)]at h;rw[jV]at h;cases e:ds[i]? with
  |none=>rw[e]at h;cases h
  |some z =>
   rw[e]at h;cases h;obtain⟨v,q,j⟩:=d.get e;refine⟨v,?_,j⟩;rw[jJ (by simp;omega),jV,q];rfl
 ·rw[qS (by simpa using hi)]at h;have:=mQ h;simp at this
theorem JI{K:bj}{N:ak ba}{t:TS}{b:MS}{H:Hp}{vs:ak V}{Q:VK}{E:XK}{n:ay}(s:rR K (λ_=>E) t b)(h:sG K n (cV N.length b) vs H Q E):t {nx:=λ_ H'=>Q .cE H',rt:=Q} (L2.start N vs) H:=by
 obtain⟨hl,G,l,i,ds,w,d,q⟩:=h;refine s G l i H _ (OY N.length ds) _ w (aCV d) ?_;have j:=ahC w q
 revert j
 generalize b (OY N.length ds) i=r;intro j
 match r,j with
 |some (.nx,B,U),j=>exact λc H' g z e f k=>j .cE H' g z e f (by simp only[Den])
 |some (.ret a,B,U),j=>exact λc H' g z e f k v d'=>j v H' g z e f d'
 |some (.exc x,B,U),j=>exact λc H' g z e f k cls m d'=>j cls m H' g z e f d'
 |some (.bk,B,U),j=>exact False.elim j
 |some (.ct,B,U),j=>exact False.elim j
section
variable{P:bh}{w:bw}{K:bj}{mg:ba->ar aq}{base:b8}
theorem abE{x:ba}{st:b7}{N ps:ak ba}{k:ay}{b:MS}{f:aw}{fd:c4}(F:uI K x x st f fd)(S:cY N ps (aR st))
  (a:∀(f:aw) (j:aq) (A:bu) (outer:ak Env) (s:av) (H:Hp) (E:XK),cL k (A.deeper (cy x (aR st) s.heap.objs.size f j)) ->
   gY (nU P w K mg base N x (aR st) f j A outer s H E) (λ_=>E) (eM st) b):jX P w K mg base (pC P w) (k+1) f fd ps (sG K ps.length (cV N.length b)):=by
 obtain⟨g,e,kV,doc,d,l,j,ct,i,rfl,B,c⟩:=F.ex;refine WG B c S (λz H Q E h=>h.1) λA outer s H z Q E hr U=>?_;obtain⟨t,p,q⟩:=a f j A outer s H E hr;exact⟨t,NF p,JI q U⟩
theorem cP.of{x:ba}{st:b7}{N ps:ak ba}{k:ay}{b:MS}(h:HasFn K mg x st)(S:cY N ps (aR st))
  (bind:∀(kV doc pm:aq) (an:ar aw) (j ct:aq) (us:ak aq),us.length=ps.length->c7 (ea x x (iL st) (eM st) (aR st) .none kV doc pm an j ct) ⟨us,[]⟩=pure (ps.zip us))
  (q:∀(f:aw) (j:aq) (A:bu) (outer:ak Env) (s:av) (H:Hp) (E:XK),cL k (A.deeper (cy x (aR st) s.heap.objs.size f j)) ->
   gY (nU P w K mg base N x (aR st) f j A outer s H E) (λ_=>E) (eM st) b):cP P w K mg base x (k+1) ps (cV N.length b):=by
 obtain⟨f,fd,hm,F⟩:=h.ex;exact⟨f,fd,abE F S q,hm,F.kp,F.binds bind⟩
abbrev ZK(P:bh)(w:bw)(K:bj)(mg:ba->ar aq)(base:b8)(x:ba)(k:ay)(ps:ak ba)(F:ak A->Mo A):Prop:=Def P w K mg base x k ps (λvs H Q _=>sG K ps.length F vs H Q λ_ _ _=>cp)
theorem acG{k:ay}{f:aw}{fd:c4}{ps:ak ba}{sp:Sp}(F:jX P w K mg base (pC P w) k f fd ps sp):jX P w K mg base xY k f fd ps (λvs H Q _=>sp vs H Q λ_ _ _=>cp) :=
 ⟨λvs H Q E h=>F.len _ _ _ _ h,λA outer s H args z vs Q E hr N hb r B=>uF (F.run A outer s H args z vs Q _ hr N hb r B) λr s' j=>by
  cases r with
  |error U=>obtain⟨x,cls,a,b,_,_,_,_,_,_,q⟩:=j;exact q.elim
  | ok fl=>cases fl <;> exact j⟩
end
section
variable{X:Cx}{W:WX}{x:ba}{p pos:dk}{e:bx}{es:ak bx}{fs:Ev->Mo (ak A)}
@[simp] def bS(n:ay)(F:ak A->Mo A):ak A->Mo A:=λas=>if as.length=n then F as else stuck
theorem WY{K:bj}{G d:Hp}{O q:ak aw}{J:L2.St}{Q:VK}{r:ar (Rs A×aE)}{W:WX}(h:bP K (Den K) W G O J Q r)(c:Ext G O d q):bP K (Den K) (λ_=>λcls dx H'=>W J cls dx H') d q [] Q r:=by
 match r,h with
 |some (.ok a,z),h=>exact λv H' b j B N U=>h v H' b j (c.trans B) N U
 |some (.exc a,z),h=>exact λcls dx H' b j B N U=>h cls dx H' b j (c.trans B) N U
theorem fD{k:ay}{ps:ak ba}{F:ak A->Mo A}(T:mO X W)(D:cP X.prog X.w X.K X.mg X.base x k ps F)(hr:cL k X.A)(d:Gl X x)(ha:VA X W (e::es) fs)
  (f:(x==("__debug__" : ba))=au:=by decide) (he:bg (e::es) X.env=(au,b9 e X.env)::bg es X.env:=by rfl) (g:(cx pos (bg es X.env)).any (·.1)=au:=by rfl):VE X W (.Call (.Name x p) (e::es) [] pos) (aX (bS ps.length F) fs):=by
 obtain⟨t,c,b⟩:=ha;refine⟨_,apK T D hr d c f he g,λG N U H J B Q w r h=>?_⟩;refine b G N U H J B _ w r (bP.mb h λi q n o l j m a z h1=>?_);unfold bS at h1;split at h1
 ·rename_i hl;exact⟨by rw[z.length];exact hl,l,j,q,i,a,z,WY h1 (Ext.refl _ _)⟩
 ·exact False.elim h1
@[simp] noncomputable def DP(F:ak A->Mo A):ak A->Mo A:=λas Z=>match F as Z with
 |some (.exc _,_)=>ao
 |r=>r
theorem apJ{k:ay}{ps:ak ba}{sp:Sp}(T:mO X W)(D:KY X.prog X.w X.K X.mg X.base x k ps sp)(hr:cL k X.A)(d:Gl X x)(e:(x==("__debug__" : ba))=au:=by decide) :
  PE X (.Call (.Name x p) [] [] pos) (Bj sp W MA):=by
 obtain⟨f,i,F,hm,c,hb⟩:=D.ex;intro aa s J H Q I h;refine yB (AW I d hm ?_ e);refine PySem.W.callWith_K0 I.fF c ?_;have h':sp [] H Q λcls q B=>W J cls q B:=h;have hl:=F.len _ _ _ _ h';have N:=hb s [] I.fF (by rw[pU];exact hl);rw[pU]at N;refine GR (uF (F.run X.A X.stack s H ⟨[],[]⟩ [] [] Q _ hr I.IX N .nil h') λr s' j=>?_);cases r with
 |error l =>
  obtain⟨a,cls,q,B,rfl,os,bare,un,aH,ex,U⟩:=j;have g:=(I.JG os un aH bare (λb z=>bz z (by simp))).TX;exact T.to _ _ ⟨J,B,a,cls,q,rfl,g,(ex.first I T.ex).any,U⟩
 |ok fl =>
  cases fl with
  |ret u=>exact I.after j
  |next=>exact False.elim j
  |brk=>exact False.elim j
  |cont=>exact False.elim j
theorem agK{k:ay}{ps:ak ba}{F:ak A->Mo A}(T:mO X W)(D:cP X.prog X.w X.K X.mg X.base x k ps F)(hr:cL k X.A)(b:Gl X x)(c:(x==("__debug__" : ba))=au:=by decide):VE X W (.Call (.Name x p) [] [] pos) (aX (bS ps.length F) λ_=>ret []):=by
 refine⟨_,apJ T D hr b c,λG U l H J i Q w r h=>?_⟩;refine bP.mb (rel:=bC X.K) (Q1:=λz N=>sG X.K ps.length F z N Q λcls d f=>W J cls d f) h (λe q z N g j m a B h1=>?_) [] H G U (Ext.refl _ _) w .nil;unfold bS at h1;split at h1
 ·rename_i hl;exact⟨by rw[B.length];exact hl,g,j,q,e,a,B,WY h1 (Ext.refl _ _)⟩
 ·exact False.elim h1
abbrev cI(i:a5):Ev->Mo A:=λ_=>ret (.int i)
abbrev cB(i:br):Ev->Mo A:=λ_=>ret (.bl i)
abbrev cS(i:ba):Ev->Mo A:=λ_=>ret (.str i)
abbrev cT(n:cz):Ev->Mo A:=λ_=>ret (.ty n)
abbrev a0:Ev->Mo (ak A):=λ_=>ret []
end
end V2
namespace V2
open PySem L2
section
variable{α β:Type}{Z Z':aE}{a:A}
@[simp] theorem asV(x:α)(k:α->Mo β):mb (ret x) k=k x:=rfl
theorem dJ{m:Mo α}{k:α->Mo β}{x:α}(h:m Z=aj (.ok x,Z')):mb m k Z=k x Z':=by unfold mb;rw[h]
@[simp] theorem aKK(x:α)(k:α->Mo β):mb (need (aj x)) k=k x:=rfl
theorem asW{p:Prop} [di p](k:Unit->Mo β)(h:p):mb (pS p) k=k ():=by funext j;simp[mb,pS,h]
@[simp] theorem aJ6(x:α):(ret x:Mo α) Z=aj (.ok x,Z):=rfl
@[simp] theorem aJZ:trim Z (aj (.ok a,Z))=aj (.ok a,Z):=by simp only[trim];split <;> rfl
theorem DB{j:aE}(h:Cl Z.length a):trim Z (aj (.ok a,Z++j))=aj (.ok a,Z):=by
 simp only[trim];rw[a9 ⟨by simp,h⟩]
@[simp] theorem aJ5(x:α)(Y:Ev)(k:α->aE->OS):sM (ret x) Y k=k x:=rfl
theorem gL{m:Mo α}{Y:Ev}{k:α->aE->OS}{x:α}(h:m Z=aj (.ok x,Z')):sM m Y k Z=k x Z':=by unfold sM;rw[h]
@[simp] theorem HS(Y:Ev):fE (aj (.ret a,Y,Z))=aj (.ok a,Z):=rfl
@[simp] theorem AS(Y:Ev):fE (aj (.nx,Y,Z))=aj (.ok .cE,Z):=rfl
theorem bI{f g:MS}{Y Y1:Ev}(h:f Y Z=aj (.nx,Y1,Z')):aQ f g Y Z=g Y1 Z':=by unfold aQ;rw[h]
theorem akY{f g:MS}{Y Y1:Ev}(h:f Y Z=aj (.ret a,Y1,Z')):aQ f g Y Z=aj (.ret a,Y1,Z'):=by unfold aQ;rw[h]
theorem xO{α:Type}(xs:ak α)(n:ay):fU xs (n:a5)=xs[n]?:=by
 unfold fU BA;rw[a9 (by omega)]
 by_cases h:(n:a5)<xs.length
 ·rw[a9 h];simp
 ·rw[bf h];simp;omega
theorem acY{α:Type}(xs:ak α)(n:ay):fU xs (OfNat.ofNat n:a5)=xs[n]?:=xO xs n
theorem XU{α:Type}(xs:ak α):fU xs 0=xs[0]?:=xO xs 0
theorem Ls{α:Type}(xs:ak α):fU xs 1=xs[1]?:=xO xs 1
end
@[simp] theorem aJR:EC "int" "int" = aj ax:=by simp[EC]
@[simp] theorem aJS:EC "int" "bool" = aj au:=by simp[EC]
@[simp] theorem aKN(Z:aE)(ds:ak A):fP Z (.lst ds)=aj ds:=rfl
@[simp] theorem aKM(Z:aE)(ns:ak a5):fP Z (.dW ns)=aj (ns.map A.int):=rfl
@[simp] theorem aKL(Z:aE)(ds:ak A):fP Z (.tup ds)=ao:=rfl
@[simp] theorem aKO(Z:aE)(i:a5):fP Z (.int i)=ao:=rfl
@[simp] theorem aJ3(Z:aE)(ds:ak A):gD Z (.lst ds)=aj ds:=rfl
@[simp] theorem aJ2(Z:aE)(ns:ak a5):gD Z (.dW ns)=aj (ns.map A.int):=rfl
@[simp] theorem aJ1(Z:aE)(ds:ak A):gD Z (.tup ds)=aj ds:=rfl
@[simp] theorem aJ4(Z:aE)(k:ay):gD Z (.aI k)=fP Z (.aI k):=rfl
@[simp] theorem aJX(Z:aE)(i:a5):pG Z (.int i)=aj "int":=rfl
@[simp] theorem aJY(Z:aE)(i:br):pG Z (.bl i)=aj "bool":=rfl
@[simp] theorem aJU(Z:aE)(i:ba):pG Z (.str i)=aj "str":=rfl
@[simp] theorem aJV(Z:aE):pG Z .cE=aj "NoneType":=rfl
@[simp] theorem aJT(Z:aE)(ds:ak A):pG Z (.tup ds)=aj "tuple":=rfl
@[simp] theorem aJW(Z:aE)(ds:ak A):pG Z (.lst ds)=aj "list":=rfl
@[simp] theorem aKT:NK .cE=aj ax:=rfl
@[simp] theorem aKV(i:a5):NK (.int i)=aj au:=rfl
@[simp] theorem aKS(ds:ak A):NK (.tup ds)=aj au:=rfl
@[simp] theorem aKU(ds:ak A):NK (.lst ds)=aj au:=rfl
@[simp] theorem aKW(b:br):NK (.bl b)=aj au:=rfl
theorem vD{Z:aE}{k:ay}{ds:ak A}(h:Z[k]?=aj (.lst ds)):fP Z (.aI k)=aj ds:=by simp[fP,h]
theorem FC{Z:aE}{k:ay}{ds:ak A}(h:Z[k]?=aj (.lst ds)):sX Z (.aI k)=aj (k,ds):=by simp[sX,h]
theorem ED{Z:aE}{a:A}{ds:ak A}(h:fP Z a=aj ds):yR Z a:=⟨ds,h⟩
@[simp] theorem aBM(Z:aE)(c:Cell):(Z++[c])[Z.length]?=aj c:=by simp
section
variable{ok:aE->Prop}{g:A->MS}{b:MS}{x:A}{xs:ak A}{Y Y0 Y1:Ev}{Z Z0 Z1:aE}{a:A}
theorem BQ(h:ok Z):eZ ok g b [] Y Z=aj (.nx,Y,Z):=by simp[eZ,h]
theorem qO(h:ok Z)(j:g x Y Z=aj (.nx,Y0,Z0))(hb:b Y0 Z0=aj (.nx,Y1,Z1)):eZ ok g b (x::xs) Y Z=eZ ok g b xs Y1 Z1:=by simp[eZ,h,j,hb]
theorem aCN(h:ok Z)(j:g x Y Z=aj (.nx,Y0,Z0))(hb:b Y0 Z0=aj (.ct,Y1,Z1)):eZ ok g b (x::xs) Y Z=eZ ok g b xs Y1 Z1:=by simp[eZ,h,j,hb]
theorem Jr(I:ay->Ev->aE->Prop)(aH:∀i Y Z,I i Y Z->ok Z):∀(xs:ak A) (j:ay) (Y:Ev) (Z:aE),I j Y Z ->
  (∀i x Y Z,xs[i]?=aj x->I (j+i) Y Z->∃Y0 Z0 Y1 Z1,g x Y Z=aj (.nx,Y0,Z0)/\(b Y0 Z0=aj (.nx,Y1,Z1)\/b Y0 Z0=aj (.ct,Y1,Z1))/\I (j+i+1) Y1 Z1) ->
  ∃Y' Z',eZ ok g b xs Y Z=aj (.nx,Y',Z')/\I (j+xs.length) Y' Z'
 |[],j,Y,Z,q,_=>⟨Y,Z,BQ (aH _ _ _ q),q⟩
 |x::xs,j,Y,Z,q,turn=>by
  obtain⟨Y0,Z0,Y1,Z1,N,z,d⟩:=turn 0 x Y Z rfl q;obtain⟨Y',Z',B,U⟩:=Jr I aH xs (j+1) Y1 Z1 d λi y Y Z a c=>by
   have:=turn (i+1) y Y Z (by simpa using a) (by rw[show j+(i+1)=j+1+i by omega];exact c);rwa[show j+(i+1)+1=j+1+i+1 by omega]at this
  refine⟨Y',Z',?_,by rw[fZ,show j+(xs.length+1)=j+1+xs.length by omega];exact U⟩
  rcases z with z|z
  ·rw[qO (aH _ _ _ q) N z,B]
  ·rw[aCN (aH _ _ _ q) N z,B]
end
section
variable{c:Ev->Mo br}{b:MS}{n:ay}{Y Y1:Ev}{Z Z1 Z2:aE}{a:A}
theorem EU(j:c Y Z=aj (.ok ax,Z1))(hb:b Y Z1=aj (.nx,Y1,Z2)):nG c b (n+1) Y Z=nG c b n Y1 Z2:=by simp[nG,j,hb]
theorem WK(j:c Y Z=aj (.ok au,Z1)):nG c b (n+1) Y Z=aj (.nx,Y,Z1):=by simp[nG,j]
end
open PySem PySem.Spec PyProof.Rows L2
def YV(K:bj)(a:aw):It :=
 ⟨λi H=>∃xs x,fV K H a xs/\xs[i]?=aj x,λi H x H'=>∃p y,H p=ao/\H'=upd H p (.tup [.int (i:a5),y])/\x=.ref p/\∀xs,fV K H a xs->xs[i]?=aj y,λi H=>∃xs,fV K H a xs/\xs.length<=i⟩
section
variable{X:Cx}{aa:ak (aw×c5)}{J:L2.St}{H:Hp}{s:av}{h':b8}
theorem Inv.ag4{t':ay}{e it:aw}(I:Inv X aa J H s)(k:∀b o,b≠e->b≠it->s.heap.get? b=aj o->h'.get? b=aj o)(fe:qV X aa H e)(d:qV X aa H it):Inv X aa J H {s with heap:=h',toks:=t' }:=by
 obtain⟨a0,a1,a2,w,t,p⟩:=fe;obtain⟨l,B,y,i,h,g⟩:=d;have ne:∀b u,H b=aj u->b≠e:=λb u q z=>by rw[z,a0]at q;cases q
 have N:∀b u,H b=aj u->b≠it:=λb u q z=>by rw[z,l]at q;cases q
 refine I.step (g':=s.gens) (d':=s.drawn) (ch:=[e,it]) (λb hb=>?_) (λb o _ _ j q _=>k b o (λz=>j (by simp[z])) (λz=>j (by simp[z])) q) (λb o _ _ j q _=>⟨o.slots,k b o (λz=>j (by simp[z])) (λz=>j (by simp[z])) q⟩) (λ_ _ _ _ n=>n)
  (λb o j q=>⟨o,k b o (λz=>j (by simp[z])) (λz=>j (by simp[z])) q⟩) (λ_ _ q=>q) (λ_ _ _ q=>q) (λb x q=>⟨#[],by rw[q];simp⟩) (λm hm=>?_) (λb u q=>?_) I.bare
 ·rcases dU.mp hb with z|z
  ·subst z;exact⟨w,a1,t,p⟩
  ·have z:b=it:=by simpa using z
   subst z;exact⟨i,B,h,g⟩
 ·obtain⟨o,es,f,a,r⟩:=hm;exact⟨o,es,f,k _ o (dQ a1) (dQ B) a,r⟩
 ·refine(I.aH b u q).nN (λc v j U=>k c v ?_ ?_ U) (λ_ q=>q) λ_ _ q=>q
  ·rcases j with z|z
   ·rw[z];exact ne b u q
   ·exact ne c _ z
  ·rcases j with z|z
   ·rw[z];exact N b u q
   ·exact N c _ z
end
theorem Inv.Ax{X:Cx}{aa:ak (aw×c5)}{J:L2.St}{H:Hp}{s:av}{p:aw}{o:HO}(I:Inv X aa J H s)(j:H p=ao)(h0:X.s₀.heap.get? p=ao)(hL:p≠X.env.locals)(e:∀x c,X.env.cells.lookup x=aj c->c≠p)(d:∀q∈X.pn++aa,q.1≠p)
  (aH:fH X.prog X.w (upd H p o) s.heap):Inv X aa J (upd H p o) s where
 ok:=I.ok
 os:=I.os
 bare:=I.bare
 base:={
  keep:=I.base.keep
  slot:=I.base.slot
  free:=λb ob q n U=>by
   have hb:b≠p:=λz=>by subst z;rw[h0]at q;cases q
   rw[bE hb];exact I.base.free b ob q n U
  there:=I.base.there
  oC:=λb xs q=>by have z:=I.base.oC b xs q;rw[bE (iW z j)];exact z
  mJ:=λb ob u q=>by have z:=I.base.mJ b ob u q;rw[bE (iW z j)];exact z
  nM:=λb N q=>by obtain⟨more,z⟩:=I.base.nM b N q;exact⟨more,by rw[bE (iW z j)];exact z⟩}
 loc:=I.loc
 cell:=I.cell
 free:=by rw[bE (dQ hL)];exact I.free
 lV:=λx c q=>by rw[bE (e x c q)];exact I.lV x c q
 pin:=λq B=>by
  obtain⟨a,b,c⟩:=I.pin q B;exact⟨a,by rw[bE (d q B)];exact b,c⟩
 aH:=aH
 len:=I.len
theorem ag8{P:bh}{w:bw}{K:bj}{elts:ak bx}{R:ay}{S:dk}(a e it:aw)(gU:e≠it):Turn P w K (.Tuple elts R S) (YV K a) [e,it] e (λi h=>(∃old,IsEnum h e it (i:a5) old)/\h.IsListIter it a i)where
 mem:=by simp
 obj:=λi h st b hb=>by
  obtain⟨⟨old,j⟩,o,q,c,d⟩:=st
  rcases dU.mp hb with z|z
  ·subst z;exact⟨_,j,λv z=>by cases z⟩
  ·have z:b=it:=by simpa using z
   subst z;exact⟨o,q,λv z=>by rw[d]at z;cases z⟩
 keep:=λi h h' st k=>⟨let ⟨old,q⟩:=st.1; ⟨old,k e (by simp) _ q⟩,st.2.at λo q=>k it (by simp) o q⟩
 item:=by
  intro X t hw y F i aa s J H E I f st r;subst t hw y;obtain⟨⟨old,j⟩,N⟩:=st;obtain⟨C,x,U,m⟩:=r;obtain⟨aY,l,p,hz⟩:=I.list U;obtain⟨u,hu,W⟩:=l.get m;have L:=f e (by simp);have G:=f it (by simp);have M:e<s.heap.objs.size:=dS j;have n:it<s.heap.objs.size:=let ⟨_,q,_⟩:=N;dS q;refine wpAny_pyNext_enum_item j N p.isList (x:=u) (by simpa using hu) gU λh1 e1 i1 V z1 k1=>?_;refine⟨_,rfl,wpAny_letOwnedTupleGo_enum (s:={s with heap:=h1,toks:=s.toks+1}) e1 λh2 e2 s2=>?_⟩;have B:H s.heap.objs.size=ao:=I.aH.fresh cX;have k2:∀b o,b≠e->b≠it->s.heap.get? b=aj o->h2.get? b=aj o:=λb o D n2 q=>s2.extBut b o D (k1 b o D n2 q);have T:h2.get? s.heap.objs.size=aj {cls:=.type "tuple",data:=.seq #[.int (i:a5) s.toks,u]}:=s2.extBut _ _ (JT M) V;have Q:Inv X aa J H {s with heap:=h2,toks:=s.toks+1}:=Inv.ag4 (t':=s.toks+1) I k2 L G;have i2:h2.IsListIter it a (i+1):=i1.extBut s2.extBut (dQ gU);have aH:fH X.prog X.w (upd H s.heap.objs.size (.tup [.int (i:a5),x])) h2:=by
   refine λb o q=>?_
   by_cases g:b=s.heap.objs.size
   ·subst g;rw[eL]at q;cases q;exact⟨by show 2<=bc;decide,[.int (i:a5) s.toks,u],.cons ⟨_,rfl⟩ (.cons W .nil),⟨_,T,rfl,_,rfl⟩⟩
   ·rw[bE g]at q;exact(Q.aH b o q).nN (λc v _ z=>z) (λc z=>by rw[bE (iW z B)];exact z) λc C z=>by rw[bE (iW z B)];exact z
  have A:qV X aa H s.heap.objs.size:=I.xG cX B;have h0:X.s₀.heap.get? s.heap.objs.size=ao:=by
   cases q:X.s₀.heap.get? s.heap.objs.size with
   |none=>rfl
   |some ob=>exact bz (lG (dS q) I.sz) (Nat.lt_irrefl _)
  have I2:Inv X aa J (upd H s.heap.objs.size (.tup [.int (i:a5),x])) {s with heap:=h2,toks:=s.toks+1}:=Inv.Ax Q B h0 A.2.1 A.2.2.2.2.1 A.2.2.2.2.2 aH;refine⟨.ref s.heap.objs.size,_,I2,rfl,⟨_,x,B,rfl,rfl,λys hy=>by rw[I.Xm hy U];exact m⟩,⟨⟨_,e2⟩,i2⟩,λb hb=>?_⟩
  rcases dU.mp hb with z|z
  ·subst z;rw[bE (fS M)];exact L.1
  ·have z:b=it:=by simpa using z
   subst z;rw[bE (fS n)];exact G.1
 done:=by
  intro X t hw y F i aa s J H E I f st r;subst t hw y;obtain⟨⟨old,j⟩,N⟩:=st;obtain⟨C,U,m⟩:=r;obtain⟨aY,l,p,hz⟩:=I.list U;obtain⟨f0,f1,f2,f3,f4,f5⟩:=f it (by simp);have hl:=l.length;exact wpAny_pyNext_enum_end (I.ok.hd F) j N p.isList (by simp;omega) λh' g=>⟨rfl,I.turned (t':=s.toks) (λb o hb e=>g b o hb e) f0 f1 f3 f4 f5⟩
 self:=λ_ _ _ _ _ st h=>let ⟨_,q⟩:=st.1;wpAny_pyIter_enum q h
section
variable{X:Cx}{W:WX}{pos:dk}
theorem aoP{elts:ak bx}{e:ay}{f p:dk}{l:bx}{tl:TE}(o:Gl X "enumerate")(hm:X.mg "enumerate" = ao)(hl:PE X l tl)(c:bg [l] X.env=[(au,b9 l X.env)]:=by rfl) :
  PI X (.Tuple elts e f) (.Call (.Name "enumerate" p) [l] [] pos) (λJ H R=>tl J H λx H1=>∃a,x=.ref a/\(∃xs,fV X.K H1 a xs)/\R (YV X.K a) H1):=by
 intro aa s J H R I h;refine yB (EA I o hm boot_enumerate ?_);refine YE (bM (DJ hl HR c pos aa s J H (λN H1=>match N with
  |[x]=>∃a,x=V.ref a/\(∃xs,fV X.K H1 a xs)/\R (YV X.K a) H1
  | _=>cp) I h) λw j ⟨N,H1,B,i,U⟩=>?_) c rfl
 match N,U with
 |[x],U =>
 obtain⟨a,t,⟨xs,m⟩,q⟩:=U;obtain⟨u,rfl,g⟩:=vals1 i;subst t;cases g;obtain⟨C,y,pl,A⟩:=B.list m;refine call_enumerate_list pl.isList λh' d r k n=>?_;refine wpAny_pyIter_enum (s:={j with heap:=h' }) d ?_;have v:Inv X aa J H1 {j with heap:=h' }:=B.kept (t':=j.toks) n;refine⟨_,[j.heap.objs.size+1,j.heap.objs.size],_,_,H1,rfl,v,ag8 a _ _ (Nat.succ_ne_self _),⟨⟨.none,d⟩,r⟩,λb hb=>?_,q⟩
 rcases dU.mp hb with z|z
 ·subst z;exact B.xG (JU _) (B.aH.fresh (JU _))
 ·have z:b=j.heap.objs.size:=by simpa using z
  subst z;exact B.xG cX (B.aH.fresh cX)
noncomputable def pR:ay->ak A->ak A
 |_,[]=>[]
 |n,x::xs => .tup [.int (n:a5),x]::pR (n+1) xs
theorem Ju:∀(n:ay) (xs:ak A),(pR n xs).length=xs.length
 |_,[]=>rfl
 |n,x::xs=>by simp only[pR,fZ,Ju (n+1) xs]
theorem abN:∀(n i:ay) (xs:ak A),(pR n xs)[i]?=xs[i]?.map λx => .tup [.int ((n+i:ay):a5),x]
 |_,_,[]=>by simp[pR]
 |n,0,x::xs=>by simp[pR]
 |n,i+1,x::xs=>by
  simp only[pR,QR];rw[abN (n+1) i xs];have e:n+1+i=n+(i+1):=by omega
  rw[e]
def enumSrc(a:A)(ds:ak A):Src:=⟨pR 0 ds,λZ=>fP Z a=aj ds⟩
@[simp] def An(f:Ev->Mo A):Ev->Mo Src:=λY=>mb (f Y) λa Z=>match fP Z a with
 |some ds=>aj (.ok (enumSrc a ds),Z)
 |none=>ao
theorem av0{K:bj}{G:Hp}{O:ak aw}{p:aw}{a:A}{ds:ak A}(d:Den K G O (.ref p) a):KI K G O (YV K p) (enumSrc a ds):=by
 have key:∀U j B b,Ext G O U j->Wd K U j B b->fP B a=aj ds->∃N,fV K b p N/\bC K U j N ds:=λU j B b e w h=>by
  obtain⟨q,N,h1,h2,c⟩:=AV w (d.ext e) h;cases h1;exact⟨N,h2,c⟩
 refine⟨λU j B b e w h i hi=>?_,λU j B b e w h i hi=>?_,λU j B b e w h i x t y m hd=>?_⟩
 ·obtain⟨N,h2,c⟩:=key U j B b e w h;have hl:i<N.length:=by rw[c.length,<-Ju 0 ds];exact hi
  exact⟨N,N[i],h2,fL hl⟩
 ·obtain⟨N,h2,c⟩:=key U j B b e w h;exact⟨N,h2,by rw[c.length,<-Ju 0 ds];exact hi⟩
 ·obtain⟨N,h2,c⟩:=key U j B b e w h;obtain⟨q,z,g,r,o,n⟩:=hd;subst r o;have f:(pR 0 ds)[i]?=aj y:=m;rw[abN]at f;cases ed:ds[i]? with
  |none=>rw[ed]at f;cases f
  |some d' =>
   rw[ed]at f;cases f;obtain⟨s,k,l⟩:=c.get ed;rw[n N h2]at k;cases k;refine⟨upd U q (.tup [.int (i:a5),z]),Ext.new (w.oQ g) _,w.new g _,?_⟩;simp only[Den];exact⟨q,_,rfl,eL,.cons (by simp only[Den,zM]) (.cons (l.ext (Ext.new (w.oQ g) _)) .nil)⟩
theorem Qy{elts:ak bx}{B:ay}{g p:dk}{l:bx}{fe:Ev->Mo A}(k:Gl X "enumerate")(hm:X.mg "enumerate" = ao)(h:VE X W l fe)(i:bg [l] X.env=[(au,b9 l X.env)]:=by rfl) :
  VI X W (.Tuple elts B g) (.Call (.Name "enumerate" p) [l] [] pos) (An fe):=by
 obtain⟨t,p,s⟩:=h;refine⟨_,aoP k hm p i,λG c d H J b R w r h=>?_⟩;refine s G c d H J b _ w r (bP.mb h λa z v n o j B N U h1=>?_);cases e:fP z a with
 |none=>simp only[e]at h1;exact False.elim h1
 |some ds =>
  simp only[e]at h1;obtain⟨q,f,h2,m,u⟩:=AV N U e;subst h2;exact⟨q,rfl,⟨f,m⟩,h1 _ n o j (Ext.refl _ _) N (av0 U)⟩
theorem RW{st:b7}:VS X W st (λ_ _=>ao):=⟨_,an7,λ_ _ _ _ _ _ _ _ _ h=>h.elim⟩
end
noncomputable def AY(n:ay)(js:ak ay)(Y:Ev):Ev:=List.replicate n ao++js.map (λj=>(Y[j]?).join)
def QH(X:Cx)(W:WX)(ifs:ak bx)(f:Ev->Mo br):Prop:=∃t,QK X ifs t/\fW X.K DH W t f
abbrev AB:Ev->Mo br:=λ_=>ret ax
theorem RY{X:Cx}{W:WX}:QH X W [] AB:=⟨_,aoM,λ_ _ _ _ _ _ _ w _ q=>nA w rfl q⟩
open Classical in
noncomputable def qN(ok:aE->Prop)(g:A->MS)(c:Ev->Mo br)(e:Ev->Mo A)(n:ay):ak A->Ev->aE->ar (Ev×aE)
 |[],Y,Z=>if ok Z then aj (Y,Z)else ao
 | x::xs,Y,Z=>if ok Z then(match g x Y Z with
  | some (.nx,Y1,Z1)=>(match c Y1 Z1 with
   | some (.ok ax,Z2)=>(match e Y1 Z2 with
    | some (.ok y,Z3)=>(match Z3[n]? with
     |some (.lst ys)=>if ys.length<bc then qN ok g c e n xs Y1 (Z3.set n (.lst (ys++[y])))else ao
     | _=>ao)
    | _=>ao)
   |some (.ok au,Z2)=>qN ok g c e n xs Y1 Z2
   | _=>ao)
  | _=>ao)else ao
open Classical in
noncomputable def Fq(cf:br)(Z1:aE)(r:ar (Ev×aE)):ar (Rs A×aE):=match r with
 | some (_,Z')=>(match Z'[Z1.length]? with
  |some (.lst ys)=>if cf then aj (.ok (.aI Z1.length),Z')else if Z'.take Z1.length=Z1/\gC Z1.length ys then aj (.ok (.lst ys),Z1)else aj (.ok (.lst ys),Z'.set Z1.length .dead)
  | _=>ao)
 |none=>ao
noncomputable def wN(j:br)(n:ay)(js:ak ay)(fi:Ev->Mo Src)(g:A->MS)(c:Ev->Mo br)(e:Ev->Mo A):Ev->Mo A:=λY=>mb (fi Y) λS Z1=>Fq j Z1 (qN S.ok g c e Z1.length S.ds (AY n js Y) (Z1++[.lst []]))
theorem aCL{ok:aE->Prop}{g:A->MS}{c:Ev->Mo br}{e:Ev->Mo A}{n:ay}{xs:ak A}{Y:Ev}{Z:aE}{r:Ev×aE}(h:qN ok g c e n xs Y Z=aj r):ok Z:=by
 cases xs with
 |nil=>unfold qN at h;by_cases j:ok Z;exact j;rw[bf j]at h;cases h
 |cons=>unfold qN at h;by_cases j:ok Z;exact j;rw[bf j]at h;cases h
theorem atM{K:bj}{G:Hp}{O:ak aw}{J:L2.St}{Y:Ev}(q:ak ba)(js:ak ay)(r:gH K G O J Y):gH K G O (AX q js J) (AY q.length js Y):=by
 unfold AX AY;refine⟨by simp,λi d h=>?_⟩
 by_cases hi:i<q.length
 ·rw[jJ (by simpa using hi)]at h;rw[List.getElem?_replicate,a9 hi]at h;cases h
 ·rw[qS (by simpa using Ms hi),List.length_replicate,jV]at h;cases e:js[i-q.length]? with
  |none=>rw[e]at h;cases h
  |some j =>
   rw[e]at h;have h':(Y[j]?).join=aj d:=kY h;obtain⟨v,B,z⟩:=r.2 j d (join_some h');refine⟨v,?_,z⟩;rw[qS (by simpa using Ms hi),lI,jV,e];show aj (J[j]?).join=_;rw[B];rfl
section
variable{K:bj}{W:WX}
theorem akK{I:ak ba}{js:ak ay}{wi:TI}{tg:TG}{tc:TT}{te:TE}{fi:Ev->Mo Src}{g:A->MS}{c:Ev->Mo br}{e:Ev->Mo A}{cf:br}(W0:WX)(hi:fW K (Dv K) W wi fi)(hg:QI K W0 tg g)(hc:fW K DH W0 tc c)(he:fW K (Den K) W0 te e) :
  fW K (Den K) W (Bh I js wi tg tc te) (wN cf I.length js fi g c e):=by
 intro G O Z H J Y Q w r h;refine hi G O Z H J Y _ w r (bP.mb h λS a σ H1 u B x1 w1 j1 h1=>?_);intro D hD;unfold Fq at h1;cases er:qN S.ok g c e a.length S.ds (AY I.length js Y) (a++[.lst []])with
 |none=>rw[er]at h1;exact False.elim h1
 |some rr =>
 obtain⟨T,X⟩:=rr;rw[er]at h1;simp only at h1;have hw0:Wd K u (B++[D]) (a++[.lst []]) (upd H1 D (.lst [])):=w1.cell hD ⟨w1.oQ hD,[],eL,.nil⟩;have r0:gH K u (B++[D]) (AX I js J) (AY I.length js Y):=atM I js (r.ext (x1.trans (Ext.cell D)));have hDk:(B++[D])[a.length]?=aj D:=by rw[<-w1.len];simp
 refine⟨λi m p o=>m=S.ds.length-i/\i<=S.ds.length/\∃f j N d,Ext u (B++[D]) f j/\Wd K f j N o/\gH K f j p d/\qN S.ok g c e a.length (S.ds.drop i) d N=aj (T,X),
  ⟨_,rfl,CG _,u,_,_,_,Ext.refl _ _,hw0,r0,by simpa using er⟩,?_⟩
 rintro i m p o ⟨rfl,hil,f,j,N,d,e',E,r',h'⟩;have aH:=aCL h';have M:Ext u B f j:=(Ext.cell D).trans e'
 by_cases bW:i<S.ds.length
 ·right
  refine⟨j1.go f j N o M E aH i bW,λR H2=>∃G2 t Z2 V,Ext u (B++[D]) G2 t/\Wd K G2 t Z2 H2/\gH K G2 t R V/\qN S.ok g c e a.length (S.ds.drop (i+1)) V Z2=aj (T,X),λR H2 n=>?_,λx H2 y=>?_⟩
  ·exact⟨S.ds.length-(i+1),by omega,rfl,bW,n⟩
  ·obtain⟨G2,e2,w2,d2⟩:=j1.CS f j N o M E aH i x H2 S.ds[i] (fL bW) y;rw[vZ bW]at h';unfold qN at h';rw[a9 aH]at h';refine hg G2 j N H2 p d x S.ds[i] ⟨_,λ_ _=>cp,λ_ _=>cp,λ_ _=>cp⟩ w2 (r'.ext e2) d2 ?_
   revert h'
   generalize g S.ds[i] d N=q;intro h';split at h'
   ·rename_i U Z3;intro P H3 G3 O3 x3 w3 r3;refine hc G3 O3 Z3 H3 P U _ w3 r3 ?_
    revert h'
    generalize c U Z3=F;intro h';split at h'
    ·rename_i k;intro b H4 G4 s C w4 hb;cases(show b=ax from hb);rw[a9 rfl];refine he G4 s k H4 P U _ w4 (r3.ext C) ?_
     revert h'
     generalize e U k=q3;intro h';split at h'
     ·rename_i z Z5;intro v H5 G5 O5 x5 w5 d5;split at h'
      ·rename_i ys ey;split at h'
       ·rename_i hl;have eD:=(((e'.trans e2).trans x3).trans C).trans x5;have L:=eD.pre _ _ hDk;obtain⟨l,xs,q1,F⟩:=w5.aI _ _ D ey L;refine⟨xs,q1,by rw[F.length];exact hl,G5,O5,_,U,eD,w5.put (c:=.lst (ys++[z])) L l ⟨l,_,eL,F.append (.cons d5 .nil)⟩,(r3.ext C).ext x5,h'⟩
       ·cases h'
      ·cases h'
     ·cases h'
    ·rename_i k;intro b H4 G4 s C w4 hb;cases(show b=au from hb);rw[bf (by simp)];exact⟨G4,s,k,U,((e'.trans e2).trans x3).trans C,w4,r3.ext C,h'⟩
    ·cases h'
   ·cases h'
 ·have yZ:i=S.ds.length:=by omega
  subst yZ
  left
  refine⟨j1.stop f j N o M E aH _ cX,?_⟩;rw[KD]at h';unfold qN at h';rw[a9 aH]at h';cases h';split at h1
  ·rename_i ys ey;have L:=e'.pre _ _ hDk;obtain⟨l,xs,q1,F⟩:=E.aI _ _ D ey L;split at h1
   ·exact h1 _ o f j M E (by simp only[Den];exact⟨D,rfl,L⟩)
   ·have wf:=E.freeze L l q1;split at h1
    ·rename_i aaD;have eC:Ext u B (upd f D (.lst xs)) j:=M.trans (Ext.new l _);have wc:=w1.cut wf eC (by rw[List.take_set_of_le cX];exact aaD.1);refine h1 _ o _ B ⟨eC.same,λ_ _ q=>q⟩ wc ?_;simp only[Den];exact⟨D,xs,rfl,eL,(F.ext (Ext.new l _)).cut eC.cut (by rw[w1.len];exact aaD.2)⟩
    ·refine h1 _ o _ j (M.trans (Ext.new l _)) wf ?_;simp only[Den];exact⟨D,xs,rfl,eL,F.ext (Ext.new l _)⟩
  ·exact False.elim h1
end
def Bi{α β:Type}(K:bj)(rel:Rl α β)(W:WX)(f:Ev->Mo α):L2.St->Hp->(β->Hp->Prop)->Prop:=λJ H Q=>∃G O Z Y,Wd K G O Z H/\gH K G O J Y/\bP K rel W G O J Q (f Y Z)
def Sq(K:bj)(W:WX)(g:A->MS):TG:=λv J H Q=>∃G O Z Y a D,Wd K G O Z H/\gH K G O J Y/\Den K G O v a/\fK K W G O D (g a Y Z)/\D.nx=Q
theorem Tq{α β:Type}{K:bj}{rel:Rl α β}{W:WX}{f:Ev->Mo α}:fW K rel W (Bi K rel W f) f:=λG q z H J j Q w r h=>⟨G,q,z,j,w,r,h⟩
theorem akQ{K:bj}{W:WX}{g:A->MS}:QI K W (Sq K W g) g:=λG q z H J j v a D w r d h=>⟨G,q,z,j,a,D,w,r,d,h,rfl⟩
theorem VE.zI{X:Cx}{W:WX}{e:bx}{f:Ev->Mo A}(h:VE X W e f):PE X e (Bi X.K (Den X.K) W f):=by
 obtain⟨t,p,s⟩:=h;exact λaa N J H Q I ⟨G,z,B,j,w,r,q⟩=>p aa N J H Q I (s G z B H J j Q w r q)
theorem QH.zI{X:Cx}{W:WX}{ifs:ak bx}{f:Ev->Mo br}(h:QH X W ifs f):QK X ifs (Bi X.K DH W f):=by
 obtain⟨t,p,s⟩:=h;exact λaa N J H Q I ⟨G,z,B,j,w,r,q⟩=>p aa N J H Q I (s G z B H J j Q w r q)
theorem VG.zI{X:Cx}{W:WX}{tg:bx}{g:A->MS}(h:VG X W tg g):PG X tg (Sq X.K W g):=by
 obtain⟨t,p,s⟩:=h;intro aa N J H v u Q I U h;obtain⟨G,z,B,j,a,D,w,r,d,q,e⟩:=h;exact p aa N J H v u Q I U (e ▸ s G z B H J j v a D w r d q)
abbrev tQ:WX:=λ_ _ _ _=>cp
theorem agB{X:Cx}{W:WX}{elt tg iter:bx}{ifs:ak bx}{scope:cq}{pos:dk}{fi:Ev->Mo Src}{g:A->MS}{c:Ev->Mo br}{e:Ev->Mo A}(U:br)(j:ak ba)(js:ak ay)(N:X.calm=ax)(L:CM X scope j js)(hi:VI X W tg iter fi)
  (hb:∀cl C s H fp,VG (kN X scope j js cl C s H fp) tQ tg g/\QH (kN X scope j js cl C s H fp) tQ ifs c/\VE (kN X scope j js cl C s H fp) tQ elt e)
  (B:∀x,dm iter X.env x=pure x:=by intro _;rfl):VE X W (.ListComp elt [⟨tg,iter,ifs,0⟩] scope pos) (wN U j.length js fi g c e):=by
 obtain⟨a,z,q⟩:=hi;exact⟨_,apA N L z (λcl C s H fp=>⟨(hb cl C s H fp).1.zI,(hb cl C s H fp).2.1.zI,(hb cl C s H fp).2.2.zI⟩) B,akK _ q akQ Tq Tq⟩
noncomputable def sortI(ns:ak a5):ak a5:=ns.mergeSort λa b=>decide (a<=b)
theorem sortI_perm(ns:ak a5):(sortI ns).Perm ns:=List.mergeSort_perm ns _
theorem Td(ns:ak a5):(sortI ns).Pairwise (· <= ·):=by
 have h:=List.pairwise_mergeSort (le:=λa b:a5=>decide (a<=b)) (λa b c h1 h2=>by simp at h1 h2 ⊢;omega) (λa b=>by simp;omega) ns;exact h.imp λh=>El h
theorem Tc{ns ms:ak a5}(p:ms.Perm ns)(h:ms.Pairwise (· <= ·)):ms=sortI ns :=
 List.Perm.eq_of_pairwise (le:=(· <= ·)) (λa b _ _ h1 h2=>Int.le_antisymm h1 h2) h (Td ns) (p.trans (sortI_perm ns).symm)
theorem Te(ns:ak a5):(sortI ns).length=ns.length:=(sortI_perm ns).length_eq
end V2
namespace M
open PySem V2
@[simp] abbrev aN:=V2.eE 0
@[simp] abbrev bD:=V2.eE 1
@[simp] abbrev bR:=V2.eE 2
@[simp] abbrev cQ:=V2.eE 3
@[simp] abbrev eP:=V2.eE 4
@[simp] abbrev nL:=V2.eE 5
@[simp] abbrev tL:=V2.eE 6
@[simp] abbrev wJ:=V2.eE 7
@[simp] abbrev pY:=V2.eE 8
@[simp] abbrev sA:=V2.eE 9
@[simp] abbrev GU:=V2.eE 10
@[simp] abbrev wK:=V2.eE 11
@[simp] abbrev Qw:=V2.eE 12
@[simp] abbrev Qv:=V2.eE 13
@[simp] abbrev afW:=V2.eE 14
@[simp] abbrev dC:=V2.cI 0
@[simp] abbrev bL:=V2.cI 1
@[simp] abbrev mW:=V2.cI 2
@[simp] abbrev mV:=V2.cI 3
@[simp] abbrev LM:=V2.cI 4
@[simp] abbrev CV:=V2.cI 5
@[simp] abbrev ZZ:=V2.cI 7
@[simp] abbrev RV:=V2.cI 8
@[simp] abbrev wC9:=V2.cI 9
@[simp] abbrev uO:=V2.cI 10
@[simp] abbrev cF:=V2.IW au
@[simp] noncomputable abbrev aG{α:Type}(a:α)(Z:V2.aE):ar (V2.Rs α×V2.aE):=aj (.ok a,Z)
@[simp] noncomputable abbrev eN(Y:V2.Ev)(Z:V2.aE):ar (V2.Out×V2.Ev×V2.aE):=aj (.nx,Y,Z)
@[simp] noncomputable abbrev aA(i:a5):ar V2.A:=aj (.int i)
@[simp] noncomputable abbrev aD(i:ay):ar V2.A:=aj (.aI i)
@[simp] noncomputable abbrev cW(i:ak V2.A):ar V2.A:=aj (.lst i)
noncomputable section
def acV:MS :=
 (aQ (bK (aC (gV) (aC (xD) (aC cF aN bL) (aC cF (cI 48271) (aC (xD) (cI 118) bD))) (cI 2147483629)) (gN 2))
  (cR (aC (gV) (aC cF (aC cF (aC (xD) (aC (oS) bR (cI 977)) (cI 16807)) (aC (xD) bR (aC cF (aC (xD) bD bD) ZZ))) bD) (cI 2147483587))))
def pV:ak A->Mo A:=cV 3 acV
def JN:MS :=
 (aQ (fO (cA (aC iK bD dC))
   (cR (aC (gV) aN ZZ))
   iC)
  (aQ (fO (cA (aC iK bD bL))
   (cR (aC (rH) (aC (gV) aN (cI 61)) (cI 30)))
   iC)
  (aQ (fO (cA (aC iK bD mW))
   (cR (aC (rH) (aC (gV) (aC (xD) aN (cI 982451653)) (aC cF (aC (xD) mW (aC (BO) uO (cI 18))) bL)) (aC (BO) uO (cI 18))))
   iC)
  (aQ (fO (cA (aC iK bD mV))
   (cR CV)
   iC)
  (cR (aC bO (lD au (aB (aC cF (aC (xD) aN (aC (BO) uO (cI 50))) ZZ) (aB (aC (rH) dC (aC (xD) aN (aC (BO) uO (cI 50)))) (aB aN (aB (aC (rH) dC aN) a0))))) (aC (gV) aN LM)))))))
def zU:ak A->Mo A:=cV 2 JN
def acU:MS :=
 (cR (aC bO (lD au (aB bL (aB bL (aB (aC cF bL (aC (gV) (aC (oS) aN LM) wC9)) (aB (aC cF bL (aC (gV) (aC (oS) aN LM) (cI 1000000))) a0))))) (aC (gV) aN LM)))
def RI:ak A->Mo A:=cV 1 acU
def Kz:MS :=
 (aQ (bK dC (gN 2))
  (aQ (fO (cA (aC qM bD (aX sU (aB aN a0))))
   (bK (aC (gV) (aC bO aN bD) (cI 2147483647)) (gN 2))
   iC)
  (cR (aX (bS 2 pV) (aB bR (aB (aC cF bD (cI 101)) a0))))))
def GD:ak A->Mo A:=cV 3 Kz
def acT:MS :=
 (cR (kK (aB dC (aB dC (aB dC (aB (lD au a0) a0))))))
def RH:ak A->Mo A:=cV 0 acT
def XJ:MS :=
 (aQ (fO (cA (aC iK bD (aX sU (aB aN a0))))
   (cR (cB au))
   iC)
  (cR (GW (aC iK cQ (aX sU (aB bR a0))) (aC BP (aC bO (aC bO aN bD) dC) (aC bO (aC bO bR cQ) dC)))))
def KQ:ak A->Mo A:=cV 4 XJ
def PV:MS :=
 (aQ (bK (aC bO aN mV) (gN 2))
  (aQ (bK (Am (cA (aC vL bD dC)) (aC bO (aC bO bR (aC (rH) bD bL)) bL) dC) (gN 3))
  (aQ (bK (Am (cA (aC qM bD (aX sU (aB bR a0)))) (aC (rH) (aC bO (aC bO bR bD) mW) bL) (aC bO aN dC)) (gN 4))
  (cR (kK (aB cQ (aB eP a0)))))))
def GA:ak A->Mo A:=cV 5 PV
def acQ:MS :=
 (aQ (bK (aX (bS 2 GA) (aB bD (aB bR a0))) (gN 3))
  (cR (kK (aB (aC bO aN dC) (aB (aC cF (aC bO aN bL) (aC bO cQ dC)) (aB (aC cF (aC bO aN mW) (aC bO cQ bL)) a0))))))
def RF:ak A->Mo A:=cV 4 acQ
def JK:MS :=
 (fO (cA (aX (bS 4 KQ) (aB (aC bO aN mV) (aB cQ (aB (aC bO bD mV) (aB eP a0))))))
    (aQ (kL (pZ uA bR (aB (aX (bS 3 RF) (aB (aC bO (aC bO aN mV) cQ) (aB bD (aB eP a0)))) a0)))
    (bK (aC cF cQ bL) (gN 3)))
    (aQ (kL (pZ uA bR (aB (aX (bS 3 RF) (aB (aC bO (aC bO bD mV) eP) (aB aN (aB cQ a0)))) a0)))
    (bK (aC cF eP bL) (gN 4))))
def FH:Ev->Mo br :=
 (kB (cA (aC qM cQ (aX sU (aB (aC bO aN mV) a0)))) (cA (aC qM eP (aX sU (aB (aC bO bD mV) a0)))))
def acR:MS :=
 (aQ (bK (lD ax a0) (gN 2))
  (aQ (bK dC (gN 3))
  (aQ (bK dC (gN 4))
  (aQ (λY Z=>nG FH JK ((λ_ _=>1000000) Y Z) Y Z)
  (cR (wO 2))))))
def ZG:ak A->Mo A:=cV 5 acR
def acS:MS :=
 (aQ (bK (aC cF (aC bO aN dC) (aC bO bD dC)) (gN 2))
  (aQ (bK (aC cF (aC bO aN bL) (aC bO bD bL)) (gN 3))
  (aQ (bK (aX xE (aB (aC bO aN mW) (aB (aC bO bD mW) a0))) (gN 4))
  (cR (kK (aB bR (aB cQ (aB eP (aB (aX (bS 2 ZG) (aB aN (aB bD a0))) a0)))))))))
def CN:ak A->Mo A:=cV 5 acS
def Kq:MS :=
 (cR (GW (aC iK (aC bO bD dC) (aC bO aN dC)) (aC BP (aC bO bD mW) (aC cF (aC cF (aC bO aN bL) bR) bL))))
def RE:ak A->Mo A:=cV 3 Kq
def BZ:MS :=
 (fO (kB (cA (aC iK eP dC)) (kB (cA (aC iK eP cQ)) (sF (cA (aX (bS 3 RE) (aB (aC bO bR (LS bL)) (aB (aC bO aN (aC cF eP bL)) (aB bD a0))))))))
    (kL (pZ uA bR (aB nL a0)))
    iC)
def Ku:MS :=
 (aQ (bK (lD ax a0) (gN 2))
  (aQ (bK (aC (rH) (aX sU (aB aN a0)) bL) (gN 3))
  (aQ (iT (An aN) (jG 2 (dN (gN 4) (dN (gN 5) jR))) BZ)
  (cR (wO 2)))))
def RG:ak A->Mo A:=cV 6 Ku
def acO:MS :=
 (aQ (bK (aC bO aN dC) (gN 2))
  (aQ (bK (aC cF (aC bO aN bL) (aC (oS) bR bD)) (gN 3))
  (cR (kK (aB bR (aB cQ (aB (aC cF (aC bO aN mW) bL) (aB (aX (bS 2 RG) (aB (aC bO aN mV) (aB cQ a0))) a0))))))))
def QZ:ak A->Mo A:=cV 4 acO
end
end M
namespace V2
open PySem PySem.Spec PyProof.Rows L2
noncomputable def hZ(kvs:ak (Key×A))(k:Key):ar A:=(kvs.find? λj=>decide (j.1=k)).map (·.2)
noncomputable def lS(kvs:ak (Key×A))(k:Key)(a:A):ak (Key×A) :=
 if kvs.any λj=>decide (j.1=k)then kvs.map (λj=>if j.1=k then(j.1,a)else j)else kvs++[(k,a)]
noncomputable def mF:A->ar Key
 |.int i=>aj (.inl i)
 |.str x=>aj (.inr x)
 |_=>ao
section
variable{K:bj}{G:Hp}{O:ak aw}
theorem NH{v:V}{a:A}{k:Key}(d:Den K G O v a)(h:mF a=aj k):v=kV k:=by
 cases a with
 |int i=>simp only[mF,kX]at h;subst h;simp only[Den]at d;exact d
 |str i=>simp only[mF,kX]at h;subst h;simp only[Den]at d;exact d
 |_=>simp[mF]at h
theorem LR{k:Key}:∀{j:ak (Key×V)} {kvs:ak (Key×A)},j.map (·.1)=kvs.map (·.1)->bC K G O (j.map (·.2)) (kvs.map (·.2))->(∀a,hZ kvs k=aj a->∃v,lK j k=aj v/\Den K G O v a)/\(hZ kvs k=ao->lK j k=ao)
 |[],[],_,_=>⟨λa h=>(by cases h),λ_=>rfl⟩
 |[],_::_,h,_=>by simp at h
 |_::_,[],h,_=>by simp at h
 |p::j,q::kvs,h,d=>by
  simp only[bU,qT]at h;obtain⟨x,r,e,m,l⟩:=d.pF;simp only[bU,qT]at e;obtain⟨i,g⟩:=e;obtain⟨b,U⟩:=LR (k:=k) h.2 (g ▸ l)
  by_cases B:q.1=k
  ·have N:p.1=k:=h.1.trans B;refine⟨λa ha=>?_,λhn=>?_⟩
   ·simp only[hZ,FT,B,JC,JS,kX]at ha;exact⟨p.2,by simp[lK,N],by rw[<-ha,i];exact m⟩
   ·simp[hZ,B]at hn
  ·have N:¬p.1=k:=λz=>B (h.1.symm.trans z);have c:lK (p::j) k=lK j k:=by simp[lK,N]
   have f:hZ (q::kvs) k=hZ kvs k:=by simp[hZ,B]
   rw[c,f];exact⟨b,U⟩
theorem ac1{k:Key}{q:ak (Key×V)}{kvs:ak (Key×A)}(h:q.map (·.1)=kvs.map (·.1)):(q.any λj=>decide (j.1=k))=(kvs.any λj=>decide (j.1=k)):=by
 have B:(q.any λj=>decide (j.1=k))=(q.map (·.1)).any λx=>decide (x=k):=by rw[List.any_map];rfl
 have z:(kvs.any λj=>decide (j.1=k))=(kvs.map (·.1)).any λx=>decide (x=k):=by rw[List.any_map];rfl
 rw[B,z,h]
theorem anM{k:Key}{v:V}{a:A}{q:ak (Key×V)}{kvs:ak (Key×A)}(h:q.map (·.1)=kvs.map (·.1)):(putK q k v).map (·.1)=(lS kvs k a).map (·.1):=by
 unfold putK lS;rw[ac1 h];split
 ·rw[QP,QP];have B:q.map ((·.1) ∘ λj:Key×V=>if j.1=k then(j.1,v)else j)=q.map (·.1):=QQ λx _=>by simp only[Function.comp];split <;> rfl
  have z:kvs.map ((·.1) ∘ λj:Key×A=>if j.1=k then(j.1,a)else j)=kvs.map (·.1):=QQ λx _=>by simp only[Function.comp];split <;> rfl
  rw[B,z,h]
 ·rw[xU,xU,h];rfl
theorem Uy{k:Key}{v:V}{a:A}(B:Den K G O v a):∀{z:ak (Key×V)} {kvs:ak (Key×A)},z.map (·.1)=kvs.map (·.1)->bC K G O (z.map (·.2)) (kvs.map (·.2))->bC K G O ((z.map λj=>if j.1=k then(j.1,v)else j).map (·.2)) ((kvs.map λj=>if j.1=k then(j.1,a)else j).map (·.2))
 |[],[],_,_ => .nil
 |[],_::_,h,_=>by simp at h
 |_::_,[],h,_=>by simp at h
 |p::z,q::kvs,h,d=>by
  simp only[bU,qT]at h;obtain⟨x,r,e,c,b⟩:=d.pF;simp only[bU,qT]at e;obtain⟨U,N⟩:=e;have ih:=Uy (k:=k) B h.2 (N ▸ b);simp only[bU];refine .cons ?_ ih;rw[h.1];split
  ·exact B
  ·rw[U];exact c
theorem anN{k:Key}{v:V}{a:A}{j:ak (Key×V)}{kvs:ak (Key×A)}(h:j.map (·.1)=kvs.map (·.1))(d:bC K G O (j.map (·.2)) (kvs.map (·.2)))(q:Den K G O v a):bC K G O ((putK j k v).map (·.2)) ((lS kvs k a).map (·.2)):=by
 unfold putK lS;rw[ac1 h];split
 ·exact Uy q h d
 ·rw[xU,xU];exact d.append (.cons q .nil)
noncomputable def lW(Z:aE):A->ar (ay×ak (Key×A))
 |.aI k=>match Z[k]? with
  |some (.bA kvs)=>aj (k,kvs)
  |_=>ao
 |_=>ao
theorem BX{H:Hp}{Z:aE}{v:V}{a:A}{k:ay}{kvs:ak (Key×A)}(w:Wd K G O Z H)(d:Den K G O v a)(h:lW Z a=aj (k,kvs)):∃p q,v=.ref p/\O[k]?=aj p/\G p=ao/\H p=aj (.dK q)/\q.map (·.1)=kvs.map (·.1)/\bC K G O (q.map (·.2)) (kvs.map (·.2)):=by
 cases a with
 |aI j =>
  simp only[lW]at h;split at h
  ·rename_i es e;cases h;simp only[Den]at d;obtain⟨p,rfl,z⟩:=d;obtain⟨g,q,U,N,B⟩:=w.aI k _ p e z;exact⟨p,q,rfl,z,g,U,N,B⟩
  ·cases h
 |_=>simp[lW]at h
theorem FE{Z:aE}{k:ay}{kvs:ak (Key×A)}(h:Z[k]?=aj (.bA kvs)):lW Z (.aI k)=aj (k,kvs):=by simp[lW,h]
end
section
variable{X:Cx}{W:WX}{o i e:bx}{pos:dk}{fo fi fe:Ev->Mo A}
@[simp] noncomputable def wQ:Ev->Mo A:=λ_ Z=>aj (.ok (.aI Z.length),Z++[.bA []])
theorem LP:VE X W (.Dict [] [] pos) wQ:=by
 refine⟨_,apG,λG q B H J z Q w r h=>?_⟩;intro p j;refine h _ _ G (q++[p]) (Ext.cell p) (w.cell j ⟨w.oQ j,[],eL,rfl,.nil⟩) ?_;simp only[Den];exact⟨p,rfl,by rw[<-w.len];simp⟩
@[simp] def Ji(o i:A):Mo A:=λZ=>match lW Z o,mF i with
 |some (_,kvs),aj k=>match hZ kvs k with
  |some a=>aj (.ok a,Z)
  |none=>ao
 |_,_=>ao
theorem agJ(K:X.A.units+1<e4)(M:VE X W o fo)(hi:VE X W i fi)(L:Mq i):VE X W (.Subscript o i pos) (aC Ji fo fi):=by
 obtain⟨t,F,s⟩:=M;obtain⟨u,p2,s2⟩:=hi;refine⟨_,apI K F p2 L,λG b d H J B Q w r h=>?_⟩;refine s G b d H J B _ w r (bP.mb h λx z v H1 G1 q f l V h1=>?_);refine s2 G1 q z H1 J B _ l (r.ext f) (bP.mb h1 λy c u H2 G2 j e N T h2=>?_);unfold Ji at h2;split at h2
 ·rename_i k0 I k S R;split at h2
  ·rename_i a P;obtain⟨p,ws,rfl,hk,g,E,D,C⟩:=BX N (V.ext e) S;obtain⟨U,n,m⟩:=(LR D C).1 a P;rw[NH T R];exact⟨p,U,rfl,by rw[<-n];exact qX.k E,h2 U H2 G2 j (Ext.refl _ _) N m⟩
  ·exact False.elim h2
 ·exact False.elim h2
@[simp] def Jh(o i z:A):Mo A:=λZ=>match lW Z o,mF i with
 |some (_,kvs),aj k=>aj (.ok ((hZ kvs k).getD z),Z)
 |_,_=>ao
def Ge(Z:aE)(a:A):Prop:=∃k kvs,lW Z a=aj (k,kvs)
open Classical in
@[simp] noncomputable def CZ(fo fi fe:Ev->Mo A):Ev->Mo A:=λY=>mb (fo Y) λo Z=>if Ge Z o then mb (fi Y) (λi=>mb (fe Y) λz=>Jh o i z) Z else ao
theorem Rf{af:dk}(hu:X.A.units+1<e4)(ho:VE X W o fo)(hi:VE X W i fi)(he:VE X W e fe)(m:M2 X o "get" af i e pos):VE X W (.Call (.Attribute o "get" af) [i,e] [] pos) (CZ fo fi fe):=by
 obtain⟨t,p1,s1⟩:=ho;obtain⟨u,p2,s2⟩:=hi;obtain⟨u',p3,V⟩:=he;refine⟨_,apH hu p1 p2 p3 m,λG K M H J N Q w r h=>?_⟩;refine s1 G K M H J N _ w r (bP.mb h λx d v H1 G1 b C D E h1=>?_);split at h1
 ·rename_i hd;obtain⟨k0,atX,e0⟩:=hd;obtain⟨p,P,rfl,hk,g,q1,q2,q3⟩:=BX D E e0;refine⟨p,rfl,.inl ⟨P,.inl q1⟩,?_⟩;refine s2 G1 b d H1 J N _ D (r.ext C) (bP.mb h1 λy c u H2 G2 U s R d2 h2=>?_);refine V G2 U c H2 J N _ R ((r.ext C).ext s) (bP.mb h2 λz L u3 F I q n f d3 j=>?_);unfold Jh at j;split at j
  ·rename_i k1 l k e1 e2;obtain⟨p',mT,BD,BI,g',r1,r2,r3⟩:=BX f (E.ext (s.trans n)) e1;cases BD;rw[NH (d2.ext n) e2];refine⟨lK mT k,qX.k r1,?_⟩;obtain⟨i1,i2⟩:=LR (k:=k) r2 r3;cases B:hZ l k with
   |none =>
    rw[B]at j;rw[i2 B];exact j _ F I q (Ext.refl _ _) f d3
   |some a =>
    rw[B]at j;obtain⟨v',T,S⟩:=i1 a B;rw[T];exact j _ F I q (Ext.refl _ _) f S
  ·exact False.elim j
 ·exact False.elim h1
@[simp] def TF(o i v:A)(Z:aE):ar aE:=match lW Z o,mF i with
 |some (k,kvs),aj key=>if kvs.length<bc then aj (Z.set k (.bA (lS kvs key v)))else ao
 |_,_=>ao
@[simp] def yH(fe fo fi:Ev->Mo A):MS:=λY=>sM (fe Y) Y λa=>sM (fo Y) Y λo=>sM (fi Y) Y λi Z=>match TF o i a Z with
 |some Z'=>aj (.nx,Y,Z')
 |none=>ao
theorem RX{pos':dk}(hu:X.A.units+1<e4)(ho:VE X W o fo)(hi:VE X W i fi)(he:VE X W e fe)(hs:ew e (aj (.Subscript o i pos')) pos.line X.env=pure au:=by rfl):VS X W (.Assign [.Subscript o i pos'] e pos) (yH fe fo fi):=by
 obtain⟨t,p1,R⟩:=ho;obtain⟨u,p2,s2⟩:=hi;obtain⟨u',V,Q⟩:=he;refine⟨_,aoC hu p1 p2 V hs,λG E K H J a D w r h=>?_⟩;refine Q G E K H J a _ w r (fK.sM h r λz l v H1 G1 d j P d1 h1=>?_);refine R G1 d l H1 J a _ P (r.ext j) (fK.sM h1 (r.ext j) λx f vo H2 G2 b N M d2 h2=>?_);refine s2 G2 b f H2 J a _ M ((r.ext j).ext N) (fK.sM h2 ((r.ext j).ext N) λy F vi H3 G3 C m s d3 U=>?_);unfold TF at U;split at U
 ·rename_i I B;split at B
  ·rename_i k q key e1 e2;split at B
   ·rename_i hl;cases B;obtain⟨p,L,rfl,hk,g,T,n,S⟩:=BX s (d2.ext m) e1;rw[NH d3 e2];have NM:L.length=q.length:=by have:=c3 List.length n;simpa using this
    refine⟨p,_,rfl,RN.k T (by rw[NM];exact hl),?_⟩;exact yN (s.put (c:=.bA (lS q key z)) hk g ⟨g,_,eL,anM n,anN n S (d1.ext (N.trans m))⟩) (((r.ext j).ext N).ext m) U
   ·cases B
  ·cases B
 ·exact False.elim U
noncomputable def intKeys:ak (Key×A)->ar (ak a5)
 |[]=>aj []
 |(.inl i,_)::r=>(intKeys r).map (i :: ·)
 |_=>ao
theorem Yd:∀{kvs:ak (Key×A)} {ns:ak a5},intKeys kvs=aj ns->kvs.map (·.1)=ns.map Sum.inl
 |[],ns,h=>by simp only[intKeys,kX]at h;subst h;rfl
 |(.inl i,_)::r,ns,h=>by
  simp only[intKeys,CD]at h;obtain⟨ms,h1,rfl⟩:=h;simp[Yd h1]
 |(.inr i,_)::r,ns,h=>by simp[intKeys]at h
@[simp] def Jc(c:br)(as:ak A):Mo A:=λZ=>match as with
 | [a]=>(match lW Z a with
  | some (_,kvs)=>(match intKeys kvs with
   |some ns=>if ns.length<4000 then mE c ((sortI ns).map A.int) Z else ao
   | none=>ao)
  | none=>ao)
 |_=>ao
theorem aGA(b:X.calm=ax)(c:br):zZ X W (.builtin "sorted") (Jc c):=by
 refine⟨_,aFZ b,?_⟩;intro G n o H J r u Q w d h;unfold Jc at h;split at h
 ·rename_i a;split at h
  ·rename_i k B e;split at h
   ·rename_i ns f;split at h
    ·rename_i m;obtain⟨x,rfl,i⟩:=JB d;obtain⟨p,j,rfl,t,g,z,q,s⟩:=BX w i e;refine⟨p,j,ns,rfl,z,by rw[q];exact Yd f,m,λms l U N hl=>?_⟩;rw[Tc U N];exact HY w hl (WR _) h
    ·exact False.elim h
   ·exact False.elim h
  ·exact False.elim h
 ·exact False.elim h
end
section
variable{X:Cx}{W:WX}{x:ba}{e:bx}{es:ak bx}{np gX pos:dk}{fs:Ev->Mo (ak A)}
@[simp] def Dp(x:ba)(f:Ev->Mo (ak A)):MS:=λY=>sM (f Y) Y λas Z=>if as.length<=bc then aj (.exc ⟨x,[]⟩,Y,Z)else ao
theorem af4{C:aw}(T:mO X W)(c:X.calm=ax)(ι:QM X.K C)(b:Gl X x)(hm:X.mg x=aj (.ref C))(d:cw X.K az x=aj (aj (.ref C)))(ha:VA X W (e::es) fs)
  (f:(x==("__debug__" : ba))=au:=by decide) (he:bg (e::es) X.env=(au,b9 e X.env)::bg es X.env:=by rfl) (g:(cx gX (bg (e::es) X.env)).any (·.1)=au:=by rfl) :
  VS X W (.Raise (aj (.Call (.Name x np) (e::es) [] gX)) ao pos) (Dp x fs):=by
 obtain⟨t,p,s⟩:=ha;refine⟨_,an6 T c ι b hm p f he g,λG z N H J q D w r h=>?_⟩;refine s G z N H J q _ w r (fK.sM h r λn B m k l j U a i h1=>?_);split at h1
 ·rename_i hl;exact⟨by rw[i.length];exact hl,h1 J k l j (Ext.refl _ _) a (r.ext U) _ _ ⟨⟨C,d,rfl⟩,.inl ⟨rfl,rfl⟩⟩⟩
 ·exact False.elim h1
end
def XX(X:Cx)(W:WX)(st:b7)(f:MS):Prop:=∃t,YF X st t/\rR X.K W t f
def CA(X:Cx)(W:WX)(st:ak b7)(f:MS):Prop:=∃t,vV X st t/\rR X.K W t f
section
variable{X:Cx}{W:WX}{st:b7}{rest:ak b7}{f g:MS}
theorem VS.v0(h:VS X W st f):XX X W st f:=let ⟨t,p,s⟩:=h; ⟨t,p.sI,s⟩
theorem gY.v0(h:gY X W rest f):CA X W rest f:=let ⟨t,p,s⟩:=h; ⟨t,p.sI,s⟩
theorem afZ(h1:XX X W st f)(h2:CA X W rest g):CA X W (st::rest) (aQ f g):=by
 obtain⟨t,q,j⟩:=h1;obtain⟨u,p2,s2⟩:=h2;exact⟨_,an1 q p2,To j s2⟩
end
def HF(K:bj)(W:WX)(f:MS):TS:=λD J H=>∃G O Z Y,Wd K G O Z H/\gH K G O J Y/\fK K W G O D (f Y Z)
theorem gY.zI{X:Cx}{W:WX}{st:ak b7}{f:MS}(h:gY X W st f):oW X st (HF X.K W f):=by
 obtain⟨t,p,s⟩:=h;exact λaa N J H D I ⟨G,z,B,j,w,r,q⟩=>p aa N J H D I (s G z B H J j D w r q)
theorem CA.zI{X:Cx}{W:WX}{st:ak b7}{f:MS}(h:CA X W st f):vV X st (HF X.K W f):=by
 obtain⟨t,p,s⟩:=h;exact λN J H D I ⟨G,z,B,j,w,r,q⟩=>p N J H D I (s G z B H J j D w r q)
noncomputable def PD(i:ay):OS->OS
 |some (.exc _,_,_)=>ao
 |some (o,Y,Z)=>aj (o,Y.set i ao,Z)
 |none=>ao
open Classical in
noncomputable def AO(i:ay)(sub:ba->br)(fb:MS)(fh:aw->Exc->MS):MS:=λY Z=>match fb Y Z with
 |some (.exc e,Y1,Z1)=>if sub e.cls=ax then(if hr:∃r,∀p,PD i (fh p e (Y1.set i (aj (.adr p))) Z1)=aj r then aj (Classical.choose hr)else ao)else ao
 |r=>r
theorem ahB{i:ay}{sub:ba->br}{fb:MS}{j:aw->Exc->MS}{Y Y1:Ev}{Z Z1:aE}{e:Exc}{r:Out×Ev×aE}(h:fb Y Z=aj (.exc e,Y1,Z1))(B:sub e.cls=ax)(hr:∀p,PD i (j p e (Y1.set i (aj (.adr p))) Z1)=aj r):AO i sub fb j Y Z=aj r:=by
 have q:∃r,∀p,PD i (j p e (Y1.set i (aj (.adr p))) Z1)=aj r:=⟨r,hr⟩;have z:=ZO q 0;rw[hr 0]at z;simp only[AO,h,B,jP];rw[dif_pos q,<-z]
theorem akJ{K:bj}{W:WX}{C:aw}{i:ay}{sub:ba->br}{fb:MS}{p:aw->Exc->MS}
  (hsub:∀n E,sub n=ax->cw K az n=aj (aj (.ref E))->cj K (.ref E) (.ref C)=aj ax) :
  rR K W (Sj (λW=>HF K W fb) (tH K C i (λx cls dx D J H=>∃e:Exc,(∃E,cw K az e.cls=aj (aj (.ref E))/\cls=.ref E)/\HF K tQ (p x e) D J H) Sl)) (AO i sub fb p):=by
 intro G y t H J s D w r h;refine⟨G,y,t,s,w,r,?_⟩;unfold AO at h
 revert h
 generalize fb s t=q;intro h
 match q,h with
 |none,h=>exact h
 |some (.nx,B,N),h=>exact h
 |some (.bk,B,N),h=>exact h
 |some (.ct,B,N),h=>exact h
 |some (.ret a,B,N),h=>exact h
 |some (.exc e,B,N),h =>
  simp only at h;split at h
  ·rename_i M;split at h
   ·rename_i hr;intro v S P o m A F cls dx L x R;obtain⟨⟨E,u,rfl⟩,_⟩:=L;refine⟨E,ax,rfl,hsub _ E M u,?_⟩;rw[a9 rfl];refine⟨e,⟨E,u,rfl⟩,P,o,N,B.set i (aj (.adr x)),A,F.set i (by simp only[Den]),?_⟩;have U:=ZO hr x
    revert U h
    generalize Classical.choose hr=Q;generalize p x e (B.set i (aj (.adr x))) N=I;intro h U
    match I,U with
    |some (.nx,b,c),U=>cases U;exact λj k l z d f g=>h (j.set i ao) k l z (m.trans d) f (g.unset i ao)
    |some (.bk,b,c),U=>cases U;exact λj k l z d f g=>h (j.set i ao) k l z (m.trans d) f (g.unset i ao)
    |some (.ct,b,c),U=>cases U;exact λj k l z d f g=>h (j.set i ao) k l z (m.trans d) f (g.unset i ao)
    |some (.ret a,b,c),U=>cases U;exact λj k l z d f g=>h (j.set i ao) k l z (m.trans d) f (g.unset i ao)
   ·exact False.elim h
  ·exact False.elim h
theorem af1{X:Cx}{W:WX}{C:aw}{i:ay}{n y:ba}{np pos vG:dk}{body:ak b7}{b₀:b7}{suite:ak b7}{sub:ba->br}{fb:MS}{j:aw->Exc->MS}(t:mM X)(B:X.ex=[])(c:XC X.K C)(U:Gl X y)(hm:X.mg y=aj (.ref C))(a:X.N.Nodup)(hi:X.N[i]?=aj n)(hl:X.env.scope.names.lookup n=aj .local)
  (hsub:∀n E,sub n=ax->cw X.K az n=aj (aj (.ref E))->cj X.K (.ref E) (.ref C)=aj ax)
  (hb:∀W,CA (X.nK (XE X W)) W body fb) (hh:∀(p:aw) (oe:c5) (e:Exc),(∃E,cw X.K az e.cls=aj (aj (.ref E))/\oe.cls=.ref E)->gY (X.sY p oe) tQ (b₀::suite) (j p e))
  (b:(y==("__debug__" : ba))=au:=by decide):XX X W (.Try body [.ExceptHandler (aj (.Name y np)) (aj n) (b₀::suite) vG] [] [] pos) (AO i sub fb j):=by
 refine⟨_,an3 t B (tb:=λW=>HF X.K W fb) (λW=>(hb W).zI) (aoS t c U hm a hi hl (ts:=λx cls d D J H=>∃e:Exc,(∃E,cw X.K az e.cls=aj (aj (.ref E))/\cls=.ref E)/\HF X.K tQ (j x e) D J H) (λx oe=>?_) aoR b),akJ hsub⟩;intro aa z J H D I ⟨e,he,q⟩;exact(hh x oe e he).zI aa z J H D I q
section
variable{P:bh}{w:bw}{K:bj}{mg:ba->ar aq}{base:b8}
theorem ZK.of0{x:ba}{st:b7}{N ps:ak ba}{k:ay}{b:MS}(h:HasFn K mg x st)(S:cY N ps (aR st))
  (bind:∀(kV doc pm:aq) (an:ar aw) (j ct:aq) (us:ak aq),us.length=ps.length->c7 (ea x x (iL st) (eM st) (aR st) .none kV doc pm an j ct) ⟨us,[]⟩=pure (ps.zip us))
  (U:∀(f:aw) (j:aq) (A:bu) (outer:ak Env) (s:av) (H:Hp) (E:XK),cL k (A.deeper (cy x (aR st) s.heap.objs.size f j)) ->
   CA (mL xY P w K mg base N x (aR st) f j A outer s H E).vA tQ (eM st) b):ZK P w K mg base x (k+1) ps (cV N.length b):=by
 refine Def.of0 h S bind (λz H Q E h=>h.1) λf j A outer s H z Q E hr B=>?_;obtain⟨t,p,q⟩:=U f j A outer s H E hr;exact⟨t,p,JI (E:=λ_ _ _=>cp) q B⟩
end
structure zK(K:bj)(rs ns:ak ba):Prop where
 xc:∀n∈ns,∀D,cw K az n=aj (aj (.ref D))->XC K D
 sub:∀n∈rs,∀m∈ns,∀D C,cw K az n=aj (aj (.ref D))->cw K az m=aj (aj (.ref C))->cj K (.ref D) (.ref C)=aj (n==m||m==("RankError" : ba))
 ve:∀n∈rs,∀D,cw K az n=aj (aj (.ref D))->cj K (.ref D) (.type "ValueError")=aj ax
 rn:∀n∈rs,n∈ns
noncomputable def rA(rs ns:ak ba)(n m:ba):ar br:=if n∈rs/\m∈ns then aj (n==m||m==("RankError" : ba))else ao
noncomputable def AD(rs:ak ba)(n:ba)(T:cz):ar br:=if n∈rs/\T = "ValueError" then aj ax else ao
theorem zK.own{K:bj}{rs ns:ak ba}(T:zK K rs ns)(n m:ba)(b:br)(D C:aw)(h:rA rs ns n m=aj b)(hn:cw K az n=aj (aj (.ref D)))(hm:cw K az m=aj (aj (.ref C))):et K (.ref D) (.ref C)=aj b:=by
 unfold rA at h;split at h
 ·rename_i q;cases h;exact at3 (T.xc _ (T.rn _ q.1) _ hn) (T.xc _ q.2 _ hm) (T.sub _ q.1 _ q.2 _ _ hn hm)
 ·cases h
theorem zK.bt{K:bj}{rs ns:ak ba}(T:zK K rs ns)(n:ba)(ρ:cz)(b:br)(D:aw)(h:AD rs n ρ=aj b)(hn:cw K az n=aj (aj (.ref D))):et K (.ref D) (.type ρ)=aj b:=by
 unfold AD at h;split at h
 ·rename_i q;cases h;obtain⟨q,rfl⟩:=q;exact at1 (T.ve _ q _ hn) at5
 ·cases h
noncomputable def QF(tb:ba->ar br):ak ba->ar br
 |[]=>aj au
 |m::r=>match tb m with
  |some ax=>aj ax
  |some au=>QF tb r
  |none=>ao
noncomputable def Jb:A->ar ba
 |.gl m=>aj m
 |_=>ao
def OQ:ak A->ar (ak ba)
 |[]=>aj []
 |a::r=>(Jb a).bind λm=>(OQ r).map λms=>m::ms
def isA(tb:ba->ar br)(j:cz->ar br):A->ar br
 |.gl m=>tb m
 |.ty T=>j T
 |.tup as=>(OQ as).bind (QF tb)
 |_=>ao
@[simp] def OV(p:aw)(tb:ba->ar br)(j:cz->ar br)(as:ak A):Mo A:=λZ=>match as with
 |[.adr q,a]=>if q=p/\j "ValueError" = aj ax then(match isA tb j a with
  |some b=>aj (.ok (.bl b),Z)
  | none=>ao)else ao
 |_=>ao
section
variable{K:bj}{rs ns:ak ba}{G:Hp}{O:ak aw}
theorem aBF:∀{as:ak A} {ms:ak ba} {xs:ak V},OQ as=aj ms->bC K G O xs as->∃cs:ak aw,xs=cs.map V.ref/\ms.map (λm=>cw K az m)=cs.map λC=>aj (aj (.ref C)):=by
 intro as
 induction as with
 |nil =>
  intro ms xs h d;cases h;simp only[bC]at d;subst d;exact⟨[],rfl,rfl⟩
 |cons a r ih =>
  intro ms xs h d;simp only[bC]at d;obtain⟨x,b,rfl,z,U⟩:=d;unfold OQ at h;rw[QN]at h;obtain⟨m,j,h⟩:=h;rw[CD]at h;obtain⟨nD,N,rfl⟩:=h;obtain⟨cs,rfl,q⟩:=ih N U;cases a with
  |gl y =>
   simp only[Jb,kX]at j;subst j;simp only[Den]at z;obtain⟨C,B,rfl⟩:=z;exact⟨C::cs,rfl,by rw[bU,bU,B,q]⟩
  |_=>cases j
theorem aHN(hT:zK K rs ns){n:ba}{D:aw}(hn:cw K az n=aj (aj (.ref D))):∀{ms:ak ba} {cs:ak aw} {b:br},ms.map (λm=>cw K az m)=cs.map (λC=>aj (aj (.ref C)))->QF (rA rs ns n) ms=aj b->kitAny K (.ref D) (cs.map Value.ref)=aj b:=by
 intro ms
 induction ms with
 |nil =>
  intro cs b e h;cases cs with
  |nil=>exact h
  |cons=>cases e
 |cons m r ih =>
  intro cs b e h;cases cs with
  |nil=>cases e
  |cons C cs =>
   simp only[bU,qT]at e;unfold QF at h;split at h
   ·rename_i q;cases h;simp only[bU,kitAny,hT.own _ _ _ _ _ q hn e.1]
   ·rename_i q;simp only[bU,kitAny,hT.own _ _ _ _ _ q hn e.1];exact ih e.2 h
   ·cases h
end
theorem Kj{X:Cx}{W:WX}{rs ns:ak ba}{p:aw}{oe:c5}{n:ba}(g:(p,oe)∈X.pn)(hT:zK X.K rs ns)(he:∃E,cw X.K az n=aj (aj (.ref E))/\oe.cls=.ref E):zZ X W (.builtin "isinstance") (OV p (rA rs ns n) (AD rs n)):=by
 refine⟨_,aF7 g,?_⟩;intro G c s H J u r Q w d h;obtain⟨E,B,N⟩:=he;unfold OV at h;split at h
 ·rename_i q a;split at h
  ·rename_i f;obtain⟨rfl,hv⟩:=f;split at h
   ·rename_i b e;obtain⟨x,y,rfl,U,j⟩:=PF d;simp only[Den]at U;subst U;have hr:n∈rs:=by
     unfold AD at hv;split at hv
     ·rename_i z;exact z.1
     ·cases hv
    refine⟨E,N,hT.xc _ (hT.rn _ hr) _ B,?_⟩;have fin:Q (.bl b) H:=h _ H G c (Ext.refl _ _) w (by simp only[Den]);rw[N];cases a with
    |gl m =>
     simp only[Den]at j;obtain⟨C,k,rfl⟩:=j;exact .inl ⟨C,b,rfl,hT.own _ _ _ _ _ e B k,fin⟩
    |ty T =>
     simp only[Den]at j;subst j;exact .inr (.inl ⟨T,b,rfl,hT.bt _ _ _ _ e B,fin⟩)
    |tup r =>
     simp only[Den]at j;obtain⟨a,t,rfl,i,dl⟩:=j;unfold isA at e;rw[QN]at e;obtain⟨ms,o,l⟩:=e;obtain⟨cs,rfl,q⟩:=aBF o dl;exact .inr (.inr ⟨a,cs,b,rfl,w.sub _ _ i,aHN hT B q l,fin⟩)
    |_=>cases e
   ·exact False.elim h
  ·exact False.elim h
 ·exact False.elim h
def mR(K:bj)(mg:ba->ar aq)(x:ba):Prop:=∃C,XC K C/\mg x=aj (.ref C)/\cw K az x=aj (aj (.ref C))
def YG(K:bj)(mg:ba->ar aq)(x:ba):Prop:=∃C,QM K C/\mg x=aj (.ref C)/\cw K az x=aj (aj (.ref C))
section
variable{X:Cx}{W:WX}{x y:ba}{e:bx}{es:ak bx}{np gX pos vG:dk}{fs:Ev->Mo (ak A)}
@[simp] def cG(x:ba):Ev->Mo A:=λ_=>ret (.gl x)
theorem AF(h:mR X.K X.mg x)(j:Gl X x)(hd:(x==("__debug__" : ba))=au:=by decide):VE X W (.Name x pos) (cG x):=by
 obtain⟨C,_,h1,h2⟩:=h;exact Rc j h1 h2 hd
theorem af3(T:mO X W)(q:X.calm=ax)(ι:YG X.K X.mg x)(j:Gl X x)(ha:VA X W (e::es) fs)
  (B:(x==("__debug__" : ba))=au:=by decide) (he:bg (e::es) X.env=(au,b9 e X.env)::bg es X.env:=by rfl) (N:(cx gX (bg (e::es) X.env)).any (·.1)=au:=by rfl) :
  VS X W (.Raise (aj (.Call (.Name x np) (e::es) [] gX)) ao pos) (Dp x fs):=by
 obtain⟨C,z,h1,h2⟩:=ι;exact af4 T q z j h1 h2 ha B he N
theorem af0{i:ay}{n:ba}{body:ak b7}{b₀:b7}{suite:ak b7}{rs ns:ak ba}{fb:MS}{j:aw->Exc->MS}(t:mM X)(U:X.ex=[])(c:mR X.K X.mg y)(a:Gl X y)(hT:zK X.K rs ns)(b:X.N.Nodup)(hi:X.N[i]?=aj n)(hl:X.env.scope.names.lookup n=aj .local)
  (hb:∀W,CA (X.nK (XE X W)) W body fb) (hh:∀(p:aw) (oe:c5) (e:Exc),(∃E,cw X.K az e.cls=aj (aj (.ref E))/\oe.cls=.ref E)->gY (X.sY p oe) tQ (b₀::suite) (j p e))
  (f:(y==("__debug__" : ba))=au:=by decide):XX X W (.Try body [.ExceptHandler (aj (.Name y np)) (aj n) (b₀::suite) vG] [] [] pos) (AO i (λz=>rA rs ns z y==aj ax) fb j):=by
 obtain⟨C,d,h1,h2⟩:=c;refine af1 t U d a h1 b hi hl (λz E q B=>?_) hb hh f;have q:rA rs ns z y=aj ax:=by simpa using q
 unfold rA at q;split at q
 ·rename_i hm;rw[<-q];exact hT.sub _ hm.1 _ hm.2 _ _ B h2
 ·cases q
end
theorem ET{α:Type}{P:α->Prop}:∀n∈([]:ak α),P n:=by simp
theorem dP{α:Type}{P:α->Prop}{a:α}{l:ak α}(h:P a)(t:∀n∈l,P n):∀n∈a::l,P n:=λn hn=>by
 rcases dU.mp hn with z|z
 ·exact z ▸ h
 ·exact t n z
theorem sJ{K:bj}{n:ba}{C:aw}{P:aw->Prop}(h:cw K az n=aj (aj (.ref C)))(p:P C):∀D,cw K az n=aj (aj (.ref D))->P D:=λD j=>by
 rw[h]at j;cases j;exact p
theorem fT{K:bj}{n m:ba}{C B:aw}{P:aw->aw->Prop}(h:cw K az n=aj (aj (.ref C)))(h':cw K az m=aj (aj (.ref B)))(p:P C B):∀D q,cw K az n=aj (aj (.ref D))->cw K az m=aj (aj (.ref q))->P D q:=λD q z j=>by
 rw[h]at z;rw[h']at j;cases z;cases j;exact p
theorem cP.ofN{P:bh}{w:bw}{K:bj}{mg:ba->ar aq}{base:b8}{x:ba}{k:ay}{ps:ak ba}{F:ak A->Mo A}(D:ZK P w K mg base x k ps F):cP P w K mg base x k ps (DP F):=by
 obtain⟨f,fd,h1,h2,e,c⟩:=D.ex;refine⟨f,fd,⟨λq H Q E h=>h.1,λA outer s H args us q Q E hr g hb r b=>?_⟩,h2,e,c⟩;refine uF (h1.run A outer s H args us q Q (λ_ _ _=>cp) hr g hb r ?_) λr s' z=>?_
 ·obtain⟨hl,G,B,j,ds,w,d,p⟩:=b;refine⟨hl,G,B,j,ds,w,d,?_⟩
  revert p
  unfold DP;generalize F ds j=U;intro p
  match U,p with
  |some (.ok a,N),p=>exact p
 ·cases r with
  |error ev=>exact False.elim z
  |ok v=>cases v <;> exact z
end V2
namespace L2
open PySem PySem.Spec PyProof.Rows
theorem cL.AI{k:ay}{A:bu}(r:cL k A):A.units+1<e4:=by have:=r.units;omega
end L2
namespace V2
theorem aGN:PySem.bootBuiltins "ValueError" = aj (.type "ValueError"):=by decide +kernel
end V2
namespace L2
open PySem PySem.Spec PyProof.Rows
theorem mM.vA{X:Cx}(t:mM X):mM X.vA:=⟨t.1,t.2,t.3⟩
theorem Sa{CX:pB}{P:bh}{w:bw}{K:bj}{mg:ba->ar aq}{base:b8}{N:ak ba}{qual:ba}{scope:cq}{f:aw}{j:aq}{A:bu}{outer:ak Env}{s:av}{H:Hp}{E:XK}:mM (mL CX P w K mg base N qual scope f j A outer s H E).vA:=mM.vA SJ
theorem ahU{CX:pB}{P:bh}{w:bw}{K:bj}{mg:ba->ar aq}{base:b8}{N:ak ba}{qual:ba}{scope:cq}{f:aw}{j:aq}{A:bu}{outer:ak Env}{s:av}{H:Hp}{E:XK}{W:WX} :
  mO ((mL CX P w K mg base N qual scope f j A outer s H E).vA.nK (XE (mL CX P w K mg base N qual scope f j A outer s H E).vA W)) W:=mO.of Sa rfl W
end L2
namespace M
open PySem V2
noncomputable section
def XD:MS :=
 (yH (aC cF (CZ bD bR dC) cQ) bD bR)
def acP:Ev->Mo A :=
 (wN au 1 [1] (jD (aX (Jc au) (aB bD a0))) (gN 0) AB (kK (aB aN (aB (aC Ji bD aN) a0))))
def XF:MS :=
 (aQ (bK wQ (gN 1))
  (aQ (iT (jD aN) (jG 2 (dN (gN 2) (dN (gN 3) jR))) XD)
  (cR acP)))
def ZF:ak A->Mo A:=cV 4 XF
end
end M
namespace L2
open PySem PySem.Spec PyProof.Rows
def Mn(ts:ak aw)(H:Hp):Prop:=∀b,H b=ao\/(∃o xs,H b=aj (.eR o (.lst xs)))\/(b∈ts/\H b=aj (.iS #[]))
def xZ(h:b8)(mg:ba->ar aq):Prop:=∃j o,mg "__builtins__" = aj (.ref j)/\j≠builtinsNs/\h.get? j=aj o/\o.cls=.type "module"/\o.dict=aj builtinsNs/\o.data=.plain
theorem atR{P:bh}{w:bw}{K:bj}{mg mb:ba->ar aq}{CX:pB}{k:ay}{fa a:aw}{fd:c4}{x:ba}{sp:Sp}{s₁:av}{vs:ak aq}{ns:ak a5}{ts:ak aw}
  (X:K.In s₁.heap) (BE:s₁.heap.Ns az mg) (hb:s₁.heap.Ns builtinsNs mb) (C:∀x:ba,x≠"__name__"->mb x=d6 x) (R:s₁.heap.NoLimit) (hg:s₁.gens=#[])
  (hT:∀P∈ts,s₁.heap.get? P=aj (tabObj #[])) (ON:noTabs K=ax) (Il:∀P∈ts,isCodeTable s₁.heap P)
  (ha:s₁.heap.get? a=aj {cls:=.type "list",data:=.seq vs.toArray}) (hi:c9 vs ns) (hl:ns.length<=bc) (hr:cL k callerA)
  (E:xZ s₁.heap mg) (F:∀base:b8,K.In base->base.Ns az mg->xZ base mg->jX P w K mg base CX k fa fd [x] sp) (EI:∀(s:av) (u:aq),BindsTo s fd ⟨[u],[]⟩ [(x,u)])
  (iE:∀H:Hp,Mn ts H->(∀P∈ts,H P=aj (.iS #[]))->fV K H a (ns.map V.int)->sp [.ref a] H (λv _=>v=.bl ax) λ_ _ _=>cp)
  (Ir:∀H e s',CX [] H s₁ (λ_ _ _=>cp) e s'->cp) :
  codeAny (bq P w) callerA (.call (.ref fa) ⟨[.ref a],[]⟩) (λr s'=>r=.ok (.ret (.bool ax))/\OldK s₁.heap s'.heap/\s'.os=s₁.os/\AllBare s'.gens) s₁:=by
 have rv:=SE hi;have S:=hi.length;have D:∀b∈ts,K.lookup b=ao:=λb L=>by
  cases q:K.lookup b with
  |none=>rfl
  |some o =>
   have e:=X b o q;rw[hT b L]at e;cases e;exact bz (show au=ax from FV.mp ON (b,_) (PySem.W.mem_of_lookupK q)) Pk
 have c:a∉ts:=λz=>by
  have e:=hT a z;rw[ha]at e;cases e
 have core:∀H:Hp,Mn ts H->(∀P∈ts,H P=aj (.iS #[]))->fV K H a (ns.map V.int)->fH P w H s₁.heap->(∀b,H b≠ao->b=a\/b∈ts)->(H a≠ao->K.lookup a=ao) ->
   codeAny (bq P w) callerA (.call (.ref fa) ⟨[.ref a],[]⟩) (λr s'=>r=.ok (.ret (.bool ax))/\OldK s₁.heap s'.heap/\s'.os=s₁.os/\AllBare s'.gens) s₁:=by
  intro H hO OL hS aH I hK;have T:∀{b:aw} {o:c5},s₁.heap.get? b=aj o->H b=ao->(xC s₁.heap H).get? b=aj o:=λe n=>ayN e n;have yP:∀{b:aw} {o:c5} {es:a8 DictEntry} {N:ay},s₁.heap.get? b=aj o->o.data=.dict es N->H b=ao:=λ{b o es N} e d=>by
   cases q:H b with
   |none=>rfl
   |some u =>
    rcases I b (by rw[q];simp)with j|j
    ·subst j;rw[ha]at e;cases e;have d':Data.seq vs.toArray _=Data.dict es N:=d;cases d'
    ·rw[hT b j]at e;cases e;have d':Data.fields #[]=Data.dict es N:=d;cases d'
  have t:∀{b:aw} {m:ba->ar aq},s₁.heap.Ns b m->(xC s₁.heap H).Ns b m:=λ{b m} ⟨o,es,N,e,d,r⟩=>⟨o,es,N,T e (yP e d),d,r⟩
  have f:K.In (xC s₁.heap H):=λb o e=>T (X b o e) (by
   cases q:H b with
   |none=>rfl
   |some u =>
    rcases I b (by rw[q];simp)with j|j
    ·subst j;rw[hK (by rw[q];simp)]at e;cases e
    ·rw[D b j]at e;cases e)
  have hM:Mod K mg (xC s₁.heap H):=⟨f,t BE,⟨mb,t hb,C⟩,let ⟨mc,h1,h2⟩:=R; ⟨mc,t h1,h2⟩⟩;have e0:zX P w K mg (xC s₁.heap H) callerA [] s₁ H:=⟨rfl,hM,λb o e=>aqX e,Nat.le_of_eq (ayM _ _),trivial,λb hb=>bz (show b∈([]:ak aw)from hb) (by simp),aH,.of_eq hg⟩;have G:xZ (xC s₁.heap H) mg:=by
   obtain⟨p,o,b1,b2,i,Q,b5,b6⟩:=E;refine⟨p,o,b1,b2,T i ?_,Q,b5,b6⟩;cases q:H p with
   |none=>rfl
   |some u =>
    rcases I p (by rw[q];simp)with j|j
    ·subst j;rw[ha]at i;cases i;exact bz (show Value.type "list" = Value.type "module" from Q) (by decide)
    ·rw[hT p j]at i;cases i;cases Q
  refine uF ((F _ f (t BE) G).run callerA [] s₁ H ⟨[.ref a],[]⟩ [.ref a] [.ref a] _ _ hr e0 (EI s₁ (.ref a)) (.cons rfl .nil) (iE H hO OL hS)) λr s' h=>?_;cases r with
  |error e=>exact(Ir H e s' h).elim
  |ok fl =>
   cases fl with
   |next=>exact False.elim h
   |brk=>exact False.elim h
   |cont=>exact False.elim h
   |ret u =>
    obtain⟨v,H',os,bare,un,VD,r',q⟩:=h;have q':v=.bl ax:=q;subst q';obtain rfl:u=Value.bool ax:=r';have key:∀b o,s₁.heap.get? b=aj o->s'.heap.get? b=aj o\/(b∈ts/\∃more,s'.heap.get? b=aj {o with data:=.fields (#[]++more)}):=λb o e=>by
     cases q:H b with
     |none=>exact .inl (un.keep b o e q (by intro z;exact bz (show b∈([]:ak aw)from z) (by simp)) (by simp))
     |some u =>
      rcases hO b with z|⟨ob,xs,z⟩|⟨U,z⟩
      ·rw[q]at z;cases z
      ·have y:=un.mJ b ob _ z;obtain⟨e1,_⟩:=aH b _ z;obtain⟨M,_⟩:=VD b _ y;rw[e]at e1;cases e1;exact .inl M
      ·obtain⟨more,y⟩:=un.nM b _ z;have M:=VD b _ y;have e3:s'.heap.get? b=aj {cls:=.none,data:=.fields (#[]++more)}:=M;have g:=hT b U;rw[e]at g;cases g;exact .inr ⟨U,more,e3⟩
    refine⟨rfl,⟨λb o e=>?_,λb o e=>?_⟩,os,bare⟩
    ·rcases key b o e with z|⟨U,more,z⟩
     ·exact .inl z
     ·have g:=hT b U;rw[e]at g;cases g;exact .inr (.inl ⟨Il b U,rfl,#[],more,rfl,z⟩)
    ·rcases key b o e with z|⟨U,more,z⟩
     ·exact⟨_,z⟩
     ·exact⟨_,z⟩
 have tk:∀b∈ts,iG P w (λb=>if b=a then aj (.eR {cls:=.type "list",data:=.seq vs.toArray} (.lst (ns.map V.int)))else if b∈ts then aj (.iS #[])else ao) s₁.heap b (.iS #[]):=λb L=>hT b L;cases A:K.lookup a with
 |some o =>
  have e:=X a o A;rw[ha]at e;cases e;refine core (λb=>if b∈ts then aj (.iS #[])else ao) (λb=>?_) (λP l=>a9 l) (.inr ⟨_,vs.toArray,_,A,rfl,rfl,rfl,by rw[mP,S];exact hl,by simpa using rv⟩) (λb u z=>?_) (λb z=>?_) λz=>?_
  ·by_cases hb:b∈ts
   ·exact .inr (.inr ⟨hb,a9 hb⟩)
   ·exact .inl (bf hb)
  ·by_cases hb:b∈ts
   ·have B:=(a9 hb).symm.trans z;cases B;exact hT b hb
   ·have B:=(bf hb).symm.trans z;cases B
  ·by_cases hb:b∈ts
   ·exact .inr hb
   ·exact bz (bf hb) z
  ·exact bz (bf c) z
 |none =>
  refine core (λb=>if b=a then aj (.eR {cls:=.type "list",data:=.seq vs.toArray} (.lst (ns.map V.int)))else if b∈ts then aj (.iS #[])else ao) (λb=>?_) (λP l=>?_) (.inl (.inr ⟨{cls:=.type "list",data:=.seq vs.toArray},a9 rfl⟩)) (λb u z=>?_) (λb z=>?_) λ_=>A
  ·by_cases hb:b=a
   ·exact .inr (.inl ⟨_,_,a9 hb⟩)
   ·by_cases jQ:b∈ts
    ·exact .inr (.inr ⟨jQ,(bf hb).trans (a9 jQ)⟩)
    ·exact .inl ((bf hb).trans (bf jQ))
  ·have gU:P≠a:=λz=>c (z ▸ l);exact(bf gU).trans (a9 l)
  ·by_cases hb:b=a
   ·have B:=(a9 hb).symm.trans z;cases B;subst hb;exact⟨ha,by rw[lI];exact hl,vs,_,rv,ha⟩
   ·by_cases jQ:b∈ts
    ·have B:=((bf hb).trans (a9 jQ)).symm.trans z;cases B;exact hT b jQ
    ·have B:=((bf hb).trans (bf jQ)).symm.trans z;cases B
  ·by_cases hb:b=a
   ·exact .inl hb
   ·by_cases jQ:b∈ts
    ·exact .inr jQ
    ·exact bz ((bf hb).trans (bf jQ)) z
theorem afV{l:OpenLaw}{n k:ay}{q:bh}{loose:ak ba}{XP:(ba->ar aq)->b8->Prop}{YP:bw->b8->Prop}{d:DefRec}{K:Params->bj}{CX:bw->pB}{sp:bw->Sp}{x:ba}{ts:ak aw}
  (hn:l.most=aj n) (B:n<=bc) (Q:d.params.defaults=[]) (hr:cL k callerA)
  (m:∀(w:bw) (h:b8),YP w h->(K w.params).In h/\∀P∈ts,h.get? P=aj (tabObj #[]))
  (L:∀w:bw,noTabs (K w.params)=ax)
  (F:∀(w:bw) (mg:ba->ar aq) (fa:aw) (h:b8),(K w.params).In h->h.Ns az mg->mg d.name=aj (.ref fa) ->
   ∃fd:c4,(∀(s:av) (u:aq),BindsTo s fd ⟨[u],[]⟩ [(x,u)])/\(∀P∈ts,∃c,codeHdIn (K w.params) c P=ax) /\
    ∀base:b8,(K w.params).In base->base.Ns az mg->xZ base mg->jX l.prog w (K w.params) mg base (CX w) k fa fd [x] (sp w))
  (N:∀(w:bw) (H:Hp) (a:aw) (ns:ak a5),ns.length<=n->Mn ts H->(∀P∈ts,H P=aj (.iS #[]))->fV (K w.params) H a (ns.map V.int)->sp w [.ref a] H (λv _=>v=.bl ax) λ_ _ _=>cp)
  (S:∀(w:bw) (H:Hp) (s:av) (e:aq) (s':av),CX w [] H s (λ_ _ _=>cp) e s'->cp) :
  PySem.W.WalkO q loose XP YP l.row.toRowW d [] (λf vs=>PySem.call f vs):=by
 refine Att.aHI hn Q λw s₀ s₁ mg mb fa o pm cd doc a vs ns G ρ ho hd gM R Gz hints hlen U=>?_;obtain⟨j,hT⟩:=m w _ ρ;obtain⟨fd,hb,X,r⟩:=F w mg fa _ j G.T.g R;refine atR j G.T.g G.T.b G.T.builtins G.T.nolimit U hT (L w) (λP z=>?_) Gz hints (rV hlen B) hr (let ⟨t,ob,I,E,D,C,A,y⟩:=G.T.bmain; ⟨t,ob,I,E,D,C,A,y⟩) r hb (λH p M hS=>N w H a ns hlen p M hS) λH e s'=>S w H s₁ e s';obtain⟨c,i⟩:=X P z;exact((PySem.W.codeHd_of_K j i).tab (hT P z)).isCodeTable
structure xW(h:b8)(H:Hp)(f:aw)(qual:ba)(params:dh)(body:bx)(scope:cq)(dD:ak (ba×a5)):Prop where
 ex:∃(cl:ak (ba×aw)) (pm gG:aq) (c':aw) (oc:c5) (vs:a8 aq) (t:Tok),
  H f=aj (.eR (kla_obj "<lambda>" qual params body scope cl pm c' gG) (.own 0))/\H c'=aj (.eR oc (.own 0))/\oc.data=.fields vs/\vs[1]?=aj (.str qual t) /\
  (∀x y c,cl.lookup x=aj c->cl.lookup y=aj c->x=y)/\(∀y∈scope.names,y.2=.free->∃c,cl.lookup y.1=aj c) /\
  (∀x c,cl.lookup x=aj c->(∃v,h.IsCell c v)/\H c=ao)/\∀p∈dD,∃c t,cl.lookup p.1=aj c/\h.IsCell c (aj (.int p.2 t))
theorem xW.nN{h h':b8}{H H':Hp}{f:aw}{qual:ba}{params:dh}{body:bx}{scope:cq}{dD:ak (ba×a5)}{fs:ak aw}(L:xW h H f qual params body scope dD)(u:Un fs [] H H' h h'):xW h' H' f qual params body scope dD:=by
 obtain⟨cl,pm,m,r,a,N,t,h1,h2,l,k,i,g,B,d⟩:=L.ex;have cell:∀{x c v},cl.lookup x=aj c->h.IsCell c v->h'.IsCell c v:=λ{x c v} e ⟨o,z,hd⟩=>by
  obtain⟨sl,q⟩:=u.any z (B x c e).2 (by simp);exact⟨_,q,hd⟩
 refine⟨cl,pm,m,r,a,N,t,u.mJ _ _ _ h1,u.mJ _ _ _ h2,l,k,i,g,λx c e=>?_,λp b=>?_⟩
 ·obtain⟨⟨v,j⟩,n⟩:=B x c e;obtain⟨o,z,_⟩:=id j;exact⟨⟨v,cell e j⟩,u.free _ _ z n (by simp)⟩
 ·obtain⟨c,U,e,j⟩:=d p b;exact⟨c,U,e,cell e j⟩
noncomputable def BV(P:bh)(w:bw)(K:bj)(mg:ba->ar aq)(base:b8)(N:ak ba)(qual:ba)(scope:cq)(f:aw)(j:aq)(cl:ak (ba×aw))(A:bu)(outer:ak Env)(s:av)(H:Hp):Cx where
 prog:=P
 w:=w
 K:=K
 mg:=mg
 base:=base
 A:=A.deeper (envX qual scope s.heap.objs.size f j cl)
 N:=N
 s₀:=s
 H₀:=H
 env:=envX qual scope s.heap.objs.size f j cl
 outer:=outer
 stack:=envX qual scope s.heap.objs.size f j cl::outer
 ex:=[]
 calm:=ax
 fn:=λ_=>au
 pn:=[]
 xe:=λ_ _=>cp
structure KH(scope:cq)(y:ba)(cs:ak ba):Prop where
 kind:scope.kind=.function
 co:scope.isCoroutine=au
 gen:scope.isGenerator=au
 Wm:∀x∈scope.names,x.2≠.cell
 par:scope.names.lookup y=aj .local
 WV:∀x∈cs,scope.names.lookup x=aj .free
section
variable{P:bh}{w:bw}{K:bj}{mg:ba->ar aq}{base:b8}{A:bu}{outer:ak Env}{s:av}{H:Hp}
theorem atV{f:aw}{qual:ba}{params:dh}{body:bx}{scope:cq}{dD:ak (ba×a5)}{y:ba}{u:aq}{v:V}{Q:VK}{E:XK}{k:ay}
  (hr:cL (k+1) A) (j:zX P w K mg base A outer s H) (L:xW s.heap H f qual params body scope dD) (S:KH scope y (dD.map (·.1)))
  (EI:∀cl n c' D,c7 (kla_fn "<lambda>" qual params body scope cl n (.ref c') D) ⟨[u],[]⟩=pure [(y,u)]) (rv:RelV v u)
  (hb:∀cd cl,∃te,PE (BV P w K mg base (y::dD.map (·.1)) qual scope f cd cl A outer s H) body te/\te (aj v::dD.map λp=>aj (.int p.2)) H Q) :
  codeAny (bq P w) A (.call (.ref f) ⟨[u],[]⟩) (CR xY outer P w H s Q E) s:=by
 obtain⟨cl,n,D,c',M,X,t,h1,h2,h3,h4,h5,h6,R,h8⟩:=L.ex;have of:s.heap.get? f=aj (kla_obj "<lambda>" qual params body scope cl n c' D):=(j.aH f _ h1).1;have r:s.heap.get? c'=aj M:=(j.aH c' _ h2).1;have lim:s.heap.NoLimit:=j.mod.nolimit.keeps λb o e=>(j.bs b o e).1;refine PySem.W.kla_callFunE (by have:=hr.dp;omega) of rfl S.co S.gen rfl ⟨c',M,X,t,rfl,r,h3,h4⟩ ?_;rw[EI];refine bG (wpAny_newFunctionEnv S.Wm (λx B=>by rw[lN.mp B];exact S.par) (λN BE oK=>?_) S.kind);have d:∀b o,s.heap.get? b=aj o->N.get? b=aj o:=λb o e=>oK.extBut b o (fS (dS e)) (eI _ e);refine⟨lim.keeps d,?_⟩;show codeAny _ _ (.expr body (envX qual scope s.heap.objs.size f (.ref c') cl)) _ _;obtain⟨te,pe,hq⟩:=hb (.ref c') cl;have l:∀b:aw,b∉(BV P w K mg base (y::dD.map (·.1)) qual scope f (.ref c') cl A outer s H).ex:=λb z=>bz (show b∈([]:ak aw)from z) (by simp);have I:Inv (BV P w K mg base (y::dD.map (·.1)) qual scope f (.ref c') cl A outer s H) [] (aj v::dD.map λp=>aj (.int p.2)) H {s with heap:=N,toks:=s.toks+1}:=by
  refine⟨⟨j.mod,S.kind,rfl,rfl,oX _,h5,λx B=>?_,λx c z=>(by cases z),λ_=>hr.hd,Around.frames_deeper j.frames,.inr ⟨rfl,rfl⟩,λb z=>bz z (l b),j.bs,j.rK,λb _ _=>l b,λb z=>bz z (l b),j.oU,j.uB⟩,
   rfl,j.bare,Un.kept d,⟨_,BE,λi x a T h e3=>?_⟩,λx c e=>?_,j.aH.fresh cX,λx c e=>(R x c e).2,λp g=>bz (show p∈([]:ak (aw×c5))from g) (by simp),j.aH.kept d,?_⟩
  ·have B:scope.names.lookup x=aj .cell\/scope.names.lookup x=aj .free:=B
   rcases B with B|B
   ·exact bz rfl (S.Wm _ (PySem.mem_of_lookup B))
   ·exact h6 _ (PySem.mem_of_lookup B) rfl
  ·cases i with
   |zero =>
    have U:y=x:=by simpa[BV]using T
    have F:v=a:=by simpa using h
    subst U F;exact⟨u,rv,.inl ⟨S.par,by simp⟩⟩
   |succ i =>
    have U:(dD.map (·.1))[i]?=aj x:=by simpa[BV]using T
    rw[jV]at U;simp only[QR,jV]at h;cases q:dD[i]? with
    |none=>rw[q]at U;cases U
    |some p =>
     rw[q]at U h;have Jz:p.1=x:=kY U;have F:V.int p.2=a:=kY (kY h);subst Jz F;have g:p∈dD:=mQ q;obtain⟨c,G,ec,C⟩:=h8 p g;exact⟨.int p.2 G,⟨G,rfl⟩,.inr ⟨.inr (S.WV _ (YT g)),c,ec,C.keeps d⟩⟩
  ·obtain⟨⟨a,C⟩,_⟩:=R x c e;exact⟨a,C.keeps d⟩
  ·simp[BV]
 refine PySem.W.kla_codeExpr (mU (pe [] _ _ H Q I hq) (λa s' h'=>?_) λe s' h'=>h'.elim);obtain⟨x,H',σ,m,q⟩:=h';exact⟨x,H',σ.os,σ.bare,σ.base,σ.aH,m,q⟩
end
end L2
namespace V2
open PySem PySem.Spec PyProof.Rows L2
@[simp] noncomputable def vB(m:Mo A):Mo A:=λZ=>match m Z with
 |some (.exc _,_)=>ao
 |r=>r
@[simp] def tT(fb:Ev->Mo A)(ns:ak a5):A->Mo A:=λa=>vB (fb (aj a::ns.map λn=>aj (.int n)))
open Classical in
@[simp] noncomputable def Ak(i:ay)(lf:aw)(g:A->Mo A)(fa:Ev->Mo A):Ev->Mo A:=λY=>match (Y[i]?).join with
 |some (.adr q)=>if q=lf then mb (fa Y) g else stuck
 |_=>stuck
def aeB(P:bh)(w:bw)(K:bj)(mg:ba->ar aq)(base:b8)(qual:ba)(body:bx)(scope:cq)(y:ba)(cs:ak ba)(fb:Ev->Mo A):Prop :=
 ∀(f:aw) (j:aq) (cl:ak (ba×aw)) (A:bu) (outer:ak Env) (s:av) (H:Hp),cL 0 (A.deeper (envX qual scope s.heap.objs.size f j cl)) ->
  VE (BV P w K mg base (y::cs) qual scope f j cl A outer s H) tQ body fb
section
variable{X:Cx}{W:WX}{e:bx}{fa:Ev->Mo A}{p pos:dk}
theorem agC{i:ay}{z:ba}{U:aw}{qual:ba}{params:dh}{body:bx}{scope:cq}{dD:ak (ba×a5)}{y:ba}{fb:Ev->Mo A}
  (hex:X.ex=[]) (L0:xW X.s₀.heap X.H₀ U qual params body scope dD) (S:KH scope y (dD.map (·.1))) (hr:cL 1 X.A)
  (EI:∀(u:aq) cl pm c' gG,c7 (kla_fn "<lambda>" qual params body scope cl pm (.ref c') gG) ⟨[u],[]⟩=pure [(y,u)])
  (hV:aeB X.prog X.w X.K X.mg X.base qual body scope y (dD.map (·.1)) fb)
  (hN:X.N[i]?=aj z) (hv:QG X.env.scope z) (he:VE X W e fa) (hd:(z==("__debug__" : ba))=au:=by decide) (gM:(z==("__classdict__" : ba))=au:=by decide)
  (iX:bg [e] X.env=[(au,b9 e X.env)]:=by rfl) :
  VE X W (.Call (.Name z p) [e] [] pos) (Ak i U (tT fb (dD.map (·.2))) fa):=by
 obtain⟨t,p1,L⟩:=he;refine⟨λJ H Q=>J[i]?=aj (aj (.ref U))/\t J H λv c=>∀(f:aw) (m:aq) (cl:ak (ba×aw)) (A:bu) (outer:ak Env) (s:av),cL 0 (A.deeper (envX qual scope s.heap.objs.size f m cl)) ->
   ∃C,PE (BV X.prog X.w X.K X.mg X.base (y::dD.map (·.1)) qual scope f m cl A outer s c) body C/\C (aj v::dD.map λp=>aj (.int p.2)) c Q,?_,?_⟩
 ·intro aa s J H Q I ⟨M,ht⟩;refine yB (bM (Ef hN hv hd gM aa s J H (λv c=>v=.ref U/\c=H) I ⟨_,M,rfl,rfl⟩) λfv s0 ⟨v0,H0,I0,r0,e0,e1⟩=>?_);subst e0 e1;cases r0;have fnAt:∀{aa:ak (aw×c5)} {J:L2.St} {H:Hp} {s:av},Inv X aa J H s->xW s.heap H U qual params body scope dD/\PySem.W.FnAt U s.heap:=λ{aa J H s} σ=>by
   have u:=σ.base;rw[hex]at u;have La:=L0.nN u;obtain⟨cl,pm,gG,c',oc,vs,t,h1,_⟩:=La.ex;exact⟨La,⟨_,_,_,_,(σ.aH _ _ h1).1⟩⟩
  refine PySem.W.callWith_F (fnAt I0).2 ?_ iX rfl;rw[iX];refine LG (bM (p1 aa s0 J H0 _ I0 ht) λu L ⟨v,c,D,r1,q1⟩=>?_);refine RO ⟨(fnAt D).2,?_⟩;refine GR (uF (atV (E:=λ_ _ _=>cp) (k:=0) hr D.IX (fnAt D).1 S (EI u) r1 λm cl=>q1 U m cl X.A X.stack L (hr.deeper _)) λr s' B=>?_);cases r with
  |error ev=>exact False.elim B
  |ok fl =>
   cases fl with
   |ret u=>exact D.after B
   |next=>exact False.elim B
   |brk=>exact False.elim B
   |cont=>exact False.elim B
 ·intro G O Z H J T Q w r h;simp only[Ak]at h;cases q:(T[i]?).join with
  |none=>rw[q]at h;exact False.elim h
  |some d =>
   rw[q]at h;cases d with
   |adr q0 =>
    simp only at h
    by_cases B:q0=U
    ·rw[a9 B]at h;subst B;obtain⟨v,P,Yp⟩:=r.2 i _ (join_some q);simp only[Den]at Yp;subst Yp;refine⟨P,L G O Z H J T _ w r (bP.mb h λa g v c G1 o x1 w1 d1 h1=>?_)⟩;intro f m cl A outer s R;obtain⟨C,pe,sm⟩:=hV f m cl A outer s c R;refine⟨C,pe,sm G1 o g c _ (aj a::(dD.map (·.2)).map λn=>aj (.int n)) Q w1 ?_ ?_⟩
     ·refine⟨by simp,λj d l=>?_⟩;cases j with
      |zero=>simp at l;subst l;exact⟨v,rfl,d1⟩
      |succ j =>
       simp only[QR,jV]at l ⊢;cases V:dD[j]? with
       |none=>rw[V]at l;cases l
       |some pp =>
        rw[V]at l;have:V2.A.int pp.2=d:=kY (kY l);subst this;exact⟨.int pp.2,rfl,by simp only[Den]⟩
     ·have h2:bP X.K (Den X.K) W G1 o J Q (vB (fb (aj a::(dD.map (·.2)).map λn=>aj (.int n))) g):=h1
      revert h2
      simp only[vB];generalize fb (aj a::(dD.map (·.2)).map λn=>aj (.int n)) g=r2;intro h2
      match r2,h2 with
      |some (.ok b,F),h2=>exact h2
      |some (.exc x,F),h2=>exact False.elim h2
      |none,h2=>exact h2
    ·rw[bf B]at h;exact False.elim h
   |_=>exact False.elim h
end
end V2
namespace L2
open PySem PySem.Spec PyProof.Rows
def Ox(X:Cx)(scope:cq)(cl:ak (ba×aw)):Prop:=(∀x c,cl.lookup x=aj c->X.env.cells.lookup x=aj c)/\∀y∈scope.names,y.2=.free->∃c,cl.lookup y.1=aj c
abbrev EB(qual:ba)(params:dh)(body:bx)(scope:cq)(cl:ak (ba×aw))(j:aq)(c':aw)(q:aq):HO:=.eR (kla_obj "<lambda>" qual params body scope cl j c' q) (.own 0)
def Bg(X:Cx)(P:aw)(qual:ba)(params:dh)(body:bx)(scope:cq)(dM:dk):TE:=λ_ H Q=>∃ps,H P=aj (.iS ps)/\TriplesOk ps.toList /\
 ((codeAmong dM ps.toList=ao/\∀cl,Ox X scope cl->∀f c' j vs t q z,H f=ao->H c'=ao->c'≠f->j.data=.fields vs->vs[1]?=aj (.str qual t) ->
   Q (.ref f) (upd (upd (upd H c' (.eR j (.own 0))) P (.iS (ps ++ #[cm dM.line,cm dM.col,.ref c']))) f (EB qual params body scope cl q c' z))) \/
(∃c',codeAmong dM ps.toList=aj (.ref c')/\∀cl,Ox X scope cl->∀f pm gG,H f=ao->Q (.ref f) (upd H f (EB qual params body scope cl pm c' gG))))
section
variable{X:Cx}
theorem apB{params:dh}{body:bx}{scope:cq}{dM:dk}{c P:aw}{qual:ba}(IQ:X.env.code=.ref c)(hq:X.env.qual ++ "<lambda>" = qual)(OO:codeHdIn X.K c P=ax)(hB:xZ X.base X.mg)
  (OF:defaultsOf params X.env=([],[])) (zC:∀y∈scope.names,y.2=.free->X.env.kindOf y.1=aj .cell\/X.env.kindOf y.1=aj .free):PE X (.Lambda params body scope dM) (Bg X P qual params body scope dM):=by
 intro aa s J H Q I h;obtain⟨g,B,M,h⟩:=h;obtain⟨cl,fR,S,L⟩:=ab1 (scope:=scope) (env:=X.env) λy hy hf=>I.ok.has y.1 (zC y hy hf);have k:s.heap.get? P=aj (tabObj g):=I.aH P _ B;have C:PySem.W.CodeHd s.heap c P:=PySem.W.codeHd_of_K I.fF OO;have R:s.heap.Ns az X.mg:=I.mod.glob.keeps I.bk;obtain⟨og,es,ep,eg,dg,rg⟩:=id I.mod.glob;have x:az≠P:=λq=>by
  have:=(I.bs _ _ eg).2;rw[q,B]at this;cases this
 obtain⟨D,ob,b1,b2,r,b4,b5,E⟩:=hB;have A:D≠P:=λq=>by
  have:=(I.bs _ _ r).2;rw[q,B]at this;cases this
 have Ie:D≠az:=λq=>by
  rw[q,eg]at r;cases r;rw[dg]at E;cases E
 have hb:s.heap.BuiltinsAt X.mg P:=⟨D,ob,b1,b2,Ie,A,I.bk _ _ r,b4,b5,E⟩;refine PySem.W.kla_eval OF ?_;rw[hq]
 rcases h with⟨hn,h⟩|⟨j,hn,h⟩
 ·refine PySem.W.kla_makeFunction (mg:=X.mg) fR I.ok.glob R IQ C k M hn x hb λj l h' tk p T bW F Yt=>?_;obtain⟨V,f,vs,t,e2,NR,hd,hv⟩:=F;cases e2;have U:H j=ao:=I.aH.fresh T;have Ib:j≠P:=λq=>by rw[q,B]at U;cases U
  have ne:∀b o,s.heap.get? b=aj o->b≠j:=λb o e z=>by
   have:=dS e;rw[z]at this;exact bz (lG this T) (Nat.lt_irrefl _)
  have at':∀b,b≠P->b≠j->upd (upd H j (.eR f (.own 0))) P (.iS (g ++ #[cm dM.line,cm dM.col,.ref j])) b=H b:=λb h1 h2=>by rw[bE h1,bE h2]
  have un:Un (jA X.stack) [] H (upd (upd H j (.eR f (.own 0))) P (.iS (g ++ #[cm dM.line,cm dM.col,.ref j]))) s.heap h':=by
   refine⟨λb o e n _ _=>p b o (λz=>by rw[z,B]at n;cases n) e,λb o e n _ _=>⟨o.slots,p b o (λz=>by rw[z,B]at n;cases n) e⟩,λb o e n _=>?_,λb o e _=>?_,λb xs e=>?_,λb o u e=>?_,λb qs e=>?_⟩
   ·rw[at' b (λz=>by rw[z,B]at n;cases n) (ne b o e)];exact n
   ·by_cases N:b=P
    ·subst N;exact⟨_,Yt⟩
    ·exact⟨o,p b o N e⟩
   ·rw[at' b (λz=>by rw[z,B]at e;cases e) (iW e U)];exact e
   ·rw[at' b (λz=>by rw[z,B]at e;cases e) (iW e U)];exact e
   ·by_cases N:b=P
    ·subst N;rw[B]at e;cases e;exact⟨_,eL⟩
    ·exact⟨#[],by rw[at' b N (iW e U),e];simp⟩
  have aH:fH X.prog X.w (upd (upd H j (.eR f (.own 0))) P (.iS (g ++ #[cm dM.line,cm dM.col,.ref j]))) h':=λb u e=>by
   by_cases N:b=P
   ·subst N;rw[eL]at e;cases e;exact Yt
   ·rw[bE N]at e
    by_cases jQ:b=j
    ·subst jQ;rw[eL]at e;cases e;exact⟨NR,f,NR⟩
    ·rw[bE jQ]at e;refine(I.aH b u e).nN (λd v OH q=>p d v (λz=>?_) q) (λd q=>?_) (λd xs q=>?_)
     ·subst z
      rcases OH with z|z
      ·exact N z.symm
      ·rw[B]at z;cases z
     ·rw[at' d (λz=>by rw[z,B]at q;cases q) (iW q U)];exact q
     ·rw[at' d (λz=>by rw[z,B]at q;cases q) (iW q U)];exact q
  have I1:Inv X aa J (upd (upd H j (.eR f (.own 0))) P (.iS (g ++ #[cm dM.line,cm dM.col,.ref j]))) {s with heap:=h',toks:=tk}:=I.JG (s':={s with heap:=h',toks:=tk}) (ch:=[]) rfl un aH I.bare λb z=>bz z (by simp);have m:upd (upd H j (.eR f (.own 0))) P (.iS (g ++ #[cm dM.line,cm dM.col,.ref j])) h'.objs.size=ao:=I1.aH.fresh cX;have Hw:h'.objs.size≠P:=λz=>by rw[z,eL]at m;cases m
  have Zv:h'.objs.size≠j:=JT bW;have G:H h'.objs.size=ao:=by rw[at' _ Hw Zv]at m;exact m
  refine⟨.ref h'.objs.size,_,I1.laid (t':=tk) (a:=h'.objs.size) (o:=EB qual params body scope cl ((X.mg "__name__").getD .none) j l) (λb o e=>eI _ e) cX ⟨gZ _ rfl,_,gZ _ rfl⟩,rfl,?_⟩;exact h cl ⟨S,L⟩ _ j f vs t _ l G U Zv.symm hd hv
 ·refine PySem.W.kla_makeFunctionHit (mg:=X.mg) fR I.ok.glob R IQ C k M hn hb λl h' tk hk i=>?_;have G:H h'.objs.size=ao:=I.aH.fresh i;exact⟨.ref h'.objs.size,_,I.laid (t':=tk) (a:=h'.objs.size) (o:=EB qual params body scope cl ((X.mg "__name__").getD .none) j l) (λb o e=>eI _ (hk b o e)) i ⟨gZ _ rfl,_,gZ _ rfl⟩,rfl,h cl ⟨S,L⟩ _ _ l G⟩
end
theorem aCG{CX:pB}{P:bh}{w:bw}{K:bj}{mg:ba->ar aq}{base:b8}{k:ay}{f:aw}{name qual:ba}{params:dh}{body:ak b7}{scope:cq}{g kV doc d z ct l:aq}{h od:ar aw}
  {L:a8 (ar aq)} {N ps:ak ba} (m:K.lookup f=aj ⟨l,od,.func (ea name qual params body scope g kV doc d h z ct),L⟩) (G:codeIn K z qual=ax) (S:cY N ps scope)
  {A:bu} {outer:ak Env} {s:av} {H:Hp} {args:Args} {us:ak aq} {vs:ak V} {Q:VK} {E:XK} (hr:cL (k+1) A) (U:zX P w K mg base A outer s H) (hb:BindsTo s (ea name qual params body scope g kV doc d h z ct) args (ps.zip us)) (r:Vals vs us) (hl:vs.length=ps.length)
  (F:cL k (A.deeper (cy qual scope s.heap.objs.size f z))->∃t,oW (mL CX P w K mg base N qual scope f z A outer s H E) body t/\t {nx:=λ_ H'=>Q .cE H',rt:=Q} (start N vs) H) :
  codeAny (bq P w) A (.call (.ref f) args) (CR CX outer P w H s Q E) s:=by
 have i:K.In s.heap:=U.mod.sO.keeps λb o e=>(U.bs b o e).1;have lim:s.heap.NoLimit:=U.mod.nolimit.keeps λb o e=>(U.bs b o e).1;have M:∀y∈ps.zip us,scope.names.lookup y.1=aj .local\/(scope.names.lookup y.1=aj .cell/\((cellsFrom (s.heap.objs.size+1) scope.names []).lookup y.1).isSome=ax):=λ⟨n,v⟩ p=>by
  rcases S.par n (YR p).1 with q|q
  ·exact .inl q
  ·exact .inr ⟨q,cellsFrom_some _ _ _ (.inl q)⟩
 refine abZ hr.depth (i _ _ m) rfl S.co S.gen rfl (codeRec_of i G) (hb _ _ _ _ ?_);refine Qq S.kind M λenv he c x=>?_;subst he;refine⟨lim.keeps x.toInCall.keep,codeAny_func ?_⟩;obtain⟨t,C,D⟩:=F (hr.deeper _);have I:Inv (mL CX P w K mg base N qual scope f z A outer s H E) [] (start N vs) H c:=Gf S hr.hd U hl r x;refine mU (C [] c (start N vs) H _ I D) (λfl s' B=>?_) λe s' B=>B;have fin:∀{j:St} {H':Hp} {v:V} {u:aq},Inv (mL CX P w K mg base N qual scope f z A outer s H E) [] j H' s'->RelV v u->Q v H'->CE outer P w H s Q u s' :=
  λ{j H' v u} σ a q=>⟨v,H',σ.os,σ.bare,σ.base,σ.aH,a,q⟩
 cases fl with
 |ret u =>
  obtain⟨v,j,H',σ,a,q⟩:=B;exact fin σ a q
 |next =>
  obtain⟨j,H',σ,q⟩:=B;exact fin (v:=V.cE) (u:=Value.none) σ rfl q
 |brk =>
  obtain⟨_,_,_,q⟩:=B;exact False.elim q
 |cont =>
  obtain⟨_,_,_,q⟩:=B;exact False.elim q
end L2
namespace V2
open PySem PySem.Spec PyProof.Rows L2
structure Ml(K:bj)(mg:ba->ar aq)(base:b8)(x:ba):Prop where
 sO:K.In base
 glob:base.Ns az mg
 blt:xZ base mg
 hd:∃c P,tabIn K x=aj (c,P)/\codeHdIn K c P=ax
section
variable{P:bh}{w:bw}{K:bj}{mg:ba->ar aq}{base:b8}
theorem cP.ofT{x:ba}{st:b7}{N ps:ak ba}{k:ay}{b:MS}(h:HasFn K mg x st)(T:Ml K mg base x)(S:cY N ps (aR st))
  (bind:∀(kV doc pm:aq) (an:ar aw) (d ct:aq) (us:ak aq),us.length=ps.length->c7 (ea x x (iL st) (eM st) (aR st) .none kV doc pm an d ct) ⟨us,[]⟩=pure (ps.zip us))
  (n:∀(c g:aw),tabIn K x=aj (c,g)->codeHdIn K c g=ax->∀(f:aw) (A:bu) (outer:ak Env) (s:av) (H:Hp) (E:XK),cL k (A.deeper (cy x (aR st) s.heap.objs.size f (.ref c))) ->
   gY (nU P w K mg base N x (aR st) f (.ref c) A outer s H E) (λ_=>E) (eM st) b):cP P w K mg base x (k+1) ps (cV N.length b):=by
 obtain⟨f,fd,hm,F⟩:=h.ex;obtain⟨c,g,i,hh⟩:=T.hd;have j:∃B z kV doc pm an ct a,fd=ea x x (iL st) (eM st) (aR st) .none kV doc pm an (.ref c) ct/\K.lookup f=aj ⟨B,z,.func (ea x x (iL st) (eM st) (aR st) .none kV doc pm an (.ref c) ct),a⟩/\codeIn K (.ref c) x=ax:=by
  obtain⟨B,z,kV,doc,pm,an,d,ct,a,rfl,U,j⟩:=F.ex;have e:(ea x x (iL st) (eM st) (aR st) .none kV doc pm an d ct).code=.ref c:=PySem.W.law_code T.sO T.glob i hm (T.sO _ _ U) rfl;have o:d=.ref c:=e;subst o;exact⟨B,z,kV,doc,pm,an,ct,a,rfl,U,j⟩
 have FB:=F.binds bind;obtain⟨B,z,kV,doc,pm,an,ct,a,rfl,U,j⟩:=j;refine⟨f,_,WG U j S (λl H Q E h=>h.1) λA outer s H l Q E hr m=>?_,hm,F.kp,FB⟩;obtain⟨t,p,q⟩:=n c g i hh f A outer s H E hr;exact⟨t,NF p,JI q m⟩
end
noncomputable def BY:ak ay->Ev->ar (ak a5)
 |[],_=>aj []
 |j::js,Y=>match (Y[j]?).join with
  |some (.int n)=>(BY js Y).map (n :: ·)
  |_=>ao
open Classical in
noncomputable def GX(k:ay)(x:ba)(dM:dk)(qual:ba)(js:ak ay)(R:ak a5->A->Mo A)(fa:Ev->Mo A):Ev->Mo A:=λY=>mb (fa Y) λa Z=>if Z[k]?=aj (.tab x dM qual)then(match BY js Y with
 |some ns=>vB (R ns a) Z
 | none=>ao)else ao
theorem acF{K:bj}{G:Hp}{O:ak aw}{J:L2.St}{Y:Ev}(r:gH K G O J Y)(N:ak ba):∀{js:ak ay} {cs:ak ba} {ns:ak a5},js.map (λj=>N[j]?)=cs.map aj->BY js Y=aj ns ->
  ∃dD:ak (ba×a5),dD.map (·.1)=cs/\dD.map (·.2)=ns/\∀p∈dD,∃j:ay,N[j]?=aj p.1/\J[j]?=aj (aj (V.int p.2))
 |[],[],ns,_,h=>by
  simp only[BY]at h;cases h;exact⟨[],rfl,rfl,λp U=>by simp at U⟩
 |[],_::_,_,e,_=>by simp at e
 |_::_,[],_,e,_=>by simp at e
 |j::js,c::cs,ns,e,h=>by
  simp only[bU,qT]at e;simp only[BY]at h;cases q:(Y[j]?).join with
  |none=>rw[q]at h;cases h
  |some d =>
   rw[q]at h;cases d with
   |int n =>
    simp only at h;cases B:BY js Y with
    |none=>rw[B]at h;cases h
    |some ms =>
     rw[B]at h;cases h;obtain⟨dD,f,b,a⟩:=acF r N e.2 B;obtain⟨v,hv,hd⟩:=r.2 j _ (join_some q);simp only[Den]at hd;subst hd;refine⟨(c,n)::dD,by simp[f],by simp[b],λp U=>?_⟩
     rcases dU.mp U with z|z
     ·subst z;exact⟨j,e.1,hv⟩
     ·exact a p z
   |_=>cases h
section
variable{X:Cx}{W:WX}{e:bx}{fa:Ev->Mo A}{p pos:dk}
theorem ahY{ps:a8 aq}{dM:dk}{c':aw}(q:TriplesOk ps.toList)(hn:codeAmong dM ps.toList=ao) :
  TriplesOk (ps ++ #[cm dM.line,cm dM.col,.ref c']).toList/\codeAmong dM (ps ++ #[cm dM.line,cm dM.col,.ref c']).toList=aj (.ref c'):=by
 have e:(ps ++ #[cm dM.line,cm dM.col,Value.ref c']).toList=ps.toList++[cm dM.line,cm dM.col,.ref c']:=by simp
 rw[e];generalize ps.toList=l at q hn;constructor
 ·induction l using TriplesOk.induct with
  |case1=>exact trivial
  |case2 i t j u v rest ih =>
   simp only[TriplesOk]at q;simp only[codeAmong]at hn;split at hn
   ·cases hn
   ·exact ih q hn
  |case3 l h1 h2=>simp[TriplesOk]at q
 ·exact codeAmong_snoc l q hn
theorem agF{x z y qual:ba}{st:b7}{N ps cs:ak ba}{k kf:ay}{js:ak ay}{params:dh}{body:bx}{scope:cq}{dM:dk}{c P:aw}{fb:Ev->Mo A}{bfw:aw->(A->Mo A)->MS}{R:ak a5->A->Mo A}
  (hT:tabIn X.K x=aj (c,P)) (OO:codeHdIn X.K c P=ax) (hB:xZ X.base X.mg) (IQ:X.env.code=.ref c) (T:X.env.qual ++ "<lambda>" = qual) (OF:defaultsOf params X.env=([],[]))
  (S:KH scope y cs) (zC:∀y∈scope.names,y.2=.free->X.env.kindOf y.1=aj .cell\/X.env.kindOf y.1=aj .free) (VR:js.map (λj=>X.N[j]?)=cs.map aj) (EH:∀x∈cs,X.env.scope.names.lookup x=aj .cell)
  (hz:HasFn X.K X.mg z st) (yV:ps.length=2) (SF:cY N ps (aR st))
  (bind:∀(kV doc i:aq) (an:ar aw) (aO ct:aq) (us:ak aq),us.length=ps.length->c7 (ea z z (iL st) (eM st) (aR st) .none kV doc i an aO ct) ⟨us,[]⟩=pure (ps.zip us))
  (gO:∀(B:aw) (dD:ak (ba×a5)),dD.map (·.1)=cs->∀(f:aw) (aO:aq) (A:bu) (outer:ak Env) (s:av) (H:Hp) (E:XK),cL kf (A.deeper (cy z (aR st) s.heap.objs.size f aO))->xW s.heap H B qual params body scope dD ->
   gY (nU X.prog X.w X.K X.mg X.base N z (aR st) f aO A outer s H E) (λ_=>E) (eM st) (bfw B (tT fb (dD.map (·.2)))))
  (hR:∀B ns a Z r,vB (R ns a) Z=aj r->cV N.length (bfw B (tT fb ns)) [a,.adr B] Z=aj r)
  (hr:cL (kf+1) X.A) (hg:Gl X z) (he:VE X W e fa) (fQ:(z==("__debug__" : ba))=au:=by decide)
  (iX:bg [e,.Lambda params body scope dM] X.env=[(au,b9 e X.env),(au,b9 (.Lambda params body scope dM) X.env)]:=by rfl)
  (IH:bg [.Lambda params body scope dM] X.env=[(au,b9 (.Lambda params body scope dM) X.env)]:=by rfl) :
  VE X W (.Call (.Name z p) [e,.Lambda params body scope dM] [] pos) (GX k x dM qual js R fa):=by
 obtain⟨t1,p1,s1⟩:=he;have PAa:PA X [e,.Lambda params body scope dM] (MC t1 (MC (Bg X P qual params body scope dM) MA)) :=
  DJ p1 (DJ (apB IQ T OO hB OF zC) HR (by rw[IH];rfl)) (by rw[iX,IH])
 refine⟨λJ H Q=>MC t1 (MC (Bg X P qual params body scope dM) MA) J H λvs H2=>∃(L:V) (B:aw) (dD:ak (ba×a5)) (cl:ak (ba×aw)) (i n:aq) (c':aw) (g:c5) (us:a8 aq) (t:Tok),vs=[L,.ref B]/\dD.map (·.1)=cs/\(∀p∈dD,∃j:ay,X.N[j]?=aj p.1/\J[j]?=aj (aj (V.int p.2))) /\
   Ox X scope cl/\H2 B=aj (EB qual params body scope cl i c' n)/\H2 c'=aj (.eR g (.own 0))/\g.data=.fields us/\us[1]?=aj (.str qual t) /\
   sG X.K ps.length (cV N.length (bfw B (tT fb (dD.map (·.2))))) [L,.ref B] H2 Q (λ_ _ _=>cp),?_,?_⟩
 ·intro aa s J H Q I h;obtain⟨f,fd,hm,F⟩:=hz.ex;refine yB (AW I hg hm ?_ fQ);refine callWith_K (h₀:=X.base) I.ok.mod.sO F.kp (bM (PAa pos aa s J H _ I h) λus s1 ⟨vs,H1,C,r,q⟩=>⟨C.fF,?_⟩) (by rw[iX,IH]) (by rw[IH];rfl);obtain⟨L,B,dD,cl,i,n,c',g,ws,t,rfl,aaG,hσ,fR,hlf,tZ,hd,hv,iE⟩:=q;have La:xW s1.heap H1 B qual params body scope dD:=by
   refine⟨cl,i,n,c',g,ws,t,hlf,tZ,hd,hv,λx y c h1 h2=>C.ok.inj x y c (fR.1 x c h1) (fR.1 y c h2),fR.2,λx c e=>⟨C.cell x c (fR.1 x c e),C.lV x c (fR.1 x c e)⟩,λpp Ze=>?_⟩;obtain⟨j,Hm,Hl⟩:=hσ pp Ze;have mI:pp.1∈cs:=by rw[<-aaG];exact YT Ze
   obtain⟨m,hn,hl⟩:=C.loc;obtain⟨u,ru,lu⟩:=hl j pp.1 _ Hm Hl (.inr (.inl (EH _ mI)));obtain⟨tk,rfl⟩:=ru
   rcases lu with⟨hk,_⟩|⟨_,c0,lL,ic⟩
   ·rw[show X.env.kindOf pp.1=aj .cell from EH _ mI]at hk;cases hk
   ·obtain⟨c1,pQ⟩:=fR.2 _ (PySem.mem_of_lookup (S.WV _ mI)) rfl;have:=fR.1 _ _ pQ;rw[lL]at this;cases this;exact⟨c0,tk,pQ,ic⟩
  have gF:=F.binds bind s1 us C.fF (by rw[pU,<-r.length];simp[yV]);rw[pU]at gF;have FB:=gF;obtain⟨oc2,od,kV,doc,Vk,an,aO,ct,gE,rfl,lk,gM⟩:=F.ex;refine GR (uF (aCG (CX:=pC X.prog X.w) (E:=λ_ _ _=>cp) (Q:=Q) (k:=kf) lk gM SF hr C.IX FB r (by simp[yV]) λhrb=>?_) λr s' T=>?_)
  ·obtain⟨tt,pp,qq⟩:=gO B dD aaG f aO X.A X.stack s1 H1 (λ_ _ _=>cp) hrb La;exact⟨tt,NF pp,JI qq iE⟩
  ·cases r with
   |error ev=>obtain⟨x,cls,dx,H',_,_,_,_,_,_,q⟩:=T;exact q.elim
   |ok fl =>
    cases fl with
    |ret u=>exact C.after T
    |next=>exact False.elim T
    |brk=>exact False.elim T
    |cont=>exact False.elim T
 ·intro G O Z H J Y Q w r h;unfold GX at h;refine s1 G O Z H J Y _ w r (bP.mb h λa U L H1 G1 l x1 D d1 h1=>?_);split at h1
  ·rename_i hk;cases OI:BY js Y with
   |none=>rw[OI]at h1;exact False.elim h1
   |some ns =>
    rw[OI]at h1;simp only at h1;obtain⟨dD,pQ,sT,hc3⟩:=acF r X.N VR OI;obtain⟨aP,haP⟩:=D.addr hk;obtain⟨gP,⟨c0,NO⟩,qs,Gw,Zc,hq3⟩:=D.aI k _ aP hk haP;rw[hT]at NO;cases NO;have fin:∀(B:aw) (H2 G2:Hp),Ext G1 l G2 l->Wd X.K G2 l U H2->sG X.K ps.length (cV N.length (bfw B (tT fb (dD.map (·.2))))) [L,.ref B] H2 Q (λ_ _ _=>cp):=λB H2 G2 e2 w2=>by
     refine⟨by simp[yV],G2,l,U,[a,.adr B],w2,.cons (d1.ext e2) (.cons (by simp only[Den]) .nil),?_⟩
     revert h1
     rw[sT];cases d:vB (R ns a) U with
     |none=>intro h1;exact False.elim h1
     |some r0 =>
      intro h1;rw[hR B ns a U r0 d]
      match r0,h1,d with
      |(.ok b,Z'),h1,_=>exact λv H' G' O' x3 w3 d3=>h1 v H' G' O' (e2.trans x3) w3 d3
      |(.exc xx,Z'),_,d =>
       exfalso;simp only[vB]at d
       revert d
       generalize R ns a U=rr;intro d
       match rr,d with
       |some (.exc _,_),d=>cases d
       |some (.ok _,_),d=>cases d
       |none,d=>cases d
    refine⟨qs,Gw,Zc,?_⟩
    rcases hq3 with hn|⟨c',g,us,t,hn,hgc,hd,hv⟩
    ·refine .inl ⟨hn,λcl fR f c' g us t i n M lL gU hd hv=>?_⟩;obtain⟨tg1,tg2⟩:=ahY (c':=c') Zc hn;have Ib:c'≠P:=λz=>by rw[z,Gw]at lL;cases lL
     have Hw:f≠P:=λz=>by rw[z,Gw]at M;cases M
     have wA:=D.new lL (.eR g (.own 0));have gPA:upd G1 c' (.eR g (.own 0)) P=ao:=by rw[bE Ib.symm];exact gP
     have wB:=wA.put (c:=.tab x dM qual) (o:=.iS (qs ++ #[cm dM.line,cm dM.col,.ref c'])) haP gPA ⟨gPA,⟨c,hT⟩,_,eL,tg1,.inr ⟨c',g,us,t,tg2,eL,hd,hv⟩⟩;have axD:U.set k (.tab x dM qual)=U:=by
      have Zk:=(dA.mp hk);obtain⟨yX,lU⟩:=Zk;rw[<-lU];exact List.set_getElem_self _
     rw[axD]at wB;have IM:upd (upd H1 c' (.eR g (.own 0))) P (.iS (qs ++ #[cm dM.line,cm dM.col,.ref c'])) f=ao:=by rw[bE Hw,bE gU.symm];exact M
     have wC:=wB.new IM (EB qual params body scope cl i c' n);refine⟨L,f,dD,cl,i,n,c',g,us,t,rfl,pQ,hc3,fR,eL,?_,hd,hv,fin f _ _ ?_ wC⟩
     ·rw[bE gU,bE Ib,eL]
     ·exact(Ext.new (D.oQ lL) _).trans (Ext.new (wB.oQ IM) _)
    ·refine .inr ⟨c',hn,λcl fR f i n M=>?_⟩;have hcH:=D.sub _ _ hgc;have wC:=D.new M (EB qual params body scope cl i c' n);exact⟨L,f,dD,cl,i,n,c',g,us,t,rfl,pQ,hc3,fR,eL,by rw[bE (iW hcH M)];exact hcH,hd,hv,fin f _ _ (Ext.new (D.oQ M) _) wC⟩
  ·exact False.elim h1
end
structure ZE(X:Cx)(scope:cq)(y:ba)(cs:ak ba)(js:ak ay):Prop where
 S:KH scope y cs
 free:∀y∈scope.names,y.2=.free->X.env.kindOf y.1=aj .cell\/X.env.kindOf y.1=aj .free
 dD:js.map (λj=>X.N[j]?)=cs.map aj
 cell:∀x∈cs,X.env.scope.names.lookup x=aj .cell
def Od(sc:cq)(N:ak ba)(scope:cq)(y:ba)(cs:ak ba)(js:ak ay):Prop :=
 ((scope.kind == .function)=ax/\scope.isCoroutine=au/\scope.isGenerator=au)/\(∀x∈scope.names,(x.2 == .cell)=au)/\(scope.names.lookup y==aj .local)=ax/\(∀x∈cs,(scope.names.lookup x==aj .free)=ax) /\
 (∀y∈scope.names,(y.2 == .free)=ax->(sc.names.lookup y.1==aj .cell)=ax)/\js.map (λj=>N[j]?)=cs.map aj/\∀x∈cs,(sc.names.lookup x==aj .cell)=ax
instance (sc:cq) (N:ak ba) (scope:cq) (y:ba) (cs:ak ba) (js:ak ay):di (Od sc N scope y cs js):=by unfold Od;infer_instance
theorem ZE.of{X:Cx}{scope:cq}{y:ba}{cs:ak ba}{js:ak ay}(sc:cq)(N:ak ba)(h1:X.env.scope=sc)(h2:X.N=N)(h:Od sc N scope y cs js):ZE X scope y cs js:=by
 obtain⟨⟨a1,a2,d⟩,c,b,a,U,B,z⟩:=h;refine⟨⟨by simpa using a1,a2,d,λx j=>by simpa using c x j,by simpa using b,λx j=>by simpa using a x j⟩,λy q hf => .inl ?_,by rw[h2];exact B,λx j=>by rw[h1];simpa using z x j⟩;have:=U y q (by simp[hf]);show X.env.scope.names.lookup y.1=aj .cell;rw[h1];simpa using this
theorem agE{X:Cx}{W:WX}{e:bx}{fa:Ev->Mo A}{p pos:dk}{x z y qual:ba}{st:b7}{N ps cs:ak ba}{k kf:ay}{js:ak ay}{params:dh}{body:bx}{scope:cq}{dM:dk}{c P:aw}{fb:Ev->Mo A}{bfw:aw->(A->Mo A)->MS}{R:ak a5->A->Mo A}
  (hT:tabIn X.K x=aj (c,P)) (o:codeHdIn X.K c P=ax) (h:xZ X.base X.mg) (u:X.env.code=.ref c) (d:X.env.qual ++ "<lambda>" = qual) (t:defaultsOf params X.env=([],[]))
  (ι:ZE X scope y cs js)
  (hz:HasFn X.K X.mg z st) (B:ps.length=2) (n:cY N ps (aR st))
  (bind:∀(kV doc U:aq) (m:ar aw) (q ct:aq) (us:ak aq),us.length=ps.length->c7 (ea z z (iL st) (eM st) (aR st) .none kV doc U m q ct) ⟨us,[]⟩=pure (ps.zip us))
  (i:KH scope y cs->∀(j:aw) (dD:ak (ba×a5)),dD.map (·.1)=cs->∀(f:aw) (q:aq) (A:bu) (outer:ak Env) (s:av) (H:Hp) (E:XK),cL kf (A.deeper (cy z (aR st) s.heap.objs.size f q))->xW s.heap H j qual params body scope dD ->
   gY (nU X.prog X.w X.K X.mg X.base N z (aR st) f q A outer s H E) (λ_=>E) (eM st) (bfw j (tT fb (dD.map (·.2)))))
  (hR:∀j ns a Z r,vB (R ns a) Z=aj r->cV N.length (bfw j (tT fb ns)) [a,.adr j] Z=aj r)
  (hr:cL (kf+1) X.A) (g:Gl X z) (he:VE X W e fa) (l:(z==("__debug__" : ba))=au:=by decide)
  (b:bg [e,.Lambda params body scope dM] X.env=[(au,b9 e X.env),(au,b9 (.Lambda params body scope dM) X.env)]:=by rfl)
  (v:bg [.Lambda params body scope dM] X.env=[(au,b9 (.Lambda params body scope dM) X.env)]:=by rfl) :
  VE X W (.Call (.Name z p) [e,.Lambda params body scope dM] [] pos) (GX k x dM qual js R fa) :=
 agF hT o h u d t ι.S ι.free ι.dD ι.cell hz B n bind (i ι.S) hR hr g he l b v
noncomputable def aaB (vs:a8 aq) (c P:aw):br:=(match (vs[11]?:ar aq) with|some (.ref j) => j==P|_ => au) &&
   (match vs.getD 18 .none with | .str _ _=>ax|_=>au)&&(match vs.getD 7 .none with | .int _ _=>ax|_=>au) &&
   (match vs.getD 9 .none with | .bool _=>ax|_=>au)&&(match vs.getD 10 .none with | .int _ _=>ax|_=>au)&&c != P
theorem ahX{K:bj}{x:ba}{f tc j:aw}{U kV b N ct:aq}{od c z:ar aw}{sl q:a8 (ar aq)}{st:b7}{vs:a8 aq}(a:cw K az x=aj (aj (.ref f)))
  (l:K.lookup f=aj ⟨U,od,.func (ea x x (iL st) (eM st) (aR st) .none kV b N c (.ref tc) ct),sl⟩) (B:K.lookup tc=aj ⟨.type "code",z,.fields vs,q⟩) (hv:vs[11]?=aj (.ref j)) (hh:aaB vs tc j=ax) :
  tabIn K x=aj (tc,j)/\codeHdIn K tc j=ax:=by
 constructor
 ·unfold tabIn;rw[a];simp only[l,B,hv]
 ·unfold codeHdIn;rw[B];exact hh
@[elab_as_elim] theorem Rt{P:ak aq->Prop}(us:ak aq)(h:us.length=0)(f:P []):P us:=by cases us with|nil=>exact f|cons _ _=>simp at h
@[elab_as_elim] theorem Aq{P:ak aq->Prop}(us:ak aq)(h:us.length=1)(f:∀a,P [a]):P us:=by
 cases us with
 |nil=>simp at h
 |cons a r=>exact Rt r (by simpa using h) (f a)
@[elab_as_elim] theorem AH{P:ak aq->Prop}(us:ak aq)(h:us.length=2)(f:∀a b,P [a,b]):P us:=by
 cases us with
 |nil=>simp at h
 |cons a r=>exact Aq (P:=λr=>P (a::r)) r (by simpa using h) (f a)
@[elab_as_elim] theorem Ap{P:ak aq->Prop}(us:ak aq)(h:us.length=3)(f:∀a b c,P [a,b,c]):P us:=by
 cases us with
 |nil=>simp at h
 |cons a r=>exact AH (P:=λr=>P (a::r)) r (by simpa using h) (f a)
@[elab_as_elim] theorem Ao{P:ak aq->Prop}(us:ak aq)(h:us.length=4)(f:∀a b c d,P [a,b,c,d]):P us:=by
 cases us with
 |nil=>simp at h
 |cons a r=>exact Ap (P:=λr=>P (a::r)) r (by simpa using h) (f a)
@[elab_as_elim] theorem us5{P:ak aq->Prop}(us:ak aq)(h:us.length=5)(f:∀a b c d e,P [a,b,c,d,e]):P us:=by
 cases us with
 |nil=>simp at h
 |cons a r=>exact Ao (P:=λr=>P (a::r)) r (by simpa using h) (f a)
noncomputable abbrev UI(x:ba):ba:=x ++ ".<locals>." ++ "<lambda>"
def SX(K:bj)(ts:ak aw):Sp:=λvs H Q _=>∃(a:aw) (ns:ak a5),vs=[.ref a]/\fV K H a (ns.map V.int)/\ns.length<=63/\(∀P∈ts,H P=aj (.iS #[]))/\∀H',Q (.bl ax) H'
theorem aj1{K:bj}{H:Hp}{a:aw}{xs:ak V}{ts:ak aw}(h:fV K H a xs)(hT:∀P∈ts,H P=aj (.iS #[])):fV K (λb=>if b∈ts then ao else H b) a xs:=by
 rcases h with(h|⟨o,h⟩)|h
 ·exact .inl (.inl (by
   have:a∉ts:=λz=>by rw[hT a z]at h;cases h
   show(if a∈ts then ao else H a)=_;rw[bf this];exact h))
 ·exact .inl (.inr ⟨o,by
   have:a∉ts:=λz=>by rw[hT a z]at h;cases h
   show(if a∈ts then ao else H a)=_;rw[bf this];exact h⟩)
 ·exact .inr h
section
variable{P:bh}{w:bw}{K:bj}{mg:ba->ar aq}{base:b8}
theorem atQ{fa:aw}{fd:c4}{k:ay}{F:ak A->Mo A}{ts:ak aw}(tl:ak (aw×ba×dk×ba))(hnd:(tl.map (·.1)).Nodup)(hsub:∀t∈tl,t.1∈ts)(hT:∀t∈tl,∃c,tabIn K t.2.1=aj (c,t.1))
  (h1:jX P w K mg base (pC P w) k fa fd ["_law_script"] (sG K 1 F)) (m:∀ns:ak a5,ns.length<=63->∃Z,F [.dW ns] (tl.map λt => .tab t.2.1 t.2.2.1 t.2.2.2)=aj (.ok (.bl ax),Z)) :
  jX P w K mg base xY k fa fd ["_law_script"] (SX K ts):=by
 refine(acG h1).imp λp H Q E l=>?_;obtain⟨a,ns,rfl,h,hl,f,q⟩:=l;obtain⟨Z,e⟩:=m ns hl;refine⟨rfl,λb=>if b∈ts then ao else H b,tl.map (·.1),tl.map (λt => .tab t.2.1 t.2.2.1 t.2.2.2),[.dW ns],⟨λb o z=>?_,hnd,by simp,λb hb=>?_,λj c b h1 h2=>?_,λb j i r s hh=>?_⟩,.cons (by simp only[Den];exact⟨a,rfl,aj1 h f⟩) .nil,?_⟩
 ·by_cases hb:b∈ts
  ·have N:(if b∈ts then ao else H b)=aj o:=z;rw[a9 hb]at N;cases N
  ·have N:(if b∈ts then ao else H b)=aj o:=z;rw[bf hb]at N;exact N
 ·obtain⟨t,U,rfl⟩:=lX.mp hb;exact⟨_,f _ (hsub t U)⟩
 ·rw[jV]at h1 h2;cases B:tl[j]? with
  |none=>rw[B]at h1;cases h1
  |some t =>
   rw[B]at h1 h2;cases h1;cases h2;have U:=mQ B;refine⟨a9 (hsub t U),hT t U,#[],f _ (hsub t U),trivial,.inl rfl⟩
 ·obtain⟨_,_,_,_,_,_,_,_,_,_,z,_⟩:=hh;rw[jV]at z;cases B:tl[j]? with
  |none=>rw[B]at z;cases z
  |some t=>rw[B]at z;cases z
 rw[e];intro v n u g _ _ d;simp only[Den]at d;subst d;exact q n
end
open Classical in
noncomputable def vM(g:A->Mo A)(a:A):Mo A:=λZ=>if h:∃(ds:ak A) (m:ay),gD Z a=aj ds/\m<=ds.length/\ds.length<=100000/\∀i d,ds[i]?=aj d->g d Z=aj (.ok (.bl (decide (m<=i))),Z)then aj (.ok (.int (h.choose_spec.choose:ay)),Z)else ao
theorem aB9{g:A->Mo A}{a:A}{Z:aE}{ds:ak A}{m:ay}(h1:gD Z a=aj ds)(h2:m<=ds.length)(f:ds.length<=100000)(c:∀i d,ds[i]?=aj d->g d Z=aj (.ok (.bl (decide (m<=i))),Z)):vM g a Z=aj (.ok (.int (m:a5)),Z):=by
 have h:∃(ds:ak A) (m:ay),gD Z a=aj ds/\m<=ds.length/\ds.length<=100000/\∀i d,ds[i]?=aj d->g d Z=aj (.ok (.bl (decide (m<=i))),Z):=⟨ds,m,h1,h2,f,c⟩;have key:∀(U:ak A) (j:ay),gD Z a=aj U->j<=U.length->(∀i d,U[i]?=aj d->g d Z=aj (.ok (.bl (decide (j<=i))),Z))->j=m:=by
  intro U j N e B;rw[h1]at N;cases N
  rcases Nat.lt_trichotomy j m with z|z|z
  ·have hl:j<ds.length:=by omega
   have b:=c j _ (fL hl);have q:=B j _ (fL hl);rw[b]at q;simp at q;omega
  ·exact z
  ·have hl:m<ds.length:=by omega
   have b:=c m _ (fL hl);have q:=B m _ (fL hl);rw[b]at q;simp at q;omega
 unfold vM;rw[dif_pos h];obtain⟨N,e,k,B⟩:=h.choose_spec.choose_spec;rw[key _ _ N e B]
theorem aB8{g:A->Mo A}{a:A}{Z:aE}{r:Rs A×aE}(h:vM g a Z=aj r):∃(ds:ak A) (m:ay),gD Z a=aj ds/\m<=ds.length/\ds.length<=100000/\(∀i d,ds[i]?=aj d->g d Z=aj (.ok (.bl (decide (m<=i))),Z))/\r=(.ok (.int (m:a5)),Z):=by
 unfold vM at h;split at h
 ·rename_i hh;cases h;obtain⟨B,z,q,j⟩:=hh.choose_spec.choose_spec;exact⟨_,_,B,z,q,j,rfl⟩
 ·cases h
end V2
namespace M
open PySem V2
noncomputable section
def PR(j:aw)(g:A->Mo A):MS :=
 (aQ (bK (aC (oS) (aC cF bR cQ) mW) (gN 4))
   (fO (cA (Ak 1 j g (aC bO aN eP)))
    (bK eP (gN 3))
    (bK (aC cF eP bL) (gN 2))))
def FI(j:aw)(g:A->Mo A):Ev->Mo br :=
 (cA (aC qM bR cQ))
def PU(j:aw)(g:A->Mo A):MS :=
 (aQ (bK dC (gN 2))
  (aQ (bK (aX sU (aB aN a0)) (gN 3))
  (aQ (λY Z=>nG (FI j g) (PR j g) ((λ_ _=>1000000) Y Z) Y Z)
  (cR bR))))
end
end M
namespace V2
open PySem PySem.Spec PyProof.Rows L2
section
variable{K:bj}{G H:Hp}{O:ak aw}{Z:aE}{d:aw}
theorem Wd.neG(w:Wd K G O Z H)(hd:H d=ao){a:aw}{o:HO}(h:G a=aj o):a≠d:=λz=>by
 have:=w.sub _ _ h;rw[z,hd]at this;cases this
theorem Wd.aCQ(w:Wd K G O Z H)(hd:H d=ao)(o:HO):Ext G O (upd G d o) O:=⟨λa u h=>by rw[bE (w.neG hd h)];exact h,λ_ _ h=>h⟩
theorem Wd.up(w:Wd K G O Z H)(hd:H d=ao)(o:HO):Wd K (upd G d o) O Z (upd H d o):=w.new hd o
end
section
variable{X:Cx}{W:WX}{a b c d:bx}{ta tb tc td:TE}{fa fb fc fd:Ev->Mo A}{pos:dk}
def aeL(_ j:a5):Prop:=0<j/\j<1152921504606846976
instance (i j:a5):di (aeL i j):=by unfold aeL;infer_instance
end
end V2
namespace M
open PySem V2
noncomputable section
def Ks:MS :=
 (aQ (bK (aC bO cQ bL) (gN 4))
   (aQ (bK (aC cF bD eP) (gN 1))
   (fO (kB (cA (aC qM eP bL)) (cA (aC vL bD (cI 1000000000))))
    (λ_ _=>ao)
    iC)))
def Kt:MS :=
 (aQ (bK dC (gN 1))
  (aQ (iT (An aN) (jG 2 (dN (gN 2) (dN (gN 3) jR))) Ks)
  (cR bD)))
def ZH:ak A->Mo A:=cV 5 Kt
def XM:MS :=
 (aQ (fO (cA (aC qM eP bD))
    (bK (aC cF bR nL) (gN 2))
    iC)
   (fO (cA (aC BP eP bD))
    (bK (aC cF cQ nL) (gN 3))
    iC))
def PY:MS :=
 (aQ (bK dC (gN 2))
  (aQ (bK dC (gN 3))
  (aQ (iT (jD aN) (jG 2 (dN (gN 4) (dN (gN 5) jR))) XM)
  (cR (kK (aB bR (aB cQ a0)))))))
def zV:ak A->Mo A:=cV 6 PY
def Kp:MS :=
 (aQ (yH (kK (aB (aC cF bR bL) (aB (aC cF bR eP) a0))) bD cQ)
   (bK (aC cF bR eP) (gN 2)))
def XB:MS :=
 (aQ (bK wQ (gN 1))
  (aQ (bK dC (gN 2))
  (aQ (iT (jD (aX (bS 1 ZF) (aB aN a0))) (jG 2 (dN (gN 3) (dN (gN 4) jR))) Kp)
  (cR bD))))
def RC:ak A->Mo A:=cV 5 XB
end
end M
namespace PySem
set_option maxRecDepth 100000
set_option compiler.extract_closed false
set_option genSizeOf false
set_option bootstrap.genMatcherCode false
end PySem
namespace V2
open PySem PySem.Spec PyProof.Rows L2
def uR:Hp->ak aw->ak (ak V)->Hp
 |H,a::as,t::ts=>uR (upd H a (.tup t)) as ts
 |H,[],_=>H
 |H,_::_,[]=>H
theorem agV{H:Hp}{a b:aw}{o u:HO}(h:a≠b):upd (upd H a o) b u=upd (upd H b u) a o:=by
 funext c
 by_cases h1:c=a
 ·subst h1;rw[bE h,eL,eL]
 ·by_cases h2:c=b
  ·subst h2;rw[eL,bE h1,eL]
  ·rw[bE h2,bE h1,bE h1,bE h2]
theorem Ru{l:aw}{o:HO}:∀(as:ak aw) (ts:ak (ak V)) (H:Hp),l∉as->uR (upd H l o) as ts=upd (uR H as ts) l o
 |[],ts,H,_=>by cases ts <;> rfl
 |a::as,[],H,_=>rfl
 |a::as,t::ts,H,h=>by
  have j:l≠a:=λe=>h (by rw[e];exact List.mem_cons_self ..);show uR (upd (upd H l o) a (.tup t)) as ts=upd (uR (upd H a (.tup t)) as ts) l o;rw[agV j];exact Ru as ts _ λe=>h (fY _ e)
theorem Yb{P:bh}{w:bw}{k:Key}{u:aq}(h:(kE P w).is k u=ax):RelV (kV k) u:=by
 rcases vE (k:=k) (v:=u) h with⟨i,t,q,j⟩|⟨x,t,q,j⟩
 ·subst q;exact⟨t,j⟩
 ·subst q;exact⟨t,j⟩
section
variable{X:Cx}{W:WX}
theorem Rz{aa:ak (aw×c5)}{J:L2.St}{s2 B:av}{s:Hp}(f:Inv X aa J s s2):∀(as:ak aw) (ts:ak (ak V)) (H:Hp),Inv X aa J H B->as.length=ts.length->as.Nodup->(∀a∈as,s2.heap.objs.size<=a/\H a=ao) ->
  (∀(j:ay) (a:aw) (t:ak V),as[j]?=aj a->ts[j]?=aj t->t.length<=bc/\∃N n,Vals t N/\B.heap.get? a=aj {cls:=.type "tuple",data:=.seq N.toArray n})->Inv X aa J (uR H as ts) B
 |[],[],H,I,_,_,_,_=>I
 |[],_::_,H,I,hl,_,_,_=>by simp at hl
 |_::_,[],H,I,hl,_,_,_=>by simp at hl
 |a::as,t::ts,H,I,hl,hn,hb,g=>by
  obtain⟨h1,h2⟩:=hb a nE;obtain⟨k,N,n,i,e⟩:=g 0 a t rfl rfl;have aH:fH X.prog X.w (upd H a (.tup t)) B.heap:=by
   refine λb o q=>?_
   by_cases h:b=a
   ·subst h;rw[eL]at q;cases q;exact⟨k,N,i,⟨_,e,rfl,_,rfl⟩⟩
   ·rw[bE h]at q;exact(I.aH b o q).nN (λc v _ z=>z) (λc z=>by rw[bE (iW z h2)];exact z) λc x z=>by rw[bE (iW z h2)];exact z
  have d:qV X aa H a:=f.xG h1 h2;have l:X.s₀.heap.get? a=ao:=by
   cases q:X.s₀.heap.get? a with
   |none=>rfl
   |some ob=>exact bz (lG (dS q) (rV f.sz h1)) (Nat.lt_irrefl _)
  have r:=Inv.Ax I h2 l d.2.1 d.2.2.2.2.1 d.2.2.2.2.2 aH;rw[tF]at hn;exact Rz f as ts _ r (by simpa using hl) hn.2 (λb U=>⟨(hb b (fY _ U)).1,by rw[bE (λz=>hn.1 (by rw[<-z];exact U))];exact(hb b (fY _ U)).2⟩) (λj b u p m=>g (j+1) b u p m)
theorem Eh{α β:Type}{F:α->β->Prop}:∀{l₁:ak α} {l₂:ak β},Paired F l₁ l₂->∀{j:ay} {a:α},l₁[j]?=aj a->∃b,l₂[j]?=aj b/\F a b
 |_,_,.nil,j,a,h=>by simp at h
 |_,_,.cons r _,0,a,h=>by cases h;exact⟨_,rfl,r⟩
 |_,_,.cons _ z,j+1,a,h=>by obtain⟨b,q,f⟩:=Eh z (j:=j) (by simpa using h);exact⟨b,by simpa using q,f⟩
theorem LQ:∀as:ak aw,Vals (as.map V.ref) (as.map Value.ref)
 |[] => .nil
 |a::as => .cons rfl (LQ as)
theorem ao9{o:bx}{td:TE}{R af m d:dk}(hc:X.calm=ax)(Ht:Gl X "list")(IJ:X.mg "list" = ao)(ho:PE X o td)
  (C:bg [.Call (.Attribute o "items" af) [] [] d] X.env=[(au,b9 (.Call (.Attribute o "items" af) [] [] d) X.env)]:=by rfl)
  (T:ck o "items" X.env (b9 o X.env)=b9 o X.env:=by rfl) (P:(af.endLine==d.line)=ax:=by rfl) :
  PE X (.Call (.Name "list" R) [.Call (.Attribute o "items" af) [] [] d] [] m) (λJ H Q=>td J H λx H1=>∃a kvs,x=.ref a/\H1 a=aj (.dK kvs) /\
   ∀(as:ak aw) (l:aw),as.length=kvs.length->as.Nodup->l∉as->(∀b∈as,H1 b=ao)->H1 l=ao->Q (.ref l) (upd (uR H1 as (kvs.map λU=>[kV U.1,U.2])) l (.lst (as.map V.ref)))):=by
 intro aa s J H Q I h;refine yB (EA I Ht IJ PyProof.Rows.boot_list ?_);refine YE ?_ C rfl;rw[C];show wpAny _ _ (spliced ((au,b9 (.Call (.Attribute o "items" af) [] [] d) X.env)::[])) _ _ s;refine LG ?_;refine Qs T P (bM (ho aa s J H _ I h) λv B ⟨x,H1,y,L,m⟩=>?_);obtain⟨a,kvs,rfl,E,q⟩:=m;cases L;obtain⟨h1,h2,EE⟩:=NL y (.inl ⟨kvs,.inl E⟩);obtain⟨z,_,i,rel,u⟩:=JA y.aH E;refine⟨"dict", "dict.items",PySem.F.plainAttrs_dict,PySem.F.slot_dict_items,PySem.F.type_dict_items,h1,h2,RP rfl (PySem.evalArgs_none ?_)⟩;refine PM PySem.F.slot_dict_items u.typeIs PySem.F.entry_dict_items (PySem.F.args_dict_items_1 _) (meets_dict_items (kE X.prog X.w) a EE) ⟨⟨i,u⟩,?_⟩;refine RO ?_;have N:Inv X aa J H1 {B with heap:=B.heap.push {cls:=.type "dict_items",data:=.fields #[.ref a]} }:=y.kept (t':=B.toks) λb o e=>eI _ e;obtain⟨ep,M⟩:=u.dictAt;have hvl:kvs.length=i.length:=rel.length;refine PySem.W.kdx_call (knd:=kE X.prog X.w) (kvs:=i) (ep:=ep) (s:={B with heap:=B.heap.push {cls:=.type "dict_items",data:=.fields #[.ref a]} }) (N.ok.hd hc) ⟨_,gZ _ rfl,rfl,rfl⟩ (M.push _) (by omega) λh' tk acc c as D hS hl f S=>?_;generalize yU:({B with heap:=B.heap.push {cls:=.type "dict_items",data:=.fields #[.ref a]} }:av)=s2 at N D hS f;have hnd:as.Nodup:=f.rise.imp λh=>fS h;have A:s2.heap.objs.size∉as:=λz=>bz (f.above _ z) (Nat.lt_irrefl _);have r:∀b∈as,s2.heap.objs.size<=b:=λb hb=>Mt (f.above b hb);have n:as.length<=bc:=by omega
 have I3:Inv X aa J (upd H1 s2.heap.objs.size (.lst (as.map V.ref))) {s2 with heap:=h',toks:=tk}:=N.laid (t':=tk) (o:=.lst (as.map V.ref)) D cX ⟨by rw[lI];exact n,as.map Value.ref,c,LQ as,by rw[<-S];exact hS⟩;have K:=Rz N as (kvs.map λU=>[kV U.1,U.2]) _ I3 (by simp;omega) hnd (λb hb=>⟨r b hb,by rw[bE (λz=>A (by rw[<-z];exact hb))];exact N.aH.fresh (r b hb)⟩) (λj b t e1 g=>by
  obtain⟨key,k,x,g1,g2,g3⟩:=f.pairs j b e1;rw[jV]at g;cases p:kvs[j]? with
  |none=>rw[p]at g;cases g
  |some U =>
   rw[p]at g;cases g;obtain⟨AZ,G,g6,g7⟩:=Eh rel p;rw[g1]at G;cases G;refine⟨by show 2<=bc;decide,[key,x],0,.cons (by rw[g6];exact Yb g2) (.cons g7 .nil),g3⟩)
 rw[Ru as _ H1 A]at K;exact⟨.ref s2.heap.objs.size,_,K,rfl,q as _ (by omega) hnd A (λb hb=>N.aH.fresh (r b hb)) (N.aH.fresh cX)⟩
end
noncomputable def kA:Key->A
 |.inl i => .int i
 |.inr s => .str s
theorem abW{K:bj}{G:Hp}{O:ak aw}(k:Key):Den K G O (kV k) (kA k):=by cases k <;> simp only[kV,kA,Den]
def mG(j:Key×A):A:=.tup [kA j.1,j.2]
section
variable{K:bj}
theorem Ry{Z:aE}:∀(as:ak aw) (q:ak (Key×V)) (kvs:ak (Key×A)) (G H:Hp) (O:ak aw),Wd K G O Z H->as.length=q.length->as.Nodup->(∀b∈as,H b=ao)->q.map (·.1)=kvs.map (·.1)->bC K G O (q.map (·.2)) (kvs.map (·.2)) ->
  ∃G',Ext G O G' O/\Wd K G' O Z (uR H as (q.map λB=>[kV B.1,B.2]))/\bC K G' O (as.map V.ref) (kvs.map mG)
 |[],[],[],G,H,O,w,_,_,_,_,_=>⟨G,Ext.refl _ _,w,by rw[rW,rW,xK]⟩
 |[],[],_::_,_,_,_,_,_,_,_,h,_=>by simp at h
 |[],_::_,_,_,_,_,_,h,_,_,_,_=>by simp at h
 |_::_,[],_,_,_,_,_,h,_,_,_,_=>by simp at h
 |_::_,_::_,[],_,_,_,_,_,_,_,h,_=>by simp at h
 |a::as,j::q,B::kvs,G,H,O,w,hl,hn,hb,c,d=>by
  rw[bU,bU]at d c;obtain⟨x,r,k,o,n⟩:=d.pF;obtain⟨rfl,rfl⟩:=List.cons.inj k;obtain⟨l,i⟩:=List.cons.inj c;rw[tF]at hn;have ha:=hb a nE;have U:=w.aCQ ha (.tup [kV j.1,j.2]);have g:=w.up ha (.tup [kV j.1,j.2]);obtain⟨G',N,f,m⟩:=Ry as q kvs _ _ O g (by simpa using hl) hn.2 (λb e=>by rw[bE (λz=>hn.1 (by rw[<-z];exact e))];exact hb b (fY _ e)) i (n.ext U);refine⟨G',U.trans N,f,?_⟩;rw[bU,bU];refine .cons ?_ m;simp only[mG,Den];refine⟨a,[kV j.1,j.2],rfl,N.same _ _ eL,.cons (by rw[l];exact abW _) (.cons (o.ext (U.trans N)) (by rw[xK]))⟩
end
theorem ac2(a:A)(ha:cJ 7 a=ax):∀(ds:ak A),ds.all (cJ 7)=ax->((ds.map (toPy 7)).any λy=>PyData.eqv y (toPy 7 a))=ds.any λd=>gQ 7 d a
 |[],_=>rfl
 |d::ds,h=>by
  simp only[Nl,mB]at h;simp only[bU,QT];rw[Az 7 d a h.1 ha,ac2 a ha ds h.2]
def Uh(K:bj)(neg:br):R2:=λx y H Q=>∃O a ds,cJ 7 a=ax/\cJ 8 (.lst ds)=ax/\Den K H O x a/\Den K H O y (.lst ds)/\Q (.bl (if neg then !(ds.any λd=>gQ 7 d a)else ds.any λd=>gQ 7 d a)) H
theorem ap6{X:Cx}(e:X.A.units+64<e4):jC X (cn .NotIn) (Uh X.K ax):=by
 intro aa s J H x y v u Q I z j h;obtain⟨c,a,ds,h1,h2,b,U,q⟩:=h;obtain⟨g,N⟩:=HN I 7 x v a h1 b z;obtain⟨bs,B⟩:=HN I 8 y u (.lst ds) h2 U j;have f:=Ba 7 a;have hall:ds.all (cJ 7)=ax:=h2;refine SeqAt.notIn_list_reads (xs:=ds.map (toPy 7)) B N (WW ds 7 (λd _=>HC 7 d) hall) (HC 7 a h1) (by omega) ?_;rw[ac2 a h1 ds hall];exact⟨.bl (!(ds.any λd=>gQ 7 d a)),H,I,rfl,q⟩
def vK(neg:br)(a b:A):Mo A:=λZ=>match res Z 6 a,res Z 6 b with
 |some x,aj (.lst ds)=>if(cJ 7 x&&cJ 8 (.lst ds))=ax then aj (.ok (.bl (if neg then !(ds.any λd=>gQ 7 d x)else ds.any λd=>gQ 7 d x)),Z)else ao
 |_,_=>ao
theorem ap2{K:bj}{W:WX}{neg:br}:zL K W (Uh K neg) (vK neg):=by
 intro G q d H J x y a b Q w c U h;unfold vK at h;split at h
 ·rename_i z ds N B;split at h
  ·rename_i j;simp only[mB]at j;exact⟨q,z,ds,j.1,j.2,TM w 6 x a z c N,TM w 6 y b _ U B,h _ H G q (Ext.refl _ _) w (by simp only[Den])⟩
  ·exact False.elim h
 ·exact False.elim h
theorem Wh{X:Cx}{W:WX}(j:X.A.units+64<e4):nW X W (cn .NotIn) (vK ax):=⟨_,ap6 j,ap2⟩
noncomputable def putD{α:Type}(f:ba)(v:α):ak (ba×α)->ak (ba×α)
 |[]=>[(f,v)]
 |(g,x)::r=>if g=f then(g,v)::r else(g,x)::putD f v r
@[simp] noncomputable def Fd.cell:Fd->ar Cell
 |.lst ds=>aj (.lst ds)
 |.bA kvs=>aj (.bA kvs)
 |.val _=>ao
theorem UJ{α:Type}{f:ba}:∀{l:ak (ba×α)} {x:α},l.lookup f=aj x->∃i,l[i]?=aj (f,x)/\∀y,putD f y l=l.set i (f,y)
 |[],_,h=>by simp at h
 |(g,z)::r,x,h=>by
  by_cases e:g=f
  ·subst e;simp[List.lookup]at h;subst h;exact⟨0,rfl,λy=>by simp[putD]⟩
  ·have hb:(f==g)=au:=zJ.mpr (dQ e);simp only[List.lookup,hb]at h;obtain⟨i,h1,h2⟩:=UJ h;exact⟨i+1,by simpa using h1,λy=>by simp[putD,e,h2 y]⟩
theorem TN{α:Type}{f g:ba}{v:α}:∀{l:ak (ba×α)},(putD f v l).lookup g=if g=f then aj v else l.lookup g
 |[]=>by
  by_cases e:g=f
  ·subst e;simp[putD]
  ·have hb:(g==f)=au:=zJ.mpr e;simp[putD,List.lookup,hb,e]
 |(k,x)::r=>by
  have ih:=TN (f:=f) (g:=g) (v:=v) (l:=r)
  by_cases h:k=f
  ·subst h
   by_cases e:g=k
   ·subst e;simp[putD]
   ·have hb:(g==k)=au:=zJ.mpr e;simp[putD,List.lookup,hb,e]
  ·by_cases e:g=k
   ·subst e;simp[putD,h]
   ·have hb:(g==k)=au:=zJ.mpr e;simp only[putD,bf h,List.lookup,hb];exact ih
theorem ML{α:Type}{f:ba}{v w:α}:∀{l:ak (ba×α)},putD f w (putD f v l)=putD f w l
 |[]=>by simp[putD]
 |(k,x)::r=>by
  by_cases h:k=f
  ·simp[putD,h]
  ·simp[putD,h,ML (l:=r)]
section
variable{K:bj}{G H:Hp}{O:ak aw}{Z:aE}
theorem xH:∀{j:ak (ba×V)} {fs:ak (ba×Fd)},jY K G O H j fs<->j.length=fs.length/\∀(i:ay) (h:ba) (v:V) (g:ba) (fd:Fd),j[i]?=aj (h,v)->fs[i]?=aj (g,fd)->h=g/\kI K G O H v fd
 |[],[]=>⟨λ_=>⟨rfl,λi h v g fd q=>by simp at q⟩,λ_=>trivial⟩
 |[],_::_=>⟨λh=>h.elim,λh=>by simp at h⟩
 |_::_,[]=>⟨λh=>h.elim,λh=>by simp at h⟩
 |(f,v)::j,(g,d)::fs=>by
  constructor
  ·rintro⟨h1,h2,U⟩;obtain⟨N,z⟩:=xH.mp U;refine⟨by simp[N],λi h B g' fd a b=>?_⟩;cases i with
   |zero=>simp at a b;obtain⟨rfl,rfl⟩:=a;obtain⟨rfl,rfl⟩:=b;exact⟨h1,h2⟩
   |succ i=>exact z i h B g' fd (by simpa using a) (by simpa using b)
  ·rintro⟨N,z⟩;obtain⟨h1,h2⟩:=z 0 f v g d rfl rfl;exact⟨h1,h2,xH.mpr ⟨by simpa using N,λi h B g' fd a b=>z (i+1) h B g' fd (by simpa using a) (by simpa using b)⟩⟩
theorem jY.look{ws:ak (ba×V)}{fs:ak (ba×Fd)}{f:ba}{fd:Fd}(h:jY K G O H ws fs)(l:fs.lookup f=aj fd):∃v,ws.lookup f=aj v/\kI K G O H v fd:=by
 induction fs generalizing ws with
 |nil=>simp at l
 |cons p fs ih =>
  obtain⟨g,d⟩:=p;cases ws with
  |nil=>exact h.elim
  |cons q ws =>
   obtain⟨g',v⟩:=q;obtain⟨e,h2,j⟩:=h;subst e
   by_cases hb:(f==g')=ax
   ·simp only[List.lookup,hb]at l ⊢;cases l;exact⟨v,rfl,h2⟩
   ·have hb:(f==g')=au:=by simpa using hb
    simp only[List.lookup,hb]at l ⊢;exact ih j l
theorem jY.arN{ws:ak (ba×V)}{fs:ak (ba×Fd)}{f:ba}(h:jY K G O H ws fs)(l:fs.lookup f=ao):ws.lookup f=ao:=by
 induction fs generalizing ws with
 |nil =>
  cases ws with
  |nil=>rfl
  |cons q ws=>exact h.elim
 |cons p fs ih =>
  obtain⟨g,d⟩:=p;cases ws with
  |nil=>exact h.elim
  |cons q ws =>
   obtain⟨g',v⟩:=q;obtain⟨e,h2,j⟩:=h;subst e
   by_cases hb:(f==g')=ax
   ·simp only[List.lookup,hb]at l;cases l
   ·have hb:(f==g')=au:=by simpa using hb
    simp only[List.lookup,hb]at l ⊢;exact ih j l
theorem jY.put{ws:ak (ba×V)}{fs:ak (ba×Fd)}{f:ba}{fd:Fd}{v:V}(h:jY K G O H ws fs)(d:kI K G O H v fd):jY K G O H (jO f v ws) (putD f fd fs):=by
 induction fs generalizing ws with
 |nil =>
  cases ws with
  |nil=>exact⟨rfl,d,trivial⟩
  |cons q ws=>exact h.elim
 |cons p fs ih =>
  obtain⟨g,x⟩:=p;cases ws with
  |nil=>exact h.elim
  |cons q ws =>
   obtain⟨g',B⟩:=q;obtain⟨e,h2,z⟩:=h;subst e
   by_cases j:g'=f
   ·simp only[jO,putD,a9 j];exact⟨rfl,d,z⟩
   ·simp only[jO,putD,bf j];exact⟨rfl,h2,ih z⟩
theorem jY.len{ws:ak (ba×V)}{fs:ak (ba×Fd)}(h:jY K G O H ws fs):ws.length=fs.length:=(xH.mp h).1
theorem kI.apZ{v:V}{fd:Fd}{c:Cell}(h:kI K G O H v fd)(q:fd.cell=aj c):∃b,v=.ref b/\b∉O/\(∃o,H b=aj o)/\tJ K G O H b c:=by
 cases fd with
 |val a=>cases q
 |lst ds=>cases q;obtain⟨b,xs,h1,h2,B,j,z⟩:=h;exact⟨b,h1,B,⟨_,j⟩,h2,xs,j,z⟩
 |bA N=>cases q;obtain⟨b,ws,h1,h2,B,j,z,U⟩:=h;exact⟨b,h1,B,⟨_,j⟩,h2,ws,j,z,U⟩
theorem kI.HU{b:aw}{fd:Fd}{c:Cell}(j:fd.cell=aj c)(hb:b∉O)(h:tJ K G O H b c):kI K G O H (.ref b) fd:=by
 cases fd with
 |val a=>cases j
 |lst ds=>cases j;obtain⟨h1,xs,h2,q⟩:=h;exact⟨b,xs,rfl,h1,hb,h2,q⟩
 |bA z=>cases j;obtain⟨h1,ws,h2,q,B⟩:=h;exact⟨b,ws,rfl,h1,hb,h2,q,B⟩
theorem Fd.aFS{fd:Fd}{c:Cell}(j:fd.cell=aj c):fd.own=ax:=by cases fd <;> first|rfl|cases j
theorem Fd.aFT{fd:Fd}{c:Cell}(j:fd.cell=aj c):c.noOwn=ax:=by cases fd <;> cases j <;> rfl
theorem kI.lend{b:aw}{v:V}{fd:Fd}(h:kI K G O H v fd)(hb:fd.own=ax->v≠.ref b):kI K G (O++[b]) H v fd:=by
 cases fd with
 |val a=>exact Den.ext (Ext.cell b) h
 |lst ds =>
  obtain⟨B,xs,h1,h2,z,q,j⟩:=h;exact⟨B,xs,h1,h2,by simp;exact⟨z,λe=>hb rfl (by rw[h1,e])⟩,q,j.ext (Ext.cell b)⟩
 |bA N =>
  obtain⟨B,ws,h1,h2,z,q,j,U⟩:=h;exact⟨B,ws,h1,h2,by simp;exact⟨z,λe=>hb rfl (by rw[h1,e])⟩,q,j,U.ext (Ext.cell b)⟩
theorem Wd.unfold{s:ay}{cls f:ba}{fs:ak (ba×Fd)}{fd:Fd}{c:Cell}(w:Wd K G O Z H)(D:Z[s]?=aj (.ins cls fs))(hf:fs.lookup f=aj fd)(F:fd.cell=aj c) :
  ∃b,Wd K G (O++[b]) (Z.set s (.ins cls (putD f (.val (.aI Z.length)) fs))++[c]) H:=by
 obtain⟨a,ha⟩:=w.addr D;obtain⟨g,C,Q,ws,h0,h1,h2⟩:=w.aI s _ a D ha;obtain⟨n,e1,e2⟩:=UJ hf;obtain⟨q1,q2⟩:=xH.mp h2;have zA:n<fs.length:=(dA.mp e1).1;obtain⟨⟨P,v0⟩,e3⟩:∃p,ws[n]?=aj p:=⟨ws[n]'(by omega),fL _⟩;obtain⟨rfl,o0⟩:=q2 n P v0 f fd e3 e1;obtain⟨b,rfl,hb,⟨o,ho⟩,hC⟩:=o0.apZ F;have Vx:jU H O Z s n b:=⟨a,cls,fs,C,Q,ws,_,_,fd,ha,D,h1,e1,Fd.aFS F,e3⟩;have pO:s<Z.length:=(dA.mp D).1;have I:∀k,k<Z.length->(O++[b])[k]?=O[k]?:=λk r=>jJ (by rw[w.len];exact r);have L:∀k,k<Z.length->(Z.set s (.ins cls (putD P (.val (.aI Z.length)) fs))++[c])[k]?=(Z.set s (.ins cls (putD P (.val (.aI Z.length)) fs)))[k]?:=λk r=>jJ (by simpa using r);refine⟨b,w.sub,?_,by simp[w.len],λx hx=>?_,λk c' R l m=>?_,λb' k i k' i' l m=>?_⟩
 ·rw[YS];exact⟨w.inj,by simp,λx hx y hy=>by simp at hy;subst hy;exact λe=>hb (e ▸ hx)⟩
 ·rcases lH.mp hx with h|h
  ·exact w.live x h
  ·simp at h;subst h;exact⟨o,ho⟩
 ·by_cases r:k<Z.length
  ·rw[I k r]at m;rw[L k r]at l
   by_cases A:k=s
   ·subst A;rw[fG pO]at l;cases l;rw[ha]at m;cases m;refine⟨g,C,Q,ws,h0,h1,xH.mpr ⟨by rw[e2];simpa using q1,λj h v g' N B z=>?_⟩⟩;rw[e2]at z
    by_cases E:j=n
    ·subst E;rw[fG zA]at z;cases z;rw[e3]at B;cases B;refine⟨rfl,?_⟩;simp only[kI,Den];exact⟨b,rfl,by rw[<-w.len];simp⟩
    ·rw[iO (dQ E)]at z;obtain⟨V,T⟩:=q2 j h v g' N B z;refine⟨V,T.lend λX ev=>E ?_⟩;subst ev;exact(w.sep b _ j _ n ⟨a,cls,fs,C,Q,ws,_,_,N,ha,D,h1,z,X,B⟩ Vx).2
   ·rw[iO (dQ A)]at l;have q:=w.aI k c' R l m;cases c' with
    |lst ds=>obtain⟨B,xs,z,d⟩:=q;exact⟨B,xs,z,d.ext (Ext.cell b)⟩
    |bA kvs=>obtain⟨B,t,z,d,U⟩:=q;exact⟨B,t,z,d,U.ext (Ext.cell b)⟩
    |ins W jH =>
     obtain⟨y0,S,M,t,B,z,d⟩:=q;obtain⟨p1,p2⟩:=xH.mp d;refine⟨y0,S,M,t,B,z,xH.mpr ⟨p1,λj h v g' N U u=>?_⟩⟩;obtain⟨V,T⟩:=p2 j h v g' N U u;refine⟨V,T.lend λX ev=>A ?_⟩;subst ev;exact(w.sep b k j s n ⟨R,W,jH,S,M,t,_,_,N,m,l,z,u,X,U⟩ Vx).1
    |tab x pos qual=>exact q
    |dead=>trivial
  ·have jF:k=Z.length:=by
    have:=(dA.mp l).1;simp at this;omega
   subst jF;rw[<-w.len]at m;simp at m;subst m;simp at l;subst l;cases fd with
   |val x=>cases F
   |lst ds=>cases F;obtain⟨B,xs,z,d⟩:=hC;exact⟨B,xs,z,d.ext (Ext.cell b)⟩
   |bA kvs=>cases F;obtain⟨B,t,z,d,U⟩:=hC;exact⟨B,t,z,d,U.ext (Ext.cell b)⟩
 ·have back:∀{k i},jU H (O++[b]) (Z.set s (.ins cls (putD P (.val (.aI Z.length)) fs))++[c]) k i b'->jU H O Z k i b':=λ{k i} h=>by
   have Iy:=h;obtain⟨R,W,jH,S,M,t,g',h',N,B,z,d,U,u,y6⟩:=h
   by_cases r:k<Z.length
   ·rw[I k r]at B;rw[L k r]at z
    by_cases A:k=s
    ·subst A;rw[fG pO]at z;cases z;rw[ha]at B;cases B;rw[h1]at d;cases d;rw[e2]at U
     by_cases E:i=n
     ·subst E;rw[fG zA]at U;cases U;cases u
     ·rw[iO (dQ E)]at U;exact⟨a,_,fs,C,Q,ws,g',h',N,ha,D,h1,U,u,y6⟩
    ·rw[iO (dQ A)]at z;exact⟨R,W,jH,S,M,t,g',h',N,B,z,d,U,u,y6⟩
   ·have jF:k=Z.length:=by
     have:=(dA.mp z).1;simp at this;omega
    subst jF;exact(Iy.no (by simp) (Fd.aFT F)).elim
  exact w.sep b' k i k' i' (back l) (back m)
theorem rY.get{n:ay}:∀{fs:ak (ba×Fd)} {i:ay} {p:ba×Fd},rY n fs->fs[i]?=aj p->tI n p.2
 |[],_,_,_,h=>by simp at h
 |_::_,0,_,c,h=>by simp at h;subst h;exact c.1
 |_::fs,i+1,_,c,h=>rY.get (fs:=fs) c.2 (by simpa using h)
theorem Wd.fold{s:ay}{cls f:ba}{fs:ak (ba×Fd)}{fd:Fd}{c:Cell}{q:aE}(w:Wd K G O (q++[c]) H)(hs:q[s]?=aj (.ins cls fs))(hf:fs.lookup f=aj (.val (.aI q.length)))(hc:fd.cell=aj c)
  (M:∀k c',k≠s->q[k]?=aj c'->LF q.length c') (hfs:rY q.length (putD f fd fs)):Wd K G (O.take q.length) (q.set s (.ins cls (putD f fd fs))) H:=by
 have pO:s<q.length:=(dA.mp hs).1;have hlen:O.length=q.length+1:=by rw[w.len];simp
 have e:∀k,k<q.length->(q++[c])[k]?=q[k]?:=λk M=>jJ M;have d:∀k,k<q.length->(O.take q.length)[k]?=O[k]?:=λk M=>by rw[KA,a9 M]
 obtain⟨b,hb⟩:∃b,O[q.length]?=aj b:=⟨O[q.length]'(by omega),fL _⟩;have eι:O=O.take q.length++[b]:=by
  have:=List.take_append_getElem (l:=O) (i:=q.length) (by omega);rw[fL (show q.length<O.length by omega)]at hb;cases hb;rw[List.take_append_getElem,Nd (by omega)]
 have hbn:b∉O.take q.length:=λz=>by
  have nd:=w.inj;rw[eι,YS]at nd;exact nd.2.2 b z b (by simp) rfl
 have sub:∀x,x∉O->x∉O.take q.length:=λx hx z=>hx (ad3 z);have ha:∃a,O[s]?=aj a:=w.addr (show(q++[c])[s]?=aj (.ins cls fs)by rw[e s pO];exact hs);obtain⟨a,ha⟩:=ha;obtain⟨g,C,dx,ws,h0,h1,h2⟩:=w.aI s _ a (by rw[e s pO];exact hs) ha;obtain⟨i0,e1,e2⟩:=UJ hf;obtain⟨q1,q2⟩:=xH.mp h2;have zA:i0<fs.length:=(dA.mp e1).1;have hcb:=w.aI q.length c b (by simp) hb;refine⟨w.sub,w.inj.sublist (YQ ..),by simp[hlen],λx hx=>w.live x (ad3 hx),λk c' S m u=>?_,λt k i k' i' m u=>?_⟩
 ·have A:k<q.length:=by simpa using(dA.mp m).1
  rw[d k A]at u
  by_cases D:k=s
  ·subst D;rw[fG pO]at m;cases m;rw[ha]at u;cases u;refine⟨g,C,dx,ws,h0,h1,xH.mpr ⟨by rw[e2];simpa using q1,λj h v g' B U N=>?_⟩⟩;have R:tI q.length B:=hfs.get N;rw[e2]at N
   by_cases P:j=i0
   ·subst P;rw[fG zA]at N;cases N;obtain⟨W,p⟩:=q2 j h v _ _ U e1;refine⟨W,?_⟩;simp only[kI,Den]at p;obtain⟨b2,rfl,jQ⟩:=p;rw[hb]at jQ;cases jQ;exact kI.HU hc hbn (hcb.cut d sub (by cases fd <;> cases hc <;> exact R))
   ·rw[iO (dQ P)]at N;obtain⟨W,p⟩:=q2 j h v g' B U N;exact⟨W,p.cut d sub R⟩
  ·rw[iO (dQ D)]at m;exact(w.aI k c' S (by rw[e k A];exact m) u).cut d sub (M k c' D m)
 ·
  have back:∀{k i},jU H (O.take q.length) (q.set s (.ins cls (putD f fd fs))) k i t->(jU H O (q++[c]) k i t/\t∉O)\/(k=s/\i=i0/\t=b):=λ{k i} h=>by
   obtain⟨S,X,L,C',sV,mT,g',h',B,U,N,y,n,T,E⟩:=h;have A:k<q.length:=by simpa using(dA.mp N).1
   rw[d k A]at U;have ae:∀{X L mT C' sV B g' h'},(q++[c])[k]?=aj (.ins X L)->H S=aj (.ins C' sV mT)->L[i]?=aj (g',B)->B.own=ax->mT[i]?=aj (h',V.ref t)->t∉O:=λ{_ _ _ _ _ fdx _ _} I F x3 x4 x5=>by
    obtain⟨_,_,_,ws2,_,p1,p2⟩:=w.aI k _ S I U;rw[F]at p1;cases p1;obtain⟨_,r⟩:=(xH.mp p2).2 i _ _ _ _ x5 x3;cases fdx with
    |val x=>cases x4
    |lst ds=>obtain⟨b3,_,t1,_,t2,_⟩:=r;cases t1;exact t2
    |bA kvs=>obtain⟨b3,_,t1,_,t2,_⟩:=r;cases t1;exact t2
   by_cases D:k=s
   ·subst D;rw[fG pO]at N;cases N;rw[ha]at U;cases U;rw[h1]at y;cases y;rw[e2]at n
    by_cases P:i=i0
    ·subst P
     right
     rw[fG zA]at n;cases n;obtain⟨W,p⟩:=q2 i _ _ _ _ E e1;simp only[kI,Den]at p;obtain⟨b2,eb,jQ⟩:=p;rw[hb]at jQ;cases jQ;cases eb;exact⟨rfl,rfl,rfl⟩
    ·rw[iO (dQ P)]at n;have Q:(q++[c])[k]?=aj (.ins cls fs):=by rw[e k A];exact hs
     exact .inl ⟨⟨a,_,fs,C,dx,ws,g',h',B,ha,Q,h1,n,T,E⟩,ae Q h1 n T E⟩
   ·rw[iO (dQ D)]at N;have Q:(q++[c])[k]?=aj (.ins X L):=by rw[e k A];exact N
    exact .inl ⟨⟨S,X,L,C',sV,mT,g',h',B,U,Q,y,n,T,E⟩,ae Q y n T E⟩
  have o:b∈O:=mQ hb
  rcases back m with⟨I,F⟩|⟨I,F,x3⟩ <;> rcases back u with⟨U,N⟩|⟨U,N,y⟩
  ·exact w.sep t k i k' i' I U
  ·subst y;exact bz o F
  ·subst x3;exact bz o N
  ·exact⟨I.trans U.symm,F.trans N.symm⟩
end
def Unf(s:ay)(f:ba)(Z Z1:aE):Prop:=∃cls fs fd c,Z[s]?=aj (.ins cls fs)/\fs.lookup f=aj fd/\fd.cell=aj c/\Z1=Z.set s (.ins cls (putD f (.val (.aI Z.length)) fs))++[c]
def Folds(s:ay)(f:ba)(n:ay)(Z2 Z':aE):Prop:=∃j c cls fs fd,Z2=j++[c]/\j.length=n/\j[s]?=aj (.ins cls fs)/\fs.lookup f=aj (.val (.aI n))/\fd.cell=aj c /\
 (∀k c',k≠s->j[k]?=aj c'->LF n c')/\rY n (putD f fd fs)/\Z'=j.set s (.ins cls (putD f fd fs))
structure ClS(Z:aE)(Y:Ev):Prop where
 aI:∀(k:ay) (c:Cell),Z[k]?=aj c->LF Z.length c
 env:∀(i:ay) (d:A),Y[i]?=aj (aj d)->Cl Z.length d
section
variable{K:bj}{G H:Hp}{O:ak aw}{Z Z1 Z2 Z':aE}{J:L2.St}{Y:Ev}{W:WX}{s:ay}{f:ba}
theorem Wd.vR(w:Wd K G O Z H)(r:gH K G O J Y):ClS Z Y where
 aI:=λk c h=>by
  obtain⟨a,ha⟩:=w.addr h;have:=(w.aI k c a h ha).cl;rwa[w.len]at this
 env:=λi d h=>by
  obtain⟨v,_,q⟩:=r.2 i d h;have:=q.cl;rwa[w.len]at this
theorem Wd.unf(w:Wd K G O Z H)(h:Unf s f Z Z1):∃b,Wd K G (O++[b]) Z1 H:=by
 obtain⟨cls,fs,fd,c,h1,h2,j,rfl⟩:=h;exact w.unfold h1 h2 j
theorem aCP{G':Hp}{O':ak aw}{b:aw}{n:ay}(hl:O.length=n)(e:Ext G (O++[b]) G' O'):Ext G O G' (O'.take n):=⟨e.same,λk x h=>by
 have j:=(dA.mp h).1;rw[KA,a9 (by omega)];exact e.pre k x (by rw[jJ j];exact h)⟩
theorem Wd.aCE{n:ay}(w:Wd K G O Z2 H)(h:Folds s f n Z2 Z'):Wd K G (O.take n) Z' H:=by
 obtain⟨j,c,cls,fs,fd,rfl,rfl,U,N,B,z,q,rfl⟩:=h;exact w.fold U N B z q
theorem ahW{O':ak aw}{n:ay}:∀k,k<n->(O'.take n)[k]?=O'[k]?:=λk j=>by rw[KA,a9 j]
theorem abM{j:L2.St}{Y':Ev}{G':Hp}{O':ak aw}{n:ay}(r:gH K G' O' j Y')(q:∀(i:ay) (d:A),Y'[i]?=aj (aj d)->Cl n d):gH K G' (O'.take n) j Y' :=
 ⟨r.1,λi d h=>let ⟨v,h1,h2⟩:=r.2 i d h; ⟨v,h1,h2.cut ahW (q i d h)⟩⟩
theorem aoG{b:aw}{D:Ends}{Y':Ev}(w:Wd K G O Z H)(U:Folds s f Z.length Z2 Z')(N:∀(i:ay) (d:A),Y'[i]?=aj (aj d)->Cl Z.length d)(h:fK K W G O D (aj (.nx,Y',Z'))):fK K W G (O++[b]) D (aj (.nx,Y',Z2)):=by
 intro j a c q e z B;exact h j a c (q.take Z.length) (aCP w.len e) (z.aCE U) (abM B N)
end
section
variable{X:Cx}{W:WX}{e:bx}{tg:bx}{st:b7}{g d:Ev->Mo A}{gb db:Ev->Mo br}{gs ds:MS}{gt dt:A->MS}
theorem af5(h:VS X W st gs)(hd:∀Y Z r,ClS Z Y->ds Y Z=aj r->∃s f Z1 Z2,Unf s f Z Z1/\gs Y Z1=aj (.nx,r.2.1,Z2)/\Folds s f Z.length Z2 r.2.2/\(∀(i:ay) (d:A),r.2.1[i]?=aj (aj d)->Cl Z.length d)/\r.1=.nx):VS X W st ds:=by
 obtain⟨t,p,a⟩:=h;refine⟨t,p,λG N Z H J Y D w r h=>?_⟩;cases e:ds Y Z with
 |none=>rw[e]at h;exact h.elim
 |some q =>
  obtain⟨s,f,Z1,Z2,h1,h2,B,z,j⟩:=hd Y Z q (w.vR r) e;obtain⟨b,U⟩:=w.unf h1;obtain⟨k,g,c⟩:=q;simp only at h2 B z j;subst j;rw[e]at h;refine a G (N++[b]) Z1 H J Y D U (r.ext (Ext.cell b)) ?_;rw[h2];exact aoG w B z h
end
def eQ(K:bj)(cs:ak ba)(f:ba):Prop:=∀cls∈cs,∃C,cw K az cls=aj (aj (.ref C))/\nI K C/\FP K C f
@[simp] def ER(cs:ak ba)(f:ba)(a:A):Mo A:=λZ=>match a with
 |.aI s=>match Z[s]? with
  |some (.ins cls fs)=>if cls∈cs then match fs.lookup f with
   |some (.val b)=>aj (.ok b,Z)
   |_=>ao else ao
  |_=>ao
 |_=>ao
@[simp] def eY(cs:ak ba)(f:ba)(fe:Ev->Mo A):Ev->Mo A:=λY=>mb (fe Y) (ER cs f)
@[simp] def sH(cs:ak ba)(f:ba)(fo fv:Ev->Mo A):MS:=λY=>sM (fv Y) Y λb=>sM (fo Y) Y λa Z=>match a with
 |.aI s=>match Z[s]? with
  |some (.ins cls fs)=>if cls∈cs/\fs.length<1000 then aj (.nx,Y,Z.set s (.ins cls (putD f (.val b) fs)))else ao
  |_=>ao
 |_=>ao
section
variable{K:bj}{G H:Hp}{O:ak aw}{Z:aE}
theorem Wd.ins(w:Wd K G O Z H){s:ay}{cls:ba}{fs:ak (ba×Fd)}{v:V}(h:Z[s]?=aj (.ins cls fs))(d:Den K G O v (.aI s)):∃a C dx,∃ws:ak (ba×V),v=.ref a/\O[s]?=aj a/\G a=ao/\cw K az cls=aj (aj (.ref C))/\H a=aj (.ins C dx ws)/\jY K G O H ws fs:=by
 simp only[Den]at d;obtain⟨a,rfl,ha⟩:=d;obtain⟨g,C,dx,ws,h1,h2,j⟩:=w.aI s _ a h ha;exact⟨a,C,dx,ws,rfl,ha,g,h1,h2,j⟩
theorem Ve{f:ba}{v:V}{b:A}:∀{j:ak (ba×V)} {fs:ak (ba×Fd)} {i:ay} {g h:ba} {fd:Fd} {x:V},jY K G O H j fs->(putD f (.val b) fs)[i]?=aj (g,fd)->fd.own=ax->(jO f v j)[i]?=aj (h,x)->fs[i]?=aj (g,fd)/\j[i]?=aj (h,x)
 |[],[],i,g,h,fd,x,_,y,o,_=>by
  cases i with
  |zero=>simp[putD]at y;obtain⟨_,rfl⟩:=y;cases o
  |succ i=>simp[putD]at y
 |[],_::_,_,_,_,_,_,q,_,_,_=>q.elim
 |_::_,[],_,_,_,_,_,q,_,_,_=>q.elim
 |(k,u)::j,(U,d)::fs,i,g,h,fd,x,q,y,o,z=>by
  obtain⟨rfl,N,B⟩:=q
  by_cases e:k=f
  ·simp only[putD,jO,a9 e]at y z;cases i with
   |zero=>simp at y;obtain⟨_,rfl⟩:=y;cases o
   |succ i=>exact⟨by simpa using y,by simpa using z⟩
  ·simp only[putD,jO,bf e]at y z;cases i with
   |zero=>exact⟨by simpa using y,by simpa using z⟩
   |succ i =>
    have:=Ve (f:=f) (v:=v) (b:=b) (i:=i) B (by simpa using y) o (by simpa using z);exact⟨by simpa using this.1,by simpa using this.2⟩
theorem Wd.akW(w:Wd K G O Z H){s:ay}{cls f:ba}{fs:ak (ba×Fd)}{a C dx:aw}{ws:ak (ba×V)}{v:V}{b:A}(h:Z[s]?=aj (.ins cls fs))(ha:O[s]?=aj a)(E:G a=ao)(h0:cw K az cls=aj (aj (.ref C)))
  (h1:H a=aj (.ins C dx ws)) (h2:jY K G O H ws fs) (d:Den K G O v b):Wd K G O (Z.set s (.ins cls (putD f (.val b) fs))) (upd H a (.ins C dx (jO f v ws))):=by
 have t:s<Z.length:=(dA.mp h).1;have D:∀b o,b∉O->G b=ao->H b=aj o->b∉O/\G b=ao/\upd H a (.ins C dx (jO f v ws)) b=aj o:=λb o x y z=>by
  have nb:b≠a:=λe=>by subst e;exact x (HZ ha)
  exact⟨x,y,by rw[bE nb];exact z⟩
 have T:jY K G O (upd H a (.ins C dx (jO f v ws))) ws fs:=h2.map λ_ _ q=>q.mono (Ext.refl _ _) D;refine⟨λb u q=>?_,w.inj,by simp[w.len],λb hb=>?_,λj S b U N=>?_,λn j i Q R U N=>?_⟩
 ·have e:b≠a:=λe=>by subst e;rw[E]at q;cases q
  rw[bE e];exact w.sub _ _ q
 ·by_cases e:b=a
  ·subst e;exact⟨_,eL⟩
  ·rw[bE e];exact w.live b hb
 ·by_cases B:j=s
  ·subst B;rw[fG t]at U;cases U;rw[ha]at N;cases N;exact⟨E,C,dx,_,h0,eL,T.put d⟩
  ·rw[iO (dQ B)]at U;have gU:b≠a:=λe=>by subst e;exact B (HX w.inj N ha)
   exact(w.aI j S b U N).mono (Ext.refl _ _) rfl (bE gU) D
 ·have back:∀{j i},jU (upd H a (.ins C dx (jO f v ws))) O (Z.set s (.ins cls (putD f (.val b) fs))) j i n->jU H O Z j i n:=λ{j i} q=>by
   obtain⟨F,L,P,W,I,M,g',h',c,l,k,g,r,m,p⟩:=q
   by_cases B:j=s
   ·subst B;rw[fG t]at k;cases k;rw[ha]at l;cases l;rw[eL]at g;cases g;have pi:=Ve h2 r m p;exact⟨a,cls,fs,C,dx,ws,g',h',c,ha,h,h1,pi.1,m,pi.2⟩
   ·rw[iO (dQ B)]at k;have gU:F≠a:=λe=>by subst e;exact B (HX w.inj l ha)
    rw[bE gU]at g;exact⟨F,L,P,W,I,M,g',h',c,l,k,g,r,m,p⟩
  exact w.sep n j i Q R (back U) (back N)
end
section
variable{X:Cx}{W:WX}{e o value:bx}{f:ba}{cs:ak ba}{pos pos':dk}{fe fo fv:Ev->Mo A}
theorem oB(h:VE X W e fe)(x:eQ X.K cs f)(hb:ck e f X.env (b9 e X.env)=b9 e X.env:=by rfl):VE X W (.Attribute e f pos) (eY cs f fe):=by
 obtain⟨t,p,s⟩:=h;refine⟨_,MO p hb,λG g i H J d Q w r h=>?_⟩;refine s G g i H J d _ w r (bP.mb h λa q v M P j R N L h1=>?_);unfold ER at h1;cases a with
 |aI k =>
  simp only at h1;cases B:q[k]? with
  |none=>rw[B]at h1;exact h1.elim
  |some c =>
   rw[B]at h1;cases c with
   |ins cls fs =>
    simp only at h1
    by_cases fR:cls∈cs
    ·rw[a9 fR]at h1;cases z:fs.lookup f with
     |none=>rw[z]at h1;exact h1.elim
     |some E =>
      rw[z]at h1;cases E with
      |val b =>
       obtain⟨a,C,F,m,rfl,ha,S,D,y,A⟩:=N.ins B L;obtain⟨T,U,o,n⟩:=x cls fR;rw[D]at U;cases U;obtain⟨u,l,I⟩:=A.look z;exact⟨a,C,F,m,u,rfl,y,o,n,l,h1 u M P j (Ext.refl _ _) N I⟩
      |_=>exact h1.elim
    ·rw[bf fR]at h1;exact h1.elim
   |_=>exact h1.elim
 |_=>exact h1.elim
theorem wM(R:VE X W o fo)(hv:VE X W value fv)(T:eQ X.K cs f)(Q:ew value (aj (.Attribute o f pos')) pos.line X.env=pure au:=by rfl):VS X W (.Assign [.Attribute o f pos'] value pos) (sH cs f fo fv):=by
 obtain⟨t,p,s⟩:=R;obtain⟨u,q,z⟩:=hv;refine⟨_,aoA p q Q,λG E F H J e D w r h=>?_⟩;refine z G E F H J e _ w r (fK.sM h r λb U y H1 G1 B d L d1 h1=>?_);refine s G1 B U H1 J e _ L (r.ext d) (fK.sM h1 (r.ext d) λa N v H2 G2 A g i d2 h2=>?_);cases a with
 |aI k =>
  simp only at h2;cases j:N[k]? with
  |none=>rw[j]at h2;exact h2.elim
  |some c =>
   rw[j]at h2;cases c with
   |ins cls fs =>
    simp only at h2
    by_cases fR:cls∈cs/\fs.length<1000
    ·rw[a9 fR]at h2;obtain⟨a,C,V,I,rfl,ha,S,x,m,n⟩:=i.ins j d2;obtain⟨C',l,P,M⟩:=T cls fR.1;rw[x]at l;cases l;refine⟨a,C,V,I,rfl,m,P,M,by rw[n.len];exact fR.2,?_⟩;exact yN (i.akW j ha S x m n (d1.ext g)) ((r.ext d).ext g) h2
    ·rw[bf fR]at h2;exact h2.elim
   |_=>exact h2.elim
 |_=>exact h2.elim
end
end V2
namespace L2
open PySem PySem.Spec PyProof.Rows
section
variable{X:Cx}{W:WX}{k:ay}{f C:aw}{fd:c4}{ps:ak ba}{sp:Sp}{dvs:ak V}{ds:ak aq}{x m:ba}{p pos af:dk}{e o:bx}{es:ak bx}{ta:TE}{t:TA}
theorem Dq{aa:ak (aw×c5)}{J:St}{H:Hp}{s:av}{Q:VK}{us:ak aq}{vs:ak V}(T:mO X W)(F:jX X.prog X.w X.K X.mg X.base (pC X.prog X.w) k f fd ps sp)(hr:cL k X.A)(hb:Binds X.K fd ps ds)(hd:Vals dvs ds)
  (I:Inv X aa J H s) (r:Vals vs us) (h:sp (vs++dvs) H Q λcls dx H'=>W J cls dx H'):wpAny (bq X.prog X.w) X.A (call (.ref f) us) (EP X aa J Q) X.xe s:=by
 have q:Vals (vs++dvs) (us++ds):=r.append hd;have hl:(us++ds).length=ps.length:=by rw[<-q.length];exact F.len _ _ _ _ h
 refine GR (uF (F.run X.A X.stack s H ⟨us,[]⟩ (us++ds) (vs++dvs) Q _ hr I.IX (hb s us I.fF hl) q h) λr s' j=>?_);cases r with
 |error U =>
  obtain⟨a,cls,dx,H',rfl,os,bare,un,aH,ex,B⟩:=j;have N:=(I.JG os un aH bare (λb z=>bz z (by simp))).TX;exact T.to _ _ ⟨J,H',a,cls,dx,rfl,N,(ex.first I T.ex).any,B⟩
 |ok fl =>
  cases fl with
  |ret u=>exact I.after j
  |next=>exact False.elim j
  |brk=>exact False.elim j
  |cont=>exact False.elim j
def Bf(X:Cx)(W:WX)(m:ba)(ta:TE)(t:TA):TE:=λJ H Q=>ta J H λx H1=>∃a C dx fs k f fd ps ds dvs sp,x=.ref a/\H1 a=aj (.ins C dx fs)/\fs.lookup m=ao/\nI X.K C/\Meth X.K C m f /\
 jX X.prog X.w X.K X.mg X.base (pC X.prog X.w) k f fd ps sp/\cL k X.A/\Binds X.K fd ps ds/\Vals dvs ds/\t J H1 λvs H2=>sp (.ref a::vs++dvs) H2 Q λcls dx H'=>W J cls dx H'
theorem ao5{pl:Sem br}(T:mO X W)(he:PE X o ta)(ha:PA X (e::es) t)
  (d:bg (e::es) X.env=(au,b9 e X.env)::bg es X.env:=by rfl) (n:(cx pos (bg es X.env)).any (·.1)=au:=by rfl)
  (g:b9 (.Call (.Attribute o m af) (e::es) [] pos) X.env=(do
   let j<-b9 o X.env
   standAt af.atName
   let (f,first)<-holding [j] (getMethod j m pl)
   callWith pos f first (cx pos (bg (e::es) X.env)) (backToKw pos (dn [] X.env))):=by rfl) :
  PE X (.Call (.Attribute o m af) (e::es) [] pos) (Bf X W m ta t):=by
 intro aa s J H Q I h;refine methodCall_KW (pl:=pl) (bM (he aa s J H _ I h) λu N h1=>?_) g;obtain⟨x,v,B,U,a,C,D,fs,k,f,A,y,ds,p,w,rfl,i,l,c,hm,F,hr,hb,hd,q⟩:=h1;obtain rfl:u=Value.ref a:=U;refine aa4 B i c hm l ?_;refine callWith_K (first:=[.ref a]) (h₀:=X.base) I.ok.mod.sO hm.kp (bM (ha pos aa N J v _ B q) λus s2 ⟨vs,E,z,r,b⟩=>⟨z.fF,?_⟩) d n;exact Dq (us:=.ref a::us) (vs:=.ref a::vs) T F hr hb hd z (.cons rfl r) b
theorem ao4{pl:Sem br}(T:mO X W)(he:PE X o ta)
  (N:b9 (.Call (.Attribute o m af) [] [] pos) X.env=(do
   let z<-b9 o X.env
   standAt af.atName
   let (f,first)<-holding [z] (getMethod z m pl)
   callWith pos f first (cx pos (bg [] X.env)) (backToKw pos (dn [] X.env))):=by rfl) :
  PE X (.Call (.Attribute o m af) [] [] pos) (Bf X W m ta MA):=by
 intro aa s J H Q I h;refine methodCall_KW (pl:=pl) (bM (he aa s J H _ I h) λu e h1=>?_) N;obtain⟨x,p,j,B,a,C,n,fs,k,f,i,g,ds,b,d,rfl,U,l,c,hm,F,hr,hb,hd,q⟩:=h1;obtain rfl:u=Value.ref a:=B;refine aa4 j U c hm l ?_;exact PySem.W.callWith_K0 (first:=[.ref a]) j.fF hm.kp (Dq (us:=[.ref a]) (vs:=[.ref a]) T F hr hb hd j (.cons rfl .nil) q)
structure Pm(K:bj)(R:aw)(m:ba)(f:aw):Prop where
 reads:PySem.W.readsIn K R (.type "type")=ax
 find:PySem.W.findCls K (.ref R) (.type "type") m=aj (.val (.ref f))
 ga:specialIn K (.ref R) "__getattribute__" = aj (aj (.builtin "type.__getattribute__"))
 kp:keepIn K (.ref f)=ax
theorem apR{pl:Sem br}{R:aw}{rk:ba}{np:dk}(T:mO X W)(B:Pm X.K R m f)(j:X.mg rk=aj (.ref R))(c:Gl X rk)(F:jX X.prog X.w X.K X.mg X.base (pC X.prog X.w) k f fd ps sp)(hr:cL k X.A)(hb:Binds X.K fd ps [])(ha:PA X (e::es) t)
  (d:(rk==("__debug__" : ba))=au:=by decide) (a:bg (e::es) X.env=(au,b9 e X.env)::bg es X.env:=by rfl) (g:(cx pos (bg es X.env)).any (·.1)=au:=by rfl)
  (b:b9 (.Call (.Attribute (.Name rk np) m af) (e::es) [] pos) X.env=(do
   let q<-b9 (.Name rk np) X.env
   standAt af.atName
   let (f,first)<-holding [q] (getMethod q m pl)
   callWith pos f first (cx pos (bg (e::es) X.env)) (backToKw pos (dn [] X.env))):=by rfl) :
  PE X (.Call (.Attribute (.Name rk np) m af) (e::es) [] pos) (Bj sp W t):=by
 intro aa s J H Q I h;refine methodCall_KW (pl:=pl) (AW I c j ?_ d) b;refine PySem.W.method_cls I.fF B.ga (PySem.W.cls_value I.fF B.reads B.find (aaO (v:=.ref f) rfl) ?_);have l:=I.tok (s.toks+1);refine callWith_K (first:=[]) (h₀:=X.base) I.ok.mod.sO B.kp (bM (ha pos aa _ J H _ l h) λus s2 ⟨vs,n,z,r,U⟩=>⟨z.fF,?_⟩) a g;have N:sp (vs++[]) n Q λcls i o=>W J cls i o:=by rw[pU];exact U
 exact Dq (us:=us) (vs:=vs) (dvs:=[]) T F hr hb .nil z r N
end
end L2
namespace V2
open PySem PySem.Spec PyProof.Rows L2
@[simp] def bX(n:ay)(das:ak A)(F:ak A->Mo A):ak A->Mo A:=λas=>if as.length+das.length=n then F (as++das)else stuck
structure dF(P:bh)(w:bw)(K:bj)(mg:ba->ar aq)(base:b8)(cls m:ba)(k:ay)(n:ay)(das:ak A)(F:ak A->Mo A):Prop where
 ex:∃C f fd ps ds dvs,cw K az cls=aj (aj (.ref C))/\nI K C/\Meth K C m f/\ps.length=n/\jX P w K mg base (pC P w) k f fd ps (sG K ps.length F)/\Binds K fd ps ds/\Vals dvs ds/\∀G O,bC K G O dvs das
@[simp] def WC(m:ba)(tab:ak (ba×(ak A->Mo A)))(fs:Mo (ak A))(a:A):Mo A:=λZ=>match a with
 |.aI s=>match Z[s]? with
  |some (.ins cls j)=>match tab.lookup cls,j.lookup m with
   |some F,ao=>mb fs (λas=>F (.aI s::as)) Z
   |_,_=>ao
  |_=>ao
 |_=>ao
@[simp] def cH(m:ba)(tab:ak (ba×(ak A->Mo A)))(fo:Ev->Mo A)(fs:Ev->Mo (ak A)):Ev->Mo A:=λY=>mb (fo Y) (WC m tab (fs Y))
def cU(X:Cx)(m:ba)(tab:ak (ba×(ak A->Mo A))):Prop:=∀cls F,tab.lookup cls=aj F->∃k n das j,F=bX n das j/\cL k X.A/\dF X.prog X.w X.K X.mg X.base cls m k n das j
section
variable{X:Cx}{W:WX}{m:ba}{tab:ak (ba×(ak A->Mo A))}{o e:bx}{es:ak bx}{fo:Ev->Mo A}{fs:Ev->Mo (ak A)}{pos af:dk}
theorem cU.nil:cU X m []:=λcls F h=>by simp at h
theorem cU.cons{cls:ba}{k n:ay}{das:ak A}{F:ak A->Mo A}(h:dF X.prog X.w X.K X.mg X.base cls m k n das F)(hr:cL k X.A)(t:cU X m tab):cU X m ((cls,bX n das F)::tab):=λc j q=>by
 by_cases e:c=cls
 ·subst e;simp[List.lookup]at q;exact⟨k,n,das,F,q.symm,hr,h⟩
 ·have hb:(c==cls)=au:=zJ.mpr e;simp only[List.lookup,hb]at q;exact t c j q
theorem Tp{ta:TE}{t:TA}(NN:cU X m tab)(R:fW X.K (Den X.K) W ta fo)(s2:fW X.K (bC X.K) W t fs):fW X.K (Den X.K) W (Bf X W m ta t) (cH m tab fo fs):=by
 intro G A D H J l Q w r h;refine R G A D H J l _ w r (bP.mb h λa q v H1 G1 N I o i h1=>?_);unfold WC at h1;cases a with
 |aI s =>
  simp only at h1;cases g:q[s]? with
  |none=>rw[g]at h1;exact h1.elim
  |some c =>
   rw[g]at h1;cases c with
   |ins cls Jk =>
    simp only at h1;cases e:tab.lookup cls with
    |none=>rw[e]at h1;exact h1.elim
    |some F =>
     rw[e]at h1;cases d:Jk.lookup m with
     |some _=>rw[d]at h1;exact h1.elim
     |none =>
      rw[d]at h1;obtain⟨k,n,B,F0,rfl,hr,MV⟩:=NN cls F e;obtain⟨C,f,fd,S,ds,z,hC,fR,NT,hn,FO,hb,hv,b⟩:=MV.ex;obtain⟨a,C',dx,L,rfl,ha,hg,p,T,V⟩:=o.ins g i;rw[hC]at p;cases p;refine⟨a,C,dx,L,k,f,fd,S,ds,z,_,rfl,T,V.arN d,fR,NT,FO,hr,hb,hv,?_⟩;refine s2 G1 N q H1 J l _ o (r.ext I) (bP.mb h1 λx U P H2 y j E M d2 h2=>?_);unfold bX at h2;split at h2
      ·rename_i hl;have u:bC X.K y j (.ref a::P++z) (.aI s::x++B):=(bC.cons (by simp only[Den]at i ⊢;obtain⟨a2,e5,e6⟩:=i;exact⟨a2,e5,E.pre _ _ e6⟩) d2).append (b _ _);refine⟨?_,y,j,U,.aI s::x++B,M,u,WY h2 (Ext.refl _ _)⟩;have:=u.length;rw[this,hn];simp only[iN,fZ]at hl ⊢;omega
      ·exact h2.elim
   |_=>exact h1.elim
 |_=>exact h1.elim
theorem tN{pl:Sem br}(T:mO X W)(b:cU X m tab)(U:VE X W o fo)(ha:VA X W (e::es) fs)
  (B:bg (e::es) X.env=(au,b9 e X.env)::bg es X.env:=by rfl) (a:(cx pos (bg es X.env)).any (·.1)=au:=by rfl)
  (N:b9 (.Call (.Attribute o m af) (e::es) [] pos) X.env=(do
   let j<-b9 o X.env
   standAt af.atName
   let (f,first)<-holding [j] (getMethod j m pl)
   callWith pos f first (cx pos (bg (e::es) X.env)) (backToKw pos (dn [] X.env))):=by rfl) :
  VE X W (.Call (.Attribute o m af) (e::es) [] pos) (cH m tab fo fs):=by
 obtain⟨c,z,q⟩:=U;obtain⟨t,p2,s2⟩:=ha;exact⟨_,ao5 T z p2 B a N,Tp b q s2⟩
theorem pE{pl:Sem br}(T:mO X W)(a:cU X m tab)(U:VE X W o fo)
  (N:b9 (.Call (.Attribute o m af) [] [] pos) X.env=(do
   let j<-b9 o X.env
   standAt af.atName
   let (f,first)<-holding [j] (getMethod j m pl)
   callWith pos f first (cx pos (bg [] X.env)) (backToKw pos (dn [] X.env))):=by rfl) :
  VE X W (.Call (.Attribute o m af) [] [] pos) (cH m tab fo a0):=by
 obtain⟨d,B,z⟩:=U;refine⟨_,ao4 T B N,Tp a z ?_⟩;intro G q c H J b Q w r h;exact h [] H G q (Ext.refl _ _) w .nil
structure JV(P:bh)(w:bw)(K:bj)(mg:ba->ar aq)(base:b8)(cls:ba)(k:ay)(n:ay)(F:ak A->Mo A):Prop where
 ex:∃C f fd ps,cw K az cls=aj (aj (.ref C))/\mg cls=aj (.ref C)/\Mk K C f/\ps.length=n/\jX P w K mg base (pC P w) k f fd ps (sG K ps.length F)/\Binds K fd ps []
@[simp] noncomputable def OU(cls:ba)(n:ay)(F:ak A->Mo A)(as:ak A):Mo A:=λZ=>if as.length+1=n then match F (.aI Z.length::as) (Z++[.ins cls []])with
 |some (.ok .cE,Z2)=>aj (.ok (.aI Z.length),Z2)
 |_=>ao else ao
theorem agA{cls:ba}{k n:ay}{F:ak A->Mo A}{p:dk}(M:JV X.prog X.w X.K X.mg X.base cls k n F)(hr:cL (k+1) X.A)(S:Gl X cls)(ha:VA X W (e::es) fs)
  (V:(cls==("__debug__" : ba))=au:=by decide) (he:bg (e::es) X.env=(au,b9 e X.env)::bg es X.env:=by rfl) (eU:(cx pos (bg es X.env)).any (·.1)=au:=by rfl) :
  VE X W (.Call (.Name cls p) (e::es) [] pos) (aX (OU cls n F) fs):=by
 obtain⟨C,f,fd,ps,T,hm,mk,hn,FO,hb⟩:=M.ex;obtain⟨t,R,P⟩:=ha;refine⟨_,ao6 mk (acG FO) hr S hm hb .nil apV R V he eU,λG o u H J m Q w r h=>?_⟩;refine P G o u H J m _ w r (bP.mb h λc j L d g z x1 N d1 h1=>?_);unfold OU at h1
 by_cases hl:c.length+1=n
 ·rw[a9 hl]at h1;intro x B l OD gU;have E:=N.grow (H':=upd d B (.own x)) (oV.new OD);have y:upd d B (.own x) x=ao:=by rw[bE (dQ gU)];exact l
  have D:Wd X.K g (z++[x]) (j++[.ins cls []]) (upd (upd d B (.own x)) x (.ins C B [])):=E.cell y ⟨N.oQ l,C,B,[],T,eL,trivial⟩;have i:bC X.K g (z++[x]) (.ref x::(L++[])) (.aI j.length::c):=.cons (by simp only[Den];exact⟨x,rfl,by rw[<-N.len];simp⟩) (by rw[pU];exact d1.ext (Ext.cell x));refine⟨by rw[i.length,hn];simpa using hl,g,z++[x],_,_,D,i,?_⟩
  revert h1
  generalize F (.aI j.length::c) (j++[.ins cls []])=q;intro h1
  match q,h1 with
  |some (.ok .cE,s),h1 =>
   intro v H' G' U b I d';simp only[Den]at d';subst d';refine⟨rfl,h1 (.ref x) H' G' U ⟨b.same,λk a q=>b.pre k a (by rw[jJ (dA.mp q).1];exact q)⟩ I ?_⟩;simp only[Den];exact⟨x,rfl,b.pre _ _ (by rw[<-N.len];simp)⟩
 ·rw[bf hl]at h1;exact h1.elim
structure FY(P:bh)(w:bw)(K:bj)(mg:ba->ar aq)(base:b8)(rk m:ba)(k:ay)(n:ay)(F:ak A->Mo A):Prop where
 ex:∃R f fd ps,mg rk=aj (.ref R)/\Pm K R m f/\ps.length=n/\jX P w K mg base (pC P w) k f fd ps (sG K ps.length F)/\Binds K fd ps []
theorem agM{pl:Sem br}{rk:ba}{k n:ay}{F:ak A->Mo A}{np:dk}(T:mO X W)(B:FY X.prog X.w X.K X.mg X.base rk m k n F)(o:Gl X rk)(hr:cL k X.A)(ha:VA X W (e::es) fs)
  (p:(rk==("__debug__" : ba))=au:=by decide) (i:bg (e::es) X.env=(au,b9 e X.env)::bg es X.env:=by rfl) (s:(cx pos (bg es X.env)).any (·.1)=au:=by rfl)
  (l:b9 (.Call (.Attribute (.Name rk np) m af) (e::es) [] pos) X.env=(do
   let z<-b9 (.Name rk np) X.env
   standAt af.atName
   let (f,first)<-holding [z] (getMethod z m pl)
   callWith pos f first (cx pos (bg (e::es) X.env)) (backToKw pos (dn [] X.env))):=by rfl) :
  VE X W (.Call (.Attribute (.Name rk np) m af) (e::es) [] pos) (aX (bS n F) fs):=by
 obtain⟨R,f,I,E,hm,y,hn,x,hb⟩:=B.ex;obtain⟨t,g,d⟩:=ha;refine⟨_,apR T y hm o x hr hb g p i s l,λG a b H J U Q w r h=>?_⟩;refine d G a b H J U _ w r (bP.mb h λu q D L v j C c N h1=>?_);unfold bS at h1;split at h1
 ·rename_i hl;exact⟨by rw[N.length,hn];exact hl,v,j,q,u,c,N,WY h1 (Ext.refl _ _)⟩
 ·exact False.elim h1
end
def uX(cs:ak ba)(i:ay)(f:ba)(Y:Ev)(Z:aE):ar (ay×ba×ak (ba×Fd)×Fd):=match (Y[i]?).join with
 |some (.aI s)=>match Z[s]? with
  |some (.ins cls fs)=>if cls∈cs then(fs.lookup f).map λfd=>(s,cls,fs,fd)else ao
  |_=>ao
 |_=>ao
abbrev gS(Z:aE)(s:ay)(cls f:ba)(fs:ak (ba×Fd))(c:Cell):aE:=Z.set s (.ins cls (putD f (.val (.aI Z.length)) fs))++[c]
section
variable{cs:ak ba}{i:ay}{f:ba}{Y:Ev}{Z:aE}{s:ay}{cls:ba}{fs:ak (ba×Fd)}{fd fd':Fd}{c c':Cell}
theorem Vw(h:uX cs i f Y Z=aj (s,cls,fs,fd)):Y[i]?=aj (aj (.aI s))/\Z[s]?=aj (.ins cls fs)/\cls∈cs/\fs.lookup f=aj fd:=by
 unfold uX at h;cases B:(Y[i]?).join with
 |none=>rw[B]at h;cases h
 |some d =>
  rw[B]at h;cases d with
  |aI k =>
   simp only at h;cases z:Z[k]? with
   |none=>rw[z]at h;cases h
   |some c =>
    rw[z]at h;cases c with
    |ins N U =>
     simp only at h
     by_cases j:N∈cs
     ·rw[a9 j]at h;cases q:U.lookup f with
      |none=>rw[q]at h;cases h
      |some x =>
       rw[q]at h;cases h;exact⟨join_some B,z,j,q⟩
     ·rw[bf j]at h;cases h
    |_=>cases h
  |_=>cases h
theorem Kh{n:ay}{f:ba}{fd:Fd}:∀{fs:ak (ba×Fd)},rY n fs->tI n fd->rY n (putD f fd fs)
 |[],_,h=>⟨h,trivial⟩
 |(g,x)::r,c,h=>by
  by_cases e:g=f
  ·simp only[putD,a9 e];exact⟨h,c.2⟩
  ·simp only[putD,bf e];exact⟨c.1,Kh c.2 h⟩
theorem UP(h:uX cs i f Y Z=aj (s,cls,fs,fd)):(gS Z s cls f fs c)[Z.length]?=aj c:=by
 rw[qS (by simp)];simp
theorem UO(h:uX cs i f Y Z=aj (s,cls,fs,fd)):eY cs f (eE i) Y (gS Z s cls f fs c)=aj (.ok (.aI Z.length),gS Z s cls f fs c):=by
 obtain⟨h1,h2,z,B⟩:=Vw h;have j:s<Z.length:=(dA.mp h2).1;have e:(gS Z s cls f fs c)[s]?=aj (.ins cls (putD f (.val (.aI Z.length)) fs)):=by
  rw[jJ (by simpa using j),fG j]
 have l:(putD f (Fd.val (.aI Z.length)) fs).lookup f=aj (.val (.aI Z.length)):=by rw[TN,a9 rfl]
 have q:(Y[i]?).join=aj (.aI s):=by rw[h1];rfl
 simp only[eY,eE,need,mb,q,JS,ER,e,a9 z,l]
theorem Fn(j:Cell):(gS Z s cls f fs c).set Z.length j=gS Z s cls f fs j:=by
 unfold gS;rw[List.set_append_right _ _ (by simp)];simp
end
noncomputable def IB(Z:aE):A->ar (ak A)
 |.lst ds=>aj ds
 |.aI k=>match Z[k]? with
  |some (.lst ds)=>aj ds
  |_=>ao
 |_=>ao
theorem as9{K:bj}{G H:Hp}{O:ak aw}{Z:aE}{v:V}{a:A}{ds:ak A}(w:Wd K G O Z H)(d:Den K G O v a)(h:IB Z a=aj ds):∃p xs,v=.ref p/\H p=aj (.lst xs)/\bC K G O xs ds:=by
 cases a with
 |lst es =>
  simp only[IB,kX]at h;subst h;simp only[Den]at d;obtain⟨p,xs,rfl,h2,q⟩:=d;exact⟨p,xs,rfl,w.sub _ _ h2,q⟩
 |aI j =>
  simp only[IB]at h;split at h
  ·rename_i es e;cases h;simp only[Den]at d;obtain⟨p,rfl,z⟩:=d;obtain⟨g,xs,q,B⟩:=w.aI j _ p e z;exact⟨p,xs,rfl,q,B⟩
  ·cases h
 |_=>simp[IB]at h
@[simp] def Jf(o:A)(as:ak A):Mo A:=λZ=>match sX Z o,as with
 |some (k,ds),[y]=>match IB Z y with
  |some es=>if ds.length+es.length<=bc then aj (.ok .cE,Z.set k (.lst (ds++es)))else ao
  |none=>ao
 |_,_=>ao
theorem as1{X:Cx}{W:WX}:Mu X.K W Ul Jf:=by
 intro G z n H J x o a r Q w m l h;unfold Jf at h;split at h
 ·rename_i k ds y e;split at h
  ·rename_i es f;split at h
   ·rename_i hl;obtain⟨p,B,rfl,U,g,d,q⟩:=acC w m e;obtain⟨u,rfl,i⟩:=JB l;obtain⟨p2,N,rfl,b,j⟩:=as9 w i f;refine⟨p,p2,B,N,rfl,rfl,d,b,by rw[q.length,j.length];exact hl,?_⟩;exact h _ _ G z (Ext.refl _ _) (w.put (c:=.lst (ds++es)) U g ⟨g,_,eL,q.append j⟩) (by simp only[Den])
   ·exact False.elim h
  ·exact False.elim h
 ·exact False.elim h
def FX(i:ay)(f:ba)(g:MS)(Y:Ev)(Z:aE)(r:Out×Ev×aE):Prop :=
 ∃s cls fs fd c q fd' c',Y[i]?=aj (aj (.aI s))/\Z[s]?=aj (.ins cls fs)/\fs.lookup f=aj fd/\fd.cell=aj c/\g Y (gS Z s cls f fs c)=aj (.nx,r.2.1,q++[c'])/\q.length=Z.length /\
  q[s]?=aj (.ins cls (putD f (.val (.aI Z.length)) fs))/\fd'.cell=aj c'/\(∀(k:ay) (x:Cell),k≠s->q[k]?=aj x->Z[k]?=aj x\/LF Z.length x)/\(fd'=fd\/tI Z.length fd') /\
  (∀(j:ay) (d:A),r.2.1[j]?=aj (aj d)->Y[j]?=aj (aj d)\/Cl Z.length d)/\r.1=.nx/\r.2.2=q.set s (.ins cls (putD f fd' fs))
open Classical in
noncomputable def uU(i:ay)(f:ba)(g:MS):MS:=λY Z=>if h:∃r,FX i f g Y Z r then aj (Classical.choose h)else ao
theorem aFU{a b:Fd}{c:Cell}(h1:a.cell=aj c)(h2:b.cell=aj c):a=b:=by
 cases a with
 |val x=>cases h1
 |lst ds=>cases b with
  |lst es=>cases h1;cases h2;rfl
  |val _=>cases h2
  |bA _=>cases h1;cases h2
 |bA j=>cases b with
  |bA es=>cases h1;cases h2;rfl
  |val _=>cases h2
  |lst _=>cases h1;cases h2
theorem FX.uniq{i:ay}{f:ba}{g:MS}{Y:Ev}{Z:aE}{r j:Out×Ev×aE}(h:FX i f g Y Z r)(h':FX i f g Y Z j):r=j:=by
 obtain⟨s,cls,fs,fd,c,k,m,R,a1,a2,A,y,x,a6,a7,w,X,D,C,E,F⟩:=h;obtain⟨s',K,P,n,S,e,l,Q,d,b,a,U,N,W,V,t,T,v,u,z,q⟩:=h';rw[a1]at d;cases d;rw[a2]at b;cases b;rw[A]at a;cases a;rw[y]at U;cases U;rw[x]at N;obtain⟨I,H,G⟩:=r;obtain⟨M,p2,L⟩:=j;simp only[kX,QJ,true_and]at *;obtain⟨p,o⟩:=N;obtain⟨rfl,B⟩:=List.append_inj' o rfl;simp only[qT,and_true]at B;subst B;have:=aFU w t;subst this;subst E z;exact⟨rfl,p,by rw[F,q]⟩
theorem al9{i:ay}{f:ba}{g:MS}{Y:Ev}{Z:aE}{r:Out×Ev×aE}(h:FX i f g Y Z r):uU i f g Y Z=aj r:=by
 have ex:∃r,FX i f g Y Z r:=⟨r,h⟩;unfold uU;rw[dif_pos ex];exact c3 aj (FX.uniq (ZO ex) h)
section
variable{X:Cx}{W:WX}{st:b7}{f:ba}{cs:ak ba}{i:ay}{pos dM af mK aKF:dk}{gs:MS}{x:ba}
theorem Ac(h:VS X W st gs):VS X W st (uU i f gs):=by
 refine af5 h λG n r cl hd=>?_;unfold uU at hd;split at hd
 ·rename_i ex;cases hd;generalize hr:Classical.choose ex=r;have e:=ZO ex;rw[hr]at e;obtain⟨s,cls,fs,g,c,q,N,l,I,U,m,D,C,A,y,w,v,b,a,E,F⟩:=e;obtain⟨H,u,_⟩:=UJ m;have B:tI n.length g:=(cl.aI s _ U:rY _ fs).get u;refine⟨s,f,_,q++[l],⟨cls,fs,g,c,U,m,D,rfl⟩,C,⟨q,l,cls,_,N,rfl,A,y,by rw[TN,a9 rfl],w,λk x p o=>?_,?_,by rw[ML];exact F⟩,λj d t=>?_,E⟩
  ·rcases v k x p o with z|z
   ·exact cl.aI k x z
   ·exact z
  ·rw[ML];exact Kh (cl.aI s _ U:rY _ fs) (by rcases b with z|z;exact z ▸ B;exact z)
  ·rcases a j d t with z|z
   ·exact cl.env j d z
   ·exact z
 ·cases hd
end
def DM(cs:ak ba)(i:ay)(Y:Ev)(Z:aE):ar (ay×ba×ak (ba×Fd)):=match (Y[i]?).join with
 |some (.aI s)=>match Z[s]? with
  |some (.ins cls fs)=>if cls∈cs then aj (s,cls,fs)else ao
  |_=>ao
 |_=>ao
theorem aq6{cs:ak ba}{i:ay}{Y:Ev}{Z:aE}{s:ay}{cls:ba}{fs:ak (ba×Fd)}(h:DM cs i Y Z=aj (s,cls,fs)):Y[i]?=aj (aj (.aI s))/\Z[s]?=aj (.ins cls fs)/\cls∈cs:=by
 unfold DM at h;cases z:(Y[i]?).join with
 |none=>rw[z]at h;cases h
 |some d =>
  rw[z]at h;cases d with
  |aI k =>
   simp only at h;cases q:Z[k]? with
   |none=>rw[q]at h;cases h
   |some c =>
    rw[q]at h;cases c with
    |ins B N =>
     simp only at h
     by_cases j:B∈cs
     ·rw[a9 j]at h;cases h;exact⟨join_some z,q,j⟩
     ·rw[bf j]at h;cases h
    |_=>cases h
  |_=>cases h
@[simp] noncomputable def Fd.HU:Cell->ar Fd
 |.lst ds=>aj (.lst ds)
 |.bA kvs=>aj (.bA kvs)
 |_=>ao
theorem Fd.aqZ{c:Cell}{fd:Fd}(h:Fd.HU c=aj fd):fd.cell=aj c:=by
 cases c <;> cases h <;> rfl
open Classical in
@[simp] noncomputable def yG(cs:ak ba)(i:ay)(f:ba)(fv:Ev->Mo A):MS:=λY Z=>match DM cs i Y Z with
 |some (s,cls,fs)=>match fv Y Z with
  |some (.ok (.aI n),Z1)=>match Z1[Z.length]? with
   |some c=>match Fd.HU c with
    |some fd=>if n=Z.length/\Z1=Z++[c]/\fs.length<1000/\tI Z.length fd then aj (.nx,Y,Z.set s (.ins cls (putD f fd fs)))else ao
    |none=>ao
   |none=>ao
  |_=>ao
 |none=>ao
section
variable{X:Cx}{W:WX}{st:b7}{f:ba}{cs:ak ba}{i:ay}{fv:Ev->Mo A}
theorem Ad(h:VS X W st (sH cs f (eE i) fv)):VS X W st (yG cs i f fv):=by
 obtain⟨t,p,v⟩:=h;refine⟨t,p,λG m z H J B D w r h=>?_⟩;have cl:=w.vR r;unfold yG at h;split at h
 ·rename_i s cls fs eo;split at h
  ·rename_i n o K;split at h
   ·rename_i c R;split at h
    ·rename_i fd I;split at h
     ·rename_i E;obtain⟨rfl,rfl,hl,fR⟩:=E;obtain⟨h1,h2,F⟩:=aq6 eo;have a:s<z.length:=(dA.mp h2).1;have Q:=Fd.aqZ I;refine v G m z H J B D w r ?_;have A:(B[i]?).join=aj (.aI s):=by rw[h1];rfl
      have P:(z++[c])[s]?=aj (.ins cls fs):=by rw[jJ a];exact h2
      have e:sH cs f (eE i) fv B z=aj (.nx,B,z.set s (.ins cls (putD f (.val (.aI z.length)) fs))++[c]):=by
       simp only[sH,sM,K,eE,need,A,JS,P,a9 (And.intro F hl)];rw[List.set_append_left _ _ a]
      rw[e];intro N L M U ex u y;have g:=u.fold (s:=s) (f:=f) (fd:=fd) (cls:=cls) (fs:=putD f (.val (.aI z.length)) fs) (fG a) (by rw[TN,a9 rfl];simp) Q (λk x b l=>by
       rw[iO (dQ b)]at l;have:=cl.aI k x l;simpa using this) (by
       rw[ML];have:=Kh (f:=f) (cl.aI s _ h2:rY _ fs) fR;simpa using this)
      rw[ML,qR,CJ]at g;refine h N L M (U.take z.length) ⟨ex.same,λk x q=>?_⟩ g (abM y λj d C=>cl.env j d C);have b:=(dA.mp q).1;rw[KA,a9 (by rw[<-w.len];exact b)];exact ex.pre k x q
     ·exact h.elim
    ·exact h.elim
   ·exact h.elim
  ·exact h.elim
 ·exact h.elim
end
theorem PK{K:bj}{f:ba}:eQ K [] f:=λcls h=>by simp at h
theorem PL{K:bj}{f cls:ba}{cs:ak ba}{C:aw}(h1:cw K az cls=aj (aj (.ref C)))(h2:nI K C)(j:cg K (.ref C) f=aj ao)(t:eQ K cs f):eQ K (cls::cs) f:=λc h=>by
 rcases dU.mp h with e|e
 ·subst e;exact⟨C,h1,h2,j⟩
 ·exact t c e
section
variable{P:bh}{w:bw}{K:bj}{mg:ba->ar aq}{base:b8}
theorem Jm{x qual:ba}{st:b7}{N ps:ak ba}{k:ay}{b:MS}{f:aw}{fd:c4}(F:uI K x qual st f fd)(S:cY N ps (aR st))
  (a:∀(f:aw) (j:aq) (A:bu) (outer:ak Env) (s:av) (H:Hp) (E:XK),cL k (A.deeper (cy qual (aR st) s.heap.objs.size f j)) ->
   gY (nU P w K mg base N qual (aR st) f j A outer s H E) (λ_=>E) (eM st) b):jX P w K mg base (pC P w) (k+1) f fd ps (sG K ps.length (cV N.length b)):=by
 obtain⟨g,e,kV,doc,d,l,j,ct,i,rfl,B,c⟩:=F.ex;refine WG B c S (λz H Q E h=>h.1) λA outer s H z Q E hr U=>?_;obtain⟨t,p,q⟩:=a f j A outer s H E hr;exact⟨t,NF p,JI q U⟩
structure pA(K:bj)(mg:ba->ar aq)(cls m qual:ba)(st:b7):Prop where
 ex:∃C f fd,cw K az cls=aj (aj (.ref C))/\mg cls=aj (.ref C)/\nI K C/\Meth K C m f/\uI K m qual st f fd
theorem dF.of{cls m qual:ba}{st:b7}{N ps:ak ba}{k:ay}{b:MS}(h:pA K mg cls m qual st)(S:cY N ps (aR st))
  (bind:∀(kV doc pm:aq) (an:ar aw) (j ct:aq) (us:ak aq),us.length=ps.length->c7 (ea m qual (iL st) (eM st) (aR st) .none kV doc pm an j ct) ⟨us,[]⟩=pure (ps.zip us))
  (z:∀(f:aw) (j:aq) (A:bu) (outer:ak Env) (s:av) (H:Hp) (E:XK),cL k (A.deeper (cy qual (aR st) s.heap.objs.size f j)) ->
   gY (nU P w K mg base N qual (aR st) f j A outer s H E) (λ_=>E) (eM st) b):dF P w K mg base cls m (k+1) ps.length [] (cV N.length b):=by
 obtain⟨C,f,fd,h1,_,h2,q,F⟩:=h.ex;exact⟨C,f,fd,ps,[],[],h1,h2,q,rfl,Jm F S z,F.binds bind,.nil,λ_ _ => .nil⟩
structure Oa(K:bj)(mg:ba->ar aq)(cls qual:ba)(st:b7):Prop where
 ex:∃C f fd,cw K az cls=aj (aj (.ref C))/\mg cls=aj (.ref C)/\Mk K C f/\uI K "__init__" qual st f fd
theorem JV.of{cls qual:ba}{st:b7}{N ps:ak ba}{k:ay}{b:MS}(h:Oa K mg cls qual st)(S:cY N ps (aR st))
  (bind:∀(kV doc pm:aq) (an:ar aw) (j ct:aq) (us:ak aq),us.length=ps.length->c7 (ea "__init__" qual (iL st) (eM st) (aR st) .none kV doc pm an j ct) ⟨us,[]⟩=pure (ps.zip us))
  (z:∀(f:aw) (j:aq) (A:bu) (outer:ak Env) (s:av) (H:Hp) (E:XK),cL k (A.deeper (cy qual (aR st) s.heap.objs.size f j)) ->
   gY (nU P w K mg base N qual (aR st) f j A outer s H E) (λ_=>E) (eM st) b):JV P w K mg base cls (k+1) ps.length (cV N.length b):=by
 obtain⟨C,f,fd,h1,h2,q,F⟩:=h.ex;exact⟨C,f,fd,ps,h1,h2,q,rfl,Jm F S z,F.binds bind⟩
structure ZD(K:bj)(mg:ba->ar aq)(rk m qual:ba)(st:b7):Prop where
 ex:∃R f fd,mg rk=aj (.ref R)/\Pm K R m f/\uI K m qual st f fd
theorem FY.of{rk m qual:ba}{st:b7}{N ps:ak ba}{k:ay}{b:MS}(h:ZD K mg rk m qual st)(S:cY N ps (aR st))
  (bind:∀(kV doc pm:aq) (an:ar aw) (j ct:aq) (us:ak aq),us.length=ps.length->c7 (ea m qual (iL st) (eM st) (aR st) .none kV doc pm an j ct) ⟨us,[]⟩=pure (ps.zip us))
  (q:∀(f:aw) (j:aq) (A:bu) (outer:ak Env) (s:av) (H:Hp) (E:XK),cL k (A.deeper (cy qual (aR st) s.heap.objs.size f j)) ->
   gY (nU P w K mg base N qual (aR st) f j A outer s H E) (λ_=>E) (eM st) b):FY P w K mg base rk m (k+1) ps.length (cV N.length b):=by
 obtain⟨R,f,fd,h1,h2,F⟩:=h.ex;exact⟨R,f,fd,ps,h1,h2,rfl,Jm F S q,F.binds bind⟩
end
theorem Inv.Rx{X:Cx}{aa:ak (aw×c5)}{J:L2.St}{H:Hp}{s:av}{h':b8}{t':ay}{ch:ak aw}(I:Inv X aa J H s)(k:∀b o,b∉ch->s.heap.get? b=aj o->h'.get? b=aj o)(hf:∀b∈ch,qV X aa H b):Inv X aa J H {s with heap:=h',toks:=t' }:=by
 have ne:∀b u,H b=aj u->b∉ch:=λb u q z=>by rw[(hf b z).1]at q;cases q
 refine I.step (g':=s.gens) (d':=s.drawn) (ch:=ch) (λb hb=>?_) (λb o _ _ j q _=>k b o j q) (λb o _ _ j q _=>⟨o.slots,k b o j q⟩) (λ_ _ _ _ n=>n)
  (λb o j q=>⟨o,k b o j q⟩) (λ_ _ q=>q) (λ_ _ _ q=>q) (λb f q=>⟨#[],by rw[q];simp⟩) (λm hm=>?_) (λb u q=>?_) I.bare
 ·obtain⟨a0,a1,a2,e,d,a⟩:=hf b hb;exact⟨e,a1,d,a⟩
 ·obtain⟨o,es,U,N,r⟩:=hm;exact⟨o,es,U,k _ o (λz=>(hf _ z).2.1 rfl) N,r⟩
 ·refine(I.aH b u q).nN (λc v j B=>k c v ?_ B) (λ_ q=>q) λ_ _ q=>q
  rcases j with z|z
  ·rw[z];exact ne b u q
  ·exact ne c _ z
section
variable{X:Cx}{aa:ak (aw×c5)}{J:L2.St}{H:Hp}{s:av}
theorem Inv.OX(I:Inv X aa J H s):∃m,s.heap.Ns X.env.locals m/\Fr X.base X.env.locals s.heap m :=
 let ⟨m,hn,_⟩:=I.loc
 ⟨m,hn,hn,I.bk,rV I.ok.rK I.ok.above⟩
end
end V2
namespace L2
open PySem PySem.Spec PyProof.Rows
def Xq(scope:cq):br:=(scope.kind == .function)&&scope.names.all λy=>y.2 != .cell&&(y.2 != .free&&(y.2 != .local||scope.names.lookup y.1==aj .local))
theorem CM.of0{X:Cx}{scope:cq}{ls:ak ba}(ok:Xq scope=ax):CM X scope ls []:=by
 unfold Xq at ok;rw[mB,FV]at ok;obtain⟨h1,h2⟩:=ok;have hl:∀y∈scope.names,y.2≠.cell/\y.2≠.free/\(y.2=.local->scope.names.lookup y.1=aj .local):=λy q=>by
  have:=h2 y q;rw[mB,mB,Bool.or_eq_true]at this;refine⟨by simpa using this.1,by simpa using this.2.1,λe=>?_⟩
  rcases this.2.2 with z|z
  ·simp[e]at z
  ·simpa using z
 refine⟨by simpa using h1,λy q=>(hl y q).1,λy q=>(hl y q).2.2,λy q hf=>?_,λj B=>?_⟩
 ·exact bz hf (hl y q).2.1
 ·simp at B
theorem aCY:entryFor table "dict_itemiterator.__iter__" = aj Builtin.«dict_keyiterator.__iter__» :=
 entryFor_alias (id' := "dict_keyiterator.__iter__") (by kernel_rfl) (by rfl) (by decide +kernel) (by kernel_rfl)
theorem av2{prog:bh}{w:bw}{A:bu}{E:aq->av->Prop}{s:av}{it d:aw}{i n ep:ay}{ok j:aq}{Q:aq->av->Prop}(h:IsItemIter s.heap it d i n ep ok j)(q:Q (.ref it) s):wpAny (bq prog w) A (pyIter (.ref it)) Q E s:=by
 have ty:s.TypeIs (.ref it) "dict_itemiterator":=⟨_,h,rfl⟩;exact wpAny_pyIter_slot ty F.slot_dict_itemiterator_iter (wI F.slot_dict_itemiterator_iter ty aCY (bG ⟨_,rfl,_,_,ty,F.slot_dict_itemiterator_next.lookup,q⟩) (F.args_dict_itemiterator_iter_1 _))
end L2
namespace V2
open PySem PySem.Spec PyProof.Rows L2
def Nu(a:aw)(o:c5)(kvs:ak (Key×V)):It :=
 ⟨λi H=>H a=aj (.eR o (.dK kvs))/\i<kvs.length,λi H x H'=>∃p j,kvs[i]?=aj j/\H p=ao/\H'=upd H p (.tup [kV j.1,j.2])/\x=.ref p,λi H=>H a=aj (.eR o (.dK kvs))/\kvs.length<=i⟩
theorem abA{X:Cx}{aa:ak (aw×c5)}{J:L2.St}{H:Hp}{s:av}{a:aw}{o:c5}{kvs:ak (Key×V)}{es:a8 DictEntry}{ep:ay}(I:Inv X aa J H s)(h:H a=aj (.eR o (.dK kvs)))(hd:o.data=.dict es ep) :
  ∃vs,KV kvs vs/\Heap.DictAt (kE X.prog X.w) s.heap a vs ep:=by
 obtain⟨h1,z,y,vs,rel,U,dZ,b,q,N,j,B⟩:=I.aH a _ h;rw[h1]at q;cases q;rw[hd]at j;cases j;exact⟨vs,rel,o,es,h1,N,hd,B⟩
theorem ag9{P:bh}{w:bw}{K:bj}{elts:ak bx}{D:ay}{F:dk}(a it:aw)(o:c5)(kvs:ak (Key×V))(es:a8 DictEntry)(ep:ay)(hd:o.data=.dict es ep) :
  Turn P w K (.Tuple elts D F) (Nu a o kvs) [it] it (λi h=>∃ok B,IsItemIter h it a i kvs.length ep ok B)where
 mem:=by simp
 obj:=λi h st c j=>by
  obtain⟨ok,B,st⟩:=st;have e:c=it:=by simpa using j
  subst e;exact⟨_,st,λv z=>by cases z⟩
 keep:=λi h h' st k=>by
  obtain⟨ok,B,st⟩:=st;exact⟨ok,B,k it (by simp) _ st⟩
 item:=by
  intro X r hw t j i aa s J H E I f st p;subst r hw t;obtain⟨ok,B,st⟩:=st;obtain⟨u,hi⟩:=p;obtain⟨m,rel,dat⟩:=abA I u hd;have hl:kvs.length=m.length:=rel.length;have l:kvs[i]?=aj kvs[i]:=fL hi;generalize kvs[i]=N at l;obtain⟨g,W,T,S⟩:=Eh rel l;have d:it<s.heap.objs.size:=dS st;rw[hl]at st;refine wpAny_pyNext_items_item (k:=g.1) (v:=g.2) st dat W λkey h1 n a1 a2 a3 a4=>?_;refine⟨_,rfl,wpAny_letOwnedTupleGo_items (s:={s with heap:=h1}) a1 λh2 A sb=>?_⟩;have U:H s.heap.objs.size=ao:=I.aH.fresh cX;have Q:∀c o,c∉[it]->s.heap.get? c=aj o->h2.get? c=aj o:=λc o j q=>by
   have j:c≠it:=by simpa using j
   exact sb.extBut c o j (a4 c o j q)
  have G:h2.get? s.heap.objs.size=aj {cls:=.type "tuple",data:=.seq #[key,g.2]}:=sb.extBut _ _ (JT d) a2;have C:Inv X aa J H {s with heap:=h2}:=Inv.Rx (t':=s.toks) I Q f;have M:RelV (kV N.1) key:=by rw[T];exact Yb n
  have aH:fH X.prog X.w (upd H s.heap.objs.size (.tup [kV N.1,N.2])) h2:=by
   refine λb o q=>?_
   by_cases y:b=s.heap.objs.size
   ·subst y;rw[eL]at q;cases q;exact⟨by show 2<=bc;decide,[key,g.2],.cons M (.cons S .nil),⟨_,G,rfl,_,rfl⟩⟩
   ·rw[bE y]at q;exact(C.aH b o q).nN (λc v _ z=>z) (λc z=>by rw[bE (iW z U)];exact z) λc xs z=>by rw[bE (iW z U)];exact z
  have x:qV X aa H s.heap.objs.size:=I.xG cX U;have R:X.s₀.heap.get? s.heap.objs.size=ao:=by
   cases q:X.s₀.heap.get? s.heap.objs.size with
   |none=>rfl
   |some ob=>exact bz (lG (dS q) I.sz) (Nat.lt_irrefl _)
  have I2:Inv X aa J (upd H s.heap.objs.size (.tup [kV N.1,N.2])) {s with heap:=h2}:=Inv.Ax C U R x.2.1 x.2.2.2.2.1 x.2.2.2.2.2 aH;rw[<-hl]at A;refine⟨.ref s.heap.objs.size,_,I2,rfl,⟨_,N,l,U,rfl,rfl⟩,⟨_,_,A⟩,λc j=>?_⟩;have L:=(f c j).1;have e:c=it:=by simpa using j
  subst e;rw[bE (fS d)];exact L
 done:=by
  intro X r hw t j i aa s J H E I f st p;subst r hw t;obtain⟨ok,B,st⟩:=st;obtain⟨u,hi⟩:=p;obtain⟨m,rel,dat⟩:=abA I u hd;have hl:kvs.length=m.length:=rel.length;rw[hl]at st;refine wpAny_pyNext_items_end (I.ok.hd j) st dat (by simp;omega) λh' n=>⟨rfl,Inv.Rx (t':=s.toks) I (λc o j q=>n c o (by simpa using j) q) f⟩
 self:=λ_ _ _ _ _ st h=>by
  obtain⟨ok,B,st⟩:=st;exact av2 st h
theorem Inv.aCA{X:Cx}{aa:ak (aw×c5)}{J:L2.St}{H:Hp}{s:av}{a:aw}{kvs:ak (Key×V)}{o:c5}(I:Inv X aa J H s)(h:H a=aj (.dK kvs))(d:s.heap.get? a=aj o):Inv X aa J (upd H a (.eR o (.dK kvs))) s where
 ok:=I.ok
 os:=I.os
 bare:=I.bare
 base:={
  keep:=I.base.keep
  slot:=I.base.slot
  free:=λb ob q n N=>by
   have z:=I.base.free b ob q n N;rw[bE (dQ (iW h z))];exact z
  there:=I.base.there
  oC:=λb xs q=>by have z:=I.base.oC b xs q;rw[bE (MX z h (by intro w;cases w))];exact z
  mJ:=λb ob u q=>by have z:=I.base.mJ b ob u q;rw[bE (MX z h (by intro w;cases w))];exact z
  nM:=λb B q=>by obtain⟨more,z⟩:=I.base.nM b B q;exact⟨more,by rw[bE (MX z h (by intro w;cases w))];exact z⟩}
 loc:=I.loc
 cell:=I.cell
 free:=by rw[bE (dQ (iW h I.free))];exact I.free
 lV:=λx c q=>by rw[bE (dQ (iW h (I.lV x c q)))];exact I.lV x c q
 pin:=λq U=>by
  obtain⟨x,y,c⟩:=I.pin q U;exact⟨x,by rw[bE (dQ (iW h y))];exact y,c⟩
 aH:=λb u q=>by
  have st:∀c v,H c=aj v->v≠.dK kvs->upd H a (.eR o (.dK kvs)) c=aj v:=λc v z hv=>by rw[bE (MX z h hv)];exact z
  by_cases j:b=a
  ·subst j;rw[eL]at q;cases q;exact⟨d,(I.aH b _ h).nN (λc v _ z=>z) (λc z=>st c _ z (by intro w;cases w)) λc xs z=>st c _ z (by intro w;cases w)⟩
  ·rw[bE j]at q;exact(I.aH b u q).nN (λc v _ z=>z) (λc z=>st c _ z (by intro w;cases w)) λc xs z=>st c _ z (by intro w;cases w)
 len:=I.len
section
variable{X:Cx}{W:WX}{pos:dk}
theorem aoQ{o:bx}{td:TE}{elts:ak bx}{p:ay}{r af k:dk}(D:PE X o td)(A:ck o "items" X.env (b9 o X.env)=b9 o X.env:=by rfl)(u:(af.endLine==k.line)=ax:=by rfl) :
  PI X (.Tuple elts p r) (.Call (.Attribute o "items" af) [] [] k) (λJ H R=>td J H λx H1=>∃a kvs,x=.ref a/\H1 a=aj (.dK kvs)/\∀ob,R (Nu a ob kvs) (upd H1 a (.eR ob (.dK kvs)))):=by
 intro aa s J H R I h;refine Qs A u (bM (D aa s J H _ I h) λv j ⟨x,H1,g,t,y⟩=>?_);obtain⟨a,kvs,rfl,N,q⟩:=y;cases t;obtain⟨h1,h2,M⟩:=NL g (.inl ⟨kvs,.inl N⟩);obtain⟨z,_,B,rel,d⟩:=JA g.aH N;refine⟨"dict", "dict.items",PySem.F.plainAttrs_dict,PySem.F.slot_dict_items,PySem.F.type_dict_items,h1,h2,RP rfl (PySem.evalArgs_none ?_)⟩;refine PM PySem.F.slot_dict_items d.typeIs PySem.F.entry_dict_items (PySem.F.args_dict_items_1 _) (meets_dict_items (kE X.prog X.w) a M) ⟨⟨B,d⟩,?_⟩;obtain⟨ob,es,U,m,K,l,G⟩:=d;have hl:kvs.length=B.length:=rel.length;have n:Inv X aa J H1 {j with heap:=j.heap.push {cls:=.type "dict_items",data:=.fields #[.ref a]} }:=g.kept (t':=j.toks) λb o e=>eI _ e;have dat:Heap.DictAt (kE X.prog X.w) (j.heap.push {cls:=.type "dict_items",data:=.fields #[.ref a]}) a B U:=⟨ob,es,eI _ m,K,l,G⟩;refine wpAny_pyIter_items (s:={j with heap:=j.heap.push {cls:=.type "dict_items",data:=.fields #[.ref a]} }) ⟨_,gZ _ rfl,rfl,rfl⟩ dat ?_;generalize i:({j with heap:=j.heap.push {cls:=.type "dict_items",data:=.fields #[.ref a]} }:av)=s2 at n dat;have ga:s2.heap.get? a=aj ob:=by rw[<-i];exact eI _ m
 have f:=V2.Inv.aCA n N ga;have L:Inv X aa J (upd H1 a (.eR ob (.dK kvs))) {s2 with heap:=s2.heap.push {cls:=.type "dict_itemiterator",data:=.fields #[.none,.bool au,.ref a,.int 0 0,.int B.length 0,.int U 0,.none,.none]} }:=f.kept (t':=s2.toks) λb o e=>eI _ e;have C:s2.heap=j.heap.push {cls:=.type "dict_items",data:=.fields #[.ref a]}:=by rw[<-i]
 refine⟨s2.heap.objs.size,[s2.heap.objs.size],_,_,_,rfl,L,ag9 a _ ob kvs es U l,⟨.none,.none,by rw[hl];exact gZ _ rfl⟩,λc E=>?_,q ob⟩;have e:c=s2.heap.objs.size:=by simpa using E
 subst e;exact f.xG cX (f.aH.fresh cX)
def NI(kvs:ak (Key×A)):Src:=⟨kvs.map mG,λ_=>True⟩
@[simp] def Rr(f:Ev->Mo A):Ev->Mo Src:=λY=>mb (f Y) λa Z=>match lW Z a with
 |some (k,kvs)=>aj (.ok (NI kvs),Z.set k .dead)
 |none=>ao
theorem av1{K:bj}{G:Hp}{O:ak aw}{p:aw}{o:c5}{N:ak (Key×V)}{kvs:ak (Key×A)}(n:G p=aj (.eR o (.dK N)))(m:N.map (·.1)=kvs.map (·.1))(d:bC K G O (N.map (·.2)) (kvs.map (·.2))):KI K G O (Nu p o N) (NI kvs):=by
 have hl:N.length=kvs.length:=by have:=c3 List.length m;simpa using this
 have k:(NI kvs).ds.length=kvs.length:=by simp[NI]
 refine⟨λf j B s e w h i hi=>⟨w.sub _ _ (e.same _ _ n),by rw[hl,<-k];exact hi⟩,λf j B s e w h i hi=>⟨w.sub _ _ (e.same _ _ n),by rw[hl,<-k];exact hi⟩,λf j B s e w h i x C y v hd=>?_⟩;obtain⟨q,a,r,c,rfl,rfl⟩:=hd;have U:(kvs.map mG)[i]?=aj y:=v;rw[jV]at U;cases b:kvs[i]? with
 |none=>rw[b]at U;cases U
 |some t =>
  rw[b]at U;cases U;have k1:a.1=t.1:=by
   have:=c3 (λl=>l[i]?) m;simp only[jV,r,b,JS,kX]at this;exact this
  obtain⟨z,g,u⟩:=d.get (i:=i) (d:=t.2) (by rw[jV,b];rfl);rw[jV,r]at g;cases g;refine⟨upd f q (.tup [kV a.1,a.2]),Ext.new (w.oQ c) _,w.new c _,?_⟩;simp only[mG,Den];exact⟨q,[kV a.1,a.2],rfl,eL,.cons (by rw[k1];exact abW _) (.cons ((u.ext e).ext (Ext.new (w.oQ c) _)) .nil)⟩
theorem af6{o:bx}{f:Ev->Mo A}{elts:ak bx}{B:ay}{y af q:dk}(K:VE X W o f)(F:ck o "items" X.env (b9 o X.env)=b9 o X.env:=by rfl)(C:(af.endLine==q.line)=ax:=by rfl) :
  VI X W (.Tuple elts B y) (.Call (.Attribute o "items" af) [] [] q) (Rr f):=by
 obtain⟨t,p,s⟩:=K;refine⟨_,aoQ p F C,λG m u H J l R w r h=>?_⟩;refine s G m u H J l _ w r (bP.mb h λa n v M i j B U L h1=>?_);split at h1
 ·rename_i k I e;obtain⟨p,z,rfl,b,g,E,q,D⟩:=BX U L e;refine⟨p,z,rfl,E,λob=>?_⟩;have x:=U.put (k:=k) (c:=.dead) (o:=.eR ob (.dK z)) b g trivial;have N:=x.freeze b g eL;rw[qR]at N;have d:Ext i j (upd i p (.eR ob (.dK z))) j:=Ext.new g _;exact h1 _ _ _ _ d N (av1 eL q (D.ext d))
 ·exact False.elim h1
end
section
variable{P:bh}{w:bw}{K:bj}{mg:ba->ar aq}{base:b8}
structure aeF(K:bj)(x qual:ba)(st:b7)(f T:aw)(fd:c4):Prop where
 ex:∃(oc:aq) (od:ar aw) (kV doc pm:aq) (an:ar aw) (aO ct:aq) (gE:a8 (ar aq)),
  fd=ea x qual (iL st) (eM st) (aR st) (.ref T) kV doc pm an aO ct/\K.lookup f=aj ⟨oc,od,.func fd,gE⟩/\codeIn K aO qual=ax
structure ZC(K:bj)(mg:ba->ar aq)(cls m qual:ba)(st:b7)(dv:a8 aq):Prop where
 ex:∃C f fd T o n,cw K az cls=aj (aj (.ref C))/\mg cls=aj (.ref C)/\nI K C/\Meth K C m f/\aeF K m qual st f T fd/\K.lookup T=aj o/\o.data=.seq dv n
theorem dF.ofD{cls m qual:ba}{st:b7}{N ps:ak ba}{k:ay}{b:MS}{z:a8 aq}{ds:ak aq}{dvs:ak V}{das:ak A}(h:ZC K mg cls m qual st z)(hv:Vals dvs ds)(hd:∀G O,bC K G O dvs das)(S:cY N ps (aR st))
  (bind:∀(T:aw) (kV doc pm:aq) (an:ar aw) (j ct:aq) (us:ak aq),us.length+ds.length=ps.length->∃k,c7 (ea m qual (iL st) (eM st) (aR st) (.ref T) kV doc pm an j ct) ⟨us,[]⟩=seqItems? (.ref T) >>= k/\k (aj z)=pure (ps.zip (us++ds)))
  (g:∀(f:aw) (j:aq) (A:bu) (outer:ak Env) (s:av) (H:Hp) (E:XK),cL k (A.deeper (cy qual (aR st) s.heap.objs.size f j)) ->
   gY (nU P w K mg base N qual (aR st) f j A outer s H E) (λ_=>E) (eM st) b):dF P w K mg base cls m (k+1) ps.length das (cV N.length b):=by
 obtain⟨C,f,fd,T,o,n,h1,_,h2,e,F,hT,c⟩:=h.ex;obtain⟨v,u,kV,doc,pm,an,j,ct,y,rfl,U,i⟩:=F.ex;refine⟨C,f,_,ps,ds,dvs,h1,h2,e,rfl,WG U i S (λB H Q E h=>h.1) λA outer s H B Q E hr a=>?_,λs us d hl=>?_,hv,hd⟩
 ·obtain⟨t,p,q⟩:=g f j A outer s H E hr;exact⟨t,NF p,JI q a⟩
 ·obtain⟨x,r,l⟩:=bind T kV doc pm an j ct us (by rw[<-iN];exact hl);exact BindsTo.of_defaults rfl (d _ _ hT) c r l
end
end V2
namespace M
open PySem V2
noncomputable section
def XG:MS :=
 (aQ (kL (pZ uA bD (aB (kK (aB bR (aB (aC bO cQ dC) (aB (aC bO cQ dC) a0)))) a0)))
   (fO (cA (aC qL (aC bO cQ dC) (aC bO cQ bL)))
    (kL (pZ uA bD (aB (kK (aB bR (aB (aC bO cQ bL) (aB (aC bO cQ bL) a0)))) a0)))
    iC))
def XH:MS :=
 (aQ (bK (lD ax a0) (gN 1))
  (aQ (iT (Rr (aX (bS 1 RC) (aB aN a0))) (jG 2 (dN (gN 2) (dN (gN 3) jR))) XG)
  (cR (kK (aB (aX (bS 1 ZH) (aB aN a0)) (aB dC (aB dC (aB (wO 1) a0))))))))
def RD:ak A->Mo A:=cV 4 XH
end
end M
namespace V2
open PySem L2
@[simp] theorem aa9(neg:br)(i j:a5)(Z:aE):xF neg (.int i) (.int j) Z=aj (.ok (.bl (if neg then !(i==j)else i==j)),Z):=by
 simp[xF,res,cJ,gQ]
@[simp] theorem aLS(i j:a5)(Z:aE):iK (.int i) (.int j) Z=aj (.ok (.bl (i==j)),Z):=aa9 au i j Z
@[simp] theorem aLR(i j:a5)(Z:aE):qL (.int i) (.int j) Z=aj (.ok (.bl (!(i==j))),Z):=aa9 ax i j Z
theorem JF{i j:a5}(q : -18446744073709551616<i)(h1:i<18446744073709551616):qY i j:=.inl ⟨q,h1⟩
theorem aFD{i j:a5}(q : -18446744073709551616<j)(h1:j<18446744073709551616):qY i j:=.inr ⟨q,h1⟩
@[simp] theorem aL4{α:Type}(x:α)(l:ak α):fU (x::l) 0=aj x:=XU _
@[simp] theorem aL3{α:Type}(x y:α)(l:ak α):fU (x::y::l) 1=aj y:=Ls _
@[simp] theorem aL2{α:Type}(x y z:α)(l:ak α):fU (x::y::z::l) 2=aj z:=acY _ 2
@[simp] theorem aL1{α:Type}(x y z u:α)(l:ak α):fU (x::y::z::u::l) 3=aj u:=acY _ 3
end V2
namespace M
open PySem L2 V2
noncomputable def tR(c k:a5):a5 :=
 ((c+1)*(48271+118*k)%2147483629/977*16807+(c+1)*(48271+118*k)%2147483629*(k*k+7)+k)%2147483587
theorem DX(c k:a5):0<=tR c k:=QW _ (by decide)
theorem Ez(c k:a5):tR c k<2147483587:=KO _ (by decide)
theorem CH(c k:a5)(Z:aE)(b:0<=c)(U:c<8589934592)(a:0<=k)(d:k<1048576):pV [.int c,.int k] Z=aG (.int (tR c k)) Z:=by
 have f:=QW ((c+1)*(48271+118*k)) (show(2147483629:a5)≠0 by decide);have e:=KO ((c+1)*(48271+118*k)) (show(0:a5)<2147483629 by decide);have h1:qY (c+1) (48271+118*k):=JF (by omega) (by omega);have h2:qY k k:=JF (by omega) (by omega);have N:∀j,qY ((c+1)*(48271+118*k)%2147483629) j:=λj=>JF (by omega) (by omega);have B:∀j,qY j 16807:=λj=>aFD (by decide) (by decide);have z:∀j,qY 118 j:=λj=>JF (by decide) (by decide);have q:∀j,uL j 977:=λj=>⟨by decide,by decide⟩
 simp[pV,acV,h1,h2,N,B,z,q,tR]
def FD(ns:ak a5)(k:a5):a5:=tR (if k<ns.length then ns[k.toNat]?.getD 0%2147483647 else 0) (k+101)
theorem acE(ns:ak a5)(k:a5):0<=FD ns k:=DX _ _
theorem acD(ns:ak a5)(k:a5):FD ns k<2147483587:=Ez _ _
theorem ad1(ns:ak a5)(k:a5)(Z:aE)(j:0<=k)(z:k<1000000):GD [.dW ns,.int k] Z=aG (.int (FD ns k)) Z:=by
 by_cases h:k<(ns.length:a5)
 ·obtain⟨n,rfl⟩:=aeD j;have hn:n<ns.length:=by omega
  have e:fU (ns.map A.int) (n:a5)=(aA (ns[n])):=by rw[xO];simp[hn]
  have q:=QW ns[n] (show(2147483647:a5)≠0 by decide);have B:=KO ns[n] (show(0:a5)<2147483647 by decide);have m:=λZ=>CH (ns[n]%2147483647) (n+101) Z q (by omega) (by omega) (by omega);simp[GD,Kz,h,e,m,FD,hn]
 ·have m:=λZ=>CH 0 (k+101) Z (by decide) (by decide) (by omega) (by omega);simp[GD,Kz,h,m,FD]
noncomputable def DO(c kind:a5):a5 :=
 if kind=0 then c%7 else if kind=1 then c%61-30 else if kind=2 then c*982451653%(2*10 ^ 18+1)-10 ^ 18 else if kind=3 then 5
 else if c%4=0 then c*10 ^ 50+7 else if c%4=1 then 0-c*10 ^ 50 else if c%4=2 then c else 0-c
theorem aIS(c kind:a5)(Z:aE)(d:0<=c)(b:c<8589934592):zU [.int c,.int kind] Z=aG (.int (DO c kind)) Z:=by
 have h1:∀j,qY c j:=λj=>JF (by omega) (by omega);have h2:∀j,qY 2 j:=λj=>JF (by decide) (by decide);have a:GJ 10 18:=⟨by decide,by decide,by decide⟩;have U:GJ 10 50:=⟨by decide,by decide,by decide⟩;have N:(4:ay)<=bc:=by decide
 by_cases B:kind=0
 ·simp[zU,JN,B,DO]
 by_cases k1:kind=1
 ·simp[zU,JN,k1,DO]
 by_cases z:kind=2
 ·simp[zU,JN,z,DO,h1,h2,a]
 by_cases q:kind=3
 ·simp[zU,JN,q,DO]
 have hm:c%4=0\/c%4=1\/c%4=2\/c%4=3:=by omega
 rcases hm with e|e|e|e <;> simp[zU,JN,B,k1,z,q,e,DO,h1,U,N]
noncomputable def DC(c:a5):a5:=if c%4=0 then 1 else if c%4=1 then 1 else if c%4=2 then 1+c/4%9 else 1+c/4%1000000
theorem ahO(c:a5)(h:0<=c):1<=DC c:=by unfold DC;split <;> (try split) <;> (try split) <;> omega
theorem ahN(c:a5)(h:0<=c):DC c<=1000000:=by unfold DC;split <;> (try split) <;> (try split) <;> omega
theorem aIJ(c:a5)(Z:aE)(z:0<=c):RI [.int c] Z=aG (.int (DC c)) Z:=by
 have h1:∀j,uL j 4:=λj=>⟨by decide,by decide⟩
 have q:(4:ay)<=bc:=by decide
 have hm:c%4=0\/c%4=1\/c%4=2\/c%4=3:=by omega
 rcases hm with e|e|e|e <;> simp[RI,acU,e,DC,h1,q]
end M
namespace V2
open PySem L2
theorem Jt{f:A->A->br}:∀(xs:ak A),(∀x∈xs,f x x=ax)->BS f xs xs=ax
 |[],_=>rfl
 |x::xs,h=>by simp only[BS,h x nE,Bool.true_and];exact Jt xs λy j=>h y (fY _ j)
theorem abL:∀(n:ay) (a:A),cJ n a=ax->gQ n a a=ax:=by
 intro n
 induction n with
 |zero=>intro a h;cases a <;> first|(simp[gQ];done)|(simp[cJ]at h)
 |succ n ih =>
  intro a h;cases a with
  |tup ds=>simp only[cJ,FV]at h;simp only[gQ];exact Jt ds λx j=>ih x (h x j)
  |lst ds=>simp only[cJ,FV]at h;simp only[gQ];exact Jt ds λx j=>ih x (h x j)
  |int i=>simp[gQ]
  |bl i=>simp[gQ]
  |str i=>simp[gQ]
  |cE=>simp[gQ]
  |_=>simp[cJ]at h
theorem tP{Z:aE}{n:ay}{a:A}(h:cJ 8 a=ax):res Z n a=aj a:=by
 cases n <;> simp[res,h]
theorem aB4{a b c:A}{Z:aE}(ha:res Z 6 a=aj c)(hb:res Z 6 b=aj c)(j:cJ 8 c=ax):iK a b Z=aj (.ok (.bl ax),Z):=by
 simp[iK,xF,ha,hb,j,abL 8 c j]
theorem Ud{Z:aE}{n k:ay}{ds:ak A}(h:Z[k]?=aj (.lst ds)):res Z (n+1) (.aI k)=(wV (res Z n) ds).map .lst:=by
 rw[res,bf (by simp[cJ])];simp[h]
theorem Fc{Z:aE}{n:ay}:∀(ds:ak A),ds.all (cJ 8)=ax->wV (res Z n) ds=aj ds
 |[],_=>rfl
 |d::ds,h=>by
  simp only[Nl,mB]at h;simp[wV,tP h.1,Fc ds h.2]
abbrev E:=a5×a5×a5
noncomputable def cK(e:E):A:=.tup [.int e.1,.int e.2.1,.int e.2.2]
def encL(es:ak E):ak A:=es.map cK
@[simp] theorem aJ7(n:ay)(i:a5):cJ n (.int i)=ax:=by cases n <;> rfl
theorem Vh(n:ay)(ds:ak A):cJ (n+1) (.tup ds)=ds.all (cJ n):=rfl
theorem anR(n:ay)(ds:ak A):cJ (n+1) (.lst ds)=ds.all (cJ n):=rfl
@[simp] theorem aJ9(n:ay)(e:E):cJ (n+1) (cK e)=ax:=by simp[cK,Vh]
@[simp] theorem aJ8(n:ay)(es:ak E):(encL es).all (cJ (n+1))=ax:=by simp[encL]
def eA(s l d:a5)(es:ak E):A:=.tup [.int s,.int l,.int d,.lst (encL es)]
@[simp] theorem anS(s l d:a5)(es:ak E):cJ 8 (eA s l d es)=ax:=by simp[eA,Vh,anR]
@[simp] theorem aKP(es:ak E):(encL es).length=es.length:=by simp[encL]
end V2
namespace M
open PySem L2 V2
noncomputable def sL(es:ak E)(i:ay):a5:=if i=0 then 0 else(es[i-1]?.getD (0,0,0)).2.1
noncomputable def tX(s:a5)(es:ak E)(i:ay):a5:=match es[i]? with
 |some e=>e.2.2-1
 |none=>s
theorem xI(es:ak E)(i:ay):(encL es)[i]?=es[i]?.map cK:=by simp[encL]
theorem JO{α:Type}(xs:ak α)(i:ay):fU xs (i:a5)=xs[i]?:=xO xs i
theorem acX{α:Type}(xs:ak α)(i:ay)(h:0<i):fU xs ((i:a5)-1)=xs[i-1]?:=by
 rw[show((i:a5)-1)=((i-1:ay):a5)by omega];exact xO xs _
theorem aI1(s l d:a5)(es:ak E)(i:ay)(Z:aE)(h:i<=es.length):GA [eA s l d es,.int i] Z=aG (.tup [.int (sL es i),.int (tX s es i)]) Z:=by
 have h2:(2:ay)<=bc:=by decide
 by_cases j:i=0
 ·subst j;cases es with
  |nil=>simp[GA,PV,eA,encL,sL,tX,h2]
  |cons e es=>simp[GA,PV,eA,encL,cK,sL,tX,h2]
 ·have B:fU (encL es) ((i:a5)-1)=aj (cK (es[i-1]?.getD (0,0,0))):=by
   rw[acX _ _ (by omega),xI,fL (by omega)];rfl
  have z:0<i:=by omega
  by_cases hl:i<es.length
  ·have N:fU (encL es) (i:a5)=aj (cK es[i]):=by rw[JO,xI,fL hl];rfl
   have q:(i:a5)<es.length:=by omega
   simp[GA,PV,eA,B,N,z,hl,q,h2,cK,sL,tX,j]
  ·have q:¬(i:a5)<es.length:=by omega
   simp[GA,PV,eA,B,z,hl,q,h2,cK,sL,tX,j]
theorem adW(e:E)(s l d:a5)(es:ak E)(i:ay)(Z:aE)(h:i<=es.length):RF [cK e,eA s l d es,.int i] Z=aG (cK (e.1,e.2.1+sL es i,e.2.2+tX s es i)) Z:=by
 have j:(3:ay)<=bc:=by decide
 have q:=λZ=>aI1 s l d es i Z h;simp[RF,acQ,q,cK,j]
def uC(es fs:ak E):br:=match es,fs with
 |[],_=>au
 |_::_,[]=>ax
 |e::_,f::_=>decide (e.1<=f.1)
theorem aIZ(es fs:ak E)(i j:ay)(Z:aE)(hi:i<=es.length)(b:j<=fs.length):KQ [.lst (encL es),.int i,.lst (encL fs),.int j] Z=aG (.bl (uC (es.drop i) (fs.drop j))) Z:=by
 by_cases h1:i=es.length
 ·subst h1;simp[KQ,XJ,uC]
 ·have hl:i<es.length:=by omega
  have a:fU (encL es) (i:a5)=aj (cK es[i]):=by rw[JO,xI,fL hl];rfl
  have z:¬(i:a5)=(es.length:a5):=by omega
  by_cases h2:j=fs.length
  ·subst h2;have q:uC (es.drop i) []=ax:=by rw[vZ hl];rfl
   simp[KQ,XJ,q,z]
  ·have B:j<fs.length:=by omega
   have U:fU (encL fs) (j:a5)=aj (cK fs[j]):=by rw[JO,xI,fL B];rfl
   have N:¬(j:a5)=(fs.length:a5):=by omega
   have q:uC (es.drop i) (fs.drop j)=decide (es[i].1<=fs[j].1):=by rw[vZ hl,vZ B];rfl
   simp[KQ,XJ,q,z,N,a,U,cK]
def fJ(s t:a5):ay->a5->a5->ak E->ak E->ak E
 |0,_,_,_,_=>[]
 |n+1,lo1,dE,es,fs=>match es,fs with
  |[],[]=>[]
  |e::dZ,[]=>(e.1,e.2.1+dE,e.2.2+t)::fJ s t n e.2.1 dE dZ []
  |[],f::jH=>(f.1,f.2.1+lo1,f.2.2+s)::fJ s t n lo1 f.2.1 [] jH
  |e::dZ,f::jH=>if e.1<=f.1 then(e.1,e.2.1+dE,e.2.2+(f.2.2-1))::fJ s t n e.2.1 dE dZ (f::jH)else(f.1,f.2.1+lo1,f.2.2+(e.2.2-1))::fJ s t n lo1 f.2.1 (e::dZ) jH
def rE(s t:a5)(es fs:ak E):ak E:=fJ s t (es.length+fs.length) 0 0 es fs
theorem UK(es:ak E)(i:ay)(h:i<es.length):sL es (i+1)=es[i].2.1:=by simp[sL,h]
theorem Zp(s:a5)(es:ak E)(i:ay)(h:i<es.length):tX s es i=es[i].2.2-1:=by simp[tX,h]
theorem Zq(s:a5)(es:ak E):tX s es es.length=s:=by simp[tX]
theorem asO(B c g s2 b d:a5)(es fs:ak E)(i j:ay)(acc:ak E)(Z:aE)(hi:i<=es.length)(m:j<=fs.length)(ha:acc.length<1000000) :
  JK [aj (eA B c g es),aj (eA s2 b d fs),aD Z.length,aA i,aA j] (Z++[.lst (encL acc)]) =
   if uC (es.drop i) (fs.drop j)then(match es[i]? with
    |some e=>aj (.nx,[aj (eA B c g es),aj (eA s2 b d fs),aD Z.length,aA (i+1:ay),aA j],Z++[.lst (encL (acc++[(e.1,e.2.1+sL fs j,e.2.2+tX s2 fs j)]))])
    | none=>ao)
   else(match fs[j]? with
    |some f=>aj (.nx,[aj (eA B c g es),aj (eA s2 b d fs),aD Z.length,aA i,aA (j+1:ay)],Z++[.lst (encL (acc++[(f.1,f.2.1+sL es i,f.2.2+tX B es i)]))])
    | none=>ao):=by
 have z:=λZ=>aIZ es fs i j Z hi m;have hl:yR (Z++[.lst (encL acc)]) (.aI Z.length):=ED (vD (ds:=encL acc) (by simp));have k:sX (Z++[.lst (encL acc)]) (.aI Z.length)=aj (Z.length,encL acc):=FC (by simp);have l:acc.length<bc:=by rw[nO];omega
 have n:∀x:E,encL acc++[cK x]=encL (acc++[x]):=λx=>by simp[encL]
 cases U:uC (es.drop i) (fs.drop j)with
 |true =>
  have q:i<es.length:=by
   by_cases h:i<es.length
   ·exact h
   ·rw[List.drop_eq_nil_of_le (by omega)]at U;cases U
  have a:fU (encL es) (i:a5)=aj (cK es[i]):=by rw[JO,xI,fL q];rfl
  have N:=λZ=>adW es[i] s2 b d fs j Z m;rw[U]at z;simp only[eA]at N ⊢;simp[JK,z,N,a,hl,k,l,n,q]
 |false =>
  have q:j<fs.length\/fs.length<=j:=by omega
  rcases q with q|q
  ·have a:fU (encL fs) (j:a5)=aj (cK fs[j]):=by rw[JO,xI,fL q];rfl
   have N:=λZ=>adW fs[j] B c g es i Z hi;rw[U]at z;simp only[eA]at N ⊢;simp[JK,z,N,a,hl,k,l,n,q]
  ·have a:fU (encL fs) (j:a5)=ao:=by rw[JO,xI,KC q];rfl
   rw[U]at z;simp only[eA]at ⊢;simp[JK,z,a,hl,k,q]
theorem Ww(q B U s2 z N:a5)(es fs:ak E)(i j:ay)(k:ar A)(Z:aE) :
  FH [aj (eA q B U es),aj (eA s2 z N fs),k,aA i,aA j] Z=aG (decide (i<es.length\/j<fs.length)) Z:=by
 by_cases h1:i<es.length
 ·simp[FH,eA,h1]
 ·by_cases h2:j<fs.length
  ·simp[FH,eA,h1,h2]
  ·simp[FH,eA,h1,h2]
theorem asP(b d h s2 c g:a5)(es fs:ak E)(Z:aE):∀(m n i j:ay) (acc:ak E),i<=es.length->j<=fs.length->m=(es.length-i)+(fs.length-j)->m<n->acc.length+m<=1000000 ->
  nG FH JK n [aj (eA b d h es),aj (eA s2 c g fs),aD Z.length,aA i,aA j] (Z++[.lst (encL acc)]) =
   aj (.nx,[aj (eA b d h es),aj (eA s2 c g fs),aD Z.length,aA es.length,aA fs.length],Z++[.lst (encL (acc++fJ b s2 m (sL es i) (sL fs j) (es.drop i) (fs.drop j)))]):=by
 intro m
 induction m with
 |zero =>
  intro n i j acc hi e hm hn ha;obtain⟨n,rfl⟩:∃k,n=k+1:=⟨n-1,by omega⟩;have h1:i=es.length:=by omega
  have h2:j=fs.length:=by omega
  subst h1 h2;rw[WK (Z1:=Z++[.lst (encL acc)]) (by rw[Ww];simp)];simp[fJ]
 |succ m ih =>
  intro n i j acc hi e hm hn ha;obtain⟨n,rfl⟩:∃k,n=k+1:=⟨n-1,by omega⟩;have f:FH [aj (eA b d h es),aj (eA s2 c g fs),aD Z.length,aA i,aA j] (Z++[.lst (encL acc)])=aG ax (Z++[.lst (encL acc)]):=by
   rw[Ww,vO (by omega)]
  have q:=asO b d h s2 c g es fs i j acc Z hi e (by omega)
  by_cases a:i<es.length
  ·have o:es[i]?=aj es[i]:=fL a;have U:=vZ a
   by_cases z:j<fs.length
   ·have l:fs[j]?=aj fs[j]:=fL z;have N:=vZ z
    by_cases hle:es[i].1<=fs[j].1
    ·have B:uC (es.drop i) (fs.drop j)=ax:=by rw[U,N];simp[uC,hle]
     rw[B,o]at q;rw[EU f q,ih n (i+1) j _ (by omega) e (by omega) (by omega) (by simp;omega),U,N,fJ,a9 hle,UK _ _ a,Zp _ _ _ z,<-N];simp
    ·have B:uC (es.drop i) (fs.drop j)=au:=by rw[U,N];simp[uC];omega
     rw[B,l]at q;rw[EU f q,ih n i (j+1) _ hi (by omega) (by omega) (by omega) (by simp;omega),U,N,fJ,bf hle,UK _ _ z,Zp _ _ _ a,<-U];simp
   ·have p:j=fs.length:=by omega
    subst p;have B:uC (es.drop i) (fs.drop fs.length)=ax:=by rw[U,KD];rfl
    rw[B,o]at q;rw[EU f q,ih n (i+1) fs.length _ (by omega) e (by omega) (by omega) (by simp;omega),U,KD,fJ,UK _ _ a,Zq];simp
  ·have tY:i=es.length:=by omega
   subst tY;have z:j<fs.length:=by omega
   have l:fs[j]?=aj fs[j]:=fL z;have N:=vZ z;have B:uC (es.drop es.length) (fs.drop j)=au:=by rw[KD];rfl
   rw[B,l]at q;rw[EU f q,ih n es.length (j+1) _ hi (by omega) (by omega) (by omega) (by simp;omega),N,KD,fJ,UK _ _ z,Zq];simp
theorem aJA(n:ay)(e:E):Cl n (cK e):=by simp[cK,Cl,gC]
theorem Oy(n:ay):∀(es:ak E),gC n (encL es)
 |[]=>by simp[encL,gC]
 |e::es=>by simp only[encL,bU,gC];exact⟨aJA n e,Oy n es⟩
theorem aIU(j B U s2 z N:a5)(es fs:ak E)(Z:aE)(h:es.length+fs.length<=100000):ZG [eA j B U es,eA s2 z N fs] Z=aG (.lst (encL (rE j s2 es fs))) Z:=by
 have q:=asP j B U s2 z N es fs Z (es.length+fs.length) 1000000 0 0 [] AU AU (by omega) (by omega) (by simp;omega);have a:encL []=[]:=rfl;have l0:∀es,sL es 0=0:=λ_=>rfl;simp only[a,l0,List.drop_zero,xT,Int.ofNat_zero,Int.natCast_zero]at q;have b:(0:ay)<=bc:=CG _;simp[ZG,acR,q,rE];rw[DB (by simp[Cl,Oy])]
theorem adX(j B U s2 z N:a5)(es fs:ak E)(Z:aE)(h:es.length+fs.length<=100000):CN [eA j B U es,eA s2 z N fs] Z=aG (eA (j+s2) (B+z) (max U N) (rE j s2 es fs)) Z:=by
 have q:=λZ=>aIU j B U s2 z N es fs Z h;have a:(4:ay)<=bc:=by decide
 simp only[eA]at q ⊢;simp[CN,acS,q,a]
def Ch(l s:a5):a5->a5->ar a5->ak E->Prop
 |lo,j,_,[]=>lo=s/\j=s
 |lo,j,q,e::r=>(∀p,q=aj p->p<=e.1)/\(q=aj e.1\/e.2.2<=lo+l+1)/\lo<e.2.1/\j<e.2.2/\e.2.1<=e.2.2/\e.2.2-e.2.1<=l/\Ch l s e.2.1 e.2.2 (aj e.1) r
def abF(es:ak E):Prop:=∀e r,es=e::r->e.2.1=1/\e.2.2=1
structure GF(s l d:a5)(es:ak E):Prop where
 s0:0<=s
 l0:0<=l
 d0:0<=d
 fst:abF es
 ch:Ch l s 0 0 ao es
theorem Ch.bound{l s:a5}:∀{es:ak E} {lo j:a5} {pr:ar a5},Ch l s lo j pr es->lo<=s/\j<=s
 |[],_,_,_,h=>⟨Ny h.1,Ny h.2⟩
 |e::r,_,_,_,h=>by
  obtain⟨_,_,B,z,_,_,q⟩:=h;have:=Ch.bound q;omega
noncomputable def iZ(s:a5):ak E->a5
 |[]=>s
 |e::_=>e.2.2-1
theorem Ch.Xh{l s lo j:a5}{pr:ar a5}{es:ak E}(h:Ch l s lo j pr es):lo<=iZ s es/\j<=iZ s es:=by
 cases es with
 |nil=>exact⟨Ny h.1,Ny h.2⟩
 |cons e r =>
  obtain⟨_,_,B,z,q,_,_⟩:=h;show lo<=e.2.2-1/\j<=e.2.2-1;omega
theorem BK(s:a5):iZ s []=s:=rfl
theorem EG(s:a5)(e:E)(r:ak E):iZ s (e::r)=e.2.2-1:=rfl
def Last(j p2 P:ar a5)(B N U tY z:a5):Prop :=
 (P=j/\z=B+tY/\(j=ao->p2=ao)/\∀p q,j=aj p->p2=aj q->q<p) \/
 (P=p2/\z=U+N/\p2≠ao/\∀p q,j=aj p->p2=aj q->p<=q)
theorem aFQ{z j s t:a5}{lo1 dE g i d:a5}{b p2 P:ar a5}{e:E}{es fs:ak E}(h1:Ch z s lo1 g b (e::es))(h2:Ch j t dE i p2 fs)(yX:0<=z)(u:0<=j)
  (G:∀p f r,b=aj p->fs=f::r->p<=f.1) (c:∀q,p2=aj q->q<e.1) (L:Last b p2 P g i (iZ s (e::es)) (iZ t fs) d) (k:∀f r,fs=f::r->e.1<=f.1)
  (rest:Ch (z+j) (s+t) (e.2.1+dE) (e.2.2+iZ t fs) (aj e.1) R):Ch (z+j) (s+t) (lo1+dE) d P ((e.1,e.2.1+dE,e.2.2+iZ t fs)::R):=by
 obtain⟨o,N,F,D,C,A,y⟩:=h1;obtain⟨x,w⟩:=h2.Xh;have v:iZ t fs<=dE+j:=by
  cases fs with
  |nil=>rw[BK];have:=h2.1;omega
  |cons f r =>
   obtain⟨_,a,_⟩:=h2;rw[EG]
   rcases a with a|a
   ·have:=c _ a;have:=k f r rfl;omega
   ·omega
 rw[EG]at L;refine⟨λp U=>?_,?_,by show lo1+dE<e.2.1+dE;omega,?_,by show e.2.1+dE<=e.2.2+iZ t fs;omega,by show e.2.2+iZ t fs-(e.2.1+dE)<=z+j;omega,rest⟩
 ·rcases L with⟨B,_⟩|⟨B,_⟩
  ·rw[B]at U;exact o p U
  ·rw[B]at U;have:=c p U;show p<=e.1;omega
 ·rcases N with N|N
  ·left
   rcases L with⟨B,_⟩|⟨B,_,m,l⟩
   ·rw[B];exact N
   ·exfalso;cases h:p2 with
    |none=>exact m h
    |some q =>
     have:=l _ q N h;have:=c q h;omega
  ·right
   show e.2.2+iZ t fs<=lo1+dE+(z+j)+1;omega
 ·show d<e.2.2+iZ t fs
  rcases L with⟨_,n,_⟩|⟨_,n,_⟩ <;> omega
theorem ab8{j B s t:a5}{lo1 dE g i d:a5}{U p2 P:ar a5}{f:E}{es fs:ak E}(h1:Ch j s lo1 g U es)(h2:Ch B t dE i p2 (f::fs))(yX:0<=j)(u:0<=B)
  (c:∀p,U=aj p->p<=f.1) (G:∀q e r,p2=aj q->es=e::r->q<e.1) (L:Last U p2 P g i (iZ s es) (iZ t (f::fs)) d) (k:∀e r,es=e::r->f.1<e.1)
  (rest:Ch (j+B) (s+t) (f.2.1+lo1) (f.2.2+iZ s es) (aj f.1) R):Ch (j+B) (s+t) (lo1+dE) d P ((f.1,f.2.1+lo1,f.2.2+iZ s es)::R):=by
 obtain⟨o,z,F,D,C,A,y⟩:=h2;obtain⟨x,w⟩:=h1.Xh;have v:iZ s es<=lo1+j:=by
  cases es with
  |nil=>rw[BK];have:=h1.1;omega
  |cons e r =>
   obtain⟨_,b,_⟩:=h1;rw[EG]
   rcases b with b|b
   ·have:=c _ b;have:=k e r rfl;omega
   ·omega
 rw[EG]at L;refine⟨λp a=>?_,?_,by show lo1+dE<f.2.1+lo1;omega,?_,by show f.2.1+lo1<=f.2.2+iZ s es;omega,by show f.2.2+iZ s es-(f.2.1+lo1)<=j+B;omega,rest⟩
 ·rcases L with⟨N,_⟩|⟨N,_⟩
  ·rw[N]at a;exact c p a
  ·rw[N]at a;exact o p a
 ·rcases z with z|z
  ·left
   rcases L with⟨N,_,m,l⟩|⟨N,_⟩
   ·exfalso;cases h:U with
    |none=>rw[m h]at z;cases z
    |some p =>
     have:=l p _ h z;have:=c p h;omega
   ·rw[N];exact z
  ·right
   show f.2.2+iZ s es<=lo1+dE+(j+B)+1;omega
 ·show d<f.2.2+iZ s es
  rcases L with⟨_,n,_⟩|⟨_,n,_⟩ <;> omega
theorem aFR{h g s t:a5}(yX:0<=h)(l:0<=g):∀(n:ay) (es fs:ak E) (lo1 dE U a d:a5) (N p2 P:ar a5),n=es.length+fs.length->Ch h s lo1 U N es->Ch g t dE a p2 fs ->
  (∀p f r,N=aj p->fs=f::r->p<=f.1)->(∀q e r,p2=aj q->es=e::r->q<e.1)->Last N p2 P U a (iZ s es) (iZ t fs) d ->
  Ch (h+g) (s+t) (lo1+dE) d P (fJ s t n lo1 dE es fs):=by
 intro n
 induction n with
 |zero =>
  intro es fs lo1 dE U a d N p2 P hn h1 h2 B c L;have y:es=[]:=xV (by omega);have o:fs=[]:=xV (by omega);subst y o;obtain⟨a1,X⟩:=h1;obtain⟨W,V⟩:=h2;simp only[BK]at L;refine⟨by omega,?_⟩
  rcases L with⟨_,o,_⟩|⟨_,o,_⟩ <;> omega
 |succ n ih =>
  intro es fs lo1 dE U a d N p2 P hn h1 h2 B c L;cases es with
  |nil =>
   cases fs with
   |nil=>simp at hn
   |cons f fs =>
    simp only[fZ,CK]at hn;have u:=h2;obtain⟨H,G,F,D,C,A,b⟩:=h2;have q:=ih [] fs lo1 f.2.1 U f.2.2 (s+f.2.2) N (aj f.1) (aj f.1) (by simp;omega) h1 b
     (λp i r j he=>by
      subst he;have:=B p f _ j rfl;have:=b.1 _ rfl;omega) (λq e r _ he=>by cases he)
     (.inr ⟨rfl,rfl,by simp,λp q j z=>by cases z;exact B p f _ j rfl⟩)
    have:=ab8 (es:=[]) h1 u yX l (λp j=>B p f _ j rfl) (λq e r _ he=>by cases he) L (λe r he=>by cases he) (R:=fJ s t n lo1 f.2.1 [] fs) (by
     rw[BK,Nz f.2.1,Nz f.2.2];exact q)
    simp only[fJ];rw[BK]at this;exact this
  |cons e es =>
   have m:=h1;obtain⟨T,S,Q,M,K,I,w⟩:=h1;have x:(∀f r,fs=f::r->e.1<=f.1)->Ch (h+g) (s+t) (lo1+dE) d P ((e.1,e.2.1+dE,e.2.2+iZ t fs)::fJ s t n e.2.1 dE es fs):=λv=>by
    have q:=ih es fs e.2.1 dE e.2.2 a (e.2.2+iZ t fs) (aj e.1) p2 (aj e.1) (by simp at hn ⊢;omega) w h2
     (λp i r j he=>by cases j;exact v i r he) (λq k r z he=>by
      subst he;have:=c q e _ z rfl;have:=w.1 _ rfl;omega)
     (.inl ⟨rfl,rfl,by simp,λp q j z=>by cases j;exact c q e _ z rfl⟩)
    exact aFQ m h2 yX l B (λq z=>c q e _ z rfl) L v q
   cases fs with
   |nil =>
    have:=x (λf r he=>by cases he);simp only[fJ];rw[BK]at this;exact this
   |cons f fs =>
    simp only[fJ]
    by_cases hle:e.1<=f.1
    ·rw[a9 hle];have:=x (λi r he=>by cases he;exact hle);rw[EG]at this;exact this
    ·rw[bf hle];have u:=h2;obtain⟨H,G,F,D,C,A,b⟩:=h2;have q:=ih (e::es) fs lo1 f.2.1 U f.2.2 (iZ s (e::es)+f.2.2) N (aj f.1) (aj f.1) (by simp at hn ⊢;omega) m b
      (λp i r j he=>by
       subst he;have:=B p f _ j rfl;have:=b.1 _ rfl;omega) (λq k r z he=>by cases z;cases he;omega)
      (.inr ⟨rfl,rfl,by simp,λp q j z=>by cases z;exact B p f _ j rfl⟩)
     have:=ab8 (es:=e::es) m u yX l (λp j=>B p f _ j rfl) (λq k r z he=>c q k r z he) L (λk r he=>by cases he;omega) (R:=fJ s t n lo1 f.2.1 (e::es) fs) (by
      rw[Nz f.2.1,Nz f.2.2];exact q)
     rw[EG]at this;exact this
theorem Zr{l s:a5}{es:ak E}(h:abF es)(c:Ch l s 0 0 ao es):iZ s es=0:=by
 cases es with
 |nil=>exact c.1.symm
 |cons e r=>rw[EG,(h e r rfl).2];rfl
theorem aBI{j B c s2 z U:a5}{es fs:ak E}(h1:GF j B c es)(h2:GF s2 z U fs):GF (j+s2) (B+z) (max c U) (rE j s2 es fs):=by
 have g:=Zr h1.fst h1.ch;have N:=Zr h2.fst h2.ch;have q:=aFR h1.l0 h2.l0 (es.length+fs.length) es fs 0 0 0 0 0 ao ao ao rfl h1.ch h2.ch (λ_ _ _ h=>by cases h) (λ_ _ _ h=>by cases h) (.inl ⟨rfl,by rw[N];rfl,λ_=>rfl,λ_ _ h=>by cases h⟩);refine⟨by have:=h1.s0;have:=h2.s0;omega,by have:=h1.l0;have:=h2.l0;omega,by have:=h1.d0;omega,?_,q⟩;intro e r he;unfold rE at he;cases es with
 |nil =>
  cases fs with
  |nil=>simp[fJ]at he
  |cons f fs =>
   rw[BK]at g;simp only[CK,fZ,zM,fJ,qT]at he;obtain⟨a,b⟩:=h2.fst f fs rfl;rw[<-he.1];exact⟨by show f.2.1+0=1;omega,by show f.2.2+j=1;omega⟩
 |cons x es =>
  obtain⟨a,b⟩:=h1.fst x es rfl;cases fs with
  |nil =>
   rw[BK]at N;simp only[CK,fZ,Nat.add_zero,fJ,qT]at he;rw[<-he.1];exact⟨by show x.2.1+0=1;omega,by show x.2.2+s2=1;omega⟩
  |cons f fs =>
   obtain⟨k,i⟩:=h2.fst f fs rfl;have d:(x::es).length+(f::fs).length=(es.length+(f::fs).length)+1:=by simp only[fZ];omega
   rw[d]at he;simp only[fJ]at he;split at he
   ·simp only[qT]at he;rw[<-he.1];exact⟨by show x.2.1+0=1;omega,by show x.2.2+(f.2.2-1)=1;omega⟩
   ·simp only[qT]at he;rw[<-he.1];exact⟨by show f.2.1+0=1;omega,by show f.2.2+(x.2.2-1)=1;omega⟩
noncomputable def qD(l:a5)(k y:E):br:=decide (y.1=k.1)||decide (y.2.2<=k.2.1+l+1)
def pI(l:a5):E->ak E->ak E
 |_,[]=>[]
 |k,x::r=>match r with
  |[]=>[x]
  |y::_=>if qD l k y=ax then pI l k r else x::pI l x r
def mY(l:a5):ak E->ak E
 |[]=>[]
 |e::r=>e::pI l e r
theorem HE(l:a5)(k x y:E)(r:ak E):pI l k (x::y::r)=if qD l k y=ax then pI l k (y::r)else x::pI l x (y::r):=rfl
theorem DQ(l:a5)(k y:E):qD l k y=ax<->(y.1=k.1\/y.2.2<=k.2.1+l+1):=by simp[qD]
theorem Ki{l0 l s:a5}(i:l0<=l):∀(xs:ak E) (k:E) (j N B:a5),Ch l0 s N B (aj j) xs->k.1<=j->k.2.1<=N->k.2.2<=B->(xs=[]->k.2.1=N/\k.2.2=B)->(∀x r,xs=x::r->qD l k x=ax)->Ch l s k.2.1 k.2.2 (aj k.1) (pI l k xs)
 |[],k,j,N,B,h,_,_,_,he,_=>by
  obtain⟨a,b⟩:=he rfl;exact⟨a.trans h.1,b.trans h.2⟩
 |[x],k,j,N,B,h,h1,h2,t,_,hn=>by
  obtain⟨g,A,w,v,f,u,U⟩:=h;have n:=(DQ l k x).mp (hn x [] rfl);have:=g j rfl;refine⟨λp d=>(by cases d;omega),?_,by omega,by omega,f,by omega,U⟩
  rcases n with n|n
  ·left;rw[n]
  ·right;exact n
 |x::y::r,k,j,N,B,h,h1,h2,t,_,hn=>by
  obtain⟨g,A,w,v,f,u,U⟩:=h;have C:=g j rfl;rw[HE]
  by_cases c:qD l k y=ax
  ·rw[a9 c];exact Ki i (y::r) k x.1 x.2.1 x.2.2 U (by omega) (by omega) (by omega) (λe=>by cases e) (λm o e=>by cases e;exact c)
  ·rw[bf c];have n:=(DQ l k x).mp (hn x _ rfl);have q:=Ki i (y::r) x x.1 x.2.1 x.2.2 U yS yS yS (λe=>by cases e) (λm o e=>by
    cases e;rw[DQ]
    rcases U.2.1 with z|z
    ·left;exact(kY z).symm
    ·right;omega)
   refine⟨λp d=>(by cases d;omega),?_,by omega,by omega,f,by omega,q⟩
   rcases n with n|n
   ·left;rw[n]
   ·right;exact n
theorem aBG{s l d B:a5}{es:ak E}(h:GF s l d es)(hl:l<=B):GF s B (d+1) (mY B es):=by
 refine⟨h.s0,by have:=h.l0;omega,by have:=h.d0;omega,?_,?_⟩
 ·intro e r he;cases es with
  |nil=>cases he
  |cons x q =>
   simp only[mY,qT]at he;rw[<-he.1];exact h.fst x q rfl
 ·cases es with
  |nil=>exact h.ch
  |cons x q =>
   obtain⟨c,j,b,a,U,f,N⟩:=h.ch;refine⟨c,?_,b,a,U,by omega,Ki hl q x x.1 x.2.1 x.2.2 N yS yS yS (λ_=>⟨rfl,rfl⟩) (λy r e=>?_)⟩
   ·rcases j with j|j
    ·cases j
    ·right;omega
   ·subst e;rw[DQ]
    rcases N.2.1 with z|z
    ·left;exact(kY z).symm
    ·right;omega
theorem SN(l:a5):∀(xs:ak E) (k c:E),c∈pI l k xs->c∈xs
 |[],_,_,h=>by cases h
 |[x],_,_,h=>h
 |x::y::r,k,c,h=>by
  rw[HE]at h;split at h
  ·exact fY _ (SN l (y::r) k c h)
  ·rcases dU.mp h with z|z
   ·rw[z];exact List.mem_cons_self ..
   ·exact fY _ (SN l (y::r) x c z)
theorem WT{l s:a5}:∀(xs:ak E) (lo j:a5) (q:ar a5),Ch l s lo j q xs->∀c∈xs,j<c.2.2/\lo<c.2.1/\c.2.2-c.2.1<=l/\c.2.1<=s/\c.2.2<=s
 |[],_,_,_,_,c,h=>by cases h
 |x::r,lo,j,q,h,c,N=>by
  obtain⟨n,m,f,e,k,d,B⟩:=h
  rcases dU.mp N with z|z
  ·subst z;have:=B.bound;exact⟨e,f,d,this.1,this.2⟩
  ·obtain⟨i,g,b,a,U⟩:=WT r _ _ _ B c z;exact⟨by omega,by omega,b,a,U⟩
def Nq(st:a5):E->ak E->Prop
 |_,[]=>True
 |k,b::r=>(∀c j,r=c::j->k.2.1+st+2<=c.2.1)/\Nq st b r
theorem Fz{l0 st s:a5}:∀(xs:ak E) (k:E) (lo N:a5) (B:ar a5),Ch l0 s lo N B xs->Nq st k (pI (l0+st) k xs)
 |[],_,_,_,_,_=>trivial
 |[x],_,_,_,_,_=>⟨λc a e=>(by cases e),trivial⟩
 |x::y::r,k,lo,N,B,h=>by
  obtain⟨o,n,m,l,i,g,j⟩:=h;rw[HE]
  by_cases q:qD (l0+st) k y=ax
  ·rw[a9 q];exact Fz (y::r) k _ _ _ j
  ·rw[bf q];refine⟨λc a e=>?_,Fz (y::r) x _ _ _ j⟩;have U:c∈y::r:=SN _ (y::r) x c (by rw[e];exact List.mem_cons_self ..);have hm:=WT _ _ _ _ j c U;have f:y.2.2<=c.2.2:=by
    rcases dU.mp U with z|z
    ·rw[z];exact lY _
    ·obtain⟨_,_,_,_,_,_,b⟩:=j;have:=(WT _ _ _ _ b c z).1;omega
   have hn:¬(y.1=k.1\/y.2.2<=k.2.1+(l0+st)+1):=λz=>q ((DQ _ _ _).mpr z);have d:¬y.2.2<=k.2.1+(l0+st)+1:=λz=>hn (.inr z);omega
theorem Xx{st s:a5}:∀(m:ay) (k:E) (ae:ak E),Nq st k ae->(∀c∈k::ae,c.2.1<=s)->2*m<=ae.length->k.2.1+m*(st+2)<=s
 |0,k,ae,_,h,_=>by have:=h k nE;simpa using this
 |m+1,k,ae,j,h,hl=>by
  match ae,j,hl with
  |[],_,hl=>simp at hl
  |[b],_,hl=>simp at hl;omega
  |b::c::r,j,hl =>
   obtain⟨N,B⟩:=j;have e:=N c r rfl;have q:=Xx m c r B.2 (λz U=>h z (fY _ (fY _ U))) (by simp at hl;omega);have:((m+1:ay):a5)*(st+2)=(m:a5)*(st+2)+(st+2):=by rw[Int.natCast_add,Int.add_mul];simp
   rw[this];omega
theorem ahQ{s l d:a5}{es:ak E}(h:GF s l d es)(keep:ay)(e:1<=keep):(mY (l+s/keep) es).length<=2*keep:=by
 cases es with
 |nil=>simp[mY]
 |cons x j =>
  obtain⟨p,o,n,m,k,i,B⟩:=h.ch;have b:=(h.fst x j rfl).1
  by_cases N:(mY (l+s/keep) (x::j)).length<=2*keep
  ·exact N
  ·exfalso;have hlen:2*keep<=(pI (l+s/keep) x j).length:=by simp only[mY,fZ]at N;omega
   have q:=Xx keep x _ (Fz j x _ _ _ B) (λc U=>by
    rcases dU.mp U with z|z
    ·rw[z];exact B.bound.1
    ·exact(WT _ _ _ _ B c (SN _ _ _ _ z)).2.2.2.1) hlen
   have g:=Int.mul_ediv_add_emod s keep;have f:=KO s (show(0:a5)<keep by omega);have a:(keep:a5)*(s/keep+2)=keep*(s/keep)+2*keep:=by rw[Int.mul_add];omega
   rw[a]at q;omega
theorem aIT(l:a5)(k y:E)(Z:aE):RE [cK k,cK y,.int l] Z=aG (.bl (qD l k y)) Z:=by
 by_cases h:y.1=k.1
 ·simp[RE,Kq,cK,h,qD]
 ·simp[RE,Kq,cK,h,qD]
theorem Jw(es:ak E)(e:E):encL es++[cK e]=encL (es++[e]):=by simp[encL]
theorem Jx(e:E)(es:ak E):encL (e::es)=cK e::encL es:=rfl
theorem UU(ok:aE->Prop)(aH:∀Z,ok Z)(es:ak E)(l:a5)(Z:aE)(hz:es.length<=100000):∀(xs:ak E) (pre acc:ak E) (k:E) (a e:ar A),es=pre++xs->1<=pre.length->acc.length<=pre.length->∃B j,
  eZ ok (jG 2 (dN (gN 4) (dN (gN 5) jR))) BZ (pR pre.length (encL xs)) [cW (encL es),aA l,aD Z.length,aA ((es.length:a5)-1),a,e] (Z++[.lst (encL (acc++[k]))]) =
   aj (.nx,[cW (encL es),aA l,aD Z.length,aA ((es.length:a5)-1),B,j],Z++[.lst (encL (acc++[k]++pI l k xs))])
 | [],pre,acc,k,a,e,_,_,_=>⟨a,e,by
   show eZ _ _ _ [] _ _=_;rw[BQ (aH _)];simp[pI]⟩
 |x::r,pre,acc,k,a,e,he,m,n=>by
  have hL:∀ds,fP (Z++[.lst ds]) (.aI Z.length)=aj ds:=λds=>vD (by simp);have d:∀ds,yR (Z++[.lst ds]) (.aI Z.length):=λds=>ED (hL ds);have f:∀ds,sX (Z++[.lst ds]) (.aI Z.length)=aj (Z.length,ds):=λds=>FC (by simp);have hlen:es.length=pre.length+(r.length+1):=by rw[he];simp
  have h:acc.length+1<bc:=by rw[nO];omega
  have b:((pre.length:a5)==0)=au:=by simp;intro z;simp[z]at m
  have g:fU (encL (acc++[k])) (-1)=aj (cK k):=by rw[<-Jw];exact L2.aHJ _ _
  have keep:∀(i:ar A),BZ [cW (encL es),aA l,aD Z.length,aA ((es.length:a5)-1),aA (pre.length:a5),aj (cK x)] (Z++[.lst (encL (acc++[k]))]) =
    aj (.nx,[cW (encL es),aA l,aD Z.length,aA ((es.length:a5)-1),aA (pre.length:a5),aj (cK x)],Z++[.lst (encL (acc++[k]++(match r with
     |[]=>[x]
     | y::_=>if qD l k y=ax then []else [x])))]):=by
   intro _;cases r with
   |nil =>
    have N:((pre.length:a5)==(es.length:a5)-1)=ax:=by simp at hlen ⊢;omega
    simp[BZ,-beq_iff_eq,-ej,b,N,d,f,h];rw[Jw];simp
   |cons y r =>
    have N:((pre.length:a5)==(es.length:a5)-1)=au:=by simp at hlen ⊢;omega
    have c:fU (encL es) ((pre.length:a5)+1)=aj (cK y):=by
     rw[show((pre.length:a5)+1)=((pre.length+1:ay):a5)by omega,xO,xI,he];simp
    have q:=λZ=>aIT l k y Z;cases hb:qD l k y with
    |true =>
     rw[hb]at q;simp[BZ,-beq_iff_eq,-ej,b,N,hL,g,c,q,hb]
    |false =>
     rw[hb]at q;simp[BZ,-beq_iff_eq,-ej,b,N,hL,g,c,q,d,f,h,hb];rw[Jw];simp
  have U:(pre++[x]).length=pre.length+1:=by simp
  rw[Jx,pR];cases r with
  |nil =>
   obtain⟨B,j,ih⟩:=UU ok aH es l Z hz [] (pre++[x]) (acc++[k]) x (aA (pre.length:a5)) (aj (cK x)) (by rw[he];simp) (by simp) (by simp;omega);rw[U]at ih;refine⟨B,j,?_⟩;rw[qO (aH _) (by simp) (keep ao),ih];simp[pI]
  |cons y r =>
   cases hb:qD l k y with
   |true =>
    obtain⟨B,j,ih⟩:=UU ok aH es l Z hz (y::r) (pre++[x]) acc k (aA (pre.length:a5)) (aj (cK x)) (by rw[he];simp) (by simp) (by simp;omega);rw[U]at ih;refine⟨B,j,?_⟩;rw[qO (aH _) (by simp) (keep ao)];simp only[hb,jP,pU];rw[ih,HE,a9 hb]
   |false =>
    obtain⟨B,j,ih⟩:=UU ok aH es l Z hz (y::r) (pre++[x]) (acc++[k]) x (aA (pre.length:a5)) (aj (cK x)) (by rw[he];simp) (by simp) (by simp;omega);rw[U]at ih;refine⟨B,j,?_⟩;rw[qO (aH _) (by simp) (keep ao)];simp only[hb,kZ,iJ];rw[ih,HE,bf (by rw[hb];simp)];simp
theorem aIY(es:ak E)(l:a5)(Z:aE)(hz:es.length<=100000):RG [.lst (encL es),.int l] Z=aG (.lst (encL (mY l es))) Z:=by
 have z:∀ds,yR (Z++[.lst ds]) (.aI Z.length):=λds=>ED (vD (ds:=ds) (by simp));have B:∀ds,sX (Z++[.lst ds]) (.aI Z.length)=aj (Z.length,ds):=λds=>FC (by simp);have N:(0:ay)<bc:=by decide
 cases es with
 |nil =>
  simp[RG,Ku,enumSrc,encL,pR,eZ,mY];exact DB (by simp[Cl,gC])
 |cons x j =>
  obtain⟨a,U,q⟩:=UU (λ_=>True) (λ_=>trivial) (x::j) l Z hz j [x] [] x (aA 0) (aj (cK x)) rfl (by simp) (by simp);have f:eZ (λ_=>True) (jG 2 (dN (gN 4) (dN (gN 5) jR))) BZ (pR 0 (encL (x::j))) [cW (encL (x::j)),aA l,aD Z.length,aA (((x::j).length:a5)-1),ao,ao] (Z++[.lst []]) =
   aj (.nx,[cW (encL (x::j)),aA l,aD Z.length,aA (((x::j).length:a5)-1),a,U],Z++[.lst (encL (mY l (x::j)))]):=by
   rw[Jx,pR,qO trivial (Y0:=[cW (encL (x::j)),aA l,aD Z.length,aA (((x::j).length:a5)-1),aA 0,aj (cK x)]) (Z0:=Z++[.lst []]) (by simp[Jx])
    (Y1:=[cW (encL (x::j)),aA l,aD Z.length,aA (((x::j).length:a5)-1),aA 0,aj (cK x)]) (Z1:=Z++[.lst (encL ([]++[x]))]) (by simp[BZ,z,B,N,encL])]
   exact q
  have hn:(((x::j).length:a5)-1)=(j.length:a5):=by simp
  rw[hn]at f;simp[RG,Ku,enumSrc,f];exact DB (by simp[Cl,Oy])
theorem aIK(s l d:a5)(es:ak E)(keep:a5)(Z:aE)(B:1<=keep)(N:keep<1000000)(hz:es.length<=100000):QZ [eA s l d es,.int keep] Z=aG (eA s (l+s/keep) (d+1) (mY (l+s/keep) es)) Z:=by
 have q:=λl Z=>aIY es l Z hz;have z:(4:ay)<=bc:=by decide
 have hd:∀j,uL j keep:=λj=>⟨by omega,by omega⟩
 simp[QZ,acO,eA,q,z,hd]
theorem aBH{s l d:a5}{es:ak E}(h:GF s l d es):(s=0<->es=[]):=by
 cases es with
 |nil=>exact⟨λ_=>rfl,λ_=>h.ch.1.symm⟩
 |cons e r =>
  obtain⟨_,_,q,_,_,_,j⟩:=h.ch;have:=j.bound;exact⟨λz=>by omega,λz=>by cases z⟩
theorem WU{l s:a5}:∀(es:ak E) (lo N:a5) (B:ar a5) (i:ay) (e:E),Ch l s lo N B es->es[i]?=aj e->e.2.1<=e.2.2/\e.2.2-e.2.1<=l/\(i+1=es.length->e.2.1=s/\e.2.2=s)/\∀f,es[i+1]?=aj f->e.1<=f.1/\e.2.1<f.2.1/\e.2.2<f.2.2/\qD l e f=ax
 |[],_,_,_,_,_,_,h=>by simp at h
 |x::r,lo,N,B,0,e,h,he=>by
  obtain⟨v,u,t,p,a,U,q⟩:=h;simp at he;subst he;refine⟨a,U,λhl=>?_,λf j=>?_⟩
  ·have:r=[]:=xV (by simp only[fZ]at hl;omega);subst this;exact q
  ·cases r with
   |nil=>simp at j
   |cons y r =>
    simp at j;subst j;obtain⟨o,n,m,k,_⟩:=q;refine⟨o _ rfl,m,k,?_⟩;rw[DQ]
    rcases n with z|z
    ·left;exact(kY z).symm
    ·right;exact z
 |x::r,lo,N,B,i+1,e,h,he=>by
  obtain⟨v,u,t,p,a,U,q⟩:=h;simp at he;obtain⟨g,d,c,b⟩:=WU r _ _ _ i e q he;exact⟨g,d,λhl=>c (by simp only[fZ]at hl;omega),λf j=>b f (by simpa using j)⟩
structure Po where
 s:a5
 l:a5
 d:a5
 es:ak E
def aW(p:Po):A:=eA p.s p.l p.d p.es
theorem Wr(s t:a5):∀(n:ay) (lo1 dE:a5) (es fs:ak E),n=es.length+fs.length->(fJ s t n lo1 dE es fs).length=n:=by
 intro n
 induction n with
 |zero=>intro lo1 dE es fs _;rfl
 |succ n ih =>
  intro lo1 dE es fs h;cases es with
  |nil =>
   cases fs with
   |nil=>simp at h
   |cons f fs=>simp only[fJ,fZ];rw[ih _ _ _ _ (by simp at h ⊢;omega)]
  |cons e es =>
   cases fs with
   |nil=>simp only[fJ,fZ];rw[ih _ _ _ _ (by simp at h ⊢;omega)]
   |cons f fs =>
    simp only[fJ];split
    ·simp only[fZ];rw[ih _ _ _ _ (by simp at h ⊢;omega)]
    ·simp only[fZ];rw[ih _ _ _ _ (by simp at h ⊢;omega)]
def qE(p q:Po):Po:=⟨p.s+q.s,p.l+q.l,max p.d q.d,rE p.s q.s p.es q.es⟩
def Sd(keep:a5)(p:Po):Po:=⟨p.s,p.l+p.s/keep,p.d+1,mY (p.l+p.s/keep) p.es⟩
end M
namespace V2
open PySem L2
theorem Jq{ok:aE->Prop}{g:A->MS}{c:Ev->Mo br}{e:Ev->Mo A}(F:A->ar A)(P:Ev->Prop)(Z0:aE)(aH:∀ys,ok (Z0++[.lst ys])):∀(xs:ak A) (Y:Ev) (acc:ak A),P Y->acc.length+xs.length<=1000000 ->
  (∀x∈xs,∀Y,P Y->∀ys,∃Y1,P Y1/\g x Y (Z0++[.lst ys])=aj (.nx,Y1,Z0++[.lst ys])/\((∃y,F x=aj y/\c Y1 (Z0++[.lst ys])=aj (.ok ax,Z0++[.lst ys])/\e Y1 (Z0++[.lst ys])=aj (.ok y,Z0++[.lst ys]))\/(F x=ao/\c Y1 (Z0++[.lst ys])=aj (.ok au,Z0++[.lst ys])))) ->
  ∃Y',qN ok g c e Z0.length xs Y (Z0++[.lst acc])=aj (Y',Z0++[.lst (acc++xs.filterMap F)])
 |[],Y,acc,_,_,_=>⟨Y,by simp[qN,aH]⟩
 |x::xs,Y,acc,b,hl,turn=>by
  simp only[fZ]at hl;obtain⟨Y1,j,U,q⟩:=turn x nE Y b acc;have a:acc.length<bc:=by rw[nO];omega
  rcases q with⟨y,B,N,d⟩|⟨B,N⟩
  ·obtain⟨Y',ih⟩:=Jq F P Z0 aH xs Y1 (acc++[y]) j (by simp;omega) λx z=>turn x (fY _ z);exact⟨Y',by simp[qN,aH,U,N,d,a,ih,B]⟩
  ·obtain⟨Y',ih⟩:=Jq F P Z0 aH xs Y1 acc j (by omega) λx z=>turn x (fY _ z);exact⟨Y',by simp[qN,aH,U,N,ih,B]⟩
theorem Rq{n:ay}{js:ak ay}{fi:Ev->Mo Src}{g:A->MS}{c:Ev->Mo br}{e:Ev->Mo A}{Y:Ev}{Z Z0:aE}{S:Src}(F:A->ar A)(P:Ev->Prop)(j:fi Y Z=aj (.ok S,Z0))(aH:∀ys,S.ok (Z0++[.lst ys]))(N:P (AY n js Y))(hl:S.ds.length<=1000000)
  (turn:∀x∈S.ds,∀Y,P Y->∀ys,∃Y1,P Y1/\g x Y (Z0++[.lst ys])=aj (.nx,Y1,Z0++[.lst ys])/\((∃y,F x=aj y/\c Y1 (Z0++[.lst ys])=aj (.ok ax,Z0++[.lst ys])/\e Y1 (Z0++[.lst ys])=aj (.ok y,Z0++[.lst ys]))\/(F x=ao/\c Y1 (Z0++[.lst ys])=aj (.ok au,Z0++[.lst ys]))))
  (B:gC Z0.length (S.ds.filterMap F)):wN au n js fi g c e Y Z=aj (.ok (.lst (S.ds.filterMap F)),Z0):=by
 obtain⟨z,q⟩:=Jq F P Z0 aH S.ds (AY n js Y) [] N (by simpa using hl) turn;simp[wN,mb,j,q,Fq,B]
theorem aB1{a b c:A}{Z:aE}(ha:res Z 6 a=aj c)(hb:res Z 6 b=aj c)(j:cJ 8 c=ax):qL a b Z=aj (.ok (.bl au),Z):=by
 simp[qL,xF,ha,hb,j,abL 8 c j]
theorem aB3{a:A}{Z:aE}(h:cJ 8 a=ax):iK a a Z=aj (.ok (.bl ax),Z):=aB4 (tP h) (tP h) h
theorem WA{a:A}{Z:aE}(h:cJ 8 a=ax):qL a a Z=aj (.ok (.bl au),Z):=aB1 (tP h) (tP h) h
theorem Ub{f:Ev->Mo (ak A)}{Y:Ev}{Z Z':aE}{j:a5}(h:f Y Z=aj (.ok [.int j],Z'))(q:DE j):yC f Y Z=aj (.ok (AQ 0 j.toNat),Z'):=by
 unfold yC;rw[dJ h];show mb (pS (DE j)) _ Z'=_;rw[asW _ q];rfl
theorem vN{fi:Ev->Mo Src}{g:A->MS}{b:MS}{Y:Ev}{Z Z':aE}{S:Src}(h:fi Y Z=aj (.ok S,Z')):iT fi g b Y Z=eZ S.ok g b S.ds Y Z':=by
 unfold iT;rw[gL h]
theorem BW{n:ay}:∀{as:ak A},(∀a∈as,Cl n a)->gC n as
 |[],_=>by simp only[gC]
 |a::as,h=>by simp only[gC];exact⟨h a nE,BW λb hb=>h b (fY _ hb)⟩
end V2
namespace M
open PySem L2 V2
abbrev Rn:=a5×a5
noncomputable def gW(r:Rn):A:=.tup [.int r.1,.int r.2]
def aM(rs:ak Rn):ak A:=rs.map gW
theorem clT(n:ay)(r:Rn):Cl n (gW r):=by simp[gW,Cl,gC]
theorem ab2(n:ay)(rs:ak Rn):gC n (aM rs):=BW λa h=>by
 obtain⟨r,_,rfl⟩:=lX.mp h;exact clT n r
theorem Ea(rs:ak Rn):cJ 8 (.lst (aM rs))=ax:=by
 simp[cJ,aM,gW]
noncomputable def cO(rs:ak Rn)(n:a5):a5:=(rs.map λr=>if r.1<n then r.2 else 0).sum
noncomputable def cZ(rs:ak Rn)(n:a5):a5:=(rs.map λr=>if r.1<=n then r.2 else 0).sum
noncomputable def iR(rs:ak Rn)(n:a5):a5:=(rs.map λr=>if r.1=n then r.2 else 0).sum
noncomputable def whole(rs:ak Rn):a5:=(rs.map (·.2)).sum
noncomputable def iF(j:ak a5)(f:a5->a5):ak (Key×A):=j.map λk=>(.inl k,.int (f k))
theorem Ri(j:ak a5)(f:a5->a5)(n:a5):hZ (iF j f) (.inl n)=if n∈j then(aA (f n))else ao:=by
 induction j with
 |nil=>rfl
 |cons k j ih =>
  simp only[hZ,iF,bU,FT]at ih ⊢
  by_cases e:k=n
  ·subst e;simp
  ·have:(Sum.inl k:Key)≠Sum.inl n:=λz=>e (Sum.inl.inj z);simp only[this,JD];rw[ih];have q:¬n=k:=λz=>e z.symm;simp[q]
theorem aHM(j:ak a5)(f:a5->a5)(n:a5):((iF j f).any λq=>decide (q.1=(Sum.inl n:Key)))=decide (n∈j):=by
 induction j with
 |nil=>rfl
 |cons k j ih =>
  simp only[iF,bU,QT]at ih ⊢;rw[ih]
  by_cases e:k=n
  ·subst e;simp
  ·have h1:(Sum.inl k:Key)≠Sum.inl n:=λz=>e (Sum.inl.inj z);have B:¬n=k:=λz=>e z.symm;simp[h1,B]
noncomputable def qQ(j:ak a5)(n:a5):ak a5:=if n∈j then j else j++[n]
theorem anO(j:ak a5)(f g:a5->a5)(n:a5)(B:∀k∈j,k≠n->g k=f k):lS (iF j f) (.inl n) (.int (g n))=iF (qQ j n) g:=by
 unfold lS qQ;rw[aHM]
 by_cases h:n∈j
 ·simp only[h,JC,jP];simp only[iF,QP];refine QQ λk q=>?_
  by_cases e:k=n
  ·subst e;simp
  ·have h1:(Sum.inl k:Key)≠Sum.inl n:=λz=>e (Sum.inl.inj z);simp[h1,B k q e]
 ·simp only[h,JD,iJ];simp only[iF,xU,bU,rW];rw[QQ (g:=λk=>((Sum.inl k:Key),A.int (g k))) λk q=>by rw[B k q (λz=>h (z ▸ q))]];simp
def pN(j:ak a5)(rs:ak Rn):ak a5:=rs.foldl (λj r=>qQ j r.1) j
theorem aHS{j:ak a5}{n:a5}(h:j.Nodup):(qQ j n).Nodup:=by
 unfold qQ;split
 ·exact h
 ·rename_i hn;rw[YS];refine⟨h,by simp,λa ha b hb e=>?_⟩;simp only[lN]at hb;exact hn (hb ▸ e ▸ ha)
theorem Wz{j:ak a5}{n k:a5}:k∈qQ j n<->k∈j\/k=n:=by
 unfold qQ;split
 ·rename_i h;exact⟨.inl,λz=>z.elim id λe=>e ▸ h⟩
 ·simp
theorem Xp(j:ak a5)(n:a5):(qQ j n).length<=j.length+1:=by unfold qQ;split <;> simp
theorem Xv:∀(rs:ak Rn) {j:ak a5},j.Nodup->(pN j rs).Nodup
 |[],_,h=>h
 |r::rs,_,h=>Xv rs (aHS h)
theorem Wy:∀(rs:ak Rn) {j:ak a5} {k:a5},k∈pN j rs<->k∈j\/∃r∈rs,r.1=k
 |[],j,k=>by simp[pN]
 |r::rs,j,k=>by
  show k∈pN (qQ j r.1) rs<->_;rw[Wy rs,Wz];simp only[dU,exists_eq_or_imp];constructor
  ·rintro((h|h)|h)
   ·exact .inl h
   ·exact .inr (.inl h.symm)
   ·exact .inr (.inr h)
  ·rintro(h|h|h)
   ·exact .inl (.inl h)
   ·exact .inl (.inr h.symm)
   ·exact .inr h
theorem Fp:∀(rs:ak Rn) (j:ak a5),(pN j rs).length<=j.length+rs.length
 |[],j=>by simp[pN]
 |r::rs,j=>by
  have h1:=Fp rs (qQ j r.1);have h2:=Xp j r.1;show(pN (qQ j r.1) rs).length<=_;simp only[fZ];omega
theorem uW(r:Rn)(rs:ak Rn)(x:a5):cO (r::rs) x=(if r.1<x then r.2 else 0)+cO rs x/\cZ (r::rs) x=(if r.1<=x then r.2 else 0)+cZ rs x:=⟨rfl,rfl⟩
theorem Au(R S:ak Rn)(x:a5):cO (R++S) x=cO R x+cO S x:=by simp[cO]
theorem As(R S:ak Rn)(x:a5):cZ (R++S) x=cZ R x+cZ S x:=by simp[cZ]
theorem uN(R S:ak Rn):whole (R++S)=whole R+whole S:=by simp[whole]
def Tn(R:ak Rn):Prop:=∀r∈R,0<=r.2
theorem Tn.tail{r:Rn}{R:ak Rn}(h:Tn (r::R)):Tn R:=λq j=>h q (fY _ j)
theorem Tn.head{r:Rn}{R:ak Rn}(h:Tn (r::R)):0<=r.2:=h r nE
theorem Tn.app{R S:ak Rn}(h:Tn R)(k:Tn S):Tn (R++S):=λq j=>(lH.mp j).elim (h q) (k q)
theorem LW:∀{R:ak Rn},Tn R->∀x,0<=cO R x
 |[],_,_=>by simp[cO]
 |r::R,h,x=>by
  rw[(uW r R x).1];have:=LW h.tail x;have:=h.head;split <;> omega
theorem LX:∀{R:ak Rn},Tn R->∀{x y:a5},x<=y->cO R x<=cO R y
 |[],_,_,_,_=>by simp[cO]
 |r::R,h,x,y,l=>by
  rw[(uW r R x).1,(uW r R y).1];have:=LX h.tail l;have:=h.head;split <;> split <;> omega
theorem LV:∀{R:ak Rn},Tn R->∀{x y:a5},x<=y->cZ R x<=cZ R y
 |[],_,_,_,_=>by simp[cZ]
 |r::R,h,x,y,l=>by
  rw[(uW r R x).2,(uW r R y).2];have:=LV h.tail l;have:=h.head;split <;> split <;> omega
theorem LU:∀{R:ak Rn},Tn R->∀{x y:a5},x<y->cZ R x<=cO R y
 |[],_,_,_,_=>by simp[cZ,cO]
 |r::R,h,x,y,l=>by
  rw[(uW r R x).2,(uW r R y).1];have:=LU h.tail l;have:=h.head;split <;> split <;> omega
theorem DA:∀{R:ak Rn},Tn R->∀(x:a5),cO R x<=cZ R x
 |[],_,_=>by simp[cZ,cO]
 |r::R,h,x=>by
  rw[(uW r R x).2,(uW r R x).1];have:=DA h.tail x;have:=h.head;split <;> split <;> omega
theorem Ar:∀{R:ak Rn},Tn R->∀(x:a5),cZ R x<=whole R
 |[],_,_=>by simp[cZ,whole]
 |r::R,h,x=>by
  rw[(uW r R x).2];have e:whole (r::R)=r.2+whole R:=by simp[whole]
  have:=Ar h.tail x;have:=h.head;rw[e];split <;> omega
def Pl(R:ak Rn):a5->ak E->Prop
 |_,[]=>True
 |z,e::r=>∃p,z<p/\cO R e.1<p/\p<=cZ R e.1/\e.2.1<=p/\p<=e.2.2/\Pl R p r
theorem Pl.low{R:ak Rn}{z j:a5}:∀{es:ak E},Pl R z es->j<=z->Pl R j es
 |[],_,_=>trivial
 |_::_,⟨p,h,q⟩,l=>⟨p,by omega,q⟩
theorem Pl.sub{R:ak Rn}:∀{es fs:ak E} {z:a5},es.Sublist fs->Pl R z fs->Pl R z es
 |_,_,_,.slnil,_=>trivial
 |_,_,_,.cons a s,⟨p,h,q⟩=>Pl.sub s (q.2.2.2.2.low (by omega))
 |_,_,_,.cons_cons a s,⟨p,h,b,U,N,B,j⟩=>⟨p,h,b,U,N,B,Pl.sub s j⟩
theorem Bb(l:a5):∀(xs:ak E) (k:E),(pI l k xs).Sublist xs
 |[],k=>by simp[pI]
 |[x],k=>by simp[pI]
 |x::y::r,k=>by
  rw[HE];split
  ·exact .cons _ (Bb l (y::r) k)
  ·exact .cons_cons _ (Bb l (y::r) x)
theorem ahP(l:a5)(es:ak E):(mY l es).Sublist es:=by
 cases es with
 |nil=>simp[mY]
 |cons x j=>exact .cons_cons _ (Bb l j x)
theorem Pl.mY{R:ak Rn}{es:ak E}(l:a5)(h:Pl R 0 es):Pl R 0 (M.mY l es):=h.sub (ahP l es)
def vW(es:ak E):Prop:=es.Pairwise λa b=>a.1<=b.1
theorem vW.tail{e:E}{es:ak E}(h:vW (e::es)):vW es:=(FR.mp h).2
theorem vW.next{e f:E}{es:ak E}(h:vW (e::f::es)):e.1<=f.1:=(FR.mp h).1 f nE
theorem aoJ{R S:ak Rn}(hR:Tn R)(hS:Tn S){s t:a5}(G:s=whole R)(F:t=whole S):∀(n:ay) (es fs:ak E) (lo1 dE z j Ω:a5),n=es.length+fs.length->vW es->vW fs->Pl R z es->Pl S j fs->lo1<=z->dE<=j ->
  (∀f r,fs=f::r->z<=cZ R f.1)->(∀e r,es=e::r->j<=cO S e.1) ->
  (∀e r,es=e::r->∀p,z<p->cO R e.1<p->Ω<p+cO S e.1)->(∀f r,fs=f::r->∀q,j<q->cO S f.1<q->Ω<q+cZ R f.1) ->
  Pl (R++S) Ω (fJ s t n lo1 dE es fs):=by
 intro n
 induction n with
 |zero=>intro es fs lo1 dE z j Ω _ _ _ _ _ _ _ _ _ _ _;exact trivial
 |succ n ih =>
  intro es fs lo1 dE z j Ω hn c b h1 h2 K L2 M L I H;have C:∀e dZ,es=e::dZ->(∀f r,fs=f::r->e.1<=f.1)->∀hi,(∀x,x<=e.1->cO S x<=hi)->Pl (R++S) Ω ((e.1,e.2.1+dE,e.2.2+hi)::fJ s t n e.2.1 dE dZ fs):=by
   rintro e dZ rfl i hi v;obtain⟨p,a,U,u,N,o,B⟩:=h1;have V:=L e _ rfl;have m:=I e _ rfl p a U;have T:=v e.1 yS;refine⟨p+cO S e.1,m,?_,?_,?_,?_,?_⟩
   ·rw[Au];show cO R e.1+cO S e.1<_;omega
   ·rw[As];show _<=cZ R e.1+cZ S e.1;have:=DA hS e.1;omega
   ·show e.2.1+dE<=_;omega
   ·show _<=e.2.2+hi;omega
   ·refine ih dZ fs e.2.1 dE p j (p+cO S e.1) (by simp at hn;omega) c.tail b B h2 N L2 ?_ ?_ ?_ ?_
    ·intro f r he;have:=LV hR (i f r he);omega
    ·rintro y r rfl;have:=LX hS c.next;omega
    ·rintro y r rfl Q l k;have:=LX hS c.next;omega
    ·intro f r he q l k;have:=LV hR (i f r he);have:=LX hS (i f r he);omega
  have A:∀f d,fs=f::d->(∀e r,es=e::r->f.1<e.1)->∀hi,(cZ R f.1<=hi)->Pl (R++S) Ω ((f.1,f.2.1+lo1,f.2.2+hi)::fJ s t n lo1 f.2.1 es d):=by
   rintro f d rfl he hi v;obtain⟨q,a,U,u,N,o,B⟩:=h2;have W:=M f _ rfl;have m:=H f _ rfl q a U;refine⟨q+cZ R f.1,m,?_,?_,?_,?_,?_⟩
   ·rw[Au];show cO R f.1+cO S f.1<_;have:=DA hR f.1;omega
   ·rw[As];show _<=cZ R f.1+cZ S f.1;omega
   ·show f.2.1+lo1<=_;omega
   ·show _<=f.2.2+hi;omega
   ·refine ih es d lo1 f.2.1 z q (q+cZ R f.1) (by simp at hn;omega) c b.tail h1 B K N ?_ ?_ ?_ ?_
    ·rintro w r rfl;have:=LV hR b.next;omega
    ·intro e r g;have:=LU hS (he e r g);omega
    ·intro e r g p l k;have:=LU hS (he e r g);have:=LU hR (he e r g);omega
    ·rintro w r rfl P l k;have:=LV hR b.next;omega
  cases es with
  |nil =>
   cases fs with
   |nil=>simp at hn
   |cons f fs =>
    simp only[fJ];exact A f fs rfl (λe r h=>by cases h) s (by rw[G];exact Ar hR _)
  |cons e es =>
   cases fs with
   |nil =>
    simp only[fJ];exact C e es rfl (λf r h=>by cases h) t (λx _=>by rw[F];exact KN (DA hS x) (Ar hS x))
   |cons f fs =>
    simp only[fJ]
    by_cases hle:e.1<=f.1
    ·rw[a9 hle];refine C e es rfl (λw r h=>by cases h;exact hle) (f.2.2-1) λx D=>?_;obtain⟨q,a,U,u,N,o,B⟩:=h2;have:=LX hS (KN D hle);omega
    ·rw[bf hle];refine A f fs rfl (λy r h=>by cases h;omega) (e.2.2-1) ?_;obtain⟨p,a,U,u,N,o,B⟩:=h1;have:=LU hR (show f.1<e.1 by omega);omega
theorem Pl.rE{R S:ak Rn}(hR:Tn R)(hS:Tn S){es fs:ak E}(z:vW es)(j:vW fs)(h1:Pl R 0 es)(h2:Pl S 0 fs):Pl (R++S) 0 (rE (whole R) (whole S) es fs):=by
 refine aoJ hR hS rfl rfl _ es fs 0 0 0 0 0 rfl z j h1 h2 yS yS ?_ ?_ ?_ ?_
 ·intro f r _;exact KN (LW hR f.1) (DA hR f.1)
 ·intro e r _;exact LW hS e.1
 ·intro e r _ p a b;have:=LW hS e.1;omega
 ·intro f r _ q a b;have:=LW hR f.1;have:=DA hR f.1;omega
theorem ab9{l s:a5}:∀{es:ak E} {lo j:a5} {q:ar a5},Ch l s lo j q es->vW es/\∀p,q=aj p->∀e∈es,p<=e.1
 |[],_,_,_,_=>⟨.nil,λ_ _ _ h=>by cases h⟩
 |e::r,lo,j,q,h=>by
  obtain⟨h1,_,_,_,_,_,N⟩:=h;obtain⟨a,b⟩:=ab9 N;refine⟨FR.mpr ⟨λf B=>b e.1 rfl f B,a⟩,λp j f B=>?_⟩
  rcases dU.mp B with z|z
  ·rw[z];exact h1 p j
  ·exact KN (h1 p j) (b e.1 rfl f z)
theorem GF.Wn{s l d:a5}{es:ak E}(h:GF s l d es):vW es:=(ab9 h.ch).1
structure Gd(R:ak Rn)(p:Po):Prop where
 tn:Tn R
 gf:GF p.s p.l p.d p.es
 sz:p.s=whole R
 pl:Pl R 0 p.es
theorem Gd.merge{R S:ak Rn}{p q:Po}(h:Gd R p)(k:Gd S q):Gd (R++S) (qE p q):=by
 refine⟨h.tn.app k.tn,aBI h.gf k.gf,by show p.s+q.s=_;rw[uN,h.sz,k.sz],?_⟩;show Pl (R++S) 0 (M.rE p.s q.s p.es q.es);rw[h.sz,k.sz];exact Pl.rE h.tn k.tn h.gf.Wn k.gf.Wn h.pl k.pl
theorem Gd.mY{R:ak Rn}{p:Po}(h:Gd R p)(keep:a5)(j:1<=keep):Gd R (Sd keep p):=by
 have hd:0<=p.s/keep:=Int.ediv_nonneg h.gf.s0 (by omega);exact⟨h.tn,aBG h.gf (show p.l<=p.l+p.s/keep by omega),h.sz,Pl.mY _ h.pl⟩
theorem apW(ok:aE->Prop)(aH:∀Z,ok Z)(L:A)(Z:aE):∀(rs:ak Rn) (j:ak a5) (f:a5->a5) (x y:ar A),j.length+rs.length<=100000->(∀n,n∉j->f n=0) ->
  ∃N B,eZ ok (jG 2 (dN (gN 2) (dN (gN 3) jR))) XD (aM rs) [aj L,aD Z.length,x,y] (Z++[.bA (iF j f)])
   = eN [aj L,aD Z.length,N,B] (Z++[.bA (iF (pN j rs) λk=>f k+iR rs k)]):=by
 intro rs
 induction rs with
 |nil =>
  intro j f x y _ _;refine⟨x,y,?_⟩;have e:(λk=>f k+iR [] k)=f:=by funext k;simp[iR]
  simp only[aM,rW,BQ (aH _),pN,List.foldl_nil,e]
 |cons r rs ih =>
  intro j f x y hl U;simp only[fZ]at hl;have i:=Xp j r.1
  let g:a5->a5:=λk=>if k=r.1 then f r.1+r.2 else f k
  obtain⟨N,B,q⟩:=ih (qQ j r.1) g (aA r.1) (aA r.2) (by omega) (λn hn=>by
   rw[Wz]at hn;have h1:n∉j:=λz=>hn (.inl z);have h2:¬n=r.1:=λz=>hn (.inr z);simp only[g,h2,iJ,U n h1])
  refine⟨N,B,?_⟩;have a:lW (Z++[.bA (iF j f)]) (.aI Z.length)=aj (Z.length,iF j f):=FE (by simp);have hd:Ge (Z++[.bA (iF j f)]) (.aI Z.length):=⟨_,_,a⟩;have hv:(hZ (iF j f) (.inl r.1)).getD (.int 0)=.int (f r.1):=by
   rw[Ri]
   by_cases h:r.1∈j
   ·simp[h]
   ·simp[h,U _ h]
  have c:lS (iF j f) (.inl r.1) (.int (f r.1+r.2))=iF (qQ j r.1) g:=by
   have:=anO j f g r.1 λk _ d=>by simp[g,d]
   simpa[g]using this
  have b:(iF j f).length<bc:=by rw[nO];simp[iF];omega
  have st:XD [aj L,aD Z.length,aA r.1,aA r.2] (Z++[.bA (iF j f)])=eN [aj L,aD Z.length,aA r.1,aA r.2] (Z++[.bA (iF (qQ j r.1) g)]):=by
   simp[XD,hd,a,mF,hv,b,c]
  show eZ ok _ _ (gW r::aM rs) _ _=_;rw[qO (aH _) (Y0:=[aj L,aD Z.length,aA r.1,aA r.2]) (Z0:=Z++[.bA (iF j f)]) (by simp[gW]) st,q];have e:(λk=>g k+iR rs k)=λk=>f k+iR (r::rs) k:=by
   funext k;simp only[g,iR,bU,oZ]
   by_cases h:k=r.1
   ·subst h;simp;omega
   ·have h':¬r.1=k:=λz=>h z.symm;simp[h,h']
  rw[e];rfl
def eG(rs:ak Rn):ak Rn:=(sortI (pN [] rs)).map λk=>(k,iR rs k)
theorem awA(j:ak a5)(f:a5->a5):intKeys (iF j f)=aj j:=by
 induction j with
 |nil=>rfl
 |cons k j ih =>
  simp only[iF,bU,intKeys]at ih ⊢;rw[ih];rfl
theorem aIP(rs:ak Rn)(hl:rs.length<=3900)(Z:aE):ZF [.lst (aM rs)] Z=aG (.lst (aM (eG rs))) Z:=by
 obtain⟨B,z,q⟩:=apW (λZ'=>gD Z' (.lst (aM rs))=aj (aM rs)) (λ_=>rfl) (.lst (aM rs)) Z rs [] (λ_=>0) ao ao (by simp;omega) (λ_ _=>rfl);simp only[YW]at q;have c:=Fp rs [];simp only[CK,zM]at c;generalize i:pN [] rs=j at q c;have d:∀b,lW (Z ++ .bA (iF j λk=>iR rs k)::b) (.aI Z.length)=aj (Z.length,iF j λk=>iR rs k):=λb=>FE (by simp);have l:=d [];have sl:=Te j;have m:j.length<4000:=by omega
 have o:j.length<=bc:=by rw[nO];omega
 have comp:acP [cW (aM rs),aD Z.length,B,z] (Z++[.bA (iF j λk=>iR rs k)])=aG (.lst (aM (eG rs))) (Z++[.bA (iF j λk=>iR rs k)]):=by
  have f:((sortI j).map A.int).filterMap (λa=>match a with | .int k=>aj (gW (k,iR rs k))|_=>ao)=aM (eG rs):=by
   simp only[List.filterMap_map,aM,eG,i,QP];rw[<-List.filterMap_eq_map];rfl
  rw[<-f];refine Rq (S:=srcOf (.lst ((sortI j).map A.int)) ((sortI j).map A.int)) _ (λU=>∃v,U=[v,aD Z.length]) (by simp[l,awA,m,sl]) (λ_=>rfl) ⟨ao,rfl⟩ (by simp[sl];omega) ?_ (by
   show gC _ (List.filterMap _ ((sortI j).map A.int));rw[f];exact ab2 _ _)
  rintro x n U ⟨v,rfl⟩ g;obtain⟨k,p,rfl⟩:=lX.mp n;have N:k∈j:=(sortI_perm j).mem_iff.mp p;have h2:(2:ay)<=bc:=by decide
  have hv:hZ (iF j λk=>iR rs k) (.inl k)=(aA (iR rs k)):=by rw[Ri,a9 N]
  refine⟨[aA k,aD Z.length],⟨_,rfl⟩,by simp,.inl ⟨_,rfl,rfl,?_⟩⟩;have h:=d [.lst g];simp[h,mF,hv,h2,gW]
 show trim Z (fE (XF [cW (aM rs),ao,ao,ao] Z))=_;have e:XF [cW (aM rs),ao,ao,ao] Z=aj (.ret (.lst (aM (eG rs))),[cW (aM rs),aD Z.length,B,z],Z++[.bA (iF j λk=>iR rs k)]):=by
  unfold XF;rw[bI (Y1:=[cW (aM rs),aD Z.length,ao,ao]) (Z':=Z++[.bA []]) (by simp)];rw[bI (Y1:=[cW (aM rs),aD Z.length,B,z]) (Z':=Z++[.bA (iF j λk=>iR rs k)]) (by rw[vN (S:=srcOf (.lst (aM rs)) (aM rs)) (Z':=Z++[.bA []]) (by simp)];exact q)];simp[comp]
 rw[e];simp only[fE];exact DB (by simp only[Cl];exact ab2 _ _)
noncomputable def na:ak Rn->a5->a5->ar a5
 |[],_,_=>ao
 |r::rs,acc,p=>if p<=acc+r.2 then aj r.1 else na rs (acc+r.2) p
noncomputable def dR(ps:ak Rn):a5:=(ps.map (·.2)).sum
theorem Ye(m t:a5):∀{j:ak a5},j.Nodup->(j.map λk=>if m=k then t else 0).sum=if m∈j then t else 0
 |[],_=>by simp
 |k::j,h=>by
  obtain⟨h1,h2⟩:=tF.mp h;simp only[bU,oZ,Ye m t h2]
  by_cases e:m=k
  ·subst e;simp[h1]
  ·simp[e]
theorem Sv(f g:a5->a5):∀j:ak a5,(j.map λk=>f k+g k).sum=(j.map f).sum+(j.map g).sum
 |[]=>by simp
 |k::j=>by simp only[bU,oZ,Sv f g j];omega
theorem ahG(r:Rn)(rs:ak Rn)(k:a5):iR (r::rs) k=(if r.1=k then r.2 else 0)+iR rs k:=by simp[iR]
theorem Pr:∀j:ak a5,(j.map λ_=>(0:a5)).sum=0
 |[]=>rfl
 |_::j=>by simp only[bU,oZ,Pr j];rfl
theorem Ay(P:a5->Prop) [DecidablePred P]{ps:ak a5}(hn:ps.Nodup):∀(rs:ak Rn),(∀r∈rs,(r.1∈ps<->P r.1))->(ps.map (iR rs)).sum=(rs.map λr=>if P r.1 then r.2 else 0).sum
 |[],_=>by
  have:iR []=λ_=>(0:a5):=by funext k;simp[iR]
  rw[this,Pr];rfl
 |r::rs,h=>by
  have e:(ps.map (iR (r::rs)))=ps.map λk=>(if r.1=k then r.2 else 0)+iR rs k:=QQ λk _=>ahG r rs k;rw[e,Sv,Ye _ _ hn,Ay P hn rs λq j=>h q (fY _ j)];have:=h r nE;simp only[bU,oZ]
  by_cases hm:r.1∈ps
  ·rw[a9 hm,a9 (this.mp hm)]
  ·rw[bf hm,bf λz=>hm (this.mpr z)]
theorem Fw(rs:ak Rn):(sortI (pN [] rs)).Pairwise (· < ·):=by
 have h1:=Td (pN [] rs);have h2:(sortI (pN [] rs)).Nodup:=(sortI_perm _).nodup_iff.mpr (Xv rs List.nodup_nil);exact(List.Pairwise.and h1 h2).imp λ⟨a,b⟩=>by omega
theorem mem_keys(rs:ak Rn)(k:a5):k∈sortI (pN [] rs)<->∃r∈rs,r.1=k:=by
 rw[(sortI_perm _).mem_iff,Wy];simp
theorem Sw(rs:ak Rn)(j:ak a5):dR (j.map λk=>(k,iR rs k))=(j.map (iR rs)).sum:=by
 simp[dR,QP];rfl
theorem afR(rs:ak Rn):dR (eG rs)=whole rs:=by
 unfold eG;rw[Sw,Ay (λ_=>True) ((Fw rs).imp λz=>Int.ne_of_lt z) rs λr hr=>⟨λ_=>trivial,λ_=>(mem_keys rs _).mpr ⟨r,hr,rfl⟩⟩];simp[whole]
theorem agU(rs:ak Rn)(j:a5):cZ rs j=cO rs j+iR rs j:=by
 induction rs with
 |nil=>rfl
 |cons r rs ih =>
  simp only[cZ,cO,iR,bU,oZ]at ih ⊢;rw[ih]
  by_cases a:r.1<j
  ·have b:r.1<=j:=by omega
   have c:¬r.1=j:=by omega
   simp only[a,b,c,jP,iJ];omega
  ·by_cases c:r.1=j
   ·have b:r.1<=j:=by omega
    simp only[a,b,c,jP,iJ];simp;omega
   ·have b:¬r.1<=j:=by omega
    simp only[a,b,c,iJ];omega
noncomputable def iD:a5->ak Rn->ak (Key×A)
 |_,[]=>[]
 |acc,r::rs=>(.inl r.1,.tup [.int (acc+1),.int (acc+r.2)])::iD (acc+r.2) rs
theorem Bm(a b:ak Rn):dR (a++b)=dR a+dR b:=by simp[dR]
theorem Vp:∀(as bs:ak Rn) (acc:a5),iD acc (as++bs)=iD acc as++iD (acc+dR as) bs
 |[],bs,acc=>by simp[iD,dR]
 |a::as,bs,acc=>by
  have e:dR (a::as)=a.2+dR as:=by simp[dR]
  simp only[QS,iD];rw[Vp as bs,e,Int.add_assoc]
theorem Ec:∀(as:ak Rn) (acc:a5),(iD acc as).map (·.1)=as.map λr=>(Sum.inl r.1:Key)
 |[],_=>rfl
 |a::as,acc=>by simp only[iD,bU];rw[Ec as]
theorem aoK(as:ak Rn)(acc:a5):(iD acc as).length=as.length:=by
 have:=c3 List.length (Ec as acc);simpa using this
theorem anL{kvs:ak (Key×A)}{k:Key}{a:A}(h:k∉kvs.map (·.1)):lS kvs k a=kvs++[(k,a)]:=by
 unfold lS;rw[bf];intro j;rw[Nk]at j;obtain⟨x,q,e⟩:=j;exact h (lX.mpr ⟨x,q,by simpa using e⟩)
theorem Vm(ok:aE->Prop)(aH:∀Z,ok Z)(L:A)(Z:aE):∀(rest pre:ak Rn) (x y:ar A),((pre++rest).map (·.1)).Pairwise (· < ·)->pre.length+rest.length<=1000 ->
  ∃z j,eZ ok (jG 2 (dN (gN 3) (dN (gN 4) jR))) Kp (aM rest) [aj L,aD Z.length,aA (dR pre),x,y] (Z++[.bA (iD 0 pre)])
   = eN [aj L,aD Z.length,aA (dR (pre++rest)),z,j] (Z++[.bA (iD 0 (pre++rest))])
 |[],pre,x,y,_,_=>⟨x,y,by simp[aM,eZ,aH]⟩
 |r::rest,pre,x,y,B,hl=>by
  have b:pre++r::rest=(pre++[r])++rest:=by simp
  have U:(Sum.inl r.1:Key)∉(iD 0 pre).map (·.1):=by
   rw[Ec];intro N;obtain⟨q,d,e⟩:=lX.mp N;rw[xU,uG]at B;have:=B.2.2 q.1 (YT d) r.1 (by simp);have f:q.1=r.1:=by injection e
   omega
  have a:lS (iD 0 pre) (.inl r.1) (.tup [.int (dR pre+1),.int (dR pre+r.2)])=iD 0 (pre++[r]):=by
   rw[anL U,Vp];simp[iD]
  obtain⟨z,j,q⟩:=Vm ok aH L Z rest (pre++[r]) (aA r.1) (aA r.2) (by rw[<-b];exact B) (by simp at hl ⊢;omega);refine⟨z,j,?_⟩;rw[b,<-q];have N:lW (Z++[.bA (iD 0 pre)]) (.aI Z.length)=aj (Z.length,iD 0 pre):=FE (by simp);have c:(iD 0 pre).length<bc:=by rw[aoK,nO];simp only[fZ]at hl;omega
  have h2:(2:ay)<=bc:=by decide
  have es:dR (pre++[r])=dR pre+r.2:=by rw[Bm];simp[dR]
  have e:aM (r::rest)=gW r::aM rest:=rfl;rw[e,es];exact qO (aH _) (Y0:=[aj L,aD Z.length,aA (dR pre),aA r.1,aA r.2]) (Z0:=Z++[.bA (iD 0 pre)]) (by simp[gW]) (by simp[Kp,N,mF,c,a,h2])
theorem Vq(rs:ak Rn):((eG rs).map (·.1)).Pairwise (· < ·):=by
 have e:(eG rs).map (·.1)=sortI (pN [] rs):=by unfold eG;rw[List.map_map];exact List.map_id _
 rw[e];exact Fw rs
theorem MM(rs:ak Rn):(eG rs).length<=rs.length:=by
 have j:=Fp rs [];unfold eG;rw[lI,Te];simpa using j
theorem Xg(ok:aE->Prop)(aH:∀Z,ok Z)(L:A)(Z:aE):∀(rs:ak Rn) (acc:a5) (i:ay) (x y u:ar A),(∀r∈rs,1<=r.2)->acc+whole rs<=1000000000 ->
  ∃B z N,eZ ok (jG 2 (dN (gN 2) (dN (gN 3) jR))) Ks (pR i (aM rs)) [aj L,aA acc,x,y,u] Z=eN [aj L,aA (acc+whole rs),B,z,N] Z
 |[],acc,i,x,y,u,_,_=>⟨x,y,u,by simp[aM,pR,eZ,aH,whole]⟩
 |r::rs,acc,i,x,y,u,h,hl=>by
  have e:whole (r::rs)=r.2+whole rs:=by simp[whole]
  rw[e]at hl ⊢;have hr:=h r nE;have d:0<=whole rs:=by
   have:∀rs:ak Rn,(∀r∈rs,1<=r.2)->0<=whole rs:=by
    intro rs
    induction rs with
    |nil=>intro _;simp[whole]
    |cons a U ih =>
     intro h;have e:whole (a::U)=a.2+whole U:=by simp[whole]
     have:=h a nE;have:=ih λq j=>h q (fY _ j);omega
   exact this rs λq j=>h q (fY _ j)
  obtain⟨B,z,N,q⟩:=Xg ok aH L Z rs (acc+r.2) (i+1) (aA i) (aj (gW r)) (aA r.2) (λq j=>h q (fY _ j)) (by omega);refine⟨B,z,N,?_⟩;rw[<-Int.add_assoc,<-q];have c:¬r.2<1:=by omega
  have b:¬1000000000<acc+r.2:=by omega
  exact qO (aH Z) (Y0:=[aj L,aA acc,aA i,aj (gW r),u]) (Z0:=Z) (by simp[gW]) (by simp[Ks,gW,c,b])
theorem aIW(rs:ak Rn)(h:∀r∈rs,1<=r.2)(hl:whole rs<=1000000000)(Z:aE):ZH [.lst (aM rs)] Z=aG (.int (whole rs)) Z:=by
 obtain⟨z,j,B,q⟩:=Xg (λZ'=>fP Z' (.lst (aM rs))=aj (aM rs)) (λ_=>rfl) (.lst (aM rs)) Z rs 0 0 ao ao ao h (by omega);rw[YW]at q;show trim Z (fE (Kt [cW (aM rs),ao,ao,ao,ao] Z))=_;unfold Kt;rw[bI (Y1:=[cW (aM rs),aA 0,ao,ao,ao]) (Z':=Z) (by simp)];rw[bI (Y1:=[cW (aM rs),aA (whole rs),z,j,B]) (Z':=Z) (by
  rw[vN (S:=enumSrc (.lst (aM rs)) (aM rs)) (Z':=Z) (by simp)];exact q)]
 simp
theorem Vr{R as bs:ak Rn}{r:Rn}(e:eG R=as++r::bs):dR as=cO R r.1/\dR as+r.2=cZ R r.1/\r.1∈R.map (·.1):=by
 have a:=Fw R;have b:=e;unfold eG at b;obtain⟨N,n,q,m,l⟩:=List.map_eq_append_iff.mp b;obtain⟨j,B,rfl,i,_⟩:=List.map_eq_cons_iff.mp l;subst i;rw[q]at a;have c:∀k,k∈N++j::B<->∃r∈R,r.1=k:=λk=>by rw[<-q];exact mem_keys R k
 obtain⟨g,p2,f⟩:=uG.mp a;obtain⟨d,o⟩:=FR.mp p2;have nd:N.Nodup:=g.imp λz=>Int.ne_of_lt z;have U:dR as=cO R j:=by
  rw[<-m,Sw];refine Ay (λk=>k<j) nd R λr hr=>⟨λz=>f _ z _ nE,λz=>?_⟩
  rcases lH.mp ((c r.1).mpr ⟨r,hr,rfl⟩)with y|y
  ·exact y
  ·rcases dU.mp y with y|y
   ·omega
   ·have:=d _ y;omega
 have h:=agU R j;refine⟨U,by rw[U];exact h.symm,?_⟩;obtain⟨r,hr,e⟩:=(c j).mp (lO _ nE);exact lX.mpr ⟨r,hr,e⟩
theorem ahF{R:ak Rn}(h:∀r∈R,1<=r.2){r:Rn}(hr:r∈eG R):1<=r.2:=by
 obtain⟨i,bs,e⟩:=List.append_of_mem hr;obtain⟨h1,h2,U⟩:=Vr e;have hT:Tn R:=λq B=>by have:=h q B;omega
 obtain⟨q,B,g⟩:=lX.mp U;have:cO R r.1<cZ R r.1:=by
  have:∀(S:ak Rn),(∀q∈S,1<=q.2)->q∈S->cO S r.1<cZ S r.1:=by
   intro S
   induction S with
   |nil=>intro _ z;cases z
   |cons x S ih =>
    intro hS hm;have N:Tn S:=λy j=>by have:=hS y (by simp[j]);omega
    obtain⟨d,c⟩:=uW x S r.1;rw[d,c];have f:=hS x (by simp)
    rcases dU.mp hm with z|z
    ·subst z;have:=DA N r.1;have b:¬q.1<r.1:=by omega
     have a:q.1<=r.1:=by omega
     rw[bf b,a9 a];omega
    ·have:=ih (λy j=>hS y (by simp[j])) z;split <;> split <;> omega
  exact this R h B
 omega
noncomputable def iV:a5->ak Rn->ak E
 |_,[]=>[]
 |acc,r::rs=>(r.1,acc+1,acc+1)::((if acc+1=acc+r.2 then []else [(r.1,acc+r.2,acc+r.2)])++iV (acc+r.2) rs)
theorem SR(r:Rn)(rs:ak Rn):dR (r::rs)=r.2+dR rs:=by simp[dR]
theorem Sx:∀{ps:ak Rn},(∀r∈ps,1<=r.2)->0<=dR ps
 |[],_=>by simp[dR]
 |r::j,h=>by
  have:=Sx (ps:=j) λq z=>h q (by simp[z]);have:=h r (by simp);rw[SR];omega
theorem Wg:∀(ps:ak Rn) (acc:a5) (N:ar a5),(∀r∈ps,1<=r.2)->(ps.map (·.1)).Pairwise (· < ·)->(∀p,N=aj p->∀r∈ps,p<=r.1)->Ch 0 (acc+dR ps) acc acc N (iV acc ps)
 |[],acc,N,_,_,_=>by simp[iV,Ch,dR]
 |r::z,acc,N,h1,h2,U=>by
  have hr:=h1 r (by simp);rw[bU,FR]at h2;have ih:=Wg z (acc+r.2) (aj r.1) (λq j=>h1 q (by simp[j])) h2.2 (λp B q j=>by
   cases B;have:=h2.1 q.1 (lX.mpr ⟨q,j,rfl⟩);omega)
  have es:acc+dR (r::z)=acc+r.2+dR z:=by rw[SR];omega
  rw[es];unfold iV;refine⟨λp B=>U p B r (by simp),.inr (by show acc+1<=acc+0+1;omega),by show acc<acc+1;omega,by show acc<acc+1;omega,lY _,by show acc+1-(acc+1)<=0;omega,?_⟩;show Ch 0 (acc+r.2+dR z) (acc+1) (acc+1) (aj r.1) ((if acc+1=acc+r.2 then []else [(r.1,acc+r.2,acc+r.2)])++iV (acc+r.2) z)
  by_cases j:acc+1=acc+r.2
  ·rw[a9 j,xT,j];exact ih
  ·rw[bf j];exact⟨λp B=>by cases B;exact lY _,.inl rfl,by show acc+1<acc+r.2;omega,by show acc+1<acc+r.2;omega,lY _,by show acc+r.2-(acc+r.2)<=0;omega,ih⟩
theorem Wf{R:ak Rn}(h:∀r∈eG R,1<=r.2):∀(ps as:ak Rn) (z:a5),eG R=as++ps->z<=dR as->Pl R z (iV (dR as) ps)
 |[],as,z,_,_=>trivial
 |r::q,as,z,e,B=>by
  obtain⟨h1,h2,N⟩:=Vr e;have hr:=h r (by rw[e];simp);have ih:=Wf h q (as++[r]) (dR as+r.2) (by rw[e];simp) (by rw[Bm,SR];simp[dR]);have es:dR (as++[r])=dR as+r.2:=by rw[Bm,SR];simp[dR]
  rw[es]at ih;unfold iV;refine⟨dR as+1,by omega,by show cO R r.1<dR as+1;omega,by show dR as+1<=cZ R r.1;omega,lY _,lY _,?_⟩
  by_cases j:dR as+1=dR as+r.2
  ·rw[a9 j,xT];exact ih.low (by omega)
  ·rw[bf j];exact⟨dR as+r.2,by omega,by show cO R r.1<dR as+r.2;omega,by show dR as+r.2<=cZ R r.1;omega,lY _,lY _,ih⟩
def lE(R:ak Rn):Po:=⟨whole R,0,0,iV 0 (eG R)⟩
theorem OR{R:ak Rn}(h:∀r∈R,1<=r.2):Gd R (lE R):=by
 have q:∀r∈eG R,1<=r.2:=λr hr=>ahF h hr;have hw:=afR R;refine⟨λr hr=>by have:=h r hr;omega,⟨?_,lY _,lY _,?_,?_⟩,rfl,?_⟩
 ·show 0<=whole R;rw[<-hw];exact Sx q
 ·intro e r he;have j:iV 0 (eG R)=e::r:=he;cases z:eG R with
  |nil=>rw[z]at j;cases j
  |cons a b =>
   rw[z]at j;unfold iV at j;cases j;exact⟨rfl,rfl⟩
 ·have:=Wg (eG R) 0 ao q (Vq R) (λp q=>by cases q);rw[YW,hw]at this;exact this
 ·exact Wf q (eG R) [] 0 rfl yS
theorem aqV(x0:ar A)(f:ay)(k a b:a5)(done:ak A)(hd:done.length<=1000)(Z:aE)(z:Z[f]?=aj (.lst done)) :
  XG [x0,aD f,aA k,aj (.tup [.int a,.int b])] Z=eN [x0,aD f,aA k,aj (.tup [.int a,.int b])] (Z.set f (.lst (done++cK (k,a,a)::(if a=b then []else [cK (k,b,b)])))):=by
 have fl:f<Z.length:=(dA.mp z).1;have cl:sX Z (.aI f)=aj (f,done):=FC z;have e:yR Z (.aI f):=ED (vD z);have B:(3:ay)<=bc:=by decide
 have g:done.length<bc:=by rw[nO];omega
 unfold XG;have U:(Z.set f (.lst (done++[cK (k,a,a)])))[f]?=aj (.lst (done++[cK (k,a,a)])):=fG fl;rw[bI (Y1:=[x0,aD f,aA k,aj (.tup [.int a,.int b])]) (Z':=Z.set f (.lst (done++[cK (k,a,a)]))) (by simp[cl,e,g,B,cK,XU])];have j:sX (Z.set f (.lst (done++[cK (k,a,a)]))) (.aI f)=aj (f,done++[cK (k,a,a)]):=FC U;have N:yR (Z.set f (.lst (done++[cK (k,a,a)]))) (.aI f):=ED (vD U);have h:done.length+1<bc:=by rw[nO];omega
 generalize c:Z.set f (.lst (done++[cK (k,a,a)]))=d at j N
 by_cases q:a=b
 ·subst q;simp[XU,Ls,<-c]
 ·have gU:¬(a==b)=ax:=by simpa using q
  simp[XU,Ls,q,j,N,h,B,cK];rw[<-c,qR]
theorem We(ok:aE->Prop)(aH:∀Z,ok Z)(x0:ar A)(Z:aE)(D:Cell):∀(ps:ak Rn) (acc:a5) (done:ak A) (B z:ar A),done.length+2*ps.length<=1000 ->
  ∃a U,eZ ok (jG 2 (dN (gN 2) (dN (gN 3) jR))) XG ((iD acc ps).map mG) [x0,aD Z.length,B,z] (Z++[.lst done,D])=eN [x0,aD Z.length,a,U] (Z++[.lst (done++encL (iV acc ps)),D])
 |[],acc,done,B,z,_=>⟨B,z,by simp[iD,eZ,aH,iV,encL]⟩
 |r::j,acc,done,B,z,hl=>by
  have e:done.length+2*(j.length+1)<=1000:=hl;have t:=aqV x0 Z.length r.1 (acc+1) (acc+r.2) done (by omega) (Z++[.lst done,D]) (by simp);have hd2:(done++cK (r.1,acc+1,acc+1)::(if acc+1=acc+r.2 then []else [cK (r.1,acc+r.2,acc+r.2)])).length<=done.length+2:=by
   split <;> simp
  obtain⟨a,U,q⟩:=We ok aH x0 Z D j (acc+r.2) (done++cK (r.1,acc+1,acc+1)::(if acc+1=acc+r.2 then []else [cK (r.1,acc+r.2,acc+r.2)])) (aA r.1) (aj (.tup [.int (acc+1),.int (acc+r.2)])) (by omega);refine⟨a,U,?_⟩;have es:(Z++[Cell.lst done,D]).set Z.length (.lst (done++cK (r.1,acc+1,acc+1)::(if acc+1=acc+r.2 then []else [cK (r.1,acc+r.2,acc+r.2)])))=Z++[.lst (done++cK (r.1,acc+1,acc+1)::(if acc+1=acc+r.2 then []else [cK (r.1,acc+r.2,acc+r.2)])),D]:=by simp
  rw[es]at t;have b:done++encL (iV acc (r::j))=(done++cK (r.1,acc+1,acc+1)::(if acc+1=acc+r.2 then []else [cK (r.1,acc+r.2,acc+r.2)]))++encL (iV (acc+r.2) j):=by
   have c:iV acc (r::j)=(r.1,acc+1,acc+1)::((if acc+1=acc+r.2 then []else [(r.1,acc+r.2,acc+r.2)])++iV (acc+r.2) j):=rfl;rw[c];generalize iV (acc+r.2) j=d
   by_cases N:acc+1=acc+r.2
   ·rw[a9 N,a9 N];simp[encL]
   ·rw[bf N,bf N];simp[encL]
  rw[b,<-q];simp only[iD,bU];refine qO (aH _) (Y0:=[x0,aD Z.length,aA r.1,aj (.tup [.int (acc+1),.int (acc+r.2)])]) (Z0:=Z++[.lst done,D]) ?_ t;simp[mG,kA]
end M
namespace V2
open PySem PySem.Spec PyProof.Rows L2
theorem _root_.L2.KY.alias{P:bh}{w:bw}{K:bj}{mg:ba->ar aq}{base:b8}{x y:ba}{k:ay}{ps:ak ba}{sp:Sp}(D:KY P w K mg base x k ps sp)(e:mg y=mg x):KY P w K mg base y k ps sp:=by
 obtain⟨f,fd,F,hm,j,hb⟩:=D.ex;exact⟨f,fd,F,e.trans hm,j,hb⟩
end V2
namespace L2
open PySem
theorem cL.m{j k:ay}{A:bu}(r:cL k A)(h:j<=k:=by first|decide|omega):cL j A:=r.mono h
end L2
namespace V2
open PySem L2 PyProof.Rows
variable{P:bh}{w:bw}{K:bj}{mg:ba->ar aq}{base:b8}
theorem aEY{h:b8}{x:ba}{v:a5}{t:Tok}(X:K.In h)(G:h.Ns az mg)(a:cw K az x=aj (aj (.int v t))):∃t,mg x=aj (.int v t):=⟨_,mg_of X G a⟩
theorem apY{h:b8}{c:ba}{C:aw}(X:K.In h)(G:h.Ns az mg)(a:cw K az c=aj (aj (.ref C)))(e:excIn K C Kk "ValueError.__new__" = ax):YG K mg c:=⟨C,⟨e⟩,mg_of X G a,a⟩
structure oY(K:bj)(X:aw)(m q:ba)(st:b7):Prop where
 ex:∃f fd,Meth K X m f/\uI K m q st f fd
theorem rD{X f:aw}{m q:ba}{st:b7}{B:aq}{od U:ar aw}{N:a8 (ar aq)}{kV doc z j ct:aq}(a:cg K (.ref X) m=aj (aj (.ref f)))
  (l:K.lookup f=aj ⟨B,od,.func (ea m q (iL st) (eM st) (aR st) .none kV doc z U j ct),N⟩) (c:codeIn K j q=ax) (k:keepIn K (.ref f)=ax) (i:isFn K (.ref f)=ax):oY K X m q st:=⟨f,_,⟨a,i,k⟩,OW l c k⟩
theorem oY.has{h:b8}{cls m q:ba}{st:b7}{C:aw}(M:oY K C m q st)(X:K.In h)(G:h.Ns az mg)(n:cw K az cls=aj (aj (.ref C)))(L:nI K C):pA K mg cls m q st :=
 let ⟨f,fd,a,b⟩:=M.ex; ⟨C,f,fd,n,mg_of X G n,L,a,b⟩
structure YX(K:bj)(X:aw)(q:ba)(st:b7):Prop where
 ex:∃f fd,Mk K X f/\uI K "__init__" q st f fd
theorem awC{X f:aw}{q:ba}{st:b7}{B:aq}{od b:ar aw}{U:a8 (ar aq)}{kV doc z j ct:aq}(a:cg K (.ref X) "__init__" = aj (aj (.ref f)))
  (l:K.lookup f=aj ⟨B,od,.func (ea "__init__" q (iL st) (eM st) (aR st) .none kV doc z b j ct),U⟩) (c:codeIn K j q=ax) (k:keepIn K (.ref f)=ax) (i:isFn K (.ref f)=ax)
  (mk:makesIn K X=ax) (N:keepIn K (.ref X)=ax):YX K X q st:=⟨f,_,⟨mk,a,i,N⟩,OW l c k⟩
theorem YX.has{h:b8}{cls q:ba}{st:b7}{C:aw}(M:YX K C q st)(X:K.In h)(G:h.Ns az mg)(n:cw K az cls=aj (aj (.ref C))):Oa K mg cls q st :=
 let ⟨f,fd,a,b⟩:=M.ex; ⟨C,f,fd,n,mg_of X G n,a,b⟩
structure YK(K:bj)(X:aw)(m q:ba)(st:b7)(dv:a8 aq):Prop where
 ex:∃f fd T o n,Meth K X m f/\aeF K m q st f T fd/\K.lookup T=aj o/\o.data=.seq dv n
theorem asJ{X f T:aw}{m q:ba}{st:b7}{N tc:aq}{od b td:ar aw}{U ts:a8 (ar aq)}{kV doc B z ct:aq}{n:ay}{j:a8 aq}(a:cg K (.ref X) m=aj (aj (.ref f)))
  (l:K.lookup f=aj ⟨N,od,.func (ea m q (iL st) (eM st) (aR st) (.ref T) kV doc B b z ct),U⟩) (c:codeIn K z q=ax) (k:keepIn K (.ref f)=ax) (i:isFn K (.ref f)=ax)
  (t:K.lookup T=aj ⟨tc,td,.seq j n,ts⟩):YK K X m q st j:=⟨f,_,T,_,n,⟨a,i,k⟩,⟨⟨_,_,_,_,_,_,_,_,_,rfl,l,c⟩⟩,t,rfl⟩
theorem YK.has{h:b8}{cls m q:ba}{st:b7}{C:aw}{j:a8 aq}(M:YK K C m q st j)(X:K.In h)(G:h.Ns az mg)(n:cw K az cls=aj (aj (.ref C)))(L:nI K C):ZC K mg cls m q st j :=
 let ⟨f,fd,T,o,k,a,b,c,d⟩:=M.ex; ⟨C,f,fd,T,o,k,n,mg_of X G n,L,a,b,c,d⟩
theorem eW{N P:ak ba}{sc:cq}(a:sc.kind=.function:=by rfl)(b:sc.isCoroutine=au:=by rfl)(c:sc.isGenerator=au:=by rfl)(d:N.Nodup:=by decide +kernel)(e:N.take P.length=P:=by rfl)(f:∀x∈P,sc.names.lookup x=aj .local\/sc.names.lookup x=aj .cell:=by decide +kernel)(g:∀y∈sc.names,y.2≠.free:=by decide +kernel):cY N P sc:=⟨a,b,c,d,e,f,g⟩
end V2
namespace PySem
open PyProof.Rows
def xP(xs:a8 ay):Prop:=∀i j a b:ay,i<j->xs[i]?=aj a->xs[j]?=aj b->a<b
theorem Kn(xs:a8 ay)(j:ay)(hr:xP xs):∀(fuel lo hi:ay),lo<=hi->hi<=xs.size->hi-lo<=fuel->(∀i a,i<lo->xs[i]?=aj a->a<j)->(∀i a,hi<=i->xs[i]?=aj a->j<=a) ->
  lo<=SetTable.below.go xs j fuel lo hi/\SetTable.below.go xs j fuel lo hi<=xs.size/\(∀i a,i<SetTable.below.go xs j fuel lo hi->xs[i]?=aj a->a<j)/\(∀i a,SetTable.below.go xs j fuel lo hi<=i->xs[i]?=aj a->j<=a)
 |0,lo,hi,h1,h2,g,N,B=>by
  have:lo=hi:=by omega
  subst this;exact⟨oX _,h2,N,B⟩
 |fuel+1,lo,hi,h1,h2,g,N,B=>by
  unfold SetTable.below.go
  by_cases e:lo<hi
  ·rw[a9 e];have hm:(lo+hi)/2<xs.size:=by omega
   have q:xs[(lo+hi)/2]?=aj xs[(lo+hi)/2]:=oR xs _ hm;have hd:xs.getD ((lo+hi)/2) j=xs[(lo+hi)/2]:=by simp[Array.getD,hm]
   show lo<=(if xs.getD ((lo+hi)/2) j<j then SetTable.below.go xs j fuel ((lo+hi)/2+1) hi else SetTable.below.go xs j fuel lo ((lo+hi)/2))/\(if xs.getD ((lo+hi)/2) j<j then SetTable.below.go xs j fuel ((lo+hi)/2+1) hi else SetTable.below.go xs j fuel lo ((lo+hi)/2))<=xs.size/\(∀i a,i<(if xs.getD ((lo+hi)/2) j<j then SetTable.below.go xs j fuel ((lo+hi)/2+1) hi else SetTable.below.go xs j fuel lo ((lo+hi)/2))->xs[i]?=aj a->a<j)/\(∀i a,(if xs.getD ((lo+hi)/2) j<j then SetTable.below.go xs j fuel ((lo+hi)/2+1) hi else SetTable.below.go xs j fuel lo ((lo+hi)/2))<=i->xs[i]?=aj a->j<=a);rw[hd]
   by_cases U:xs[(lo+hi)/2]<j
   ·rw[a9 U];obtain⟨a,b,c,d⟩:=Kn xs j hr fuel ((lo+hi)/2+1) hi (by omega) h2 (by omega) (λi a f ha=>by
     rcases Mr i ((lo+hi)/2)with z|z
     ·have:=hr i ((lo+hi)/2) a _ z ha q;omega
     ·have:i=(lo+hi)/2:=by omega
      subst this;rw[q]at ha;cases ha;exact U) B
    exact⟨by omega,b,c,d⟩
   ·rw[bf U];obtain⟨a,b,c,d⟩:=Kn xs j hr fuel lo ((lo+hi)/2) (by omega) (by omega) (by omega) N (λi a f ha=>by
     rcases Mr ((lo+hi)/2) i with z|z
     ·have:=hr ((lo+hi)/2) i _ a z q ha;omega
     ·have:i=(lo+hi)/2:=by omega
      subst this;rw[q]at ha;cases ha;omega)
    exact⟨a,b,c,d⟩
  ·rw[bf e];have:lo=hi:=by omega
   subst this;exact⟨oX _,h2,N,B⟩
theorem Km{xs:a8 ay}(hr:xP xs)(j:ay):SetTable.below xs j<=xs.size/\(∀i a,i<SetTable.below xs j->xs[i]?=aj a->a<j)/\(∀i a,SetTable.below xs j<=i->xs[i]?=aj a->j<=a):=by
 obtain⟨_,b,c,d⟩:=Kn xs j hr xs.size 0 xs.size AU cX (by omega) (λi a h=>bz h (Nat.not_lt_zero _)) (λi a h ha=>by
  have:=(RQ.mp ha).1;omega)
 exact⟨b,c,d⟩
theorem aG0{xs:a8 ay}(hr:xP xs){i a:ay}(h:xs[i]?=aj a):SetTable.below xs (a+1)=i+1:=by
 obtain⟨b,c,d⟩:=Km hr (a+1);have hi:=(RQ.mp h).1
 rcases Nat.lt_trichotomy (SetTable.below xs (a+1)) (i+1)with z|z|z
 ·have:=d i a (by omega) h;omega
 ·exact z
 ·have hl:i+1<xs.size:=by omega
  have j:xs[i+1]?=aj xs[i+1]:=oR xs _ hl;have h1:=c (i+1) _ z j;have h2:=hr i (i+1) a _ (by omega) h j;omega
theorem aGZ{xs:a8 ay}(hr:xP xs):SetTable.below xs 0=0:=by
 obtain⟨b,c,d⟩:=Km hr 0
 rcases Nat.eq_zero_or_pos (SetTable.below xs 0)with z|z
 ·exact z
 ·have hl:0<xs.size:=by omega
  have j:xs[0]?=aj xs[0]:=oR xs _ hl;have:=c 0 _ z j;omega
theorem awB{α:Type}(xs:a8 α)(p:ay)(x:α)(B:p<=xs.size)(i:ay):(SetTable.insertAt xs p x)[i]?=if i<p then xs[i]? else if i=p then aj x else xs[i-1]?:=by
 unfold SetTable.insertAt;have j:(xs.extract 0 p).size=p:=by simp;omega
 have z:((xs.extract 0 p).push x).size=p+1:=by rw[Array.size_push,j]
 rw[Array.getElem?_append,z]
 by_cases h1:i<p
 ·rw[a9 (by omega),a9 h1,Array.getElem?_push,j,bf (by omega),Array.getElem?_extract];simp;intro h;omega
 ·rw[bf h1]
  by_cases h2:i=p
  ·rw[a9 (by omega),a9 h2,Array.getElem?_push,j,a9 h2]
  ·rw[bf (by omega),bf h2,Array.getElem?_extract]
   by_cases q:i-(p+1)<xs.size-p
   ·rw[a9 (by simpa using q),show(p+(i-(p+1)))=i-1 by omega]
   ·rw[bf (by simpa using q),eq_comm,aeO];omega
theorem amL{xs:a8 ay}(hr:xP xs)(j:ay)(hn:xs[SetTable.below xs j]?≠aj j):xP (SetTable.insertAt xs (SetTable.below xs j) j):=by
 obtain⟨b,c,d⟩:=Km hr j;have d':∀i a,SetTable.below xs j<=i->xs[i]?=aj a->j<a:=λi a h1 h2=>by
  have N:=d i a h1 h2
  rcases Mr j a with z|z
  ·exact z
  ·exfalso;have:a=j:=by omega
   subst this
   rcases Mr (SetTable.below xs a) i with y|y
   ·have hl:SetTable.below xs a<xs.size:=by have:=(RQ.mp h2).1;omega
    have e:xs[SetTable.below xs a]?=aj xs[SetTable.below xs a]:=oR xs _ hl;have g:=d _ _ cX e;have f:=hr _ i _ a y e h2;omega
   ·have:i=SetTable.below xs a:=by omega
    subst this;exact hn h2
 intro i k x y U B q;rw[awB _ _ _ b]at B q
 by_cases h1:i<SetTable.below xs j
 ·rw[a9 h1]at B
  by_cases h2:k<SetTable.below xs j
  ·rw[a9 h2]at q;exact hr i k x y U B q
  ·rw[bf h2]at q
   by_cases N:k=SetTable.below xs j
   ·rw[a9 N]at q;cases q;exact c i x h1 B
   ·rw[bf N]at q;exact hr i (k-1) x y (by omega) B q
 ·rw[bf h1]at B;rw[bf (by omega),bf (by omega)]at q
  by_cases N:i=SetTable.below xs j
  ·rw[a9 N]at B;cases B;exact d' (k-1) y (by omega) q
  ·rw[bf N]at B;exact hr (i-1) (k-1) x y (by omega) B q
theorem amK(n:ay):xP (Array.range n):=by
 intro i j a b N ha hb;have h1:=(RQ.mp ha);have h2:=(RQ.mp hb);obtain⟨p,q⟩:=h1;obtain⟨B,z⟩:=h2;simp at q z;omega
theorem amM{l:ak ay}(h:l.Pairwise (· < ·)):xP l.toArray:=by
 intro i j a b N ha hb;simp only[List.getElem?_toArray]at ha hb;obtain⟨p,q⟩:=dA.mp ha;obtain⟨B,z⟩:=dA.mp hb;have:=List.pairwise_iff_getElem.mp h i j p B N;rw[q,z]at this;exact this
theorem Eb(t:cu)(ha:ay->a5)(h:a5):∀(fuel:ay) (p:SetTable.Probe) (j:ay) (q:ar ay),SetTable.probe.go t ha h fuel p=aj (.empty j q)->t.slot j=.empty/\∀d,q=aj d->p.dummy=aj d\/t.slot d=.dummy
 |0,p,j,q,e=>by cases e
 |fuel+1,p,j,q,e=>by
  unfold SetTable.probe.go at e;cases B:t.slot p.j with
  |empty =>
   rw[B]at e;dsimp only at e;cases e;exact⟨B,λd hd => .inl hd⟩
  |dummy =>
   rw[B]at e;dsimp only at e;obtain⟨a,b⟩:=Eb t ha h fuel _ j q e;refine⟨a,λd hd=>?_⟩
   rcases b d hd with z|z
   ·have N:(t.advance {p with dummy:=aj p.j}).dummy=aj p.j:=by
     unfold SetTable.advance;split <;> rfl
    rw[N]at z;cases z;exact .inr B
   ·exact .inr z
  |live i =>
   rw[B]at e;dsimp only at e
   by_cases hh:(ha i==h)=ax
   ·rw[a9 hh]at e;cases e
   ·rw[bf hh]at e;obtain⟨a,b⟩:=Eb t ha h fuel _ j q e;refine⟨a,λd hd=>?_⟩
    rcases b d hd with z|z
    ·have N:(t.advance p).dummy=p.dummy:=by
      unfold SetTable.advance;split <;> rfl
     rw[N]at z;exact .inl z
    ·exact .inr z
theorem Th{t:cu}{j:ay}(h:t.slot j=.empty\/t.slot j=.dummy):t.place[SetTable.below t.place j]?≠aj j:=by
 intro z;unfold SetTable.slot at h;simp only[z,beq_self_eq_true,jP]at h
 rcases h with h|h <;> cases h
theorem aCB{t:cu}{h:a5}{j:ay}{b:br}(e:t.freeSlot h=aj (j,b)):t.place[SetTable.below t.place j]?≠aj j:=by
 unfold SetTable.freeSlot at e;split at e
 ·next B q N =>
  cases e;obtain⟨a,c⟩:=Eb t _ h _ _ B q N;cases q with
  |none=>exact Th (.inl a)
  |some d =>
   rcases c d rfl with z|z
   ·cases z
   ·exact Th (.inr z)
 ·cases e
structure pT(led:br)(t:cu):Prop where
 rise:xP t.place
 led:t.led=led
theorem ahK(led:br):pT led (.fresh 0 0 led):=⟨λi j a b _ h=>by simp[SetTable.fresh]at h,rfl⟩
theorem SK{led:br}{t:cu}(h:pT led t)(n:ay):pT led (t.standIn n):=⟨amK n,h.led⟩
theorem ahJ{led:br}{t:cu}(h:pT led t)(es:a8 (a5×aq))(q:a5)(x:aq):pT led (layNew t es q x).2.1:=by
 unfold layNew;split
 ·next slot z e =>
  show pT led ((t.put slot).1.orStandIn _);have j:pT led (t.put slot).1:=⟨amL h.rise slot (aCB e),h.led⟩;unfold SetTable.orStandIn;split
  ·exact j
  ·exact SK j _
 ·exact SK h _
theorem ahH{led:br}{t:cu}(h:pT led t)(es:a8 (a5×aq))(w:ay):pT led (relayAll t es w).2.1:=by
 unfold relayAll;split
 ·next j order e =>
  show pT led (if(coversAll order es.size&&j.fits (order.filterMap (es[·]?)).size)=ax then(order.filterMap (es[·]?),j,au)else(es,t.standIn es.size,ax)).2.1;split
  ·show pT led j;unfold SetTable.relaid SetTable.laid at e;cases B:SetTable.layClean (SetTable.sizeAbove w-1) (es.map (·.1))with
   |none=>rw[B]at e;cases e
   |some c =>
    rw[B]at e;simp at e;obtain⟨N,d⟩:=e;subst N;refine⟨amM ?_,h.led⟩;rw[List.map_filterMap];refine List.Pairwise.filterMap _ (R:=(· < ·)) (λa b U x z y q=>?_) List.pairwise_lt_range;simp at z q;obtain⟨_,_,rfl⟩:=z;obtain⟨_,_,rfl⟩:=q;exact U
  ·exact SK h _
 ·exact SK h _
theorem ahI{led:br}{t:cu}(h:pT led t)(b:br):pT led {t with plain:=b}:=⟨h.rise,h.led⟩
noncomputable def oI(w:bw):br:=!w.params.followText "set-order"
def lF(prog:bh)(w:bw)(h:b8)(a:aw)(es:a8 (a5×aq)):Prop :=
 ∃o ep t,h.get? a=aj o/\o.ExactSet/\o.data=.set es ep t/\ElemsOf (c8 prog w) es.toList/\es.size<ee/\t.fits es.size=ax/\pT (oI w) t
section
variable{prog:bh}{w:bw}{A:bu}{E:aq->av->Prop}{s:av}
theorem lF.at{h h':b8}{a:aw}{es:a8 (a5×aq)}(x:lF prog w h a es)(e:∀o,h.get? a=aj o->h'.get? a=aj o):lF prog w h' a es :=
 let ⟨o,q,t,j,r⟩:=x; ⟨o,q,t,e _ j,r⟩
theorem lF.typeIs{a:aw}{es:a8 (a5×aq)}(x:lF prog w s.heap a es):s.TypeIs (.ref a) "set":=let ⟨o,_,_,q,j,_⟩:=x; ⟨o,q,j.1⟩
theorem lF.lt{h:b8}{a:aw}{es:a8 (a5×aq)}(x:lF prog w h a es):a<h.objs.size:=let ⟨_,_,_,j,_⟩:=x;dS j
theorem ac6{g:br->Sem Unit}(r:∀(b:br) (s₁:av) (m:Unit->av->Prop),m () s₁->wpAny (bq prog w) A (g b) m E s₁)
  {a:aw} {o:c5} {es:a8 (a5×aq)} {ep:ay} {t:cu} (U:s.heap.get? a=aj o) (hex:o.ExactSet) (hd:o.data=.set es ep t)
  {j:a8 (a5×aq)} {q:cu} (n:ElemsOf (c8 prog w) j.toList) (zD:j.size<ee) (x:q.fits j.size=ax) (hT:pT (oI w) q) {y:br} {R:ar br->av->Prop}
  (h:∀h' dZ,Heap.SameBut a s.heap h'->lF prog w h' a dZ->dZ.toList.Perm j.toList->R (aj ax) {s with heap:=h' }) :
  wpAny (bq prog w) A (do
    storeSet a j q
    if(!y&&q.tooFull)=ax then do
      g (relayAll q j (SetTable.grown j.size)).2.2
      storeSet a (relayAll q j (SetTable.grown j.size)).1 (relayAll q j (SetTable.grown j.size)).2.1
      pure (aj ax)
     else pure (aj ax)) R E s:=by
 have store:∀{h:b8} {o:c5} {es:a8 (a5×aq)} {ep:ay} {t:cu} (dZ:a8 (a5×aq)) (z:cu),h.get? a=aj o->o.data=.set es ep t->(h.update a (Obj.putSet dZ z)).get? a=aj {o with data:=.set dZ (ep+1) z}:=λ{h o es ep t} dZ z U hd=>by
  have:=YZ (Obj.putSet dZ z) U (by rw[putSet_of dZ z hd];rfl);rw[putSet_of dZ z hd]at this;exact this
 refine aL (wpAny_storeSet_of U hd ?_ (Jn zD));have c:=store j q U hd;have l:=Heap.SameBut.update s.heap a (Obj.putSet j q);split
 ·have B:=relayAll_perm q j (SetTable.grown j.size);have f:=relayAll_fits q j (SetTable.grown j.size);have i:=ahH hT j (SetTable.grown j.size);generalize u:relayAll q j (SetTable.grown j.size)=Rl at B f i ⊢;obtain⟨N,k,v⟩:=Rl;dsimp only at B f i ⊢;have e:ElemsOf (c8 prog w) N.toList:=n.perm B;have d:N.size=j.size:=by rw[<-gJ,B.length_eq,gJ]
  have jQ:N.size<ee:=by rw[d];exact zD
  refine aL (r _ _ _ ?_);refine aL (wpAny_storeSet_of c rfl ?_ (Jn jQ));have p:=store N k c rfl;exact bG (h _ N (l.trans (Heap.SameBut.update _ a _)) ⟨_,_,k,p,hex,rfl,e,jQ,f,i⟩ B)
 ·exact bG (h _ j l ⟨_,_,q,c,hex,rfl,n,zD,x,hT⟩ (FW _))
theorem aHT{a:aw}{es:a8 (a5×aq)}{k:a5}{x:aq}{Q:br->av->Prop}(u:(c8 prog w).is k x=ax)(r:x.scannable=ax)(hS:lF prog w s.heap a es)(H:es.size+1<ee)
  (h:∀b h' dZ,Heap.SameBut a s.heap h'->lF prog w h' a dZ->(((∃e∈es.toList,(c8 prog w).is k e.2=ax)/\dZ=es)\/((∀e∈es.toList,(c8 prog w).is k e.2≠ax)/\dZ.toList.Perm (es.toList++[((c8 prog w).hash k,x)])))->Q b {s with heap:=h' }) :
  wpAny (bq prog w) A (setAddHashed a x ((c8 prog w).hash k)) Q E s:=by
 obtain⟨o,F,t,U,hex,hd,i,hb,p,hT⟩:=hS;unfold setAddHashed setAddHashedIn;refine GQ (aL (CT U hd p ?_));dsimp only;rw[byScan_of r hb i];simp only[↓reduceIte];unfold setAddByScan;refine aL ?_;refine aL (wG ?_);refine aL (wpAny_setScan_of u U hd p i ?_);cases hr:List.findIdx? (λe=>(c8 prog w).is k e.2) es.toList with
 |some j =>
  dsimp only;obtain⟨D,m,_⟩:=List.findIdx?_eq_some_iff_getElem.mp hr;refine bG (bG ?_);have e:s={s with heap:=s.heap}:=by cases s;rfl
  rw[e];exact h _ s.heap es (Heap.SameBut.refl a s.heap) ⟨o,F,t,U,hex,hd,i,hb,p,hT⟩ (.inl ⟨⟨es.toList[j],Ni D,m⟩,rfl⟩)
 |none =>
  dsimp only;have C:∀e∈es.toList,(c8 prog w).is k e.2≠ax:=λe he z=>by
   have:=List.findIdx?_eq_none_iff.mp hr e he;rw[z]at this;exact Bool.noConfusion this
  have n:∀(b:br) {s₁:av} {d:Unit->av->Prop},d () s₁->wpAny (bq prog w) A (match b with|true=>rule "set.scan.the-table-gave-way" | false=>pure ()) d E s₁ :=
   λb s₁ d q=>by cases b <;> first|exact bG q|exact wG q
  have B:=layNew_perm t es ((c8 prog w).hash k) x;have g:=layNew_fits t es ((c8 prog w).hash k) x;have f:=ahJ hT es ((c8 prog w).hash k) x;generalize hL:layNew t es ((c8 prog w).hash k) x=L at B g f ⊢;obtain⟨l,I,K,G⟩:=L;dsimp only at B g f ⊢;rw[GK]at B;have y:ElemsOf (c8 prog w) l.toList:=(i.push u r).perm B;have c:l.size<ee:=by rw[<-gJ,B.length_eq,iN,gJ];simpa using H
  refine aL (n _ ?_);have v:∀b h' dZ,Heap.SameBut a s.heap h'->lF prog w h' a dZ->dZ.toList.Perm l.toList->Q b {s with heap:=h' }:=λb h' dZ N nF z=>h b h' dZ N nF (.inr ⟨C,z.trans B⟩);split
  ·refine aL ?_;rw[hashByValue_scannable 8 r];refine bG ?_;refine ac6 ?_ U hex hd y c ?_ ?_ ?_
   ·intro b s₁ d q;cases b <;> first|exact bG q|exact wG q
   ·split
    ·exact g
    ·exact SetTable.fits_plain_off g
   ·split
    ·exact f
    ·exact ahI f _
   ·intro h' dZ N nF z;dsimp only;exact wpAny_pure (v _ h' dZ N nF z)
  ·refine aL (bG ?_);simp only[↓reduceIte];refine ac6 ?_ U hex hd y c g f ?_
   ·intro b s₁ d q;cases b <;> first|exact bG q|exact wG q
   ·intro h' dZ N nF z;dsimp only;exact wpAny_pure (v _ h' dZ N nF z)
end
def Nums(es:a8 (a5×aq))(ms:ak a5):Prop:=c9 (es.toList.map (·.2)) ms
theorem arJ{es dZ:a8 (a5×aq)}{ms:ak a5}(h:Nums es ms){l:ak (a5×aq)}(hl:dZ.toList.Perm l){nD:ak a5}(h2:c9 (l.map (·.2)) nD):∃j,Nums dZ j/\j.Perm nD:=by
 have hall:∀v∈dZ.toList.map (·.2),∃n t,v=.int n t:=λv hv=>by
  have:=(hl.map (·.2)).mem_iff.mp hv;exact IntsAre.all h2 v this
 refine⟨_,intsAre_map _ hall,?_⟩;have:=(hl.map (·.2)).map numOf;rw[IntsAre.nums h2]at this;exact this
theorem ints_snoc:∀{vs:ak aq} {ns:ak a5},c9 vs ns->∀(n:a5) (t:Tok),c9 (vs++[.int n t]) (ns++[n])
 |_,_,.nil,n,t => .cons n t .nil
 |_,_,.cons m u h,n,t => .cons m u (ints_snoc h n t)
open PyProof.Rows PySem.Spec
set_option maxRecDepth 100000
set_option compiler.extract_closed false
set_option genSizeOf false
set_option bootstrap.genMatcherCode false
theorem Wx{prog:bh}{w:bw}:∀{l:ak (a5×aq)} {ms:ak a5},c9 (l.map (·.2)) ms->∀k:a5,(∃e∈l,(c8 prog w).is k e.2=ax)<->k∈ms
 |[],_,h,k=>by
  cases h;constructor
  ·rintro⟨e,he,_⟩;cases he
  ·intro z;cases z
 |(q,v)::l,_,h,k=>by
  cases h with
  |cons n t h =>
   have ih:=Wx (prog:=prog) (w:=w) h k;constructor
   ·rintro⟨e,he,j⟩
    rcases dU.mp he with z|z
    ·subst z;have:=(c8 prog w).inj _ _ _ j (intKind_is prog w n t);rw[this];exact List.mem_cons_self ..
    ·exact fY _ (ih.mp ⟨e,z,j⟩)
   ·intro z
    rcases dU.mp z with z|z
    ·subst z;exact⟨_,List.mem_cons_self ..,intKind_is prog w k t⟩
    ·obtain⟨e,he,j⟩:=ih.mpr z;exact⟨e,fY _ he,j⟩
section
variable{prog:bh}{w:bw}{A:bu}{R:Result->av->Prop}{I:aw}{fp wr:ak aw}{G:a8 GenState->a8 GenState->Prop}{n:ay}{P:ay->aq->Prop}{St:ay->av->Prop}
theorem aFC(W:WalksS prog w A.in1 I fp wr G n P St)(S:aw)(EM:S∉fp)
  (val:ay->a5) (Gm:∀i v,P i v->∃t,v=.int (val i) t) (hb:n+1<ee) :
  ∀(k i:ay) (s:av) (es:a8 (a5×aq)) (ms:ak a5),n-i=k->i<=n->St i s ->
   lF prog w s.heap S es->Nums es ms->ms.Perm (firstMet val i) ->
   (∀s' dZ nD,Moved (S::wr) G s s'->lF prog w s'.heap S dZ->Nums dZ nD->nD.Perm (firstMet val n)->R (.ok (.ret .none)) s') ->
   codeAny (bq prog w) A (.builtin "set.update.loop" ⟨[.ref S,.ref I],[]⟩) R s:=by
 have N:S∉wr:=λh=>EM (W.sub _ h);have hsub:∀b∈wr,b∈S::wr:=λb hb=>fY _ hb;intro k
 induction k with
 |zero =>
  intro i s es ms hk hi c hS q j hR;have U:i=n:=by omega
  subst U;refine JE aH7 ?_;rw[ZS adP _];show wpAny _ A.in1 (ek (.ref I) >>= _) _ _ s;refine aL (W.done s _ _ c λs' hm=>?_);show wpAny _ A.in1 (ret Value.none) _ _ s';exact bG (hR s' es ms (hm.mono hsub) (hS.at λo e=>hm.heap S _ N e) q j)
 |succ k ih =>
  intro i s es ms hk hi c hS q j hR;have V:i<n:=by omega
  refine JE aH7 ?_;rw[ZS adP _];show wpAny _ A.in1 (ek (.ref I) >>= _) _ _ s;refine aL (W.item i s _ _ V c λv s' m r hm=>?_);obtain⟨t,rfl⟩:=Gm i v m;have nF:lF prog w s'.heap S es:=hS.at λo e=>hm.heap S _ N e;show wpAny _ A.in1 (holding [Value.int (val i) t] (setAdd S (.int (val i) t)) >>= _) _ _ s';refine aL (GQ ?_);unfold setAdd;refine GQ ?_;refine aL ((c8 prog w).pyHash (k:=val i) (intKind_is _ _ _ _) ?_);have hsz:es.size=(firstMet val i).length:=by
   have h1:=IntsAre.length q;rw[lI,gJ]at h1;rw[h1];exact j.length_eq
  have Gs:es.size+1<ee:=by have:=firstMet_length_le val i;omega
  refine aHT (s:={s' with toks:=s'.toks+1}) (intKind_is _ _ _ _) rfl nF Gs λb h' dZ L l Gy=>?_;have X:∀B,Nums dZ B->B.Perm (firstMet val (i+1))->_:=λB H K =>
   bG (M:=bq prog w) (A:=A.in1) (s:={s' with heap:=h',toks:=s'.toks+1}) (a:=PySem.Fin.again (.builtin "set.update.loop" ⟨[.ref S,.ref I],[]⟩)) (Q:=λfin s'=>match fin with | .done f=>R (.ok f) s' | .again T=>T.quiet=ax/\codeAny (bq prog w) A T R s') (E:=λe s'=>R (.error e) s')
    ⟨TV adP _,ih (i+1) _ dZ B (by omega) V (W.frame _ s' _ _ r (JU _) λb hb o e=>by
     rw[L.2 b (λh:b=S=>EM (by rw[<-h];exact hb))];exact e) l H K λDG x u p F C D=>by
     refine hR DG x u (Moved.trans W.gtrans ((hm.mono hsub).then_heap (JU _) λb o hb e=>?_) p) F C D;rw[L.2 b (λh:b=S=>hb (by rw[h];exact List.mem_cons_self))];exact e⟩
  have NT:=Wx (prog:=prog) (w:=w) q (val i)
  rcases Gy with⟨U,rfl⟩|⟨yW,hp⟩
  ·refine X ms q ?_;have BF:val i∈firstMet val i:=j.mem_iff.mp (NT.mp U);rw[firstMet_succ];unfold step_dedup;rw[a9 (by rw[Nk];exact⟨_,BF,by simp⟩)];exact j
  ·have g:val i∉firstMet val i:=λz=>by
    obtain⟨e,he,d⟩:=NT.mpr (j.mem_iff.mpr z);exact yW e he d
   have h2:c9 ((es.toList++[((c8 prog w).hash (val i),Value.int (val i) t)]).map (·.2)) (ms++[val i]):=by
    rw[xU];exact ints_snoc q (val i) t
   obtain⟨B,H,K⟩:=arJ q hp h2;refine X B H ?_;rw[firstMet_succ];unfold step_dedup;rw[bf (by rw[Nk];rintro⟨y,hy,e⟩;simp at e;subst e;exact g hy)];exact K.trans (j.append_right _)
end
section
variable{prog:bh}{w:bw}{A:bu}{E:aq->av->Prop}{s:av}
theorem akS(a:aq){Q₁:aq->av->Prop}
  (h:Q₁ (.ref s.heap.objs.size) {s with heap:=s.heap.push {cls:=.type "set",dict:=ao,data:=.set #[] 0 (.fresh 0 0 (oI w))} }) :
  codeAny (bq prog w) A (.call (.builtin "set.__new__") ⟨[.type "set",a],[]⟩) (wants Q₁ E) s:=by
 refine codeAny_of_tree ?_;show wpAny _ A.in1 (do checkBuiltinCall "set.__new__" ⟨[.type "set",a],[]⟩;again (.builtin "set.__new__" ⟨[.type "set",a],[]⟩)) _ _ s;refine aL (wpAny_of_eq (F.newCall_set_1 a) (bG ⟨TV F.plain_set_new _,JE F.entry_set_new ?_⟩));rw[ZS F.plain_set_new _];unfold Builtin.«set.__new__» Builtin.Frozenset.newClass;have hsub:=sub_set_self;obtain⟨j,g,d,tk,os⟩:=s;dsimp only
 wp_walk
 refine CU (bG ?_);dsimp only;simp only[newObj];refine aL (wpAny_alloc (bG ?_));exact bG h
set_option maxHeartbeats 3200000 in
theorem aF0{l:aw}{items:a8 aq}{ns:ak a5}{Q:aq->av->Prop}
  (hh:A.handled=ao) (hl:s.heap.IsList l items) (hi:PyProof.Rows.IntsAre items.toList ns) (hb:items.size+1<ee)
  (h:∀(h':b8) (tk:ay) es ms,lF prog w h' s.heap.objs.size es->Nums es ms->ms.Perm (firstMet (λi=>ns.getD i 0) items.size) ->
   (∀b o,b<s.heap.objs.size->s.heap.get? b=aj o->h'.get? b=aj o)->Q (.ref s.heap.objs.size) {s with heap:=h',toks:=tk}) :
  wpAny (bq prog w) A (call (.type "set") [.ref l]) Q E s:=by
 obtain⟨c,tl,aK7⟩:=F.called_set.mro;have aLB:=F.called_set.made;have hsub:=F.called_set.sub;refine GR (codeAny_of_tree ?_);show wpAny _ _ (callAny (.type "set") _) _ _ _;refine bG ⟨Code.quiet_builtin _ (by decide +kernel),JE F.entry_type_call ?_⟩;rw[Around.under_plain (weight_type_call_type "set" [.ref l] []) rfl];have h1:=F.called_set.notType;have h2:=F.called_set.canCreate;have hct:=F.typeCall_set_1 (.ref l)
 repeat (any_goals (first|assumption|wp_step))
 refine uF (akS (.ref l) (E:=E) (Q₁:=λobj s₁=>obj=.ref s.heap.objs.size/\s₁={s with heap:=s.heap.push {cls:=.type "set",dict:=ao,data:=.set #[] 0 (.fresh 0 0 (oI w))} }) ⟨rfl,rfl⟩) λr s₁ hr=>?_;cases r with
 |error e=>exact hr
 |ok fl =>
  cases fl with
  |ret obj =>
   obtain⟨rfl,rfl⟩:=hr;have hS:(s.heap.push {cls:=.type "set",dict:=ao,data:=.set #[] 0 (.fresh 0 0 (oI w))}).get? s.heap.objs.size=aj {cls:=.type "set",dict:=ao,data:=.set #[] 0 (.fresh 0 0 (oI w))}:=gZ _ rfl;have hT:Shared.TypeIs {s with heap:=s.heap.push {cls:=.type "set",dict:=ao,data:=.set #[] 0 (.fresh 0 0 (oI w))} } (.ref s.heap.objs.size) "set":=⟨_,hS,rfl⟩;have hli:=F.called_set.init.lookup;have VU:=F.called_set.init.bind (.ref s.heap.objs.size)
   repeat (any_goals (first|assumption|wp_step))
   refine uF (ab0 (R:=wants (λr s₂=>r=.none/\∃h' tk es ms,s₂={s with heap:=h',toks:=tk} /\
     lF prog w h' s.heap.objs.size es/\Nums es ms/\ms.Perm (firstMet (λi=>ns.getD i 0) items.size) /\
     (∀b o,b<s.heap.objs.size->s.heap.get? b=aj o->h'.get? b=aj o)) E) F.called_set.init.plain F.entry_set_init (check_set_init_1 hT ?_)) λr₂ s₂ Gr=>?_
   ·obtain⟨ol,VC,fR,nl,Zz⟩:=hl;obtain⟨aKC,aq1,aKB,ap0⟩:=ol;simp only at fR Zz;subst fR;subst Zz;have axQ:(s.heap.push {cls:=.type "set",dict:=ao,data:=.set #[] 0 (.fresh 0 0 (oI w))}).get? l=aj {cls:=.type "list",dict:=aq1,data:=.seq items nl,slots:=ap0}:=eI _ VC;have aK2:=F.sub_list_set;have aK3:=F.sub_list_frozenset;have gU:(Value.type "list" == Value.type "dict")=au:=by decide
    have yX:(s.heap.push {cls:=.type "set",dict:=ao,data:=.set #[] 0 (.fresh 0 0 (oI w))}).IsList l items:=⟨_,axQ,rfl,nl,rfl⟩;unfold Builtin.«set.__init__» noKeywords Builtin.Frozenset.updateFrom;generalize hPI:pyIter=PI
    wp_walk
    subst hPI;refine wpAny_pyIter_list yX ?_;refine aL (wpAny_runValue ?_);have NU:l<s.heap.objs.size:=dS VC;have hh3:A.in1.in1.in1.handled=ao:=by simp[hh]
    have axX:l≠(s.heap.push {cls:=.type "set",dict:=ao,data:=.set #[] 0 (.fresh 0 0 (oI w))}).objs.size:=by
     rw[KP];exact fS (YI NU)
    have EM:s.heap.objs.size∉[(s.heap.push {cls:=.type "set",dict:=ao,data:=.set #[] 0 (.fresh 0 0 (oI w))}).objs.size,l]:=by
     rw[KP];simp only[dU,lN,zP,yK,not_or];exact⟨fS (YH _),JT NU⟩
    have Gm:∀(i:ay) (v:aq),items[i]?=aj v->∃t,v=.int ((λi=>ns.getD i 0) i) t:=λi v hv =>
     PyProof.Rows.IntsAre.int_at hi i v (by rw[mS];exact hv)
    refine aFC ((Walks.list hh3 _ l axX items).toS) s.heap.objs.size
     EM (λi=>ns.getD i 0) Gm hb (items.size-0) 0 _ #[] [] (by omega) AU
     ⟨⟨_,gZ _ rfl,rfl,rfl⟩,(yX.push _)⟩ ?hS0 .nil (FW _) ?hR
    case hS0 =>
     have NZ:((s.heap.push {cls:=.type "set",dict:=ao,data:=.set #[] 0 (.fresh 0 0 (oI w))}).push {cls:=.type "list_iterator",data:=.fields #[.ref l,.int 0 0]}).get? s.heap.objs.size
       = aj {cls:=.type "set",dict:=ao,data:=.set #[] 0 (.fresh 0 0 (oI w))}:=eI _ hS
     exact⟨_,0,_,NZ,⟨rfl,rfl,rfl⟩,rfl,λe he=>by simp at he,by decide,rfl,ahK _⟩
    case hR =>
     intro s' dZ nD hm nF Io BN;obtain⟨h',g',d',SM,Ej⟩:=s';have eg:g'=s.gens:=hm.gens;have ed:d'=s.drawn:=hm.drawn;have eo:Ej=s.os:=hm.os;subst eg;subst ed;subst eo;show wpAny _ _ _ _ _ _;refine bG ?_;show wpAny _ _ (ret Value.none) _ _ _;refine bG ⟨rfl,h',SM,dZ,nD,rfl,nF,Io,BN,λb o hb e=>?_⟩;have zD:b≠s.heap.objs.size:=fS hb;have jQ:b≠(s.heap.push {cls:=.type "set",dict:=ao,data:=.set #[] 0 (.fresh 0 0 (oI w))}).objs.size:=by
      rw[KP];exact fS (YI hb)
     exact hm.heap b o (by simp only[dU,lN,zP,yK,not_or];exact⟨zD,jQ⟩) (eI _ (eI _ e))
   ·cases r₂ with
    |error e=>exact Gr
    |ok fl₂ =>
     cases fl₂ with
     |ret r =>
      obtain⟨rfl,h',tk,es,ms,rfl,nF,Io,BN,BI⟩:=Gr
      repeat (any_goals (first|assumption|wp_step))
      exact h _ _ es ms nF Io BN BI
     |_=>exact Gr.elim
  |_=>exact hr.elim
end
set_option maxRecDepth 100000
set_option compiler.extract_closed false
set_option genSizeOf false
set_option bootstrap.genMatcherCode false
theorem pL:Slot "set_iterator" "__next__" "set_iterator.__next__" :=
 .of (owner := "set_iterator") (n := "__next__") (by rw[typeLookup_type,builtinLookup_eq_fast];kernel_rfl) (by decide +kernel) (by decide +kernel) (by decide +kernel)
  (by first|exact .inl (by decide +kernel)|exact .inr (by decide +kernel)) (by rw[isSubtype_type];kernel_rfl)
theorem Tg:Slot "set_iterator" "__iter__" "set_iterator.__iter__" :=
 .of (owner := "set_iterator") (n := "__iter__") (by rw[typeLookup_type,builtinLookup_eq_fast];kernel_rfl) (by decide +kernel) (by decide +kernel) (by decide +kernel)
  (by first|exact .inl (by decide +kernel)|exact .inr (by decide +kernel)) (by rw[isSubtype_type];kernel_rfl)
theorem IY:entryFor table "set_iterator.__next__" = aj Builtin.«set_iterator.__next__»:=entryFor_of_tree (by kernel_rfl)
theorem aCW:entryFor table "set_iterator.__iter__" = aj Builtin.«dict_keyiterator.__iter__»:=entryFor_alias (id' := "dict_keyiterator.__iter__") (by kernel_rfl) rfl (by decide +kernel) (by kernel_rfl)
theorem aCX:entryFor table "set.__iter__" = aj Builtin.«frozenset.__iter__»:=entryFor_alias (id' := "frozenset.__iter__") (by kernel_rfl) rfl (by decide +kernel) (by kernel_rfl)
theorem Vv:Manifest.owners.lookup (String.ofList ['r','o','t','a','r','e','t','i','_','t','e','s'].reverse)=aj Manifest.sig_set_iterator:=by kernel_rfl
theorem JP(a:aq):argsOk "set_iterator.__next__" ⟨[a],[]⟩:=by
 unfold argsOk;rw[signature?_of (id := "set_iterator.__next__") (n:=['_','_','t','x','e','n','_','_']) (o:=['r','o','t','a','r','e','t','i','_','t','e','s']) (by kernel_rfl) Vv];kernel_rfl
theorem aHL(a:aq):argsOk "set_iterator.__iter__" ⟨[a],[]⟩:=by
 unfold argsOk;rw[signature?_of (id := "set_iterator.__iter__") (n:=['_','_','r','e','t','i','_','_']) (o:=['r','o','t','a','r','e','t','i','_','t','e','s']) (by kernel_rfl) Vv];kernel_rfl
def lQ(h:b8)(I a:aw)(first:aq)(i n ep:ay):Prop:=h.get? I=aj {cls:=.type "set_iterator",data:=.fields #[first,.int i 0,.ref a,.int n 0,.int ep 0]}
def rS(w:bw)(h:b8)(a:aw)(es:a8 (a5×aq))(ep:ay)(t:cu):Prop:=∃o,h.get? a=aj o/\o.data=.set es ep t/\t.fits es.size=ax/\pT (oI w) t
theorem lQ.typeIs{s:av}{I a:aw}{f:aq}{i n ep:ay}(x:lQ s.heap I a f i n ep):s.TypeIs (.ref I) "set_iterator":=⟨_,x,rfl⟩
theorem lQ.at{h h':b8}{I a:aw}{f:aq}{i n ep:ay}(x:lQ h I a f i n ep)(e:∀o,h.get? I=aj o->h'.get? I=aj o):lQ h' I a f i n ep:=e _ x
theorem rS.at{w:bw}{h h':b8}{a:aw}{es:a8 (a5×aq)}{ep:ay}{t:cu}(x:rS w h a es ep t)(e:∀o,h.get? a=aj o->h'.get? a=aj o):rS w h' a es ep t:=let ⟨o,j,r⟩:=x; ⟨o,e _ j,r⟩
noncomputable def AL(t:cu)(i:ay):ay:=if i=0 then 0 else t.place.getD (i-1) 0+1
theorem Ti{t:cu}(h:xP t.place){i:ay}(hi:i<=t.place.size):SetTable.below t.place (AL t i)=i:=by
 unfold AL
 by_cases j:i=0
 ·rw[a9 j,aGZ h,j]
 ·rw[bf j];have hl:i-1<t.place.size:=by omega
  have q:t.place[i-1]?=aj (t.place.getD (i-1) 0):=by simp[Array.getD,hl]
  rw[aG0 h q];omega
section
variable{prog:bh}{w:bw}{A:bu}{E:aq->av->Prop}{s:av}
theorem ar3{I a:aw}{es:a8 (a5×aq)}{ep i:ay}{t:cu}{x:a5×aq}{Q:ar aq->av->Prop}(hit:lQ s.heap I a (.int (AL t i) 0) i es.size ep)(b:rS w s.heap a es ep t)
  (hb:w.params.followText "set-order" = au) (hd:(!t.plain&&decide (es.size>1))=au) (N:es[i]?=aj x)
  (c:∀h',lQ h' I a (.int (AL t (i+1)) 0) (i+1) es.size ep->Heap.SameBut I s.heap h'->Q (aj x.2) {s with heap:=h' }):wpAny (bq prog w) A (ek (.ref I)) Q E s:=by
 obtain⟨os,B,z,j,hT⟩:=id b;have g:=j;simp only[SetTable.fits,mB,vS,BU]at g;have l:i<es.size:=(RQ.mp N).1;have q:i<t.place.size:=by omega
 have d:t.place[i]?=aj (t.place.getD i 0):=by simp[Array.getD,q]
 have h:(!t.led && !es.isEmpty)=au:=by rw[hT.led];simp[oI,hb]
 unfold ek;refine aL (GS (LL (name:=Str.ofString "__next__") hit.typeIs pL
  (wI pL hit.typeIs IY ?_ (JP _))))
 unfold Builtin.«set_iterator.__next__»;refine aL (bG ?_);refine aL (LK hit rfl ?_);dsimp only;refine aL (GO B z j ?_);rw[bf (by simp)];refine aL ?_;unfold setNext;refine aL (CT B z j ?_);dsimp only;unfold setsByText;refine aL (aL (CU (bG ?_)));refine wH (nT (show ¬(w.params.followText "set-order" = ax)by rw[hb];simp)) ?_;refine wH (nT (show ¬((!t.plain&&decide (es.size>1))=ax)by rw[hd];simp)) ?_;refine aL ?_;show wpAny (bq prog w) A.in1 (if(!t.led && !es.isEmpty)=ax then unsupported "set:maker-not-led" else pure ()) _ _ _;refine wH (by simp[h]) (bG ?_);rw[KL,Ti hT.rise (by omega),N,d];refine bG ?_;dsimp only;refine aL (AE hit (by simp) λh1 f U=>?_);refine aL (AE f (by simp) λh2 e k=>?_);refine bG ⟨_,rfl,bG (c h2 ?_ (U.trans k))⟩;unfold lQ;rw[e];have:AL t (i+1)=t.place.getD i 0+1:=by unfold AL;simp
 rw[this];simp[cm]
theorem ar4{I a:aw}{es:a8 (a5×aq)}{ep:ay}{t:cu}{Q:ar aq->av->Prop}(hh:A.handled=ao)(hit:lQ s.heap I a (.int (AL t es.size) 0) es.size es.size ep)(N:rS w s.heap a es ep t)
  (hb:w.params.followText "set-order" = au) (hd:(!t.plain&&decide (es.size>1))=au)
  (U:∀h',Heap.ExtBut I s.heap h'->Q ao {s with heap:=h' }):wpAny (bq prog w) A (ek (.ref I)) Q E s:=by
 obtain⟨os,z,q,j,hT⟩:=id N;have c:=j;simp only[SetTable.fits,mB,vS,BU]at c;have d:(!t.led && !es.isEmpty)=au:=by rw[hT.led];simp[oI,hb]
 unfold ek;refine aL (GS (LL (name:=Str.ofString "__next__") hit.typeIs pL
  (wI pL hit.typeIs IY ?_ (JP _))))
 unfold Builtin.«set_iterator.__next__»;refine aL (bG ?_);refine aL (LK hit rfl ?_);dsimp only;refine aL (GO z q j ?_);rw[bf (by simp)];refine aL ?_;unfold setNext;refine aL (CT z q j ?_);dsimp only;unfold setsByText;refine aL (aL (CU (bG ?_)));refine wH (nT (show ¬(w.params.followText "set-order" = ax)by rw[hb];simp)) ?_;refine wH (nT (show ¬((!t.plain&&decide (es.size>1))=ax)by rw[hd];simp)) ?_;refine aL ?_;show wpAny (bq prog w) A.in1 (if(!t.led && !es.isEmpty)=ax then unsupported "set:maker-not-led" else pure ()) _ _ _;refine wH (by simp[d]) (bG ?_);rw[KL,Ti hT.rise (by omega),Array.getElem?_eq_none cX];refine bG ?_;dsimp only;refine aL (AE hit (by simp) λh1 e B=>?_);show wpAny _ _ (newExc (.type "StopIteration") [] >>= _) _ _ _;refine aL ?_;simp only[newExc,newTuple];refine aL (uM ?_ (by size_fits));refine aL (m:=d8 _ _) (wpAny_of_eq (a:=Value.none) (by first|rfl|(simp only[d8];rfl)) ?_);refine uM ?_ (by size_fits);simp only[raiseNew];refine aL (wpAny_handled ?_);rw[show A.in1.handled=ao from hh];refine aL (bG (wpAny_throw ?_));refine aL (ZY (T := "StopIteration") (b:=ax) ⟨_,gZ _ rfl,rfl⟩ isSubtype_stop ?_);exact bG (U _ ((B.extBut.push _).push _))
end
set_option maxRecDepth 100000
set_option compiler.extract_closed false
set_option genSizeOf false
set_option bootstrap.genMatcherCode false
theorem Js{α:Type}:∀(l:ak α) (i:ay) (h:i<l.length),(l[i]::l.eraseIdx i).Perm l
 |[],i,h=>bz h (Nat.not_lt_zero _)
 |x::l,0,h=>FW _
 |x::l,i+1,h=>by
  have ih:=Js l i (by simpa using h);simp only[List.getElem_cons_succ,List.eraseIdx_cons_succ];exact(List.Perm.swap _ _ _).trans (ih.cons x)
theorem Vt{α:Type}(f:ay->ay):∀(fuel k:ay) (left:ak α) (ae:a8 α),left.length=fuel->(pickOrder.go f fuel k left ae).toList.Perm (ae.toList++left)
 |0,k,left,ae,h=>by
  have:left=[]:=List.length_eq_zero_iff.mp h;subst this;unfold pickOrder.go;simp
 |fuel+1,k,left,ae,h=>by
  have hi:f k%left.length<left.length:=Nat.mod_lt _ (by omega);unfold pickOrder.go;rw[fL hi];have ih:=Vt f fuel (k+1) (left.eraseIdx (f k%left.length)) (ae.push left[f k%left.length]) (by rw[List.length_eraseIdx_of_lt hi];omega);refine ih.trans ?_;rw[GK,jW];exact(Js _ _ hi).append_left _
theorem Ee{α:Type}(f:ay->ay)(xs:a8 α):(pickOrder f xs).toList.Perm xs.toList:=by
 have h:=Vt f xs.size 0 xs.toList #[] (by simp);simp only[xT]at h;exact h
section
variable{prog:bh}{w:bw}{A:bu}{E:aq->av->Prop}{s:av}
theorem Qu{a:aw}{es:a8 (a5×aq)}{ep:ay}{t:cu}{Q:a8 (a5×aq)->av->Prop}(z:rS w s.heap a es ep t)(hb:w.params.followText "set-order" = ax)
  (h:Q (pickOrder (w.params.setOrder a ep) es) s):wpAny (bq prog w) A (setWalk a) Q E s:=by
 obtain⟨os,q,j,B,hT⟩:=id z;unfold setWalk;refine aL (CT q j B ?_);dsimp only;unfold setsByText;refine aL (aL (CU (bG ?_)));refine ZX (vO (show w.params.followText "set-order" = ax from hb)) ?_;exact aL (CU (bG h))
theorem ar5{I a:aw}{es:a8 (a5×aq)}{ep i:ay}{t:cu}{x:a5×aq}{Q:ar aq->av->Prop}(hit:lQ s.heap I a (.int 0 0) i es.size ep)(z:rS w s.heap a es ep t)
  (hb:w.params.followText "set-order" = ax) (U:(pickOrder (w.params.setOrder a ep) es)[i]?=aj x)
  (b:∀h',lQ h' I a (.int 0 0) (i+1) es.size ep->Heap.SameBut I s.heap h'->Q (aj x.2) {s with heap:=h' }):wpAny (bq prog w) A (ek (.ref I)) Q E s:=by
 obtain⟨os,q,j,B,hT⟩:=id z;unfold ek;refine aL (GS (LL (name:=Str.ofString "__next__") hit.typeIs pL
  (wI pL hit.typeIs IY ?_ (JP _))))
 unfold Builtin.«set_iterator.__next__»;refine aL (bG ?_);refine aL (LK hit rfl ?_);dsimp only;refine aL (GO q j B ?_);rw[bf (by simp)];refine aL ?_;unfold setNext;refine aL (CT q j B ?_);dsimp only;unfold setsByText;refine aL (aL (CU (bG ?_)));refine ZX (vO (show w.params.followText "set-order" = ax from hb)) ?_;refine wH (by simp) ?_;refine aL (Qu z hb ?_);rw[KL,U];refine bG ?_;simp only[JS];refine aL (AE hit (by simp) λh1 d N=>?_);refine aL (AE d (by simp) λh2 c e=>?_);refine bG ⟨_,rfl,bG (b h2 ?_ (N.trans e))⟩;unfold lQ;rw[c];simp[cm]
theorem ar6{I a:aw}{es:a8 (a5×aq)}{ep:ay}{t:cu}{Q:ar aq->av->Prop}(hh:A.handled=ao)(hit:lQ s.heap I a (.int 0 0) es.size es.size ep)(z:rS w s.heap a es ep t)
  (hb:w.params.followText "set-order" = ax)
  (c:∀h',Heap.ExtBut I s.heap h'->Q ao {s with heap:=h' }):wpAny (bq prog w) A (ek (.ref I)) Q E s:=by
 obtain⟨os,q,j,B,hT⟩:=id z;have U:(pickOrder (w.params.setOrder a ep) es)[es.size]?=ao:=by
  rw[aeO];have:=(Ee (w.params.setOrder a ep) es).length_eq;simp only[gJ]at this;omega
 unfold ek;refine aL (GS (LL (name:=Str.ofString "__next__") hit.typeIs pL
  (wI pL hit.typeIs IY ?_ (JP _))))
 unfold Builtin.«set_iterator.__next__»;refine aL (bG ?_);refine aL (LK hit rfl ?_);dsimp only;refine aL (GO q j B ?_);rw[bf (by simp)];refine aL ?_;unfold setNext;refine aL (CT q j B ?_);dsimp only;unfold setsByText;refine aL (aL (CU (bG ?_)));refine ZX (vO (show w.params.followText "set-order" = ax from hb)) ?_;refine wH (by simp) ?_;refine aL (Qu z hb ?_);rw[KL,U];refine bG ?_;simp only[Option.map_none];refine aL (AE hit (by simp) λh1 d N=>?_);show wpAny _ _ (newExc (.type "StopIteration") [] >>= _) _ _ _;refine aL ?_;simp only[newExc,newTuple];refine aL (uM ?_ (by size_fits));refine aL (m:=d8 _ _) (wpAny_of_eq (a:=Value.none) (by first|rfl|(simp only[d8];rfl)) ?_);refine uM ?_ (by size_fits);simp only[raiseNew];refine aL (wpAny_handled ?_);rw[show A.in1.handled=ao from hh];refine aL (bG (wpAny_throw ?_));refine aL (ZY (T := "StopIteration") (b:=ax) ⟨_,gZ _ rfl,rfl⟩ isSubtype_stop ?_);exact bG (c _ ((N.extBut.push _).push _))
theorem afQ{src:Source}{n:ay}{Q:ay->av->Prop}(hn:n≠0)(h:∀i,i<n->Q i {s with drawn:=s.drawn.bump src}):wpAny (bq prog w) A (choose src n) Q E s:=λj p _=>by
 unfold choose;rw[Sem.wp_choose];exact⟨hn,h _ (Nat.mod_lt _ (by omega))⟩
theorem Qr{α:Type}:∀(n:ay) (xs:ak α) (s:av) {Q:ak α->av->Prop},xs.length=n->(∀ys d,ys.Perm xs->Q ys {s with drawn:=d})->wpAny (bq prog w) A (drawOrder n xs) Q E s
 |0,xs,s,Q,hl,h=>by
  have:xs=[]:=List.length_eq_zero_iff.mp hl;subst this;unfold drawOrder;have e:s={s with drawn:=s.drawn}:=by cases s;rfl
  rw[e];exact bG (h [] s.drawn (FW _))
 |n+1,[],s,Q,hl,h=>by simp at hl
 |n+1,x::xs,s,Q,hl,h=>by
  unfold drawOrder;refine aL (afQ (by simp) λi hi=>?_);rw[fL hi];dsimp only;refine aL (Qr n ((x::xs).eraseIdx i) _ (by rw[List.length_eraseIdx_of_lt hi];omega) λys d j=>?_);refine bG (h ((x::xs)[i]::ys) d ?_);exact(j.cons _).trans (Js _ _ hi)
end
set_option maxRecDepth 100000
set_option compiler.extract_closed false
set_option genSizeOf false
set_option bootstrap.genMatcherCode false
def KJ(h:b8)(T:aw)(ps:ak ay):Prop:=h.get? T=aj {cls:=.type "tuple",data:=.seq (ps.map λi:ay=>cm (i:a5)).toArray}
section
variable{prog:bh}{w:bw}{A:bu}{E:aq->av->Prop}{s:av}
theorem ar1{I a T:aw}{es:a8 (a5×aq)}{ep i j:ay}{t:cu}{ps:ak ay}{x:a5×aq}{Q:ar aq->av->Prop}(hit:lQ s.heap I a (.ref T) i es.size ep)(b:rS w s.heap a es ep t)(hT:KJ s.heap T ps)
  (d:ps[i]?=aj j) (U:es[j]?=aj x)
  (e:∀h',lQ h' I a (.ref T) (i+1) es.size ep->Heap.SameBut I s.heap h'->Q (aj x.2) {s with heap:=h' }):wpAny (bq prog w) A (ek (.ref I)) Q E s:=by
 obtain⟨os,z,q,B,_⟩:=id b;unfold ek;refine aL (GS (LL (name:=Str.ofString "__next__") hit.typeIs pL
  (wI pL hit.typeIs IY ?_ (JP _))))
 unfold Builtin.«set_iterator.__next__»;refine aL (bG ?_);refine aL (LK hit rfl ?_);dsimp only;refine aL (GO z q B ?_);rw[bf (by simp)];refine aL (wpAny_seqItems hT rfl ?_);have c:(ps.map λi:ay=>cm (i:a5)).toArray[i]?=aj (cm (j:a5)):=by simp[d]
 dsimp only;rw[KL,c];show wpAny _ _ (setNextDrawn a (j:a5).toNat (ep:a5).toNat >>= _) _ _ _;refine aL ?_;unfold setNextDrawn;refine aL (CT z q B ?_);dsimp only;refine wH (by simp) ?_;rw[KL,U];refine bG ?_;refine aL (AE hit (by simp) λh1 f N=>?_);refine bG ⟨_,rfl,bG (e h1 ?_ N)⟩;unfold lQ;rw[f];simp[cm]
theorem ar2{I a T:aw}{es:a8 (a5×aq)}{ep:ay}{t:cu}{ps:ak ay}{Q:ar aq->av->Prop}(hh:A.handled=ao)(hit:lQ s.heap I a (.ref T) es.size es.size ep)(N:rS w s.heap a es ep t)(hT:KJ s.heap T ps)
  (c:ps.length=es.size)
  (e:∀h',Heap.ExtBut I s.heap h'->Q ao {s with heap:=h' }):wpAny (bq prog w) A (ek (.ref I)) Q E s:=by
 obtain⟨os,B,z,d,_⟩:=id N;unfold ek;refine aL (GS (LL (name:=Str.ofString "__next__") hit.typeIs pL
  (wI pL hit.typeIs IY ?_ (JP _))))
 unfold Builtin.«set_iterator.__next__»;refine aL (bG ?_);refine aL (LK hit rfl ?_);dsimp only;refine aL (GO B z d ?_);rw[bf (by simp)];refine aL (wpAny_seqItems hT rfl ?_);have U:(ps.map λi:ay=>cm (i:a5)).toArray[es.size]?=ao:=by simp[<-c]
 dsimp only;rw[KL,U];refine aL (AE hit (by simp) λg f j=>?_);refine aL (AE f (by simp) λh1 h q=>?_);show wpAny _ _ (newExc (.type "StopIteration") [] >>= _) _ _ _;refine aL ?_;simp only[newExc,newTuple];refine aL (uM ?_ (by size_fits));refine aL (m:=d8 _ _) (wpAny_of_eq (a:=Value.none) (by first|rfl|(simp only[d8];rfl)) ?_);refine uM ?_ (by size_fits);simp only[raiseNew];refine aL (wpAny_handled ?_);rw[show A.in1.handled=ao from hh];refine aL (bG (wpAny_throw ?_));refine aL (ZY (T := "StopIteration") (b:=ax) ⟨_,gZ _ rfl,rfl⟩ isSubtype_stop ?_);exact bG (e _ (((j.trans q).extBut.push _).push _))
theorem Dz{I a:aw}{f:aq}{i n ep:ay}{Q:aq->av->Prop}(hit:lQ s.heap I a f i n ep)(h:Q (.ref I) s):wpAny (bq prog w) A (pyIter (.ref I)) Q E s:=by
 refine wpAny_pyIter_slot hit.typeIs Tg (wI Tg hit.typeIs aCW ?_ (aHL _));show wpAny _ _ (ret (.ref I)) _ _ s;exact bG ⟨_,rfl, "set_iterator",_,hit.typeIs,pL.lookup,h⟩
theorem KJ.at{h h':b8}{T:aw}{ps:ak ay}(x:KJ h T ps)(e:∀o,h.get? T=aj o->h'.get? T=aj o):KJ h' T ps:=e _ x
theorem afU(hh:A.handled=ao)(I a:aw)(gU:a≠I)(es:a8 (a5×aq))(ep:ay)(t:cu)(hb:w.params.followText "set-order" = ax) :
  Walks prog w A I [I,a] [I] es.size (λi v=>((pickOrder (w.params.setOrder a ep) es).toList.map (·.2))[i]?=aj v) (λi h=>lQ h I a (.int 0 0) i es.size ep/\rS w h a es ep t)where
 sub:=λb hb=>by simp at hb;simp[hb]
 frame:=λ_ _ _ st q=>⟨st.1.at λo e=>q I (by simp) o e,st.2.at λo e=>q a (by simp) o e⟩
 item:=λi s Q E hi st j=>by
  have hl:i<(pickOrder (w.params.setOrder a ep) es).size:=by
   have:=(Ee (w.params.setOrder a ep) es).length_eq;simp only[gJ]at this;omega
  have N:=Pn hl;refine ar5 st.1 st.2 hb N λh' U z=>?_;exact j _ h' s.toks (by simp[hl]) ⟨U,st.2.at λo e=>z.extBut a o gU e⟩ λb o hb e=>z.extBut b o (λh=>hb (by simp[h])) e
 done:=λs Q E st j=>ar6 hh st.1 st.2 hb λh' B=>j h' s.toks λb o hb e=>B b o (λh=>hb (by simp[h])) e
 self:=λ_ _ _ _ st j=>Dz st.1 j
theorem afT(hh:A.handled=ao)(I a:aw)(gU:a≠I)(es:a8 (a5×aq))(ep:ay)(t:cu)(hb:w.params.followText "set-order" = au)(hd:(!t.plain&&decide (es.size>1))=au) :
  Walks prog w A I [I,a] [I] es.size (λi v=>(es.toList.map (·.2))[i]?=aj v) (λi h=>lQ h I a (.int (AL t i) 0) i es.size ep/\rS w h a es ep t)where
 sub:=λb hb=>by simp at hb;simp[hb]
 frame:=λ_ _ _ st q=>⟨st.1.at λo e=>q I (by simp) o e,st.2.at λo e=>q a (by simp) o e⟩
 item:=λi s Q E hi st j=>by
  have N:=Pn hi;refine ar3 st.1 st.2 hb hd N λh' U z=>?_;exact j _ h' s.toks (by simp[hi]) ⟨U,st.2.at λo e=>z.extBut a o gU e⟩ λb o hb e=>z.extBut b o (λh=>hb (by simp[h])) e
 done:=λs Q E st j=>ar4 hh st.1 st.2 hb hd λh' B=>j h' s.toks λb o hb e=>B b o (λh=>hb (by simp[h])) e
 self:=λ_ _ _ _ st j=>Dz st.1 j
theorem afS(hh:A.handled=ao)(I a T:aw)(gU:a≠I)(N:T≠I)(es:a8 (a5×aq))(ep:ay)(t:cu)(ps:ak ay)(z:ps.Perm (List.range es.size)) :
  Walks prog w A I [I,a,T] [I] es.size (λi v=>(ps.map λj=>(es.getD j (0,.none)).2)[i]?=aj v) (λi h=>lQ h I a (.ref T) i es.size ep/\rS w h a es ep t/\KJ h T ps)where
 sub:=λb hb=>by simp at hb;simp[hb]
 frame:=λ_ _ _ st B=>⟨st.1.at λo e=>B I (by simp) o e,st.2.1.at λo e=>B a (by simp) o e,st.2.2.at λo e=>B T (by simp) o e⟩
 item:=λi s Q E hi st q=>by
  have hl:i<ps.length:=by rw[z.length_eq];simpa using hi
  have hm:ps[i]<es.size:=by
   have:=z.mem_iff.mp (Ni hl);simpa using this
  refine ar1 (j:=ps[i]) (x:=es[ps[i]]) st.1 st.2.1 st.2.2 (fL hl) (Pn hm) λh' d U=>?_;exact q _ h' s.toks (by simp[hl,Array.getD,hm]) ⟨d,st.2.1.at λo e=>U.extBut a o gU e,st.2.2.at λo e=>U.extBut T o N e⟩ λb o hb e=>U.extBut b o (λh=>hb (by simp[h])) e
 done:=λs Q E st q=>ar2 hh st.1 st.2.1 st.2.2 (by rw[z.length_eq];simp) λh' c=>q h' s.toks λb o hb e=>c b o (λh=>hb (by simp[h])) e
 self:=λ_ _ _ _ st q=>Dz st.1 q
end
set_option maxRecDepth 100000
set_option compiler.extract_closed false
set_option genSizeOf false
set_option bootstrap.genMatcherCode false
theorem lF.akX{prog:bh}{w:bw}{h:b8}{a:aw}{es:a8 (a5×aq)}(x:lF prog w h a es):∃ep t,rS w h a es ep t:=let ⟨o,ep,t,j,_,hd,_,_,hf,hT⟩:=x; ⟨ep,t,o,j,hd,hf,hT⟩
section
variable{prog:bh}{w:bw}{A:bu}{E:aq->av->Prop}{s:av}
theorem anJ{a:aw}{es:a8 (a5×aq)}{Q:aq->av->Prop}(hh:A.handled=ao)(hS:lF prog w s.heap a es)
  (n:∀(I:aw) (h':b8) (d:Drawn) (ord:ak aq) (fp:ak aw) (St:ay->b8->Prop),ord.Perm (es.toList.map (·.2))->(∀b o,s.heap.get? b=aj o->h'.get? b=aj o)->(∀b∈fp,b=a\/s.heap.objs.size<=b)->s.heap.objs.size<=I ->
   Walks prog w A I fp [I] es.size (λi v=>ord[i]?=aj v) St->St 0 h'->Q (.ref I) {s with heap:=h',drawn:=d}):wpAny (bq prog w) A (pyIter (.ref a)) Q E s:=by
 obtain⟨B,t,h⟩:=hS.akX;obtain⟨os,c,U,f,hT⟩:=id h;have g:=hS.typeIs;have p:a<s.heap.objs.size:=hS.lt;have k:es.size<ee:=let ⟨_,_,_,_,_,_,_,hb,_,_⟩:=hS;hb;refine wpAny_pyIter_slot g F.slot_set_iter (wI F.slot_set_iter g aCX ?_ (F.args_set_iter_1 _));unfold Builtin.«frozenset.__iter__»;refine aL (bG ?_);refine aL ?_;unfold Builtin.Frozenset.sizeOf;refine aL (GO c U f (bG ?_));refine aL ?_;unfold setDrawn;refine aL (CT c U f ?_);dsimp only;unfold setsByText;refine aL (aL (CU (bG (bG ?_))));cases hb:w.params.followText "set-order" with
 |true =>
  refine wH (nT (show ¬((!w.params.followText "set-order" && (!t.plain&&decide (es.size>1)))=ax)by rw[hb];simp)) (aL (bG ?_));refine aL (wpAny_setEpoch_of c U f ?_);refine aL (uM (bG ⟨_,rfl, "set_iterator",_,⟨_,gZ _ rfl,rfl⟩,pL.lookup,?_⟩));have e:s={s with drawn:=s.drawn}:=by cases s;rfl
  have:=n s.heap.objs.size (s.heap.push {cls:=.type "set_iterator",data:=.fields #[.int 0 0,.int 0 0,.ref a,.int es.size 0,.int B 0]}) s.drawn _ _ _ ((Ee (w.params.setOrder a B) es).map (·.2)) (λb o e=>eI _ e) (λb hb=>by
   simp only[dU,zP,yK]at hb
   rcases hb with z|z
   ·exact .inr (by rw[z];exact oX _)
   ·exact .inl z) cX (afU hh _ a (fS p) es B t hb) ⟨gZ _ rfl,h.at λo e=>eI _ e⟩
  simpa[cm]using this
 |false =>
  cases hd:(!t.plain&&decide (es.size>1))with
  |false =>
   refine wH (nT (show ¬((!w.params.followText "set-order" && (!t.plain&&decide (es.size>1)))=ax)by rw[hd];simp)) (aL (bG ?_));refine aL (wpAny_setEpoch_of c U f ?_);refine aL (uM (bG ⟨_,rfl, "set_iterator",_,⟨_,gZ _ rfl,rfl⟩,pL.lookup,?_⟩));have:=n s.heap.objs.size (s.heap.push {cls:=.type "set_iterator",data:=.fields #[.int 0 0,.int 0 0,.ref a,.int es.size 0,.int B 0]}) s.drawn _ _ _ (FW _) (λb o e=>eI _ e) (λb hb=>by
    simp only[dU,zP,yK]at hb
    rcases hb with z|z
    ·exact .inr (by rw[z];exact oX _)
    ·exact .inl z) cX (afT hh _ a (fS p) es B t hb hd) ⟨gZ _ rfl,h.at λo e=>eI _ e⟩
   simpa[cm]using this
  |true =>
   refine ZX (vO (show(!w.params.followText "set-order" && (!t.plain&&decide (es.size>1)))=ax by rw[hb,hd];simp)) ?_;refine aL (Qr es.size (List.range es.size) s (by simp) λN d m=>?_);have x:N.length=es.size:=by rw[m.length_eq];simp
   refine aL (wpAny_newTuple ?_ (by rw[lI,x];exact Jn k));have k1:∀b o,s.heap.get? b=aj o->(s.heap.push {cls:=.type "tuple",data:=.seq (N.map λi:ay=>cm (i:a5)).toArray}).get? b=aj o:=λb o e=>eI _ e;refine aL (wpAny_setEpoch_of (k1 a _ c) U f ?_);refine aL (uM (bG ⟨_,rfl, "set_iterator",_,⟨_,gZ _ rfl,rfl⟩,pL.lookup,?_⟩));have u:(s.heap.push {cls:=.type "tuple",data:=.seq (N.map λi:ay=>cm (i:a5)).toArray}).objs.size=s.heap.objs.size+1:=KP _ _;have l:(N.map λj=>(es.getD j (0,.none)).2).Perm (es.toList.map (·.2)):=by
    have h1:=m.map λj=>(es.getD j (0,.none)).2;have h2:(List.range es.size).map (λj=>(es.getD j (0,Value.none)).2)=es.toList.map (·.2):=by
     apply FU;intro j;rw[jV,jV]
     by_cases r:j<es.size
     ·simp[r,Array.getD]
     ·simp[r]
    rw[h2]at h1;exact h1
   have:=n (s.heap.objs.size+1) ((s.heap.push {cls:=.type "tuple",data:=.seq (N.map λi:ay=>cm (i:a5)).toArray}).push {cls:=.type "set_iterator",data:=.fields #[.ref s.heap.objs.size,.int 0 0,.ref a,.int es.size 0,.int B 0]}) d _ _ _ l (λb o e=>eI _ (k1 b o e)) (λb hb=>by
    simp only[dU,zP,yK]at hb
    rcases hb with z|z|z
    ·exact .inr (by rw[z];exact JU _)
    ·exact .inl z
    ·exact .inr (by rw[z];exact oX _)) (JU _) (afS hh _ a s.heap.objs.size (fS (YI p)) (fS (YH _)) es B t N m) ⟨by
     unfold lQ;have q:=gZ (s.heap.push {cls:=.type "tuple",data:=.seq (N.map λi:ay=>cm (i:a5)).toArray}) (o:={cls:=.type "set_iterator",data:=.fields #[.ref s.heap.objs.size,.int 0 0,.ref a,.int es.size 0,.int B 0]}) rfl;rw[u]at q;exact q,h.at λo e=>eI _ (k1 a o e),eI _ (gZ _ rfl)⟩
   rw[<-u]at this;simpa[cm]using this
end
set_option maxRecDepth 100000
set_option compiler.extract_closed false
set_option genSizeOf false
set_option bootstrap.genMatcherCode false
section
variable{prog:bh}{w:bw}{A:bu}{E:aq->av->Prop}{s:av}
theorem ayJ{r:aw}{Q:br->av->Prop}(hT:s.TypeIs (.ref r) "set")(h:Q au s):wpAny (bq prog w) A (Builtin.List.listLengthHint (.ref r)) Q E s:=by
 unfold Builtin.List.listLengthHint;refine aL (wpAny_specialOf hT F.slot_set_len.lookup ?_);generalize z:("set.__len__" : cz)=j
 wp_delta
 rw[show splitId j=aj ("set", "__len__")from by subst z;decide +kernel];subst z;refine aL (ZY (T := "set") (b:=ax) hT (by rw[isSubtype_type];kernel_rfl) ?_);refine wpAny_ite_split (λq=>bz q (by decide)) (λ_=>?_);refine wpAny_ite_split (λ_=>?_) (λq=>bz (by decide +kernel) q);refine aL (wpAny_typeOf hT ?_);exact bG h
theorem av3{ord:ak aq}{acc:a8 aq}(h:ItemsOf (λi v=>ord[i]?=aj v) acc ord.length):acc.toList=ord:=by
 apply FU;intro i;rw[mS];cases e:acc[i]? with
 |some v=>exact(h.2 i v e).symm
 |none =>
  rw[eq_comm,List.getElem?_eq_none_iff];rw[aeO,h.1]at e;exact e
theorem aCO{R:Result->av->Prop}{r:aw}{es:a8 (a5×aq)}(hh:A.handled=ao)(hS0:lF prog w s.heap r es)(S:aw)(a:S≠r)(res:aq)(B:ay)(hS:s.heap.get? S=aj {cls:=.type "list",data:=.seq #[] B})
  (hR:∀h' tk d g c',(∀b o,b≠S->s.heap.get? b=aj o->h'.get? b=aj o)->h'.get? S=aj {cls:=.type "list",dict:=ao,data:=.seq g c',slots:=#[]}->g.toList.Perm (es.toList.map (·.2))->R (.ok (.ret res)) {s with heap:=h',toks:=tk,drawn:=d}) :
  wpAny (bq prog w) A.in1 (Builtin.List.listExtendWith (.ref S) (.ref r) res)
   (λfin s'=>match fin with | .done f=>R (.ok f) s' | .again c'=>c'.quiet=ax/\codeAny (bq prog w) A c' R s') (λe s'=>R (.error e) s') s:=by
 have k:es.size<ee:=let ⟨_,_,_,_,_,_,_,hb,_,_⟩:=hS0;hb;have NU:S<s.heap.objs.size:=dS hS;unfold Builtin.List.listExtendWith;refine aL (wpAny_typeOf (T := "set") hS0.typeIs ?_);have h1:Builtin.List.listSameRef (.ref S) (.ref r)=au:=by simp[Builtin.List.listSameRef,a]
 have v:(Value.type "set" == Value.type "list")=au:=by decide
 have u:(Value.type "set" == Value.type "tuple")=au:=by decide
 simp only[h1,v,u,Bool.or_false,kZ,iJ];refine aL (anJ (A:=A.in1) hh hS0 λI D d ord E St n i l p W st=>?_);have VC:ord.length=es.size:=by rw[n.length_eq];simp
 have EM:S∉E:=λhm=>by
  rcases l S hm with z|z
  ·exact a z
  ·exact bz NU (Nat.not_lt.mpr z)
 have C:S≠I:=λz=>bz NU (by rw[z];exact Nat.not_lt.mpr p);have key:∀(h:b8) (q tk:ay),St 0 h->(∀b o,b≠S->s.heap.get? b=aj o->h.get? b=aj o) ->
   h.get? S=aj {cls:=.type "list",data:=.seq #[] q}->codeAny (bq prog w) A (.builtin "list.extend.loop" ⟨[.ref S,.ref I,res],[]⟩) R {s with heap:=h,toks:=tk,drawn:=d}:=by
  intro h q tk x y c;refine codeAny_extend_loopS W.toS (Jn k) S EM res es.size 0 _ #[] q rfl AU x c (ItemsOf.nil _) λs' g c' hm nF t=>?_;rw[Moved.eq_with hm];refine hR s'.heap s'.toks d g c' (λb o hb e=>hm.heap b o (λm=>?_) (y b o hb e)) nF (by rw[av3 (ord:=ord) (by rw[VC];exact t)];exact n)
  rcases dU.mp m with G|m
  ·exact hb G
  ·exact bz (dS e) (by rw[lN.mp m];exact Nat.not_lt.mpr p)
 have c:=i S _ hS;refine aL (GQ (ayJ (lF.typeIs (s:={s with heap:=D,drawn:=d}) (hS0.at λo e=>i r o e)) ?_));refine wpAny_ite_split (λ_=>?_) (λ_=>bG ⟨TV PySem.F.plain_extend_loop _,key _ B _ st (λb o _ e=>i b o e) c⟩);refine aL (wG ?_);refine aL ?_;show wpAny _ _ (updateSeq S (·.push .none) >>= λ_=>updateSeq S (·.pop)) _ _ _;refine aL (wpAny_updateSeq c rfl ?_);have j:=YZ (Obj.mapSeq (·.push Value.none)) c rfl;refine wpAny_updateSeq (hz:=by seq_fits) j rfl ?_;have N:=YZ (Obj.mapSeq (·.pop)) j rfl;refine bG ⟨TV PySem.F.plain_extend_loop _,key _ _ _ ?_ (λb o hb e=>?_) N⟩
 ·refine W.frame 0 _ _ st λb hb o e=>?_;have U:b≠S:=λh=>EM (h ▸ hb);exact(uH _ _ (dQ U)).trans ((uH _ _ (dQ U)).trans e)
 ·exact(uH _ _ (dQ hb)).trans ((uH _ _ (dQ hb)).trans (i b o e))
theorem aE2{R:ak aq->av->Prop}{r:aw}{es:a8 (a5×aq)}(hh:A.handled=ao)(hS0:lF prog w s.heap r es)
  (h:∀(h':b8) (tk:ay) (d:Drawn) (acc:a8 aq),(∀b o,s.heap.get? b=aj o->h'.get? b=aj o)->acc.toList.Perm (es.toList.map (·.2))->R acc.toList {s with heap:=h',toks:=tk,drawn:=d}) :
  wpAny (bq prog w) A (collect (.ref r)) R E s:=by
 have c:=hS0.lt;unfold collect;refine aL (wpAny_runValue (JE entry_proto_collect' ?_));rw[ZS PySem.F.plain_proto_collect _];show wpAny _ A.in1 (newList [] >>= λl=>again (.builtin "list.__iadd__" ⟨[l,.ref r],[]⟩)) _ _ s;refine aL (uM ?_);refine bG ⟨TV PySem.F.plain_list_iadd _,JE entry_list_iadd' ?_⟩;rw[ZS PySem.F.plain_list_iadd _];have g:(s.heap.push {cls:=.type "list",data:=.seq ([]:ak aq).toArray}).get? s.heap.objs.size=aj {cls:=.type "list",data:=.seq #[]}:=gZ _ rfl;show wpAny _ A.in1 (Builtin.List.listExtendWith (.ref s.heap.objs.size) (.ref r) (.ref s.heap.objs.size)) _ _ _;have key:=aCO (A:=A) (s:={s with heap:=s.heap.push {cls:=.type "list",data:=.seq ([]:ak aq).toArray} }) (es:=es)
  (R:=λ(q:Result) (s':av)=>∃(h':b8) (tk:ay) (d:Drawn) (j:a8 aq) (N:ay),q=.ok (.ret (.ref s.heap.objs.size))/\s'={s with heap:=h',toks:=tk,drawn:=d} /\
   (∀b o,s.heap.get? b=aj o->h'.get? b=aj o)/\h'.get? s.heap.objs.size=aj {cls:=.type "list",dict:=ao,data:=.seq j N,slots:=#[]}/\j.toList.Perm (es.toList.map (·.2)))
  hh (hS0.at λo e=>eI _ e) s.heap.objs.size (JT c) (.ref s.heap.objs.size) 0 g
  (λh' tk d j N B nF z=>⟨h',tk,d,j,N,rfl,rfl,λb o e=>B b o (fS (dS e)) (eI _ e),nF,z⟩)
 refine mU key (λfin s' x=>?_) λe s' x=>?_
 ·cases fin with
  |done f =>
   obtain⟨h',tk,d,j,N,e,rfl,B,nF,z⟩:=x;cases e;show wpAny _ A (load s.heap.objs.size >>= _) _ _ _;refine aL (wpAny_load nF ?_);exact bG (h h' tk d j B z)
  |again U =>
   refine⟨x.1,uF x.2 λq s₂ y=>?_⟩;obtain⟨h',tk,d,j,N,rfl,rfl,B,nF,z⟩:=y;show wpAny _ A (load s.heap.objs.size >>= _) _ _ _;refine aL (wpAny_load nF ?_);exact bG (h h' tk d j B z)
 ·obtain⟨_,_,_,_,_,a,_⟩:=x;cases a
end
end PySem
namespace L2
open PySem PySem.Spec PyProof.Rows
section
variable{X:Cx}
def JR(P:bh)(w:bw)(a:aw)(ms:ak a5)(h:b8):Prop:=∃es nD,lF P w h a es/\Nums es nD/\nD.Perm ms
noncomputable def xM(ns:ak a5):ak a5:=ns.foldl step_dedup []
theorem amP(ns:ak a5):(List.range ns.length).map (λi=>ns.getD i 0)=ns:=by
 apply FU;intro i;rw[jV]
 by_cases h:i<ns.length
 ·rw[List.getElem?_range h];simp[List.getD,h]
 ·rw[KC (by simp;omega),KC (by omega)];rfl
theorem akV{P:bh}{w:bw}{a:aw}{ms:ak a5}{H:Hp}{h:b8}(x:JR P w a ms h):iG P w H h a (.ext (JR P w a ms)):=by
 refine⟨x,?_,λh1 h2 y k=>?_⟩
 ·obtain⟨es,nD,j,_⟩:=x;obtain⟨o,_,_,z,_⟩:=j;exact⟨o,z⟩
 ·obtain⟨es,nD,j,q⟩:=y;exact⟨es,nD,j.at k,q⟩
theorem aF1(d:X.calm=ax):rZ X (.type "set") (λxs H Q=>∃(a:aw) (ns:ak a5),xs=[.ref a]/\fV X.K H a (ns.map V.int)/\ns.length<4000 /\
  ∀l,H l=ao->Q (.ref l) (upd H l (.ext (JR X.prog X.w l (xM ns))))):=by
 intro aa s J H xs i Q I r h;obtain⟨a,ns,rfl,U,m,q⟩:=h;obtain⟨u,rfl,N⟩:=vals1 r;cases N;obtain⟨B,z,pl,k⟩:=I.list U;have g:c9 B ns:=intsAre_of z;have hl:B.length=ns.length:=by rw[<-z.length,lI]
 refine aF0 (I.ok.hd d) pl.isList g (by rw[mP,hl];show ns.length+1<4096;omega) λh' tk es ms hT f j c=>?_;rw[mP,hl]at j;unfold firstMet at j;rw[amP]at j;exact⟨.ref s.heap.objs.size,_,I.laid (t':=tk) (o:=.ext (JR X.prog X.w s.heap.objs.size (xM ns))) (λb o e=>c b o (dS e) e) cX (akV ⟨es,ms,hT,f,j⟩),rfl,q _ (I.aH.fresh cX)⟩
theorem Inv.drawn{aa:ak (aw×c5)}{J:St}{H:Hp}{s:av}(I:Inv X aa J H s)(d:Drawn):Inv X aa J H {s with drawn:=d} :=
 ⟨I.ok,I.os,I.bare,I.base,I.loc,I.cell,I.free,I.lV,I.pin,I.aH,I.len⟩
theorem av9:∀{l q:ak aq},q.Perm l->∀{ms:ak a5},c9 l ms->∃nD,c9 q nD/\nD.Perm ms:=by
 intro l q h
 induction h with
 |nil=>intro ms h;exact⟨ms,h,FW _⟩
 |cons x _ ih =>
  intro ms h;cases h with
  |cons n t r=>obtain⟨nD,a,b⟩:=ih r;exact⟨n::nD,.cons n t a,b.cons n⟩
 |swap x y l =>
  intro ms h;cases h with
  |cons n t r =>
   cases r with
   |cons j B r=>exact⟨j::n::_,.cons j B (.cons n t r),.swap n j _⟩
 |trans _ _ z f =>
  intro ms h;obtain⟨g,e,c⟩:=f h;obtain⟨N,d,U⟩:=z e;exact⟨N,d,U.trans c⟩
theorem aFY(G:X.calm=ax):rZ X (.builtin "sorted") (λxs H Q=>∃(d:aw) (j:ak a5),xs=[.ref d]/\H d=aj (.ext (JR X.prog X.w d j))/\j.length<4000 /\
  ∀(ms:ak a5) (l:aw),ms.Perm j->ms.Pairwise (· <= ·)->H l=ao->Q (.ref l) (upd H l (.lst (ms.map V.int)))):=by
 intro aa s J H xs T Q I r h;obtain⟨d,j,rfl,hd,W,q⟩:=h;obtain⟨u,rfl,x⟩:=vals1 r;cases x;obtain⟨⟨es,C,hT,L,K⟩,_,_⟩:=I.aH _ _ hd;have D:(4000:ay)<=bc:=by decide
 refine Calls.call_function_entry kind_sorted plain_sorted entry_sorted (args_sorted1 _) ?_;unfold Builtin.«sorted»;refine aL (m:=checkCount "sorted" 1 1 _) (bG ?_);refine aL (aE2 (A:=X.A.in1) (I.ok.hd G) hT λh' tk i acc R y=>?_);obtain⟨U,f,BN⟩:=av9 y L;have c:U.Perm j:=BN.trans K;have hl:acc.toList.length=j.length:=by
  have:∀{N:ak aq} {ns:ak a5},c9 N ns->N.length=ns.length:=by
   intro N ns h
   induction h with
   |nil=>rfl
   |cons n t _ ih=>simp[ih]
  rw[this f,c.length_eq]
 refine aL (wpAny_newList ?_ (by rw[hl];omega));have B:(h'.push (de "list" acc.toList.toArray 0)).get? h'.objs.size=aj (de "list" acc.toList.toArray 0):=gZ _ rfl;refine aL (GQ (wI slot_list_sort ⟨_,B,rfl⟩ entry_list_sort (Xl B f (by omega) λae z P k M=>⟨_,rfl,?_⟩) (args_list_sort _)));refine bG ⟨_,rfl,?_⟩;have o:Inv X aa J H {s with heap:=h',toks:=tk,drawn:=i}:=(I.kept (t':=tk) R).drawn i;have F:H h'.objs.size=ao:=o.aH.fresh cX;obtain⟨g,p⟩:∃g,((h'.push (de "list" acc.toList.toArray 0)).update h'.objs.size (Obj.mapSeq λ_=>#[])).get? h'.objs.size=aj (de "list" #[] g):=⟨_,VZ B (λ_=>#[])⟩;have v:=eI (de "list" #[] 0) (eI (de "tuple" acc.toList.toArray 0) p);obtain⟨a,S⟩:∃a,(eu (h'.push (de "list" acc.toList.toArray 0)) h'.objs.size acc.toList ae).get? h'.objs.size=aj (de "list" ae a):=⟨_,VZ v (λ_=>ae)⟩;have kp:∀b u,h'.get? b=aj u->(eu (h'.push (de "list" acc.toList.toArray 0)) h'.objs.size acc.toList ae).get? b=aj u:=λb u e=>by
  have hb:b≠h'.objs.size:=fS (dS e);unfold eu;exact(uH _ _ (dQ hb)).trans (eI _ (eI _ ((uH _ _ (dQ hb)).trans (eI _ e))))
 have hv:Vals (z.map V.int) ae.toList:=SE P;have E:z.length=j.length:=(k.trans c).length_eq;refine⟨.ref h'.objs.size,upd H h'.objs.size (.lst (z.map V.int)),o.laid (t':=tk) kp cX ?_,rfl,q z _ (k.trans c) M F⟩;exact⟨by rw[lI];omega,ae.toList,a,hv,S⟩
end
end L2
namespace PySem
open PyProof.Rows PySem.Spec
set_option maxRecDepth 100000
set_option compiler.extract_closed false
set_option genSizeOf false
set_option bootstrap.genMatcherCode false
end PySem
namespace V2
open PySem PySem.Spec PyProof.Rows L2
section
variable{X:Cx}{W:WX}{e o:bx}
@[simp] def SG(c:br)(f:Ev->Mo A):Ev->Mo A:=λY=>mb (f Y) λa Z=>match (fP Z a).bind intsOf with
 |some ns=>if ns.length<4000/\(xM ns).length<4000 then mE c ((sortI (xM ns)).map A.int) Z else ao
 |none=>ao
theorem af8{f:Ev->Mo A}{D p2 C q:dk}(c:br)(b:X.calm=ax)(N:Gl X "sorted")(B:X.mg "sorted" = ao)(M:Gl X "set")(z:X.mg "set" = ao)(he:VE X W e f)
  (U:bg [.Call (.Name "set" p2) [e] [] q] X.env=(au,b9 (.Call (.Name "set" p2) [e] [] q) X.env)::bg [] X.env:=by rfl)
  (g:bg [e] X.env=(au,b9 e X.env)::bg [] X.env:=by rfl) :
  VE X W (.Call (.Name "sorted" D) [.Call (.Name "set" p2) [e] [] q] [] C) (SG c f):=by
 obtain⟨t,p,s⟩:=he;refine⟨_,Eg (aFY b) N B boot_sorted (DJ (apN (aF1 b) M z PyProof.Rows.boot_set (DJ p HR g) (by decide) (by decide) g rfl) HR U) (by decide) (by decide) U rfl,λG n u H J k Q w r h=>?_⟩;show t J H _;refine s G n u H J k _ w r (bP.mb h λa o v T V m R j L h1=>?_);split at h1
 ·rename_i ns d;split at h1
  ·rename_i hl;rw[QN]at d;obtain⟨ds,K,I⟩:=d;obtain⟨p,P,rfl,h2,F⟩:=AV j L K;rw[Gg I F]at h2;refine⟨p,ns,rfl,h2,hl.1,λl i=>?_⟩;refine⟨l,xM ns,rfl,eL,hl.2,λms S E x y=>?_⟩;rw[Tc E x];exact HY (j.new i (.ext (JR X.prog X.w l (xM ns)))) y (WR _) (h1.ext (Ext.new (j.oQ i) _))
  ·exact False.elim h1
 ·exact False.elim h1
theorem Rh:∀{kvs:ak (Key×V)} {vs:ak (Key×aq)},KV kvs vs->Vals (kvs.map (·.2)) (vs.map (·.2))
 |_,_,.nil => .nil
 |_,_,.cons r t => .cons r.2 (Rh t)
theorem ao8{td:TE}{D af f B:dk}(L:X.calm=ax)(T:Gl X "list")(R:X.mg "list" = ao)(K:PE X o td)
  (p:bg [.Call (.Attribute o "values" af) [] [] B] X.env=[(au,b9 (.Call (.Attribute o "values" af) [] [] B) X.env)]:=by rfl)
  (E:ck o "values" X.env (b9 o X.env)=b9 o X.env:=by rfl) (C:(af.endLine==B.line)=ax:=by rfl) :
  PE X (.Call (.Name "list" D) [.Call (.Attribute o "values" af) [] [] B] [] f) (λJ H Q=>td J H λx H1=>∃a kvs,x=.ref a/\H1 a=aj (.dK kvs) /\
   ∀(l:aw),H1 l=ao->Q (.ref l) (upd H1 l (.lst (kvs.map (·.2))))):=by
 intro aa s J H Q I h;refine yB (EA I T R PyProof.Rows.boot_list ?_);refine YE ?_ p rfl;rw[p];show wpAny _ _ (spliced ((au,b9 (.Call (.Attribute o "values" af) [] [] B) X.env)::[])) _ _ s;refine LG ?_;refine Qs E C (bM (K aa s J H _ I h) λv j ⟨x,H1,m,y,f⟩=>?_);obtain⟨a,kvs,rfl,u,q⟩:=f;cases y;obtain⟨h1,h2,V⟩:=NL m (.inl ⟨kvs,.inl u⟩);obtain⟨z,_,N,rel,g⟩:=JA m.aH u;refine⟨"dict", "dict.values",PySem.F.plainAttrs_dict,PySem.F.slot_dict_values,PySem.F.type_dict_values,h1,h2,RP rfl (PySem.evalArgs_none ?_)⟩;refine PM PySem.F.slot_dict_values g.typeIs PySem.F.entry_dict_values (PySem.F.args_dict_values_1 _) (meets_dict_values (kE X.prog X.w) a V) ⟨⟨N,g⟩,?_⟩;refine RO ?_;have U:Inv X aa J H1 {j with heap:=j.heap.push {cls:=.type "dict_values",data:=.fields #[.ref a]} }:=m.kept (t':=j.toks) λb o e=>eI _ e;obtain⟨ep,A⟩:=g.dictAt;have G:kvs.length=N.length:=rel.length;refine PySem.W.kdl_call (s:={j with heap:=j.heap.push {cls:=.type "dict_values",data:=.fields #[.ref a]} }) (PySem.W.kdl_values (knd:=kE X.prog X.w) (r:=j.heap.objs.size) (d:=a) (kvs:=N) (ep:=ep)) (U.ok.hd L) ⟨⟨_,gZ _ rfl,rfl,rfl⟩,A.push _⟩ (by omega) λh' tk acc c t hS n=>?_;generalize yU:({j with heap:=j.heap.push {cls:=.type "dict_values",data:=.fields #[.ref a]} }:av)=s2 at U t hS;have M:acc.toList=N.map (·.2):=by
  apply FU;intro i
  by_cases hi:i<acc.toList.length
  ·obtain⟨k,P⟩:=n.2 i _ (by rw[<-mS];exact fL hi);rw[fL hi,jV,P];rfl
  ·have:=n.1;rw[gJ]at hi;rw[KC (by rw[gJ];omega),KC (by rw[lI];omega)]
 have hv:Vals (kvs.map (·.2)) acc.toList:=by rw[M];exact Rh rel
 have S:=U.laid (t':=tk) (o:=.lst (kvs.map (·.2))) t cX ⟨by rw[lI];omega,acc.toList,c,hv,by simpa using hS⟩;exact⟨.ref s2.heap.objs.size,_,S,rfl,q _ (U.aH.fresh cX)⟩
theorem Rv{l:aw}:∀(as:ak aw) (ts:ak (ak V)) (H:Hp),l∉as->uR H as ts l=H l
 |[],ts,H,_=>by cases ts <;> rfl
 |_::_,[],H,_=>rfl
 |b::as,t::ts,H,h=>by
  show uR (upd H b (.tup t)) as ts l=H l;rw[Rv as ts _ λz=>h (fY _ z),bE λz=>h (by rw[z];exact List.mem_cons_self ..)]
end
@[simp] def jE(cs:ak ba)(i:ay)(f:ba)(k:ak (Key×A)->Mo A):Ev->Mo A:=λY Z=>match uX cs i f Y Z with
 |some (_,_,_,.bA kvs)=>k kvs Z
 |_=>ao
section
variable{X:Cx}{W:WX}{e:bx}{i:ay}{f:ba}{cs:ak ba}{mK:dk}
theorem RZ{te:TE}{k:ak (Key×A)->Mo A}{R:V->Hp->VK->Prop}(s:fW X.K (Den X.K) W te (eE i))(g:eQ X.K cs f)
  (e:∀G O Z H J b vs kvs Q,Wd X.K G O Z H->H b=aj (.dK vs)->vs.map (·.1)=kvs.map (·.1)->bC X.K G O (vs.map (·.2)) (kvs.map (·.2))->bP X.K (Den X.K) W G O J Q (k kvs Z)->R (.ref b) H Q) :
  fW X.K (Den X.K) W (λJ H Q=>MB X.K te f J H λx H1=>R x H1 Q) (jE cs i f k):=by
 intro G O Z H J q Q w r h;unfold jE at h;split at h
 ·rename_i s0 cls fs kvs eo;obtain⟨h1,h2,p,o⟩:=Vw eo;show te J H _;refine s G O Z H J q _ w r ?_;show bP X.K (Den X.K) W G O J _ (need (q[i]?).join Z);rw[h1];intro v H1 L j N z I;obtain⟨a,C,F,U,rfl,ha,M,t,m,n⟩:=z.ins h2 I;obtain⟨T,B,d,c⟩:=g cls p;rw[t]at B;cases B;obtain⟨u,l,b,vs,rfl,S,P,E,D,y⟩:=n.look o;exact⟨a,C,F,U,.ref b,rfl,m,d,c,l,e L j Z H1 J b vs kvs Q z E D y (h.ext N)⟩
 ·exact h.elim
theorem agH{N B:dk}(he:VE X W e (eE i))(c:eQ X.K cs f)(U:Gl X "len")(hm:X.mg "len" = ao)
  (hb:ck e f X.env (b9 e X.env)=b9 e X.env:=by rfl)
  (q:bg [.Attribute e f mK] X.env=(au,b9 (.Attribute e f mK) X.env)::bg [] X.env:=by rfl) :
  VE X W (.Call (.Name "len" N) [.Attribute e f mK] [] B) (jE cs i f λkvs=>ret (.int kvs.length)):=by
 obtain⟨t,p,s⟩:=he;refine⟨_,Eg aF5 U hm PySem.boot_len (DJ (MO p hb) HR q) (by decide) (by decide) q rfl,?_⟩;refine RZ (R:=λx H Q=>∃a kvs,[x]=[V.ref a]/\H a=aj (.dK kvs)/\Q (.int kvs.length) H) s c λG z d H J b j kvs Q w hb k1 g h=>?_;have hl:j.length=kvs.length:=by have:=c3 List.length k1;simpa using this
 exact⟨b,j,rfl,hb,h _ H G z (Ext.refl _ _) w (by simp only[Den];rw[hl])⟩
theorem Ag(c:br){m af k q:dk}(D:X.calm=ax)(he:VE X W e (eE i))(v:eQ X.K cs f)(u:Gl X "list")(hm:X.mg "list" = ao)
  (hb:ck e f X.env (b9 e X.env)=b9 e X.env:=by rfl)
  (r:bg [.Call (.Attribute (.Attribute e f mK) "items" af) [] [] q] X.env=[(au,b9 (.Call (.Attribute (.Attribute e f mK) "items" af) [] [] q) X.env)]:=by rfl)
  (n:ck (.Attribute e f mK) "items" X.env (b9 (.Attribute e f mK) X.env)=b9 (.Attribute e f mK) X.env:=by rfl) (g:(af.endLine==q.line)=ax:=by rfl) :
  VE X W (.Call (.Name "list" m) [.Call (.Attribute (.Attribute e f mK) "items" af) [] [] q] [] k) (jE cs i f λkvs=>mE c (kvs.map mG)):=by
 obtain⟨t,p,s⟩:=he;refine⟨_,ao9 D u hm (MO p hb) r n g,?_⟩;refine RZ (R:=λx z Q=>∃a kvs,x=.ref a/\z a=aj (.dK kvs) /\
   ∀(j:ak aw) (l:aw),j.length=kvs.length->j.Nodup->l∉j->(∀b∈j,z b=ao)->z l=ao->Q (.ref l) (upd (uR z j (kvs.map λN=>[kV N.1,N.2])) l (.lst (j.map V.ref)))) s v λG U F H J b B kvs Q w hb k1 o h=>?_
 refine⟨b,B,rfl,hb,λj l hl hn E hb C=>?_⟩;obtain⟨I,y,d,A⟩:=Ry j B kvs G H U w hl hn hb k1 o;exact HY d (by rw[Rv j _ _ E];exact C) A (h.ext y)
end
theorem aHD{K:bj}{mg:ba->ar aq}{h:b8}{rk m q:ba}{st:b7}{R f:aw}{B:aq}{od U:ar aw}{N:a8 (ar aq)}{kV doc z j ct:aq}(X:K.In h)(G:h.Ns az mg)(n:cw K az rk=aj (aj (.ref R)))
  (r:PySem.W.readsIn K R (.type "type")=ax) (fi:PySem.W.findCls K (.ref R) (.type "type") m=aj (.val (.ref f))) (ga:specialIn K (.ref R) "__getattribute__" = aj (aj (.builtin "type.__getattribute__")))
  (l:K.lookup f=aj ⟨B,od,.func (ea m q (iL st) (eM st) (aR st) .none kV doc z U j ct),N⟩) (c:codeIn K j q=ax) (k:keepIn K (.ref f)=ax):ZD K mg rk m q st :=
 ⟨R,f,_,mg_of X G n,⟨r,fi,ga,k⟩,OW l c k⟩
end V2
namespace L2
open PySem PySem.Spec PyProof.Rows
structure aeC(K:bj)(C:aw):Prop where
 cls:nI K C
 ha:cg K (.ref C) "__class__" = aj (aj (.builtin "object.__class__"))
 hn:specialIn K (.builtin "object.__class__") "__get__" = aj (aj (.builtin "getset_descriptor.__get__"))
 tk:takesIn K (.builtin "object.__class__")=aj ax
 mro:mroIn K C (.type "object")=aj ax
section
variable{X:Cx}
theorem aF8:rZ X (.builtin "isinstance") (λxs H Q=>∃(a C D dx:aw) (fs:ak (ba×V)) (b:br),xs=[.ref a,.ref D]/\H a=aj (.ins C dx fs)/\aeC X.K C/\et X.K (.ref C) (.ref D)=aj b/\Q (.bl b) H):=by
 intro aa s J H xs c Q I r h;obtain⟨a,C,D,dx,fs,b,rfl,U,iso,e,q⟩:=h;obtain⟨u,v,rfl,B,j⟩:=vals2 r;obtain rfl:u=.ref a:=B;obtain rfl:v=.ref D:=j;obtain⟨d,z,ne,ob,i,n,f,g⟩:=I.aH a _ U;obtain⟨od,hd⟩:∃od,s.heap.get? dx=aj od:=by
  obtain⟨o,_,_,N,_⟩:=n;exact⟨o,N⟩
 have Ω:=PySem.W.kitx_own (x:=a) (D:=C) (ox:=instObj C dx) (od:=od) (iso.cls.get _) iso.cls.hd iso.ha iso.hn iso.tk iso.mro;exact d9 Ω I.fF ⟨ob,rfl,rfl,hd⟩ e (by intro z;cases z) λtk=>⟨.bl b,H,I.tok tk,rfl,q⟩
end
end L2
namespace V2
open PySem PySem.Spec PyProof.Rows L2
def Nv(K:bj)(cs:ak ba):Prop:=∀c∈cs,∀d∈cs,∃C D,cw K az c=aj (aj (.ref C))/\cw K az d=aj (aj (.ref D))/\aeC K C/\et K (.ref C) (.ref D)=aj (decide (c=d))
theorem at4{K:bj}{C:aw}:et K (.ref C) (.ref C)=aj ax:=by
 unfold et;rw[a9 (by simp)]
theorem av5{K:bj}{c:ba}{C:aw}(n:cw K az c=aj (aj (.ref C)))(L:nI K C)
  (ha:cg K (.ref C) "__class__" = aj (aj (.builtin "object.__class__"))) (hn:specialIn K (.builtin "object.__class__") "__get__" = aj (aj (.builtin "getset_descriptor.__get__")))
  (tk:takesIn K (.builtin "object.__class__")=aj ax) (mro:mroIn K C (.type "object")=aj ax):Nv K [c]:=λa q b j=>by
 simp only[lN]at q j;subst q;subst j;exact⟨C,C,n,n,⟨L,ha,hn,tk,mro⟩,by rw[at4];simp⟩
structure Ob(K:bj)(mg:ba->ar aq)(x:ba):Prop where
 ex:∃C,mg x=aj (.ref C)/\cw K az x=aj (aj (.ref C))
section
variable{X:Cx}{W:WX}{x:ba}{pos:dk}
theorem agD(h:Ob X.K X.mg x)(j:Gl X x)(hd:(x==("__debug__" : ba))=au:=by decide):VE X W (.Name x pos) (cG x):=by
 obtain⟨C,h1,h2⟩:=h.ex;exact Rc j h1 h2 hd
@[simp] noncomputable def Jd(cs:ak ba)(as:ak A):Mo A:=λZ=>match as with
 | [.aI s,.gl d]=>(match Z[s]? with
  |some (.ins c _)=>if c∈cs/\d∈cs then aj (.ok (.bl (decide (c=d))),Z)else ao
  | _=>ao)
 |_=>ao
theorem aGC{cs:ak ba}(T:Nv X.K cs):zZ X W (.builtin "isinstance") (Jd cs):=by
 refine⟨_,aF8,?_⟩;intro G N m H J n r Q w d h;unfold Jd at h;split at h
 ·rename_i s k;split at h
  ·rename_i c fs eo;split at h
   ·rename_i z;obtain⟨x,y,rfl,l,B⟩:=PF d;obtain⟨a,C,i,U,rfl,ha,o,g,b,p⟩:=w.ins eo l;simp only[Den]at B;obtain⟨D,f,rfl⟩:=B;obtain⟨u,t,q,j,iso,e⟩:=T c z.1 k z.2;rw[g]at q;cases q;rw[f]at j;cases j;exact⟨a,C,D,i,U,_,rfl,b,iso,e,h _ H G N (Ext.refl _ _) w (by simp only[Den])⟩
   ·exact False.elim h
  ·exact False.elim h
 ·exact False.elim h
end
noncomputable def uE(kvs:ak (Key×A))(k:Key):ak (Key×A):=kvs.filter λj=>decide (j.1≠k)
section
variable{K:bj}{G:Hp}{O:ak aw}
theorem abR{k:Key}:∀{j:ak (Key×V)} {kvs:ak (Key×A)},j.map (·.1)=kvs.map (·.1)->bC K G O (j.map (·.2)) (kvs.map (·.2))->(sW j k).map (·.1)=(uE kvs k).map (·.1)/\bC K G O ((sW j k).map (·.2)) ((uE kvs k).map (·.2))
 |[],[],_,_=>⟨rfl,.nil⟩
 |[],_::_,h,_=>by simp at h
 |_::_,[],h,_=>by simp at h
 |p::j,q::kvs,h,d=>by
  simp only[bU,qT]at h;obtain⟨x,r,e,l,i⟩:=d.pF;simp only[bU,qT]at e;obtain⟨g,f⟩:=e;obtain⟨c,b⟩:=abR (k:=k) h.2 (f ▸ i)
  by_cases B:q.1=k
  ·have N:p.1=k:=h.1.trans B;have a:sW (p::j) k=sW j k:=by simp[sW,N]
   have U:uE (q::kvs) k=uE kvs k:=by simp[uE,B]
   rw[a,U];exact⟨c,b⟩
  ·have N:¬p.1=k:=λz=>B (h.1.symm.trans z);have a:sW (p::j) k=p::sW j k:=by simp[sW,N]
   have U:uE (q::kvs) k=q::uE kvs k:=by simp[uE,B]
   rw[a,U];simp only[bU];exact⟨by rw[h.1,c],.cons (by rw[g];exact l) b⟩
end
section
variable{X:Cx}{W:WX}{o e:bx}{i:ay}{f:ba}{cs:ak ba}{fo fi:Ev->Mo A}{pos af mK:dk}
@[simp] def Jg(o k:A):Mo A:=λZ=>match lW Z o,mF k with
 | some (c,kvs),aj key=>(match hZ kvs key with
  |some a=>aj (.ok a,Z.set c (.bA (uE kvs key)))
  | none=>ao)
 |_,_=>ao
open Classical in
@[simp] noncomputable def GZ(fo fi:Ev->Mo A):Ev->Mo A:=λY=>mb (fo Y) λo Z=>if Ge Z o then mb (fi Y) (λk=>Jg o k) Z else ao
theorem agI(T:VE X W o fo)(hi:VE X W e fi)(m:M1 X o "pop" af e pos):VE X W (.Call (.Attribute o "pop" af) [e] [] pos) (GZ fo fi):=by
 obtain⟨t,P,K⟩:=T;obtain⟨u,p2,s2⟩:=hi;refine⟨_,apF P p2 m,λG n A H J N Q w r h=>?_⟩;refine K G n A H J N _ w r (bP.mb h λx z v H1 G1 q D b l h1=>?_);split at h1
 ·rename_i hd;obtain⟨k0,atX,e0⟩:=hd;obtain⟨p,E,rfl,hk,g,M,q2,q3⟩:=BX b l e0;refine⟨p,rfl,.inl ⟨E,.inl M⟩,?_⟩;refine s2 G1 q z H1 J N _ b (r.ext D) (bP.mb h1 λy s u H2 G2 j C U d2 h2=>?_);unfold Jg at h2;split at h2
  ·rename_i c B key e1 e2;split at h2
   ·rename_i a V;obtain⟨p',R,BD,BI,g',L,i,f⟩:=BX U (l.ext C) e1;cases BD;obtain⟨d,I,F⟩:=(LR i f).1 a V;obtain⟨k1,S⟩:=abR (k:=key) i f;rw[NH d2 e2];exact⟨R,key,d,L,rfl,I,h2 d _ G2 j (Ext.refl _ _) (U.put (c:=.bA (uE B key)) BI g' ⟨g',_,eL,k1,S⟩) F⟩
   ·exact False.elim h2
  ·exact False.elim h2
 ·exact False.elim h1
@[simp] def GY(neg:br)(cs:ak ba)(i:ay)(f:ba)(fi:Ev->Mo A):Ev->Mo A:=λY=>mb (fi Y) λk=>jE cs i f (λkvs Z=>match mF k with
 |some key=>aj (.ok (.bl (if neg then !(hZ kvs key).isSome else(hZ kvs key).isSome)),Z)
 | none=>ao) Y
theorem akN{te ty:TE}{neg:br}(E:eQ X.K cs f)(h1:fW X.K (Den X.K) W ty fi)(h2:fW X.K (Den X.K) W te (eE i)):fW X.K (Den X.K) W (if neg then aiG ty (MB X.K te f)else Sn ty (MB X.K te f)) (GY neg cs i f fi):=by
 have key:∀G z B H J U (Q:VK),Wd X.K G z B H->gH X.K G z J U->bP X.K (Den X.K) W G z J Q (GY neg cs i f fi U B)->ty J H λy g=>MB X.K te f J g λx c=>∃a o,x=.ref a/\qX c a y o/\Q (.bl (if neg then !o.isSome else o.isSome)) c:=by
  intro G z B H J U Q w r h;refine h1 G z B H J U _ w r (bP.mb h λy e v g L d s t I q=>?_);refine RZ (R:=λx c Q=>∃a o,x=.ref a/\qX c a v o/\Q (.bl (if neg then !o.isSome else o.isSome)) c) h2 E (k:=λj B=>match mF y with
   |some key=>if kV key=v then aj (.ok (.bl (if neg then !(hZ j key).isSome else(hZ j key).isSome)),B)else ao
   | none=>ao) (λG z B H J b l j Q w hb k1 A h=>?_) L d e g J U Q t (r.ext s) ?_
  ·cases N:mF y with
   |none=>rw[N]at h;exact h.elim
   |some key =>
    rw[N]at h;simp only at h;split at h
    ·rename_i n;refine⟨b,lK l key,rfl,by rw[<-n];exact qX.k hb,?_⟩;have F:(lK l key).isSome=(hZ j key).isSome:=by
      obtain⟨D,C⟩:=LR (k:=key) k1 A;cases m:hZ j key with
      |none=>simp[C m]
      |some a=>obtain⟨M,u,_⟩:=D a m;simp[u]
     rw[F];exact h _ H G z (Ext.refl _ _) w (by simp only[Den])
    ·exact h.elim
  ·unfold jE at q ⊢;split
   ·rename_i s0 cls fs j eo;rw[eo]at q;simp only at q;cases N:mF y with
    |none=>rw[N]at q;exact q.elim
    |some key =>
     rw[N]at q;simp only at q ⊢;rw[a9 (NH I N).symm];exact q
   ·rename_i p;split at q
    ·rename_i eo;exact(p _ _ _ _ eo).elim
    ·exact q
 cases neg with
 |true=>exact key
 |false=>exact key
theorem afY(z:X.A.units+1<e4)(hi:VE X W e fi)(B:VE X W o (eE i))(N:eQ X.K cs f)(hb:ck o f X.env (b9 o X.env)=b9 o X.env:=by rfl)(h1:dq .In (.Attribute o f mK)=au:=by rfl):VT X W (.Compare e [.In] [.Attribute o f mK] pos) (cA (GY au cs i f fi)):=by
 obtain⟨t,q,j⟩:=hi;obtain⟨u,p2,s2⟩:=B;exact⟨_,anW (apT z q (MO p2 hb)) h1,Bv (akN (neg:=au) N j s2)⟩
end
section
variable{X:Cx}{W:WX}{e:bx}{i:ay}{f:ba}{cs:ak ba}{mK:dk}
theorem agG(c:br){U af N j:dk}(o:X.calm=ax)(he:VE X W e (eE i))(n:eQ X.K cs f)(m:Gl X "list")(hm:X.mg "list" = ao)
  (hb:ck e f X.env (b9 e X.env)=b9 e X.env:=by rfl)
  (k:bg [.Call (.Attribute (.Attribute e f mK) "values" af) [] [] j] X.env=[(au,b9 (.Call (.Attribute (.Attribute e f mK) "values" af) [] [] j) X.env)]:=by rfl)
  (d:ck (.Attribute e f mK) "values" X.env (b9 (.Attribute e f mK) X.env)=b9 (.Attribute e f mK) X.env:=by rfl) (B:(af.endLine==j.line)=ax:=by rfl) :
  VE X W (.Call (.Name "list" U) [.Call (.Attribute (.Attribute e f mK) "values" af) [] [] j] [] N) (jE cs i f λkvs=>mE c (kvs.map (·.2))):=by
 obtain⟨t,p,s⟩:=he;refine⟨_,ao8 o m hm (MO p hb) k d B,?_⟩;refine RZ (R:=λx q Q=>∃a kvs,x=.ref a/\q a=aj (.dK kvs)/\∀(l:aw),q l=ao->Q (.ref l) (upd q l (.lst (kvs.map (·.2))))) s n λG r u H J b z kvs Q w hb k1 g h=>?_;exact⟨b,z,rfl,hb,λl hl=>HY w hl g h⟩
end
section
variable{P:bh}{w:bw}{K:bj}{mg:ba->ar aq}{base:b8}
theorem cP.o{x:ba}{st:b7}{N ps:ak ba}{k:ay}{b:MS}(h:HasFn K mg x st)(S:cY N ps (aR st))
  (q:∀{f:aw} {j:aq} {A:bu} {outer:ak Env} {s:av} {H:Hp} {E:XK},cL k (A.deeper (cy x (aR st) s.heap.objs.size f j)) ->
   gY (nU P w K mg base N x (aR st) f j A outer s H E) (λ_=>E) (eM st) b)
  (bind:∀(kV doc pm:aq) (an:ar aw) (j ct:aq) (us:ak aq),us.length=ps.length->c7 (ea x x (iL st) (eM st) (aR st) .none kV doc pm an j ct) ⟨us,[]⟩=pure (ps.zip us):=by exact λ_ _ _ _ _ _ us hl=>(by first|exact Aq us hl λ_=>rfl|exact AH us hl λ_ _=>rfl|exact Ap us hl λ_ _ _=>rfl|exact Ao us hl λ_ _ _ _=>rfl|exact us5 us hl λ_ _ _ _ _=>rfl)) :
  cP P w K mg base x (k+1) ps (cV N.length b):=cP.of h S bind λ_ _ _ _ _ _ _=>q
theorem dF.o{cls m qual:ba}{st:b7}{N ps:ak ba}{k:ay}{b:MS}(h:pA K mg cls m qual st)(S:cY N ps (aR st))
  (q:∀{f:aw} {j:aq} {A:bu} {outer:ak Env} {s:av} {H:Hp} {E:XK},cL k (A.deeper (cy qual (aR st) s.heap.objs.size f j)) ->
   gY (nU P w K mg base N qual (aR st) f j A outer s H E) (λ_=>E) (eM st) b)
  (bind:∀(kV doc pm:aq) (an:ar aw) (j ct:aq) (us:ak aq),us.length=ps.length->c7 (ea m qual (iL st) (eM st) (aR st) .none kV doc pm an j ct) ⟨us,[]⟩=pure (ps.zip us):=by exact λ_ _ _ _ _ _ us hl=>(by first|exact Aq us hl λ_=>rfl|exact AH us hl λ_ _=>rfl|exact Ap us hl λ_ _ _=>rfl|exact Ao us hl λ_ _ _ _=>rfl)) :
  dF P w K mg base cls m (k+1) ps.length [] (cV N.length b):=dF.of h S bind λ_ _ _ _ _ _ _=>q
end
section
variable{X:Cx}{W:WX}
theorem fN(i:ay){x:ba}{pos:dk}(z:decide X.N.Nodup=ax:=by kernel_rfl)(hi:X.N[i]?=aj x:=by rfl)(j:Loc X.env.scope x:=by first|exact .inl rfl|exact .inr rfl)(q:X.fn x=ax\/X.env.scope.names.lookup x=aj .local:=by first|exact .inl rfl|exact .inr rfl|assumption):VG X W (.Name x pos) (gN i):=af7 (El z) hi j q
theorem cM(i:ay){x:ba}{e:bx}{fe:Ev->Mo A}{pos pos':dk}(he:VE X W e fe)(B:decide X.N.Nodup=ax:=by kernel_rfl)(hi:X.N[i]?=aj x:=by rfl)(j:Loc X.env.scope x:=by first|exact .inl rfl|exact .inr rfl)(q:ew e (aj (.Name x pos')) pos.line X.env=pure au:=by rfl)(z:X.fn x=ax\/X.env.scope.names.lookup x=aj .local:=by first|exact .inl rfl|exact .inr rfl|assumption) :
  VS X W (.Assign [.Name x pos'] e pos) (bK fe (gN i)):=af2 (El B) hi j he q z
theorem SD{elt tg iter:bx}{ifs:ak bx}{scope:cq}{pos:dk}{fi:Ev->Mo Src}{g:A->MS}{c:Ev->Mo br}{e:Ev->Mo A}(q:br)(j:ak ba)(js:ak ay)(hi:VI X W tg iter fi)
  (hb:∀{cl C s H fp},VG (kN X scope j js cl C s H fp) tQ tg g/\QH (kN X scope j js cl C s H fp) tQ ifs c/\VE (kN X scope j js cl C s H fp) tQ elt e)
  (B:X.calm=ax:=by rfl) (ok:Fs scope X.env.scope X.N js=ax:=by kernel_rfl)
  (z:∀x,dm iter X.env x=pure x:=by intro _;rfl):VE X W (.ListComp elt [⟨tg,iter,ifs,0⟩] scope pos) (wN q j.length js fi g c e):=agB q j js B (.of _ _ rfl rfl ok) hi (λ_ _ _ _ _=>hb) z
end
end V2
namespace M
open PySem V2
noncomputable section
def XO:MS :=
 (aQ (sH ["Gaps"] "keep" aN bD)
  (aQ (sH ["Gaps"] "many" aN dC)
  (sH ["Gaps"] "taken" aN dC)))
def RK:ak A->Mo A:=cV 2 XO
def Le:MS :=
 (fO (cA (aC vL (aC cF (eY ["Gaps"] "many" aN) bD) (cI 1000000000)))
   (λ_ _=>ao)
   iC)
def RJ:ak A->Mo A:=cV 2 Le
def Lf:MS :=
 (cR (eY ["Gaps"] "many" aN))
def qW:ak A->Mo A:=cV 1 Lf
def Li:MS :=
 (cR (aX (Jd ["Gaps"]) (aB bD (aB (cG "Gaps") a0))))
def RL:ak A->Mo A:=cV 2 Li
def JJ:Ev->Mo A :=
 (aC vL (aC bO aN mW) bD)
def PQ:MS :=
 (aQ (fO (kB (cA (aC qM bD bL)) (cA (aC vL bD (aC bO aN dC))))
   (Dp "NoPlace" (aB (cS "the places go from 1 to the size") a0))
   iC)
  (aQ (bK (aC bO aN mV) (gN 2))
  (aQ (bK (aC cF bD (aC (oS) (aC cF (aC bO aN bL) bL) mW)) (gN 3))
  (cR (aC bO (aC bO bR (aC (rH) (GX 0 "so_manieth" ⟨116,40,116,73⟩ (UI "so_manieth") [3] (λns a=>vM (tT JJ ns) a) bR) bL)) dC)))))
def rX:ak A->Mo A:=cV 4 PQ
def XT:MS :=
 (aQ (kL (aX (bS 2 RK) (aB aN (aB bD a0))))
  (aQ (yG ["Gaps"] 0 "newest" wQ)
  (yG ["Gaps"] 0 "laid" wQ)))
def RM:ak A->Mo A:=cV 2 XT
def Ln:MS :=
 (cR (aX (bS 1 RD) (aB (jE ["Gaps"] 0 "newest" λkvs=>mE au (kvs.map mG)) a0)))
def CP:ak A->Mo A:=cV 1 Ln
def XR:MS :=
 (aQ (uU 0 "laid" (bK (aX (bS 2 QZ) (aB (aX (bS 2 CN) (aB (GZ (eY ["Gaps"] "laid" aN) bR) (aB bD a0))) (aB (eY ["Gaps"] "keep" aN) a0))) (gN 1)))
   (bK (aC cF bR bL) (gN 2)))
def XS:Ev->Mo br :=
 (cA (GY au ["Gaps"] 0 "laid" bR))
def Lo:MS :=
 (aQ (λY Z=>nG XS XR ((λ_ _=>1000000) Y Z) Y Z)
  (uU 0 "laid" (yH bD (eY ["Gaps"] "laid" aN) bR)))
def CQ:ak A->Mo A:=cV 3 Lo
def Lk:MS :=
 (cR (aC cF (lD au (aB (cH "newest_pouch" [("Gaps",bX 1 [] CP)] aN a0) a0)) (jE ["Gaps"] 0 "laid" λkvs=>mE au (kvs.map (·.2)))))
def wF:ak A->Mo A:=cV 1 Lk
def QC:MS :=
 (aQ (uU 0 "newest" (yH (aC cF (CZ (eY ["Gaps"] "newest" aN) bD dC) bR) (eY ["Gaps"] "newest" aN) bD))
  (fO (cA (aC vL (jE ["Gaps"] 0 "newest" λkvs=>ret (.int kvs.length)) (eY ["Gaps"] "keep" aN)))
   (aQ (kL (cH "lay" [("Gaps",bX 3 [] CQ)] aN (aB (cH "newest_pouch" [("Gaps",bX 1 [] CP)] aN a0) (aB dC a0))))
   (yG ["Gaps"] 0 "newest" wQ))
   iC))
def GH:ak A->Mo A:=cV 3 QC
def XQ:MS :=
 (bK (aX (bS 2 CN) (aB bD (aB bR a0))) (gN 1))
def Lj:MS :=
 (aQ (bK (aX (bS 0 RH) a0) (gN 1))
  (aQ (iT (jD (cH "parts" [("Gaps",bX 1 [] wF)] aN a0)) (gN 2) XQ)
  (cR bD)))
def uJ:ak A->Mo A:=cV 3 Lj
def acW:Ev->Mo A :=
 (wN au 1 [] (jD (aC bO bR mV)) (gN 0) AB (aC bO aN dC))
def QE:MS :=
 (kL (pZ Jf bD (aB acW a0)))
def Lp:MS :=
 (aQ (bK (lD ax a0) (gN 1))
  (aQ (iT (jD (cH "parts" [("Gaps",bX 1 [] wF)] aN a0)) (gN 2) QE)
  (cR (wO 1))))
def KW:ak A->Mo A:=cV 3 Lp
def Ll:Ev->Mo A :=
 (wN au 1 [] (jD (cH "parts" [("Gaps",bX 1 [] wF)] aN a0)) (gN 0) AB (aC bO aN bL))
def Lm:MS :=
 (cR (aX OT (aB Ll a0)))
def zW:ak A->Mo A:=cV 1 Lm
def XN:MS :=
 (aQ (fO (cA (aC qM bR bL))
   (λ_ _=>ao)
   iC)
  (aQ (kL (cH "look_room" [("Gaps",bX 2 [] RJ)] aN (aB bR a0)))
  (aQ (kL (cH "take" [("Gaps",bX 3 [] GH)] aN (aB bD (aB bR a0))))
  (aQ (sH ["Gaps"] "many" aN (aC cF (eY ["Gaps"] "many" aN) bR))
  (sH ["Gaps"] "taken" aN (aC cF (eY ["Gaps"] "taken" aN) bL))))))
def KS:ak A->Mo A:=cV 3 XN
def Ld:MS :=
 (cR (SG ax (cH "kept" [("Gaps",bX 1 [] KW)] aN a0)))
def KU:ak A->Mo A:=cV 1 Ld
def QB:MS :=
 (kL (cH "lay" [("Gaps",bX 3 [] CQ)] aN (aB nL (aB eP a0))))
def QA:MS :=
 (kL (cH "take" [("Gaps",bX 3 [] GH)] aN (aB tL (aB wJ a0))))
def Lh:MS :=
 (aQ (bK (jE ["Gaps"] 1 "laid" λkvs=>mE au (kvs.map mG)) (gN 2))
  (aQ (bK (jE ["Gaps"] 1 "newest" λkvs=>mE au (kvs.map mG)) (gN 3))
  (aQ (iT (jD bR) (jG 2 (dN (gN 4) (dN (gN 5) jR))) QB)
  (iT (jD cQ) (jG 2 (dN (gN 6) (dN (gN 7) jR))) QA))))
def ZJ:ak A->Mo A:=cV 8 Lh
def QD:MS :=
 (cR (aX (bS 2 rX) (aB (cH "pouch" [("Gaps",bX 1 [] uJ)] aN a0) (aB bD a0))))
def xX:ak A->Mo A:=cV 2 QD
def Kw:Ev->Mo A :=
 (wN au 1 [] (jD (aC bO cQ mV)) (gN 0) AB (aC bO aN dC))
def Kx:MS :=
 (aQ (bK (cH "pouch" [("Gaps",bX 1 [] uJ)] aN a0) (gN 3))
  (aQ (bK (aX (bS 2 rX) (aB cQ (aB bR a0))) (gN 4))
  (aQ (bK (aX (bS 2 zV) (aB bD (aB eP a0))) (jG 2 (dN (gN 5) (dN (gN 6) jR))))
  (aQ (bK (aC (oS) (aC cF (aC bO cQ bL) bL) mW) (gN 7))
  (aQ (fO (kB (cA (aC (vK ax) eP Kw)) (cA (aC iK tL nL)))
   (cR (cB au))
   iC)
  (cR (HA BP BP (aC (rH) (aC cF nL bL) wJ) bR (aC cF tL wJ))))))))
def ZI:ak A->Mo A:=cV 8 Kx
def Lg:MS :=
 (aQ (fO (kB (sF (cA (cH "same_kind" [("Gaps",bX 2 [] RL)] aN (aB bD a0)))) (cA (aC qL (eY ["Gaps"] "keep" bD) (eY ["Gaps"] "keep" aN))))
   (λ_ _=>ao)
   iC)
  (aQ (kL (cH "look_room" [("Gaps",bX 2 [] RJ)] aN (aB (eY ["Gaps"] "many" bD) a0)))
  (aQ (kL (cH "take_in" [("Gaps",bX 2 [] ZJ)] aN (aB bD a0)))
  (aQ (sH ["Gaps"] "many" aN (aC cF (eY ["Gaps"] "many" aN) (eY ["Gaps"] "many" bD)))
  (sH ["Gaps"] "taken" aN (aC cF (eY ["Gaps"] "taken" aN) (eY ["Gaps"] "taken" bD)))))))
def GG:ak A->Mo A:=cV 2 Lg
def Lb:aw->Exc->MS :=
 λp e=>(aQ (bK (Rp (aX (OV p (rA ["NoPlace", "NoRow", "NoTimes", "Unlike"] ["RankError", "NoRow", "NoPlace", "NoPouch", "NoSize", "Wrong", "NoTimes", "Unlike", "NoText"] e.cls) (AD ["NoPlace", "NoRow", "NoTimes", "Unlike"] e.cls)) (aB cQ (aB (kK (aB (cG "NoPouch") (aB (cG "NoRow") (aB (cG "NoSize") (aB (cG "NoText") (aB (cG "NoTimes") (aB (cG "Unlike") (aB (cG "Wrong") a0)))))))) a0)))) (gN 4))
   (bK (kK (aB (cS "none") (aB (yD eP (yD (aX (OV p (rA ["NoPlace", "NoRow", "NoTimes", "Unlike"] ["RankError", "NoRow", "NoPlace", "NoPouch", "NoSize", "Wrong", "NoTimes", "Unlike", "NoText"] e.cls) (AD ["NoPlace", "NoRow", "NoTimes", "Unlike"] e.cls)) (aB cQ (aB (cG "RankError") a0))) (aX (OV p (rA ["NoPlace", "NoRow", "NoTimes", "Unlike"] ["RankError", "NoRow", "NoPlace", "NoPouch", "NoSize", "Wrong", "NoTimes", "Unlike", "NoText"] e.cls) (AD ["NoPlace", "NoRow", "NoTimes", "Unlike"] e.cls)) (aB cQ (aB (cT "ValueError") a0))))) a0))) (gN 2)))
def PZ:MS :=
 (bK (kK (aB (cS "told") (aB (cH "so_manieth" [("Gaps",bX 2 [] xX)] aN (aB bD a0)) a0))) (gN 2))
def vT:MS :=
 (aQ (AO 3 (λz=>rA ["NoPlace", "NoRow", "NoTimes", "Unlike"] ["RankError", "NoRow", "NoPlace", "NoPouch", "NoSize", "Wrong", "NoTimes", "Unlike", "NoText"] z "NoPlace" == aj ax) PZ Lb)
  (cR bR))
def CO:ak A->Mo A:=DP (cV 5 vT)
def Kv:MS :=
 (aQ (bK (aX (bS 2 CO) (aB aN (aB bR a0))) (gN 3))
  (aQ (fO (kB (cA (aC qM bR bL)) (cA (aC vL bR (cH "length" [("Gaps",bX 1 [] qW)] aN a0))))
   (cR (aC iK cQ (kK (aB (cS "none") (aB (cB ax) a0)))))
   iC)
  (aQ (fO (kB (cA (aC qL (aC bO cQ dC) (cS "told"))) (kB (sF (cA (aX WD (aB (aC bO cQ bL) (aB (cT "int") a0))))) (cA (aX WD (aB (aC bO cQ bL) (aB (cT "bool") a0))))))
   (cR (cB au))
   iC)
  (aQ (bK (cH "pouch" [("Gaps",bX 1 [] uJ)] aN a0) (gN 4))
  (aQ (fO (kB (cA (aC qL (aX (bS 2 CO) (aB aN (aB bR a0))) cQ)) (cA (aC qL (cH "pouch" [("Gaps",bX 1 [] uJ)] aN a0) eP)))
   (cR (cB au))
   iC)
  (aQ (bK (aX (bS 2 zV) (aB bD (aB (aC bO cQ bL) a0))) (jG 2 (dN (gN 5) (dN (gN 6) jR))))
  (aQ (fO (kB (cA (aC (vK ax) (aC bO cQ bL) (cH "numbers" [("Gaps",bX 1 [] KU)] aN a0))) (kB (cA (aC Je nL (aC cF bR (cH "off" [("Gaps",bX 1 [] zW)] aN a0)))) (cA (aC qM tL (aC (rH) bR (cH "off" [("Gaps",bX 1 [] zW)] aN a0))))))
   (cR (cB au))
   iC)
  (cR (aX (bS 3 ZI) (aB aN (aB bD (aB bR a0))))))))))))
def zT:ak A->Mo A:=cV 7 Kv
def Lc:MS :=
 (cR (GW (aC iK bD (lD au a0)) (yD (aX (bS 3 zT) (aB aN (aB bD (aB bL a0)))) (aX (bS 3 zT) (aB aN (aB bD (aB (cH "length" [("Gaps",bX 1 [] qW)] aN a0) a0)))))))
def KR:ak A->Mo A:=cV 2 Lc
def PX:MS :=
 (aQ (bK (aX (bS 2 pV) (aB (aX (bS 2 GD) (aB aN (aB (aC cF cQ (aC (gV) sA (aX xE (aB bL (aB pY a0))))) a0))) (aB sA a0))) (gN 10))
   (aQ (bK (kK (aB (aX (bS 2 zU) (aB (aX (bS 2 pV) (aB GU (aB bL a0))) (aB (aC (gV) (aC (oS) bR (cI 64)) CV) a0))) (aB (aX (bS 1 RI) (aB (aX (bS 2 pV) (aB GU (aB mW a0))) a0)) a0))) (gN 11))
   (aQ (kL (cH "put" [("Gaps",bX 3 [] KS)] nL (aB (aC bO wK dC) (aB (aC bO wK bL) a0))))
   (aQ (kL (pZ uA tL (aB wK a0)))
   (fO (cA (aC iK (aC (gV) sA uO) dC))
    (bK (yD wJ (aX (bS 2 KR) (aB nL (aB tL a0)))) (gN 7))
    iC)))))
def Ky:MS :=
 (aQ (bK (aX (OU "Gaps" 2 RM) (aB bD a0)) (gN 5))
  (aQ (bK (lD ax a0) (gN 6))
  (aQ (bK (cB ax) (gN 7))
  (aQ (bK (aX xE (aB dC (aB (aC (rH) (aX sU (aB aN a0)) cQ) a0))) (gN 8))
  (aQ (iT (yC (aB (aX WB (aB eP (aB (aX xE (aB pY (aB (aC (gV) bR (aC cF eP bL)) a0))) a0))) a0)) (gN 9) PX)
  (cR (kK (aB nL (aB (wO 6) (aB wJ a0))))))))))
def GC:ak A->Mo A:=cV 12 Ky
def JM:MS :=
 (aQ (bK (aX (bS 2 pV) (aB bD (aB (aC cF uO GU) a0))) (gN 11))
   (aQ (kL (pZ uA sA (aB (aC cF bL (aC (gV) wK (aX xE (aB bL (aB pY a0))))) a0)))
   (fO (cA (aC qL eP (lD au a0)))
    (aQ (bK (aX (bS 2 zV) (aB eP (aB (aC bO (aC bO eP (aC (gV) wK (aX sU (aB eP a0)))) dC) a0))) (jG 2 (dN (gN 12) (dN (gN 13) jR))))
    (bK (aC (IW ax) sA (lD au (aB (aC cF Qw bL) (aB Qv a0)))) (gN 9)))
    iC)))
def JL:MS :=
 (fO (sF (cA (aX (bS 3 zT) (aB cQ (aB eP (aB afW a0))))))
    (cR (cB au))
    iC)
def XI:MS :=
 (aQ (bK (aX (bS 2 GD) (aB aN (aB dC a0))) (gN 1))
  (aQ (bK (aC bO (lD au (aB (cI 100) (aB bL (aB mW (aB mV (aB LM (aB bL (aB mW (aB mV a0))))))))) (aC (gV) bD RV)) (gN 2))
  (aQ (bK (aX (bS 5 GC) (aB aN (aB bR (aB (aX (bS 2 pV) (aB bD (aB bL a0))) (aB bL (aB (cI 60) a0)))))) (jG 3 (dN (gN 3) (dN (gN 4) (dN (gN 5) jR)))))
  (aQ (fO (kB (sF (cA nL)) (sF (cA (aX (bS 2 KR) (aB cQ (aB eP a0))))))
   (cR (cB au))
   iC)
  (aQ (fO (cA (aC iK (aC (gV) (aC (oS) bD RV) mV) dC))
   (aQ (kL (cH "join" [("Gaps",bX 2 [] GG)] cQ (aB cQ a0)))
   (bK (aC cF eP eP) (gN 4)))
   iC)
  (aQ (fO (cA (aC iK (aC (gV) (aC (oS) bD RV) mV) bL))
   (aQ (bK (aX (bS 5 GC) (aB aN (aB bR (aB (aX (bS 2 pV) (aB bD (aB mW a0))) (aB mV (aB (cI 20) a0)))))) (jG 3 (dN (gN 6) (dN (gN 7) (dN (gN 5) jR)))))
   (aQ (kL (cH "join" [("Gaps",bX 2 [] GG)] cQ (aB tL a0)))
   (aQ (bK (aC cF eP wJ) (gN 4))
   (fO (sF (cA nL))
    (cR (cB au))
    iC))))
   iC)
  (aQ (bK (cH "length" [("Gaps",bX 1 [] qW)] cQ a0) (gN 8))
  (aQ (bK (lD ax (aB dC (aB bL (aB pY (aB (aC cF pY bL) (aB (LS bL) (aB (aC cF pY (aC (BO) uO (cI 12))) a0))))))) (gN 9))
  (aQ (iT (yC (aB CV a0)) (gN 10) JM)
  (aQ (iT (jD sA) (gN 14) JL)
  (cR (cB ax))))))))))))
def aeG:ak A->Mo A:=cV 15 XI
end
abbrev Rg:=ay×ay×ak Rn×Po
structure rT(keep:ay)(x:Rg):Prop where
 gd:Gd x.2.2.1 x.2.2.2
 off:(keep:a5)*x.2.2.2.l<=x.1*x.2.2.2.s
 cnt:2 ^ x.1*(keep+1)<=x.2.1
 len:x.2.2.2.es.length<=2*keep+2
 nn:0<=x.2.2.2.s
def up1(keep:ay)(y x:Rg):Rg:=(x.1+1,y.2.1+x.2.1,y.2.2.1++x.2.2.1,Sd keep (qE y.2.2.2 x.2.2.2))
theorem rT.up{keep:ay}{x y:Rg}(z:1<=keep)(h:rT keep x)(g:rT keep y)(e:y.1=x.1):rT keep (up1 keep y x):=by
 have q:0<=y.2.2.2.s+x.2.2.2.s:=Int.add_nonneg g.nn h.nn;have j:=g.gd.merge h.gd;refine⟨j.mY keep (by omega),?_,?_,?_,q⟩
 ·show(keep:a5)*(y.2.2.2.l+x.2.2.2.l+(y.2.2.2.s+x.2.2.2.s)/keep)<=((x.1+1:ay):a5)*(y.2.2.2.s+x.2.2.2.s);have h1:=h.off;have h2:=g.off;rw[e]at h2;have N:=Int.mul_ediv_self_le (x:=y.2.2.2.s+x.2.2.2.s) (k:=keep) (by omega);have B:((x.1+1:ay):a5)*(y.2.2.2.s+x.2.2.2.s)=x.1*y.2.2.2.s+x.1*x.2.2.2.s+(y.2.2.2.s+x.2.2.2.s):=by
   rw[Int.natCast_add,Int.add_mul,Int.mul_add];simp
  rw[B,Int.mul_add,Int.mul_add];omega
 ·show 2 ^ (x.1+1)*(keep+1)<=y.2.1+x.2.1;have h1:=h.cnt;have h2:=g.cnt;rw[e]at h2;rw[Nat.pow_succ,Nat.mul_assoc,Nat.mul_comm 2,<-Nat.mul_assoc];omega
 ·show(mY (y.2.2.2.l+x.2.2.2.l+(y.2.2.2.s+x.2.2.2.s)/keep) _).length<=_;have:=ahQ j.gf keep z;exact rV this (by omega)
def kO(keep:ay):ay->ak Rg->Rg->ak Rg
 |0,L,x=>L++[x]
 |f+1,L,x=>match L.find? λy=>y.1==x.1 with
  |none=>L++[x]
  |some y=>kO keep f (L.filter λz=>z.1 != x.1) (up1 keep y x)
noncomputable def mZ(f:ak Rn->a5)(L:ak Rg):a5:=(L.map λx=>f x.2.2.1).sum
noncomputable def pM(L:ak Rg):ay:=(L.map λx=>x.2.1).sum
noncomputable def mD(L:ak Rg):a5:=(L.map λx=>x.2.2.2.l).sum
noncomputable def UQ(L:ak Rg):ay:=(L.map λx=>x.2.2.2.es.length).sum
structure wD(keep:ay)(L:ak Rg):Prop where
 nd:(L.map (·.1)).Nodup
 ok:∀x∈L,rT keep x
theorem Vy(f:Rg->a5):∀{L:ak Rg} {y:Rg} {l:ay},(L.map (·.1)).Nodup->y∈L->y.1=l->((L.filter λz=>z.1 != l).map f).sum+f y=(L.map f).sum
 |z::L,y,l,nd,B,e=>by
  rw[bU,tF]at nd
  by_cases j:z.1=l
  ·have hL:L.filter (λz=>z.1 != l)=L:=List.filter_eq_self.mpr λw hw=>by
    have:w.1≠l:=λq=>nd.1 (by rw[j,<-q];exact YT hw);simpa using this
   have:y=z:=by
    rcases dU.mp B with q|q
    ·exact q
    ·exact bz (by rw[j,<-e];exact YT q) nd.1
   subst this;rw[List.filter_cons_of_neg (by simpa using j),hL,bU,oZ];omega
  ·have N:y∈L:=by
    rcases dU.mp B with q|q
    ·subst q;exact bz e j
    ·exact q
   rw[List.filter_cons_of_pos (by simpa using j),bU,oZ,bU,oZ];have:=Vy f nd.2 N e;omega
theorem UR{keep:ay}(F:Rg->a5)(B:∀x y:Rg,F (up1 keep y x)=F y+F x):∀(f:ay) {L:ak Rg} {x:Rg},(L.map (·.1)).Nodup->((kO keep f L x).map F).sum=(L.map F).sum+F x
 |0,L,x,_=>by simp[kO]
 |f+1,L,x,nd=>by
  unfold kO;split
  ·simp
  ·rename_i y q;have hm:=ad4 q;have he:y.1=x.1:=by simpa using List.find?_some q
   have j:((L.filter λz=>z.1 != x.1).map (·.1)).Nodup:=nd.sublist (ad9.map _);rw[UR F B f j,B];have:=Vy F nd hm he;omega
theorem Ft{keep:ay}(B:1<=keep):∀(f:ay) {L:ak Rg} {x:Rg},L.length<=f->wD keep L->rT keep x->wD keep (kO keep f L x)
 |0,L,x,hl,h,g=>by
  have:L=[]:=xV (by omega);subst this;exact⟨by simp[kO],λy j=>by simp[kO]at j;subst j;exact g⟩
 |f+1,L,x,hl,h,g=>by
  unfold kO;split
  ·rename_i hn;refine⟨?_,λy j=>?_⟩
   ·rw[xU,YS];refine⟨h.nd,by simp,λa ha b hb=>?_⟩;obtain⟨y,j,rfl⟩:=lX.mp ha;have U:b=x.1:=by simpa using hb
    subst U;have:=List.find?_eq_none.mp hn y j;simpa using this
   ·rcases lH.mp j with q|q
    ·exact h.ok y q
    ·have:y=x:=by simpa using q
     subst this;exact g
  ·rename_i y j;have hm:=ad4 j;have he:y.1=x.1:=by simpa using List.find?_some j
   refine Ft B f ?_ ⟨h.nd.sublist (ad9.map _),λz N=>h.ok z (Ng.mp N).1⟩ (g.up B (h.ok y hm) he);have:(L.filter λz=>z.1 != x.1).length<L.length:=by
    refine Nat.lt_of_le_of_ne (ad5 _ _) λq=>?_;have:=aI2.mp q y hm;simp[he]at this
   omega
theorem Jo:∀{m:ay} {l:ak ay},l.Nodup->(∀x∈l,x<m)->l.length<=m
 |0,l,_,h=>by
  cases l with
  |nil=>simp
  |cons x r=>have:=h x nE;omega
 |m+1,l,nd,h=>by
  have:=Jo (m:=m) (nd.erase m) λx j=>by
   have h1:=h x (List.mem_of_mem_erase j);have h2:x≠m:=λq=>by subst q;exact nd.not_mem_erase j
   omega
  rw[List.length_erase]at this;split at this <;> omega
theorem wD.atE{keep m:ay}{L:ak Rg}(h:wD keep L)(hm:∀x∈L,x.1<m):UQ L<=m*(2*keep+2):=by
 have hl:L.length<=m:=by
  have:=Jo h.nd (m:=m) (λx q=>by obtain⟨y,j,e⟩:=lX.mp q;subst e;exact hm y j);simpa using this
 have:UQ L<=L.length*(2*keep+2):=by
  obtain⟨nd,ok⟩:=h;clear hl hm;unfold UQ
  induction L with
  |nil=>simp
  |cons x r ih =>
   have h1:=ih (tF.mp nd).2 (λy j=>ok y (fY _ j));have h2:=(ok x nE).len;simp only[bU,oZ,fZ];rw[Nat.add_mul,Nat.one_mul];omega
 exact rV this (Nat.mul_le_mul_right _ hl)
theorem as2{lv n keep b:ay}(h:2 ^ lv*(keep+1)<=n)(hb:n/(keep+1)<2 ^ b):lv<b:=by
 have h1:2 ^ lv<=n/(keep+1):=(Nat.le_div_iff_mul_le (by omega)).mpr h;exact(Nat.pow_lt_pow_iff_right (a:=2) (by decide)).mp (Nat.lt_of_le_of_lt h1 hb)
open PySem L2 V2
theorem aIO(rs:ak Rn)(hl:rs.length<=400)(Z:aE):RC [.lst (aM rs)] Z=aG (.aI Z.length) (Z++[.bA (iD 0 (eG rs))]):=by
 have N:=λZ=>aIP rs (by omega) Z;have U:=MM rs;obtain⟨z,j,q⟩:=Vm (λZ'=>gD Z' (.lst (aM (eG rs)))=aj (aM (eG rs))) (λ_=>rfl) (.lst (aM rs)) Z (eG rs) [] ao ao (by simpa using Vq rs) (by simp;omega);simp only[xT]at q;have s0:dR []=0:=rfl;rw[s0]at q;have B:iD 0 []=[]:=rfl;rw[B]at q;show trim Z (fE (XB [cW (aM rs),ao,ao,ao,ao] Z))=_;have e:XB [cW (aM rs),ao,ao,ao,ao] Z=aj (.ret (.aI Z.length),[cW (aM rs),aD Z.length,aA (dR (eG rs)),z,j],Z++[.bA (iD 0 (eG rs))]):=by
  unfold XB;rw[bI (Y1:=[cW (aM rs),aD Z.length,ao,ao,ao]) (Z':=Z++[.bA []]) (by simp)];rw[bI (Y1:=[cW (aM rs),aD Z.length,aA 0,ao,ao]) (Z':=Z++[.bA []]) (by simp)];rw[bI (Y1:=[cW (aM rs),aD Z.length,aA (dR (eG rs)),z,j]) (Z':=Z++[.bA (iD 0 (eG rs))]) (by
   rw[vN (S:=srcOf (.lst (aM (eG rs))) (aM (eG rs))) (Z':=Z++[.bA []]) (by simp[bS,N])];exact q)]
  simp
 rw[e];simp[trim,Cl]
theorem aIR(R:ak Rn)(h:∀r∈R,1<=r.2)(hl:R.length<=400)(hw:whole R<=1000000000)(Z:aE):RD [.lst (aM R)] Z=aG (eA (whole R) 0 0 (iV 0 (eG R))) Z:=by
 have pl:=aIO R hl (Z++[.lst []]);have pn:=MM R;obtain⟨N,B,q⟩:=We (λ_=>True) (λ_=>trivial) (aj (.lst (aM R))) Z .dead (eG R) 0 [] ao ao (by simp;omega);have b:(4:ay)<=bc:=by decide
 show trim Z (fE (XH [cW (aM R),ao,ao,ao] Z))=_;have e:XH [cW (aM R),ao,ao,ao] Z=aj (.ret (eA (whole R) 0 0 (iV 0 (eG R))),[cW (aM R),aD Z.length,N,B],Z++[.dead,.dead]):=by
  have z:=aIW R h hw (Z++[.lst (encL (iV 0 (eG R))),.dead]);unfold XH;rw[bI (Y1:=[cW (aM R),aD Z.length,ao,ao]) (Z':=Z++[.lst []]) (by simp[mE])];rw[bI (Y1:=[cW (aM R),aD Z.length,N,B]) (Z':=Z++[.lst (encL (iV 0 (eG R))),.dead]) (by
   rw[vN (S:=NI (iD 0 (eG R))) (Z':=Z++[.lst [],.dead]) (by
    generalize aM R=U at pl;have c:lW (Z++[Cell.lst [],Cell.bA (iD 0 (eG R))]) (.aI (Z.length+1))=aj (Z.length+1,iD 0 (eG R)):=by simp[lW]
    have j:RC [.lst U] (Z++[Cell.lst []])=aG (.aI (Z.length+1)) (Z++[Cell.lst [],.bA (iD 0 (eG R))]):=by
     rw[pl];simp
    simp[bS,j,c])]
   rw[xT]at q;exact q)]
  unfold eA;generalize encL (iV 0 (eG R))=U at z;generalize aM R=d at z;simp[bS,z,b]
 rw[e];simp only[HS];exact DB (by
  simp only[eA,Cl,gC,and_true,true_and];exact BW λa ha=>by
   obtain⟨e,_,rfl⟩:=lX.mp ha;simp[cK,Cl,gC])
noncomputable def vP:ak Rn->a5->a5
 |[],_=>0
 |r::rs,n=>if r.1=n then r.2 else vP rs n
noncomputable def bQ:ak Rn->a5->a5->ak Rn
 |[],n,t=>[(n,t)]
 |r::rs,n,t=>if r.1=n then(r.1,r.2+t)::rs else r::bQ rs n t
theorem Xu:∀(rs:ak Rn) (n t m:a5),m∈(bQ rs n t).map (·.1)->m∈rs.map (·.1)\/m=n
 |[],n,t,m,h=>by simp only[bQ,bU,rW,lN]at h;exact .inr h
 |r::rs,n,t,m,h=>by
  simp only[bQ]at h;split at h
  ·exact .inl (by simpa using h)
  ·simp only[bU,dU]at h ⊢
   rcases h with h|h
   ·exact .inl (.inl h)
   ·rcases Xu rs n t m h with q|q
    ·exact .inl (.inr q)
    ·exact .inr q
theorem Wl:∀(rs:ak Rn) (n t:a5),(rs.map (·.1)).Nodup->((bQ rs n t).map (·.1)).Nodup
 |[],n,t,_=>by simp[bQ]
 |r::rs,n,t,nd=>by
  simp only[bQ];split
  ·simpa using nd
  ·rename_i e;rw[bU,tF]at nd ⊢;refine⟨λh=>?_,Wl rs n t nd.2⟩
   rcases Xu rs n t r.1 h with q|q
   ·exact nd.1 q
   ·exact e q
theorem Vj:∀(rs:ak Rn) (n t:a5),1<=t->(∀r∈rs,1<=r.2)->∀r∈bQ rs n t,1<=r.2
 |[],n,t,j,_,r,hr=>by simp only[bQ,lN]at hr;subst hr;exact j
 |s::rs,n,t,j,h,r,hr=>by
  simp only[bQ]at hr;split at hr
  ·rcases dU.mp hr with e|e
   ·subst e;have:=h s (by simp);show 1<=s.2+t;omega
   ·exact h r (by simp[e])
  ·rcases dU.mp hr with e|e
   ·subst e;exact h _ (by simp)
   ·exact Vj rs n t j (λr hr=>h r (by simp[hr])) r e
noncomputable def fC(rs:ak Rn):ak (Key×A):=rs.map λr=>(.inl r.1,.int r.2)
theorem Ro{q:Key×A}{kvs:ak (Key×A)}{k:Key}(h:q.1=k):hZ (q::kvs) k=aj q.2:=by simp[hZ,h]
theorem Rm{q:Key×A}{kvs:ak (Key×A)}{k:Key}(h:q.1≠k):hZ (q::kvs) k=hZ kvs k:=by simp[hZ,h]
theorem Rk:∀(rs:ak Rn) (n:a5),(hZ (fC rs) (.inl n)).getD (.int 0)=.int (vP rs n)
 |[],n=>rfl
 |r::rs,n=>by
  have ih:=Rk rs n;show(hZ ((.inl r.1,.int r.2)::fC rs) (.inl n)).getD (.int 0)=.int (vP (r::rs) n)
  by_cases h:r.1=n
  ·rw[Ro (by rw[h])];simp[vP,h]
  ·rw[Rm (by intro z;exact h (by simpa using z)),ih];simp[vP,h]
theorem anQ{q:Key×A}{kvs:ak (Key×A)}{k:Key}{a:A}(h:q.1≠k):lS (q::kvs) k a=q::lS kvs k a:=by
 unfold lS;have e:((q::kvs).any λj=>decide (j.1=k))=kvs.any λj=>decide (j.1=k):=by simp[h]
 rw[e];split
 ·simp[h]
 ·simp
theorem Vf:∀(rs:ak Rn) (n t:a5),(rs.map (·.1)).Nodup->lS (fC rs) (.inl n) (.int (vP rs n+t))=fC (bQ rs n t)
 |[],n,t,_=>by simp[fC,lS,bQ,vP]
 |r::rs,n,t,nd=>by
  rw[bU,tF]at nd;have ih:=Vf rs n t nd.2;show lS ((.inl r.1,.int r.2)::fC rs) (.inl n) _=_
  by_cases h:r.1=n
  ·subst h;have em:∀(l:ak Rn),r.1∉l.map (·.1)->(fC l).map (λj=>if j.1=(.inl r.1:Key)then(j.1,A.int (r.2+t))else j)=fC l:=by
    intro l
    induction l with
    |nil=>intro _;rfl
    |cons s l N =>
     intro hn;simp only[bU,dU,not_or]at hn;have B:¬s.1=r.1:=λz=>hn.1 z.symm;have:=N hn.2;simp only[fC,bU]at this ⊢;rw[this];simp[B]
   have q:=em rs nd.1;simp only[lS,vP,a9,bQ];simp[fC]at q ⊢;exact q
  ·rw[anQ (by intro z;exact h (by simpa using z))];simp only[vP,bQ,bf h,ih];rfl
theorem Xz(rs:ak Rn):(fC rs).map mG=aM rs:=by simp[fC,mG,kA,aM,gW]
theorem agR(rs:ak Rn):(fC rs).map (·.2)=(rs.map (·.2)).map A.int:=by simp[fC]
theorem pH{Z Z':aE}{a:A}(h:Z'.length=Z.length):trim Z (aj (.ok a,Z'))=aG a Z':=by
 simp only[trim];split
 ·rename_i j;rw[<-h,List.take_length]at j;rw[j.1]
 ·rfl
theorem ahD{Z:aE}{c:Cell}:trim Z (aj (.ok (.aI Z.length),Z++[c]))=aG (.aI Z.length) (Z++[c]):=by
 simp[trim,Cl]
def fB(L:ak Rg):ak (Key×A):=L.map λx=>(.inl (x.1:a5),aW x.2.2.2)
abbrev dY(keep:ay)(many tk:a5)(rs:ak Rn)(L:ak Rg):ak (ba×Fd):=[("keep",.val (.int keep)),("many",.val (.int many)),("taken",.val (.int tk)),("newest",.bA (fC rs)),("laid",.bA (fB L))]
abbrev aT(keep:ay)(many tk:a5)(rs:ak Rn)(L:ak Rg):Cell:=.ins "Gaps" (dY keep many tk rs L)
section
variable{Z Z':aE}{p keep:ay}{many tk:a5}{rs:ak Rn}{L:ak Rg}
theorem vC{m:ba}{F:ak A->Mo A}{n i:ay}{das as:ak A}{fs:Ev->Mo (ak A)}{Y:Ev}{a:A}(h:Z[p]?=aj (aT keep many tk rs L))(hl:(dY keep many tk rs L).lookup m=ao)(z:(Y[i]?).join=(aD p))(ha:fs Y Z=aG as Z)(hn:as.length+1+das.length=n)
  (q:F (.aI p::(as++das)) Z=aG a Z'):cH m [("Gaps",bX n das F)] (eE i) fs Y Z=aG a Z':=by
 unfold cH;rw[dJ (x:=A.aI p) (Z':=Z) (by simp[z])];have j:List.lookup ("Gaps" : ba) [(("Gaps" : ba),bX n das F)]=aj (bX n das F):=by simp[List.lookup]
 simp only[WC,h,j,hl];rw[dJ ha];simp only[bX];rw[a9 (by simp only[fZ];omega)];exact q
theorem MP(h:Z[p]?=aj (aT keep many tk rs L)){Y:Ev}(j:(Y[0]?).join=(aD p)):uX ["Gaps"] 0 "newest" Y Z=aj (p,("Gaps" : ba),dY keep many tk rs L,Fd.bA (fC rs)):=by
 unfold uX;rw[j];simp only[h];rfl
theorem TY(h:Z[p]?=aj (aT keep many tk rs L)){Y:Ev}(j:(Y[0]?).join=(aD p)):uX ["Gaps"] 0 "laid" Y Z=aj (p,("Gaps" : ba),dY keep many tk rs L,Fd.bA (fB L)):=by
 unfold uX;rw[j];simp only[h];rfl
theorem YL(h:Z[p]?=aj (aT keep many tk rs L)):qW [.aI p] Z=aG (.int many) Z:=by
 have l:(dY keep many tk rs L).lookup ("many" : ba)=aj (.val (.int many)):=rfl;show trim Z (fE (Lf [aD p] Z))=_;simp[Lf,h,l]
theorem adV(h:Z[p]?=aj (aT keep many tk rs L))(z:∀r∈rs,1<=r.2)(hl:rs.length<=400)(hw:whole rs<=1000000000):CP [.aI p] Z=aG (aW (lE rs)) Z:=by
 show trim Z (fE (Ln [aD p] Z))=_;have e:jE ["Gaps"] 0 "newest" (λj=>mE au (j.map mG)) [aD p] Z=aG (.lst (aM rs)) Z:=by
  unfold jE;rw[MP h rfl];simp only[Xz];rfl
 unfold Ln;have q:=aIR rs z hl hw Z;have B:aX (bS 1 RD) (aB (jE ["Gaps"] 0 "newest" λj=>mE au (j.map mG)) a0) [aD p] Z=aG (aW (lE rs)) Z:=by
  unfold aX aB;rw[dJ (by rw[dJ e];rfl)];simp only[bS];exact q
 unfold cR;rw[gL B];exact pH rfl
end
section
variable{Z Z' Z'':aE}{Y:Ev}
theorem orF{f g:Ev->Mo br}(h:f Y Z=aG au Z'):kB f g Y Z=g Y Z':=by
 unfold kB;rw[dJ h];rfl
theorem HW{f:Ev->Mo br}{b:br}(h:f Y Z=aG b Z'):sF f Y Z=aG (!b) Z':=by
 unfold sF;rw[dJ h];rfl
theorem jN{f:Ev->Mo A}{b:br}(h:f Y Z=aG (.bl b) Z'):cA f Y Z=aG b Z':=by
 unfold cA;rw[dJ h];rfl
theorem Ek{g:A->A->Mo A}{q f2:Ev->Mo A}{a b:A}{j:aE}{c:A}(h1:q Y Z=aG a Z')(h2:f2 Y Z'=aG b Z'')(z:g a b Z''=aG c j):aC g q f2 Y Z=aG c j:=by
 unfold aC;rw[dJ h1,dJ h2,z]
theorem dG{g:A->A->Mo A}{j f2:Ev->Mo A}{a b c:A}(h1:j Y Z=aG a Z)(h2:f2 Y Z=aG b Z)(q:g a b Z=aG c Z):aC g j f2 Y Z=aG c Z:=Ek h1 h2 q
theorem rF{t:Ev->Mo br}{s:MS}(h:t Y Z=aG au Z'):fO t s iC Y Z=eN Y Z':=by
 unfold fO;rw[gL h];rfl
theorem jB{f:Ev->Mo A}{i:ay}{a:A}(h:f Y Z=aG a Z'):bK f (gN i) Y Z=eN (Y.set i (aj a)) Z':=by
 unfold bK;rw[gL h];rfl
theorem aU{i:ay}{a:A}(h:(Y[i]?).join=aj a):eE i Y Z=aG a Z:=by simp[h]
theorem bB{f:Ev->Mo A}{fs:Ev->Mo (ak A)}{a:A}{as:ak A}(h:f Y Z=aG a Z)(j:fs Y Z=aG as Z):aB f fs Y Z=aG (a::as) Z:=by
 unfold aB;rw[dJ h,dJ j];rfl
theorem bY:a0 Y Z=aG [] Z:=rfl
theorem jS{F:ak A->Mo A}{fs:Ev->Mo (ak A)}{n:ay}{as:ak A}{a:A}(h:fs Y Z=aG as Z)(hn:as.length=n)(j:F as Z=aG a Z'):aX (bS n F) fs Y Z=aG a Z':=by
 unfold aX;rw[dJ h];unfold bS;rw[a9 hn];exact j
theorem vR{g:ak A->Mo A}{fs:Ev->Mo (ak A)}{Y:Ev}{Z Z':aE}{as:ak A}{a:A}(h:fs Y Z=aG as Z)(j:g as Z=aG a Z'):aX g fs Y Z=aG a Z':=by
 unfold aX;rw[dJ h];exact j
theorem abY{f:Ev->Mo A}{fs:Ev->Mo (ak A)}{a:A}{as:ak A}(h:f Y Z=aG a Z')(j:fs Y Z'=aG as Z''):aB f fs Y Z=aG (a::as) Z'':=by
 unfold aB;rw[dJ h,dJ j];rfl
theorem FA{g:ak A->Mo A}{fs:Ev->Mo (ak A)}{as:ak A}{a:A}(h:fs Y Z=aG as Z')(j:g as Z'=aG a Z''):aX g fs Y Z=aG a Z'':=by
 unfold aX;rw[dJ h];exact j
end
theorem TB{Z:aE}{p:ay}{c:Cell}(h:Z[p]?=aj c):Z.set p c=Z:=by
 apply FU;intro j
 by_cases q:p=j
 ·subst q;rw[fG (dA.mp h).1,h]
 ·rw[iO q]
theorem Fo{i:ay}{f:ba}{g:MS}{Y Y':Ev}{Z:aE}{s:ay}{cls:ba}{fs:ak (ba×Fd)}{fd fd':Fd}{c c':Cell}(h1:Y[i]?=aj (aD s))(h2:Z[s]?=aj (.ins cls fs))(h:fs.lookup f=aj fd)(e:fd.cell=aj c)
  (b:g Y (gS Z s cls f fs c)=eN Y' (gS Z s cls f fs c')) (a:fd'.cell=aj c') (U:fd'=fd\/tI Z.length fd') (N:∀(j:ay) (d:A),Y'[j]?=aj (aj d)->Y[j]?=aj (aj d)\/Cl Z.length d):uU i f g Y Z=eN Y' (Z.set s (.ins cls (putD f fd' fs))):=by
 have z:s<Z.length:=(dA.mp h2).1;refine al9 (r:=(.nx,Y',Z.set s (.ins cls (putD f fd' fs)))) ⟨s,cls,fs,fd,c,Z.set s (.ins cls (putD f (.val (.aI Z.length)) fs)),fd',c',h1,h2,h,e,b,by simp,fG z,a,λk x B q => .inl (by rw[iO (dQ B)]at q;exact q),U,N,rfl,by rw[qR]⟩
theorem Aj(lv:ay):∀L:ak Rg,hZ (fB L) (.inl (lv:a5))=(L.find? λy=>y.1==lv).map λy=>aW y.2.2.2
 |[]=>rfl
 |x::L=>by
  have ih:=Aj lv L;show hZ ((.inl (x.1:a5),aW x.2.2.2)::fB L) (.inl (lv:a5))=_
  by_cases h:x.1=lv
  ·rw[Ro (by rw[h]),List.find?_cons_of_pos (by simpa using h)];rfl
  ·rw[Rm (by intro z;have j:(x.1:a5)=lv:=(by simpa using z);omega),ih,List.find?_cons_of_neg (by simpa using h)]
theorem aC6(lv:ay)(L:ak Rg):uE (fB L) (.inl (lv:a5))=fB (L.filter λz=>z.1 != lv):=by
 unfold uE fB;rw[List.filter_map];congr 1;apply List.filter_congr;intro x _
 by_cases h:x.1=lv
 ·simp[h]
 ·have:¬(x.1:a5)=lv:=by omega
  simp[h,this]
theorem anP{lv:ay}{L:ak Rg}(h:(L.find? λy=>y.1==lv)=ao)(n:ay)(R:ak Rn)(q:Po):lS (fB L) (.inl (lv:a5)) (aW q)=fB (L++[(lv,n,R,q)]):=by
 have hn:((fB L).any λj=>decide (j.1=(.inl (lv:a5):Key)))=au:=by
  rw[List.any_eq_false];intro j B;obtain⟨x,N,rfl⟩:=lX.mp B;have:=List.find?_eq_none.mp h x N;simp only[vS]at this;simp only[BU];intro z;have U:(x.1:a5)=lv:=by simpa using z
  omega
 unfold lS;rw[hn];simp[fB]
section
variable{Z:aE}{p keep:ay}{many tk:a5}{rs:ak Rn}{L:ak Rg}
theorem atP(h:Z[p]?=aj (aT keep many tk rs L))(lv:ay)(j:ar A):XS [aD p,j,aA lv] Z=aG ((L.find? λy=>y.1==lv).isSome) Z:=by
 have e:GY au ["Gaps"] 0 "laid" bR [aD p,j,aA lv] Z=aG (.bl (L.find? λy=>y.1==lv).isSome) Z:=by
  unfold GY;rw[dJ (x:=A.int lv) (Z':=Z) (by simp)];unfold jE;rw[TY h rfl];simp only[mF,Aj,adS];rfl
 unfold XS;exact jN e
end
theorem ab5(n:ay)(rs:ak Rn):tI n (.bA (fC rs)):=by
 show gC n ((fC rs).map (·.2));rw[agR];exact BW λa ha=>by obtain⟨x,_,rfl⟩:=lX.mp ha;simp only[Cl]
theorem ab3(n:ay)(q:Po):Cl n (aW q):=by
 have j:gC n (encL q.es):=BW λa ha=>by
  obtain⟨e,_,rfl⟩:=lX.mp ha;simp[cK,Cl,gC]
 simp[aW,eA,Cl,gC,j]
theorem ab4(n:ay)(L:ak Rg):tI n (.bA (fB L)):=by
 show gC n ((fB L).map (·.2));exact BW λa ha=>by
  obtain⟨q,j,rfl⟩:=lX.mp ha;obtain⟨x,_,rfl⟩:=lX.mp j;exact ab3 n _
section
variable{Z:aE}{p keep:ay}{many tk:a5}{rs:ak Rn}{L:ak Rg}
theorem Vd(j:ak Rg):putD "laid" (.bA (fB j)) (dY keep many tk rs L)=dY keep many tk rs j:=rfl
theorem Vb(j:ak Rn):putD "newest" (.bA (fC j)) (dY keep many tk rs L)=dY keep many tk j L:=rfl
theorem Xj:(dY keep many tk rs L).lookup ("laid" : ba)=aj (.bA (fB L)):=rfl
theorem as8:(dY keep many tk rs L).lookup ("newest" : ba)=aj (.bA (fC rs)):=rfl
theorem atO(h:Z[p]?=aj (aT keep many tk rs L))(l:1<=keep)(m:keep<1000000){x y:Rg}(e:(L.find? λz=>z.1==x.1)=aj y)(hz:y.2.2.2.es.length+x.2.2.2.es.length<=100000)(hm:(rE y.2.2.2.s x.2.2.2.s y.2.2.2.es x.2.2.2.es).length<=100000) :
  XR [aD p,aj (aW x.2.2.2),aA x.1] Z=eN [aD p,aj (aW (up1 keep y x).2.2.2),aA ((up1 keep y x).1)] (Z.set p (aT keep many tk rs (L.filter λz=>z.1 != x.1))):=by
 have o:=TY h (Y:=[aD p,aj (aW x.2.2.2),aA x.1]) rfl;unfold XR;have k:uU 0 "laid" (bK (aX (bS 2 QZ) (aB (aX (bS 2 CN) (aB (GZ (eY ["Gaps"] "laid" aN) bR) (aB bD a0))) (aB (eY ["Gaps"] "keep" aN) a0))) (gN 1)) [aD p,aj (aW x.2.2.2),aA x.1] Z=eN [aD p,aj (aW (up1 keep y x).2.2.2),aA x.1] (Z.set p (aT keep many tk rs (L.filter λz=>z.1 != x.1))):=by
  rw[Fo (Y':=[aD p,aj (aW (up1 keep y x).2.2.2),aA x.1]) rfl h Xj rfl (fd':=.bA (fB (L.filter λz=>z.1 != x.1))) (c':=.bA (fB (L.filter λz=>z.1 != x.1))) ?_ rfl (.inr (ab4 _ _)) ?_,Vd]
  ·have q:=UO (c:=.bA (fB L)) o;have U:lW (gS Z p "Gaps" "laid" (dY keep many tk rs L) (.bA (fB L))) (.aI Z.length)=aj (Z.length,fB L):=FE (UP o);have g:GZ (eY ["Gaps"] "laid" aN) bR [aD p,aj (aW x.2.2.2),aA x.1] (gS Z p "Gaps" "laid" (dY keep many tk rs L) (.bA (fB L)))=aG (aW y.2.2.2) (gS Z p "Gaps" "laid" (dY keep many tk rs L) (.bA (fB (L.filter λz=>z.1 != x.1)))):=by
    unfold GZ;rw[dJ q,a9 ⟨_,_,U⟩];rw[dJ (x:=A.int x.1) (Z':=gS Z p "Gaps" "laid" (dY keep many tk rs L) (.bA (fB L))) (by simp)];simp only[Jg,U,mF,Aj,e,JS,aC6];rw[Fn]
   have N:p<Z.length:=(dA.mp h).1;have i:eY ["Gaps"] "keep" aN [aD p,aj (aW x.2.2.2),aA x.1] (gS Z p "Gaps" "laid" (dY keep many tk rs L) (.bA (fB (L.filter λz=>z.1 != x.1))))=aG (.int keep) (gS Z p "Gaps" "laid" (dY keep many tk rs L) (.bA (fB (L.filter λz=>z.1 != x.1)))):=by
    have f:(gS Z p "Gaps" "laid" (dY keep many tk rs L) (.bA (fB (L.filter λz=>z.1 != x.1))))[p]?=aj (.ins "Gaps" (putD "laid" (.val (.aI Z.length)) (dY keep many tk rs L))):=by
     rw[jJ (by simpa using N),fG N]
    have hl:(putD "laid" (.val (.aI Z.length)) (dY keep many tk rs L)).lookup ("keep" : ba)=aj (.val (.int keep)):=rfl;unfold eY;rw[dJ (x:=A.aI p) (Z':=gS Z p "Gaps" "laid" (dY keep many tk rs L) (.bA (fB (L.filter λz=>z.1 != x.1)))) (by simp)];simp only[ER,f,hl];simp
   have em:aX (bS 2 CN) (aB (GZ (eY ["Gaps"] "laid" aN) bR) (aB bD a0)) [aD p,aj (aW x.2.2.2),aA x.1] (gS Z p "Gaps" "laid" (dY keep many tk rs L) (.bA (fB L)))=aG (aW (qE y.2.2.2 x.2.2.2)) (gS Z p "Gaps" "laid" (dY keep many tk rs L) (.bA (fB (L.filter λz=>z.1 != x.1)))):=by
    exact FA (abY g (bB (aU rfl) bY)) (adX _ _ _ _ _ _ _ _ _ hz)
   exact jB (a:=aW (up1 keep y x).2.2.2) (FA (abY em (bB i bY)) (aIK _ _ _ _ _ _ (by omega) (by omega) hm))
  ·intro j d B
   match j with
   |0=>exact .inl B
   |1 =>
    have:d=aW (up1 keep y x).2.2.2:=by simpa using B.symm
    subst this;exact .inr (ab3 _ _)
   |2=>exact .inl B
   |j+3=>simp at B
 rw[bI k];refine(jB (dG (aU (a:=A.int x.1) rfl) (b:=A.int 1) (by simp) (c:=A.int ((x.1+1:ay):a5)) (by simp))).trans ?_;rfl
end
section
variable{p keep:ay}{many tk:a5}{rs:ak Rn}
theorem MG{Z:aE}{c c':Cell}(h:Z[p]?=aj c):(Z.set p c')[p]?=aj c':=fG (dA.mp h).1
theorem Xr(a:1<=keep)(d:keep<=1000):∀(f n:ay) (L:ak Rg) (x:Rg) (Z:aE),Z[p]?=aj (aT keep many tk rs L)->L.length<=f->f<n->wD keep L->rT keep x ->
  ∃N B,kO keep f L x=N++[B]/\(N.find? λy=>y.1==B.1)=ao/\N.length<=L.length /\
   nG XS XR n [aD p,aj (aW x.2.2.2),aA x.1] Z=eN [aD p,aj (aW B.2.2.2),aA B.1] (Z.set p (aT keep many tk rs N))
 |f,0,L,x,Z,_,_,hn,_,_=>by omega
 |f,n+1,L,x,Z,h,hl,hn,gT,g=>by
  have U:=atP h x.1 (aj (aW x.2.2.2));cases j:L.find? λy=>y.1==x.1 with
  |none =>
   rw[j]at U;refine⟨L,x,?_,j,oX _,?_⟩
   ·cases f with
    |zero=>rfl
    |succ f=>unfold kO;rw[j]
   ·rw[WK U,TB h]
  |some y =>
   rw[j]at U;have hm:=ad4 j;have he:y.1=x.1:=by simpa using List.find?_some j
   have b:=gT.ok y hm;have m:=b.len;have l:=g.len;have r:(L.filter λz=>z.1 != x.1).length<L.length:=by
    refine Nat.lt_of_le_of_ne (ad5 _ _) λq=>?_;have:=aI2.mp q y hm;simp[he]at this
   cases f with
   |zero=>omega
   |succ f =>
    have t:=atO h a (by omega) j (x:=x) (by omega) (by unfold rE;have:=Wr (s:=y.2.2.2.s) (t:=x.2.2.2.s) (y.2.2.2.es.length+x.2.2.2.es.length) 0 0 y.2.2.2.es x.2.2.2.es;omega);obtain⟨N,B,k,i,o,e⟩:=Xr a d f n (L.filter λz=>z.1 != x.1) (up1 keep y x) _ (MG h) (by omega) (by omega) ⟨gT.nd.sublist (ad9.map _),λz c=>gT.ok z (Ng.mp c).1⟩ (g.up a b he);refine⟨N,B,?_,i,by omega,?_⟩
    ·unfold kO;rw[j];exact k
    ·rw[EU U t,e,qR]
theorem adZ(U:1<=keep)(b:keep<=1000){L:ak Rg}{x:Rg}{Z:aE}(h:Z[p]?=aj (aT keep many tk rs L))(hl:L.length<=1000)(gT:wD keep L)(g:rT keep x) :
  CQ [.aI p,aW x.2.2.2,.int x.1] Z=aG (.cE) (Z.set p (aT keep many tk rs (kO keep L.length L x))):=by
 obtain⟨z,B,k,i,n,f⟩:=Xr (p:=p) (many:=many) (tk:=tk) (rs:=rs) U b L.length 1000000 L x Z h cX (by omega) gT g;have m:p<Z.length:=(dA.mp h).1;show trim Z (fE (Lo [aD p,aj (aW x.2.2.2),aA x.1] Z))=_;unfold Lo;rw[bI f];have h2:=MG (c':=aT keep many tk rs z) h;have o:=TY h2 (Y:=[aD p,aj (aW B.2.2.2),aA B.1]) rfl;have e:uU 0 "laid" (yH bD (eY ["Gaps"] "laid" aN) bR) [aD p,aj (aW B.2.2.2),aA B.1] (Z.set p (aT keep many tk rs z))=eN [aD p,aj (aW B.2.2.2),aA B.1] (Z.set p (aT keep many tk rs (kO keep L.length L x))):=by
  rw[Fo (Y':=[aD p,aj (aW B.2.2.2),aA B.1]) rfl h2 Xj rfl (fd':=.bA (fB (kO keep L.length L x))) (c':=.bA (fB (kO keep L.length L x))) ?_ rfl (.inr (ab4 _ _)) (λj d a => .inl a),Vd,qR];have q:=UO (c:=.bA (fB z)) o;have l:lW (gS (Z.set p (aT keep many tk rs z)) p "Gaps" "laid" (dY keep many tk rs z) (.bA (fB z))) (.aI (Z.set p (aT keep many tk rs z)).length)=aj ((Z.set p (aT keep many tk rs z)).length,fB z):=FE (UP o);have N:(fB z).length<bc:=by rw[nO];simp[fB];omega
  unfold yH;rw[gL (x:=aW B.2.2.2) (Z':=gS (Z.set p (aT keep many tk rs z)) p "Gaps" "laid" (dY keep many tk rs z) (.bA (fB z))) (by simp),gL q];rw[gL (x:=A.int B.1) (Z':=gS (Z.set p (aT keep many tk rs z)) p "Gaps" "laid" (dY keep many tk rs z) (.bA (fB z))) (by simp)];simp only[TF,l,mF,a9 N,anP i B.2.1 B.2.2.1 B.2.2.2];rw[Fn,k]
 rw[e];simp only[AS];exact pH (by simp)
end
theorem Em:∀(ps:ak Rn) (acc:a5),(iV acc ps).length<=2*ps.length
 |[],acc=>by simp[iV]
 |r::ps,acc=>by
  have ih:=Em ps (acc+r.2);unfold iV;split <;> simp only[fZ,iN,CK] <;> omega
section
variable{Z:aE}{p keep:ay}{many tk:a5}{rs:ak Rn}{L:ak Rg}
theorem aBK{Y:Ev}(h:Z[p]?=aj (aT keep many tk rs L))(z:(Y[0]?).join=(aD p)){n:a5}(h1:(Y[1]?).join=(aA n)):CZ (eY ["Gaps"] "newest" aN) bD dC Y (gS Z p "Gaps" "newest" (dY keep many tk rs L) (.bA (fC rs)))=aG (.int (vP rs n)) (gS Z p "Gaps" "newest" (dY keep many tk rs L) (.bA (fC rs))):=by
 have o:=MP h z;have q:=UO (c:=.bA (fC rs)) o;have j:lW (gS Z p "Gaps" "newest" (dY keep many tk rs L) (.bA (fC rs))) (.aI Z.length)=aj (Z.length,fC rs):=FE (UP o);unfold CZ;rw[dJ q];rw[a9 ⟨_,_,j⟩];rw[dJ (x:=.int n) (Z':=gS Z p "Gaps" "newest" (dY keep many tk rs L) (.bA (fC rs))) (by simp[h1])];rw[dJ (x:=.int 0) (Z':=gS Z p "Gaps" "newest" (dY keep many tk rs L) (.bA (fC rs))) (by simp)];simp only[Jh,j,mF,Rk]
theorem Va(h:Z[p]?=aj (aT keep many tk rs L))(nd:(rs.map (·.1)).Nodup)(hl:rs.length<1000)(n t:a5) :
  uU 0 "newest" (yH (aC cF (CZ (eY ["Gaps"] "newest" aN) bD dC) bR) (eY ["Gaps"] "newest" aN) bD) [aD p,aA n,aA t] Z=eN [aD p,aA n,aA t] (Z.set p (aT keep many tk (bQ rs n t) L)):=by
 have z:rs.length<bc:=by rw[nO];omega
 have o:=MP h (Y:=[aD p,aA n,aA t]) rfl;rw[Fo (Y':=[aD p,aA n,aA t]) rfl h as8 rfl (fd':=.bA (fC (bQ rs n t))) (c':=.bA (fC (bQ rs n t))) (by
  have q:=UO (c:=.bA (fC rs)) o;have U:lW (gS Z p "Gaps" "newest" (dY keep many tk rs L) (.bA (fC rs))) (.aI Z.length)=aj (Z.length,fC rs):=FE (UP o);have N:(aC cF (CZ (eY ["Gaps"] "newest" aN) bD dC) bR) [aD p,aA n,aA t] (gS Z p "Gaps" "newest" (dY keep many tk rs L) (.bA (fC rs)))=aG (.int (vP rs n+t)) (gS Z p "Gaps" "newest" (dY keep many tk rs L) (.bA (fC rs))) :=
   dG (aBK h rfl rfl) (aU (a:=.int t) rfl) (by simp)
  unfold yH;rw[gL N,gL q];rw[gL (x:=.int n) (Z':=gS Z p "Gaps" "newest" (dY keep many tk rs L) (.bA (fC rs))) (by simp)];have b:(fC rs).length<bc:=by simpa[fC]using z
  simp only[TF,U,mF,a9 b,Vf rs n t nd];rw[Fn]) rfl (.inr (ab5 _ _)) (λj d B => .inl B),Vb]
theorem aIN(h:Z[p]?=aj (aT keep many tk rs L))(nd:(rs.map (·.1)).Nodup)(hl:rs.length<1000)(n t:a5)(B:(bQ rs n t).length<=keep) :
  GH [.aI p,.int n,.int t] Z=aG (.cE) (Z.set p (aT keep many tk (bQ rs n t) L)):=by
 show trim Z (fE (QC [aD p,aA n,aA t] Z))=_;unfold QC;rw[bI (Va h nd hl n t)];have h2:=MG (c':=aT keep many tk (bQ rs n t) L) h;have q:(dY keep many tk (bQ rs n t) L).lookup ("keep" : ba)=aj (.val (.int keep)):=rfl;have e:jE ["Gaps"] 0 "newest" (λj=>ret (.int j.length)) [aD p,aA n,aA t] (Z.set p (aT keep many tk (bQ rs n t) L))=aG (.int (bQ rs n t).length) (Z.set p (aT keep many tk (bQ rs n t) L)):=by
  unfold jE;rw[MP h2 rfl];simp[fC]
 have z:eY ["Gaps"] "keep" aN [aD p,aA n,aA t] (Z.set p (aT keep many tk (bQ rs n t) L))=aG (.int keep) (Z.set p (aT keep many tk (bQ rs n t) L)):=by
  unfold eY;rw[dJ (aU (a:=A.aI p) rfl)];simp only[ER,h2,q];simp
 rw[rF (jN (b:=au) (dG e z (by simp;omega)))];simp only[AS];exact pH (by simp)
theorem Ua{c:ay}(q:∀r∈rs,1<=r.2)(hl:rs.length<=keep+1)(z:keep+1<=c):rT keep (0,c,rs,lE rs):=by
 have g:=OR q;have j:0<=(lE rs).s:=g.gf.s0;refine⟨g,?_,?_,?_,j⟩
 ·show(keep:a5)*0<=((0:ay):a5)*_;simp
 ·show 2 ^ 0*(keep+1)<=c;simpa using z
 ·show(iV 0 (eG rs)).length<=2*keep+2;have h1:=Em (eG rs) 0;have h2:=MM rs;omega
theorem aIM(b:1<=keep)(m:keep<=399)(h:Z[p]?=aj (aT keep many tk rs L))(nd:(rs.map (·.1)).Nodup)(hl:rs.length<1000)(n t:a5)(l:(bQ rs n t).length=keep+1)(z:∀r∈bQ rs n t,1<=r.2)(hw:whole (bQ rs n t)<=1000000000)
  (gT:wD keep L) (hL:L.length<=1000) {c:ay} (d:keep+1<=c) :
  GH [.aI p,.int n,.int t] Z=aG (.cE) (Z.set p (aT keep many tk [] (kO keep L.length L (0,c,bQ rs n t,lE (bQ rs n t))))):=by
 show trim Z (fE (QC [aD p,aA n,aA t] Z))=_;unfold QC;rw[bI (Va h nd hl n t)];have h2:=MG (c':=aT keep many tk (bQ rs n t) L) h;have U:(dY keep many tk (bQ rs n t) L).lookup ("keep" : ba)=aj (.val (.int keep)):=rfl;have e:jE ["Gaps"] 0 "newest" (λj=>ret (.int j.length)) [aD p,aA n,aA t] (Z.set p (aT keep many tk (bQ rs n t) L))=aG (.int (bQ rs n t).length) (Z.set p (aT keep many tk (bQ rs n t) L)):=by
  unfold jE;rw[MP h2 rfl];simp[fC]
 have g:eY ["Gaps"] "keep" aN [aD p,aA n,aA t] (Z.set p (aT keep many tk (bQ rs n t) L))=aG (.int keep) (Z.set p (aT keep many tk (bQ rs n t) L)):=by
  unfold eY;rw[dJ (aU (a:=A.aI p) rfl)];simp only[ER,h2,U];simp
 have q:=adZ b (by omega) h2 hL gT (Ua z (by omega) d);rw[qR]at q;have N:=adV h2 z (by omega) hw;have em:(cH "lay" [("Gaps",bX 3 [] CQ)] aN (aB (cH "newest_pouch" [("Gaps",bX 1 [] CP)] aN a0) (aB dC a0))) [aD p,aA n,aA t] (Z.set p (aT keep many tk (bQ rs n t) L))=aG (.cE) (Z.set p (aT keep many tk (bQ rs n t) (kO keep L.length L (0,c,bQ rs n t,lE (bQ rs n t))))) :=
  vC h2 rfl rfl (as:=[aW (lE (bQ rs n t)),.int 0]) (das:=[]) (bB (vC h2 rfl rfl (as:=[]) (das:=[]) bY rfl (by simpa using N)) (bB (by simp) bY)) rfl (by simpa using q)
 have B:=MG (c':=aT keep many tk (bQ rs n t) (kO keep L.length L (0,c,bQ rs n t,lE (bQ rs n t)))) h;have i:(yG ["Gaps"] 0 "newest" wQ) [aD p,aA n,aA t] (Z.set p (aT keep many tk (bQ rs n t) (kO keep L.length L (0,c,bQ rs n t,lE (bQ rs n t)))))=eN [aD p,aA n,aA t] (Z.set p (aT keep many tk [] (kO keep L.length L (0,c,bQ rs n t,lE (bQ rs n t))))):=by
  generalize kO keep L.length L (0,c,bQ rs n t,lE (bQ rs n t))=L2 at B;have ob:DM ["Gaps"] 0 [aD p,aA n,aA t] (Z.set p (aT keep many tk (bQ rs n t) L2))=aj (p,("Gaps" : ba),dY keep many tk (bQ rs n t) L2):=by
   unfold DM;simp[B]
  have k:wQ [aD p,aA n,aA t] (Z.set p (aT keep many tk (bQ rs n t) L2))=aG (.aI (Z.set p (aT keep many tk (bQ rs n t) L2)).length) (Z.set p (aT keep many tk (bQ rs n t) L2)++[.bA []]):=by simp
  unfold yG;rw[ob];simp only[k,aBM,Fd.HU];rw[a9 ⟨rfl,rfl,by simp,ab5 _ []⟩];show aj (Out.nx,_,(Z.set p _).set p (.ins "Gaps" (putD "newest" (.bA (fC [])) (dY keep many tk (bQ rs n t) L2))))=_;rw[Vb,qR]
 have f:cA (aC vL (jE ["Gaps"] 0 "newest" λj=>ret (.int j.length)) (eY ["Gaps"] "keep" aN)) [aD p,aA n,aA t] (Z.set p (aT keep many tk (bQ rs n t) L))=aG ax (Z.set p (aT keep many tk (bQ rs n t) L)):=jN (dG e g (by simp;omega));unfold fO;rw[gL f];simp only[jP];rw[bI (Y1:=[aD p,aA n,aA t]) (by unfold kL;rw[gL em]),i];simp only[AS];exact pH (by simp)
end
open Classical in
theorem Al{α:Type}{n:ay}{js:ak ay}{fi:Ev->Mo Src}{g:A->MS}{e:Ev->Mo A}{Y:Ev}{Z Z0:aE}{S:Src}(xs:ak α)(enc ae:α->A)(P:Ev->Prop)(inj:∀x y,enc x=enc y->ae x=ae y)
  (h0:fi Y Z=aG S Z0) (aH:∀ys,S.ok (Z0++[.lst ys])) (hP:P (AY n js Y)) (hS:S.ds=xs.map enc) (hl:xs.length<=1000000)
  (step:∀x∈xs,∀Y,P Y->∀ys,∃Y1,P Y1/\g (enc x) Y (Z0++[.lst ys])=eN Y1 (Z0++[.lst ys])/\e Y1 (Z0++[.lst ys])=aG (ae x) (Z0++[.lst ys]))
  (hc:∀x∈xs,Cl Z0.length (ae x)):wN au n js fi g AB e Y Z=aG (.lst (xs.map ae)) Z0:=by
 let F:A->ar A:=λa=>if h:∃x,x∈xs/\enc x=a then aj (ae (Classical.choose h))else ao
 have hF:∀x∈xs,F (enc x)=aj (ae x):=λx hx=>by
  have h:∃y,y∈xs/\enc y=enc x:=⟨x,hx,rfl⟩;show(if h:∃y,y∈xs/\enc y=enc x then aj (ae (Classical.choose h))else ao)=_;rw[dif_pos h,inj _ _ (ZO h).2]
 have ef:∀l:ak α,(∀x∈l,x∈xs)->(l.map enc).filterMap F=l.map ae:=by
  intro l
  induction l with
  |nil=>intro _;rfl
  |cons x r ih =>
   intro h;simp only[bU,aeA,hF x (h x (by simp)),ih λy hy=>h y (by simp[hy])]
 have q:=Rq (n:=n) (js:=js) (fi:=fi) (g:=g) (c:=AB) (e:=e) (Y:=Y) (Z:=Z) (Z0:=Z0) (S:=S) F P h0 aH hP (by rw[hS];simpa using hl) (λx hx Y hp ys=>by
  rw[hS]at hx;obtain⟨y,hy,rfl⟩:=lX.mp hx;obtain⟨Y1,h1,h2,h3⟩:=step y hy Y hp ys;exact⟨Y1,h1,h2,.inl ⟨ae y,hF y hy,by simp[AB],h3⟩⟩) (by
  rw[hS,ef xs λ_ h=>h];exact BW λa ha=>by obtain⟨x,hx,rfl⟩:=lX.mp ha;exact hc x hx)
 rw[hS,ef xs λ_ h=>h]at q;exact q
theorem aBZ(L:ak a5)(Z:aE):OT [.lst (L.map A.int)] Z=aG (.int L.sum) Z:=by
 simp[Yc]
def dX(rs:ak Rn)(L:ak Rg):ak Po:=lE rs::L.map λx=>x.2.2.2
section
variable{Z:aE}{p keep:ay}{many tk:a5}{rs:ak Rn}{L:ak Rg}
theorem Mv(h:Z[p]?=aj (aT keep many tk rs L))(z:∀r∈rs,1<=r.2)(hl:rs.length<=400)(hw:whole rs<=1000000000)(hL:L.length<=1000):wF [.aI p] Z=aG (.lst ((dX rs L).map aW)) Z:=by
 have q:=adV h z hl hw;show trim Z (fE (Lk [aD p] Z))=_;have a:cH "newest_pouch" [("Gaps",bX 1 [] CP)] aN a0 [aD p] Z=aG (aW (lE rs)) Z:=vC h rfl rfl (as:=[]) (das:=[]) bY rfl (by simpa using q);have U:lD au (aB (cH "newest_pouch" [("Gaps",bX 1 [] CP)] aN a0) a0) [aD p] Z=aG (.lst [aW (lE rs)]) Z:=by
  unfold lD;rw[dJ (bB a bY)];have h1:(1:ay)<=bc:=by decide
  simp[h1]
 have N:jE ["Gaps"] 0 "laid" (λj=>mE au (j.map (·.2))) [aD p] Z=aG (.lst (L.map λx=>aW x.2.2.2)) Z:=by
  unfold jE;rw[TY h rfl];simp[fB,zS]
 have B:=dG (g:=IW au) (c:=.lst ((dX rs L).map aW)) U N (by
  have:1+L.length<=bc:=by rw[nO];omega
  simp[dX,zS];omega)
 unfold Lk cR;rw[gL B];exact pH rfl
theorem aIQ(h:Z[p]?=aj (aT keep many tk rs L))(N:∀r∈rs,1<=r.2)(hl:rs.length<=400)(hw:whole rs<=1000000000)(hL:L.length<=1000):zW [.aI p] Z=aG (.int (mD L)) Z:=by
 have B:=Mv h N hl hw hL;show trim Z (fE (Lm [aD p] Z))=_;have d:cH "parts" [("Gaps",bX 1 [] wF)] aN a0 [aD p] Z=aG (.lst ((dX rs L).map aW)) Z:=vC h rfl rfl (as:=[]) (das:=[]) bY rfl (by simpa using B);have c:Ll [aD p] Z=aG (.lst ((dX rs L).map λq=>A.int q.l)) Z:=by
  refine Al (S:=srcOf (.lst ((dX rs L).map aW)) ((dX rs L).map aW)) (dX rs L) aW (λq=>A.int q.l) (λj=>∃u,j=[u]) (λa b e=>by simp[aW,eA]at e;simp[e.2.1]) ?_ (λz=>rfl) ⟨ao,rfl⟩ rfl (by simp[dX];omega) (λq _ j ⟨u,e⟩ z=>by subst e;exact⟨[aj (aW q)],⟨_,rfl⟩,by simp,by simp[aW,eA]⟩) (λq _=>by simp only[Cl]);unfold jD;rw[dJ d];simp
 have U:aX OT (aB Ll a0) [aD p] Z=aG (.int (mD L)) Z:=FA (bB c bY) (by
  have e:(dX rs L).map (λq=>A.int q.l)=((dX rs L).map (·.l)).map A.int:=by simp[zS]
  rw[e];have s:=aBZ ((dX rs L).map (·.l)) Z;rw[s];simp[dX,lE,mD,zS])
 unfold Lm cR;rw[gL U];exact pH rfl
end
noncomputable def iI(ps:ak Po):ak a5:=(ps.map λq=>q.es.map (·.1)).flatten
theorem auD{Ψ:aE}{n0:ay}{acc:ak a5}(h:Ψ[n0]?=aj (.lst (acc.map A.int)))(q:Po)(hL:acc.length+q.es.length<=100000)(x:ar A) :
  QE [x,aD n0,aj (aW q)] Ψ=eN [x,aD n0,aj (aW q)] (Ψ.set n0 (.lst ((acc++q.es.map (·.1)).map A.int))):=by
 have f:acW [x,aD n0,aj (aW q)] Ψ=aG (.lst (q.es.map λe=>A.int e.1)) Ψ:=by
  refine Al (S:=srcOf (.lst (encL q.es)) (encL q.es)) q.es cK (λe=>A.int e.1) (λj=>∃u,j=[u]) (λa b e=>by simp[cK]at e;rw[e.1]) ?_ (λz=>rfl) ⟨ao,rfl⟩ rfl (by omega) (λe _ j ⟨u,N⟩ z=>by subst N;exact⟨[aj (cK e)],⟨_,rfl⟩,by simp,by simp[cK]⟩) (λe _=>by simp only[Cl]);unfold jD;rw[dJ (dG (aU (a:=aW q) rfl) (b:=A.int 3) (by simp) (c:=.lst (encL q.es)) (by simp[aW,eA]))];simp
 have U:sX Ψ (.aI n0)=aj (n0,acc.map A.int):=FC h;have hi:yR Ψ (.aI n0):=ED (vD h);have B:acc.length+q.es.length<=bc:=by rw[nO];omega
 have d:acc.map A.int++q.es.map (λe=>A.int e.1)=(acc++q.es.map (·.1)).map A.int:=by simp[zS]
 unfold QE kL;rw[gL (x:=A.cE) (Z':=Ψ.set n0 (.lst ((acc++q.es.map (·.1)).map A.int))) (by
  unfold pZ;rw[dJ (x:=A.aI n0) (Z':=Ψ) (by simp)];rw[a9 hi,dJ (bB f bY)];rw[<-d];simp[U,B,IB])]
theorem Xw{n0:ay}(x:ar A)(ok:aE->Prop):∀(ps:ak Po) (acc:ak a5) (y:ar A) (Ψ:aE),Ψ[n0]?=aj (.lst (acc.map A.int))->acc.length+(iI ps).length<=100000->(∀Z',ok Z') ->
  ∃j,eZ ok (gN 2) QE (ps.map aW) [x,aD n0,y] Ψ=eN [x,aD n0,j] (Ψ.set n0 (.lst ((acc++iI ps).map A.int)))
 | [],acc,y,Ψ,h,_,aH=>⟨y,by
   rw[rW,BQ (aH _)];simp[iI,TB h]⟩
 |q::ps,acc,y,Ψ,h,z,aH=>by
  have hn:n0<Ψ.length:=(dA.mp h).1;have hl:(iI (q::ps)).length=q.es.length+(iI ps).length:=by simp[iI]
  have t:=auD h q (by omega) x;obtain⟨j,e⟩:=Xw x ok ps (acc++q.es.map (·.1)) (aj (aW q)) (Ψ.set n0 (.lst ((acc++q.es.map (·.1)).map A.int))) (fG hn) (by simp;omega) aH;refine⟨j,?_⟩;rw[bU,qO (aH _) (Y0:=[x,aD n0,aj (aW q)]) (Z0:=Ψ) (by simp) t,e,qR];simp[iI]
section
variable{Z:aE}{p keep:ay}{many tk:a5}{rs:ak Rn}{L:ak Rg}
theorem aIX(h:Z[p]?=aj (aT keep many tk rs L))(z:∀r∈rs,1<=r.2)(hl:rs.length<=400)(hw:whole rs<=1000000000)(hL:L.length<=1000)(hz:(iI (dX rs L)).length<=100000):KW [.aI p] Z=aG (.lst ((iI (dX rs L)).map A.int)) Z:=by
 have U:p<Z.length:=(dA.mp h).1;have h1:(Z++[Cell.lst []])[p]?=aj (aT keep many tk rs L):=by rw[jJ U];exact h
 have q:=Mv h1 z hl hw hL;show trim Z (fE (Lp [aD p,ao,ao] Z))=_;unfold Lp;rw[bI (Y1:=[aD p,aD Z.length,ao]) (Z':=Z++[.lst []]) (by simp)];have b:cH "parts" [("Gaps",bX 1 [] wF)] aN a0 [aD p,aD Z.length,ao] (Z++[.lst []])=aG (.lst ((dX rs L).map aW)) (Z++[.lst []]):=vC h1 rfl rfl (as:=[]) (das:=[]) bY rfl (by simpa using q);obtain⟨j,e⟩:=Xw (n0:=Z.length) (aD p) (srcOf (.lst ((dX rs L).map aW)) ((dX rs L).map aW)).ok (dX rs L) [] ao (Z++[.lst []]) (by simp) (by simpa using hz) (λ_=>rfl);have N:iT (jD (cH "parts" [("Gaps",bX 1 [] wF)] aN a0)) (gN 2) QE [aD p,aD Z.length,ao] (Z++[.lst []])=eN [aD p,aD Z.length,j] ((Z++[Cell.lst []]).set Z.length (.lst ((iI (dX rs L)).map A.int))):=by
  unfold iT;rw[gL (x:=srcOf (.lst ((dX rs L).map aW)) ((dX rs L).map aW)) (Z':=Z++[.lst []]) (by unfold jD;rw[dJ b];simp)];exact e
 rw[bI N];have es:(Z++[Cell.lst []]).set Z.length (.lst ((iI (dX rs L)).map A.int))=Z++[.lst ((iI (dX rs L)).map A.int)]:=by simp
 rw[es];have B:cR (wO 1) [aD p,aD Z.length,j] (Z++[.lst ((iI (dX rs L)).map A.int)])=aj (.ret (.lst ((iI (dX rs L)).map A.int)),[aD p,aD Z.length,j],Z++[.dead]):=by simp
 rw[B];simp only[HS];exact DB (by simp only[Cl];exact BW λa ha=>by obtain⟨x,_,rfl⟩:=lX.mp ha;simp only[Cl])
theorem Wi(ps:ak Po):(iI ps).length=(ps.map λq=>q.es.length).sum:=by
 induction ps with
 |nil=>rfl
 |cons q ps ih =>
  have:iI (q::ps)=q.es.map (·.1)++iI ps:=by simp[iI]
  rw[this,iN,ih];simp
theorem ayZ{b:ay}(j:1<=keep)(hr:rs.length<=keep)(gT:wD keep L)(hb:∀x∈L,x.1<b):(iI (dX rs L)).length<=(2*keep+2)*(b+2):=by
 have h1:=gT.atE hb;have h2:=Em (eG rs) 0;have q:=MM rs;have e:(iI (dX rs L)).length=(iV 0 (eG rs)).length+UQ L:=by
  rw[Wi,dX,bU,oZ,QP];rfl
 rw[e,Nat.mul_comm (2*keep+2),Nat.add_mul];omega
end
def vU(P:Po)(ps:ak Po):Po:=ps.foldl qE P
noncomputable def IE(P:Po)(ps:ak Po):ay:=P.es.length+(ps.map λq=>q.es.length).sum
theorem asQ(P q:Po):(qE P q).es.length=P.es.length+q.es.length:=by
 show(rE P.s q.s P.es q.es).length=_;unfold rE;rw[Wr _ _ _ _ _ _ _ rfl]
noncomputable abbrev P0:Po:=⟨0,0,0,[]⟩
theorem aB7(N:aw)(g:A->Mo A)(a:A)(Z:aE)(ds:ak A)(m:ay)(h1:gD Z a=aj ds)(w:∀i d,ds[i]?=aj d->g d Z=aG (.bl (decide (m<=i))) Z):∀(k fuel st z:ay) (x:ar A),z-st<=k->k<fuel->st<=m->m<=z->z<=ds.length ->
  ∃U,nG (FI N g) (PR N g) fuel [aj a,aj (.adr N),aA st,aA z,x] Z=eN [aj a,aj (.adr N),aA m,aA m,U] Z:=by
 intro k
 induction k with
 |zero =>
  intro fuel st z x u v h2 p o;obtain⟨fuel,rfl⟩:∃n,fuel=n+1:=⟨fuel-1,by omega⟩;have e:st=m:=by omega
  have c:z=m:=by omega
  subst e c;exact⟨x,by rw[WK (Z1:=Z) (by simp[FI])]⟩
 |succ k ih =>
  intro fuel st z x u v h2 p o;obtain⟨fuel,rfl⟩:∃n,fuel=n+1:=⟨fuel-1,by omega⟩
  by_cases y:st<z
  ·have r:(st:a5)<(z:a5):=by omega
   have hd2:∀j,uL j 2:=λj=>⟨by decide,by decide⟩
   obtain⟨B,t⟩:∃B:ay,B=(st+z)/2:=⟨_,rfl⟩;have f:((st:a5)+(z:a5))/2=(B:a5):=by omega
   have s:B<ds.length:=by omega
   have h:fU ds (B:a5)=aj ds[B]:=by rw[xO,fL s]
   have b:=w B _ (fL s);have l:(bK (aC (oS) (aC cF bR cQ) mW) (gN 4)) [aj a,aj (.adr N),aA st,aA z,x] Z=eN [aj a,aj (.adr N),aA st,aA z,aA B] Z:=by
    simp[hd2,f]
   by_cases hm:m<=B
   ·obtain⟨U,q⟩:=ih fuel st B (aA B) (by omega) (by omega) h2 hm (by omega);refine⟨U,?_⟩;rw[<-q];refine EU (Z1:=Z) (by simp[FI,r]) ?_;rw[vO hm]at b;unfold PR;rw[bI l];simp[h1,h,b]
   ·obtain⟨U,q⟩:=ih fuel (B+1) z (aA B) (by omega) (by omega) (by omega) p o;refine⟨U,?_⟩;rw[<-q];refine EU (Z1:=Z) (by simp[FI,r]) ?_;rw[nT hm]at b;unfold PR;rw[bI l];simp[h1,h,b]
  ·have e:st=m:=by omega
   have c:z=m:=by omega
   subst e c;exact⟨x,by rw[WK (Z1:=Z) (by simp[FI])]⟩
theorem aB6(j:aw)(g:A->Mo A)(a:A)(Z:aE)(r:Rs A×aE)(h:vB (vM g a) Z=aj r):cV 5 (PU j g) [a,.adr j] Z=aj r:=by
 have h':vM g a Z=aj r:=by
  simp only[vB]at h
  revert h
  cases e:vM g a Z with
  |none=>intro h;cases h
  |some N =>
   obtain⟨x,Z'⟩:=N;cases x with
   |ok b=>intro h;exact h
   |exc b=>intro h;cases h
 obtain⟨ds,m,h1,h2,c,U,rfl⟩:=aB8 h';obtain⟨B,q⟩:=aB7 j g a Z ds m h1 U ds.length 1000000 0 ds.length ao (by omega) (by omega) (by omega) h2 cX;simp only[Int.natCast_zero]at q;show trim Z (fE (PU j g [aj a,aj (.adr j),ao,ao,ao] Z))=_;unfold PU;rw[bI (Y1:=[aj a,aj (.adr j),aA 0,ao,ao]) (Z':=Z) (by simp)];rw[bI (Y1:=[aj a,aj (.adr j),aA 0,aA ds.length,ao]) (Z':=Z) (by simp[h1])];rw[bI (Y1:=[aj a,aj (.adr j),aA m,aA m,B]) (Z':=Z) (f:=λz Z=>nG (FI j g) (PR j g) ((λ_ _=>1000000) z Z) z Z) q];simp
theorem acA{l s:a5}:∀{es:ak E} {lo j:a5} {q:ar a5},Ch l s lo j q es->(∀e∈es,j<e.2.2)/\es.Pairwise (λa b=>a.2.2<b.2.2)
 |[],_,_,_,_=>⟨by simp,.nil⟩
 |e::r,lo,j,q,h=>by
  obtain⟨_,_,_,U,_,_,N⟩:=h;obtain⟨a,b⟩:=acA N;refine⟨λx B=>?_,FR.mpr ⟨a,b⟩⟩
  rcases dU.mp B with z|z
  ·subst z;exact U
  ·have:=a x z;omega
theorem Ws{p:E->br}:∀{es:ak E},es.Pairwise (λa b=>p a=ax->p b=ax)->∃m,m<=es.length/\∀(i:ay) (e:E),es[i]?=aj e->p e=decide (m<=i)
 |[],_=>⟨0,oX _,λi e h=>by simp at h⟩
 |x::z,h=>by
  obtain⟨h1,h2⟩:=FR.mp h;cases j:p x with
  |true =>
   refine⟨0,CG _,λi e he=>?_⟩;cases i with
   |zero=>simp at he;subst he;simp[j]
   |succ i=>simp at he;simp[h1 e (mQ he) j]
  |false =>
   obtain⟨m,hm,q⟩:=Ws h2;refine⟨m+1,by simp;omega,λi e he=>?_⟩;cases i with
   |zero=>simp at he;subst he;simp[j]
   |succ i =>
    simp at he;rw[q i e he];simp
theorem aGY{s l d:a5}{es:ak E}(h:GF s l d es)(b:a5):∃m,m<=es.length/\∀(i:ay) (e:E),es[i]?=aj e->decide (b<e.2.2)=decide (m<=i) :=
 Ws ((acA h.ch).2.imp λ{x y} q j=>by simp at j ⊢;omega)
def At(R:ak Rn)(e:E)(p:a5):Prop:=cO R e.1<p/\p<=cZ R e.1/\e.2.1<=p/\p<=e.2.2
theorem Vo{R:ak Rn}:∀{es:ak E} {z:a5},Pl R z es->∃ps:ak a5,ps.length=es.length/\(∀p∈ps,z<p)/\ps.Pairwise (· < ·)/\∀(i:ay) (e:E),es[i]?=aj e->∃p,ps[i]?=aj p/\At R e p
 |[],_,_=>⟨[],rfl,(λ_ h=>by cases h),List.Pairwise.nil,(λi e h=>by simp at h)⟩
 |e::r,z,⟨p,h,c,b,a,U,N⟩=>by
  obtain⟨ps,n,B,m,l⟩:=Vo N;refine⟨p::ps,by simp[n],λq j=>?_,FR.mpr ⟨λq j=>B q j,m⟩,λi f he=>?_⟩
  ·rcases dU.mp j with x|x
   ·rw[x];exact h
   ·have:=B q x;omega
  ·cases i with
   |zero=>simp at he;subst he;exact⟨p,rfl,c,b,a,U⟩
   |succ i=>obtain⟨d,k,g⟩:=l i f (by simpa using he);exact⟨d,by simpa using k,g⟩
theorem aj4{R:ak Rn}{p:Po}(h:Gd R p)(place:a5)(h1:1<=place)(h2:place<=p.s)(m:ay)(hm:m<=p.es.length)(z:∀(i:ay) (e:E),p.es[i]?=aj e->decide (place+(p.l+1)/2<e.2.2)=decide (m<=i))(e:E)(I:1<=m)(he:p.es[m-1]?=aj e) :
  cO R e.1<cZ R e.1/\cO R e.1+1-(p.l+1)/2<=place/\place<=cZ R e.1+(p.l+1)/2:=by
 have H:=h.gf.l0;obtain⟨n,F,D,C,U⟩:=Vo h.pl;obtain⟨q,A,y,x,w,v⟩:=U _ _ he;have hi:=z _ _ he;have g:e.2.2<=place+(p.l+1)/2:=by
  have:decide (m<=m-1)=au:=by simp;omega
  rw[this]at hi;simpa using hi
 refine⟨by omega,by omega,?_⟩
 by_cases hl:m<p.es.length
 ·have j:p.es[m]?=aj p.es[m]:=fL hl;obtain⟨k,u,t,d,r,o⟩:=U _ _ j;have B:=z _ _ j;rw[vO (oX m)]at B;have f:place+(p.l+1)/2<p.es[m].2.2:=by simpa using B
  obtain⟨c,b,N,a⟩:=WU p.es 0 0 ao m _ h.gf.ch j;have hb:qD p.l e p.es[m]=ax:=((WU p.es 0 0 ao (m-1) e h.gf.ch he).2.2.2 p.es[m] (by rw[show m-1+1=m by omega];exact j)).2.2.2;rw[DQ]at hb
  rcases hb with hb|hb
  ·rw[hb]at d;omega
  ·omega
 ·have G:m=p.es.length:=by omega
  obtain⟨c,b,N,a⟩:=WU p.es 0 0 ao (m-1) _ h.gf.ch he;have:=N (by omega);omega
noncomputable def allR(R:ak Rn)(rs:ak (ak Rn)):ak Rn:=rs.foldl (· ++ ·) R
theorem ac5:∀(xs:ak (ak Rn×Po)) (R:ak Rn) (P:Po),Gd R P->(∀x∈xs,Gd x.1 x.2)->Gd (allR R (xs.map (·.1))) (vU P (xs.map (·.2)))
 |[],R,P,h,_=>h
 |x::xs,R,P,h,g=>ac5 xs (R++x.1) (qE P x.2) (h.merge (g x (by simp))) λy j=>g y (by simp[j])
theorem ac4:∀(ps:ak Po) (P:Po),(vU P ps).l=P.l+(ps.map (·.l)).sum
 |[],P=>by simp[vU]
 |q::ps,P=>by
  have:=ac4 ps (qE P q);have e:(qE P q).l=P.l+q.l:=rfl;show(vU (qE P q) ps).l=_;rw[this,e];simp;omega
theorem MZ(s t:a5):∀(n:ay) (es fs:ak E) (lo1 dE:a5),es.length+fs.length<=n->((fJ s t n lo1 dE es fs).map (·.1)).Perm (es.map (·.1)++fs.map (·.1))
 |0,es,fs,lo1,dE,h=>by
  have h1:es=[]:=xV (by omega);have h2:fs=[]:=xV (by omega);subst h1;subst h2;simp[fJ]
 |n+1,[],[],lo1,dE,_=>by simp[fJ]
 |n+1,e::es,[],lo1,dE,h=>by
  have i:=MZ s t n es [] e.2.1 dE (by simp at h ⊢;omega);simp only[fJ,bU,QS];exact i.cons _
 |n+1,[],f::fs,lo1,dE,h=>by
  have i:=MZ s t n [] fs lo1 f.2.1 (by simp at h ⊢;omega);simp only[fJ,bU,rW,xT]at i ⊢;exact i.cons _
 |n+1,e::es,f::fs,lo1,dE,h=>by
  simp only[fJ];split
  ·have i:=MZ s t n es (f::fs) e.2.1 dE (by simp at h ⊢;omega);simp only[bU,QS]at i ⊢;exact i.cons _
  ·have i:=MZ s t n (e::es) fs lo1 f.2.1 (by simp at h ⊢;omega);simp only[bU,QS]at i ⊢;exact(i.cons _).trans (List.perm_middle (l₁:=e.1::es.map λx:E=>x.1) (l₂:=fs.map λx:E=>x.1) (a:=f.1)).symm
theorem Ly:∀(ps:ak Po) (P:Po),((vU P ps).es.map (·.1)).Perm (P.es.map (·.1)++iI ps)
 |[],P=>by simp[vU,iI]
 |q::ps,P=>by
  have i:=Ly ps (qE P q);have e:((qE P q).es.map (·.1)).Perm (P.es.map (·.1)++q.es.map (·.1)):=MZ P.s q.s _ P.es q.es 0 0 cX;show((vU (qE P q) ps).es.map (·.1)).Perm _;refine i.trans ((e.append_right _).trans ?_);simp[iI]
structure qU(F:ak Rn->a5):Prop where
 app:∀a b,F (a++b)=F a+F b
 one:∀n s t,F [(n,s+t)]=F [(n,s)]+F [(n,t)]
theorem qU.nil{F:ak Rn->a5}(h:qU F):F []=0:=by have:=h.app [] [];simp at this;omega
theorem qU.cons{F:ak Rn->a5}(h:qU F)(r:Rn)(R:ak Rn):F (r::R)=F [r]+F R:=h.app [r] R
theorem ID:qU whole:=⟨uN,λn s t=>by simp[whole]⟩
theorem atB(x:a5):qU (cO · x):=⟨λa b=>Au a b x,λn s t=>by simp only[cO,bU,rW,oZ,List.sum_nil];split <;> omega⟩
theorem atA(x:a5):qU (cZ · x):=⟨λa b=>As a b x,λn s t=>by simp only[cZ,bU,rW,oZ,List.sum_nil];split <;> omega⟩
theorem qU.add{F:ak Rn->a5}(h:qU F)(n t:a5):∀rs:ak Rn,F (bQ rs n t)=F rs+F [(n,t)]
 |[]=>by simp[bQ,h.nil]
 |r::rs=>by
  have ih:=h.add n t rs;unfold bQ;split
  ·rename_i e;rw[h.cons (r.1,r.2+t),h.cons r,h.one,e];have:F [(n,r.2)]=F [r]:=by rw[<-e]
   omega
  ·rw[h.cons r,ih,h.cons r rs];omega
theorem qU.all{F:ak Rn->a5}(h:qU F):∀(xs:ak (ak Rn)) (R:ak Rn),F (allR R xs)=F R+(xs.map F).sum
 |[],R=>by simp[allR]
 |x::xs,R=>by
  have:=h.all xs (R++x);show F (allR (R++x) xs)=_;rw[this,h.app];simp;omega
theorem ac7(n t:a5):∀rs:ak Rn,(bQ rs n t).length<=rs.length+1
 |[]=>by simp[bQ]
 |r::rs=>by
  have:=ac7 n t rs;unfold bQ;split
  ·simp
  ·simp;omega
theorem Vn{R S:ak Rn}(h1:∀x,cO R x=cO S x)(h2:∀x,cZ R x=cZ S x):∀(es:ak E) (z:a5),Pl R z es->Pl S z es
 |[],_,_=>trivial
 |e::es,z,⟨p,a,U,N,B,q,j⟩=>⟨p,a,by rw[<-h1];exact U,by rw[<-h2];exact N,B,q,Vn h1 h2 es p j⟩
structure eO(keep:ay)(rs:ak Rn)(L:ak Rg)(row:ak Rn)(P:ay):Prop where
 k1:1<=keep
 kb:(keep<=5/\P<2 ^ 40)\/(keep=100/\P<=400)
 nd:(rs.map (·.1)).Nodup
 pos:∀r∈rs,1<=r.2
 rl:rs.length<=keep
 gT:wD keep L
 sums:∀F,qU F->F rs+mZ F L=F row
 MK:∃c,rs.length<=c/\(rs=[]->c=0)/\c+pM L=P
 tn:Tn row
 w:whole row<=1000000000
theorem aqL{keep:ay}(q:1<=keep)(j:keep<=5\/keep=100):eO keep [] [] [] 0:=⟨q,j.imp (λh=>⟨h,by decide⟩) λh=>⟨h,by decide⟩,by simp,by simp,by simp,⟨by simp,by simp⟩,λF z=>by simp[mZ,z.nil],⟨0,by simp,λ_=>rfl,rfl⟩,λr hr=>by simp at hr,by decide⟩
section
variable{keep P:ay}{rs row:ak Rn}{L:ak Rg}
theorem anK(gT:wD keep L)(x:Rg)(j:x∈L):x.2.1<=pM L:=by
 have h:∀l:ak Rg,x∈l->x.2.1<=pM l:=by
  intro l
  induction l with
  |nil=>intro h;cases h
  |cons y l ih =>
   intro h;simp only[pM,bU,oZ]at *
   rcases dU.mp h with q|q
   ·subst q;omega
   ·have:=ih q;omega
 exact h L j
theorem eO.hl(o:eO keep rs L row P):rs.length<=100:=by
 have:=o.rl
 rcases o.kb with⟨h,_⟩|⟨h,_⟩ <;> omega
theorem Bn(gT:wD keep L):0<=mZ whole L:=by
 have h:∀l:ak Rg,(∀x∈l,rT keep x)->0<=mZ whole l:=by
  intro l
  induction l with
  |nil=>intro _;simp[mZ]
  |cons x l ih =>
   intro h;have:=ih λy j=>h y (by simp[j]);have g:=h x (by simp);have h1:=g.nn;rw[g.gd.sz]at h1;simp only[mZ,bU,oZ]at *;omega
 exact h L gT.ok
theorem eO.hw(o:eO keep rs L row P):whole rs<=1000000000:=by
 have:=o.sums whole ID;have:=Bn o.gT;have:=o.w;omega
theorem eO.lv(o:eO keep rs L row P){b:ay}(hb:P/(keep+1)<2 ^ b):∀x∈L,x.1<b:=λx j=>by
 obtain⟨c,h1,_,h2⟩:=o.MK;have z:=anK o.gT x j;have q:=(o.gT.ok x j).cnt;exact as2 (n:=P) (by omega) hb
theorem eO.held(o:eO keep rs L row P){b:ay}(hb:P/(keep+1)<2 ^ b):(iI (dX rs L)).length<=(2*keep+2)*(b+2):=ayZ o.k1 o.rl o.gT (o.lv hb)
theorem eO.abG(o:eO keep rs L row P):(keep<=5/\P/(keep+1)<2 ^ 40)\/(keep=100/\P/(keep+1)<2 ^ 2):=by
 have h1:P/(keep+1)<=P:=Nat.div_le_self _ _
 rcases o.kb with⟨h,h2⟩|⟨h,h2⟩
 ·exact .inl ⟨h,Nat.lt_of_le_of_lt h1 h2⟩
 ·subst h;exact .inr ⟨rfl,by omega⟩
theorem eO.hL(o:eO keep rs L row P):L.length<=400:=by
 have h:∃b,b<=40/\∀x∈L,x.1<b:=by
  rcases o.abG with⟨_,h⟩|⟨_,h⟩
  ·exact⟨40,by decide,o.lv h⟩
  ·exact⟨2,by decide,o.lv h⟩
 obtain⟨b,hb,z⟩:=h;have:=Jo (m:=b) o.gT.nd λy q=>by
  obtain⟨x,j,rfl⟩:=lX.mp q;exact z x j
 rw[lI]at this;omega
theorem eO.nums(o:eO keep rs L row P):(iI (dX rs L)).length<=976:=by
 rcases o.abG with⟨h,h2⟩|⟨h,h2⟩
 ·have q:=o.held h2;have:(2*keep+2)*(40+2)<=12*42:=Nat.mul_le_mul_right 42 (by omega);omega
 ·have q:=o.held h2;subst h;omega
theorem eO.atD(o:eO keep rs L row P):IE P0 (dX rs L)<=976:=by
 have:=o.nums;rw[Wi]at this;simpa[IE]using this
abbrev All(rs:ak Rn)(L:ak Rg):Po:=vU P0 (dX rs L)
def AA(rs:ak Rn)(L:ak Rg):ak (ak Rn×Po):=(rs,lE rs)::L.map λx=>(x.2.2.1,x.2.2.2)
theorem aeV:(AA rs L).map (·.2)=dX rs L:=by simp[AA,dX,zS]
theorem aeU(o:eO keep rs L row P):∀x∈AA rs L,Gd x.1 x.2:=λx q=>by
 rcases dU.mp q with z|z
 ·subst z;exact OR o.pos
 ·obtain⟨y,j,rfl⟩:=lX.mp z;exact(o.gT.ok y j).gd
theorem gd0:Gd [] P0:=by
 have h:=OR (R:=[]) (by simp);have e:eG []=[]:=xV (Nat.le_zero.mp (MM []));have j:lE []=P0:=by simp[lE,e,iV,whole]
 rwa[j]at h
theorem eO.gd(o:eO keep rs L row P):Gd row (All rs L):=by
 have g:=ac5 (AA rs L) [] P0 gd0 (aeU o);rw[aeV]at g;have e:∀F,qU F->F (allR [] ((AA rs L).map (·.1)))=F row:=λF j=>by
  rw[j.all,j.nil,<-o.sums F j];simp[AA,mZ,zS]
 have h1:∀x,cO (allR [] ((AA rs L).map (·.1))) x=cO row x:=λx=>e _ (atB x);have h2:∀x,cZ (allR [] ((AA rs L).map (·.1))) x=cZ row x:=λx=>e _ (atA x);exact⟨o.tn,g.gf,by rw[g.sz];exact e _ ID,Vn h1 h2 _ _ g.pl⟩
theorem eO.off(o:eO keep rs L row P):(All rs L).l=mD L:=by
 rw[ac4];simp[dX,lE,mD,zS]
theorem eO.size(o:eO keep rs L row P):(All rs L).s=whole row:=o.gd.sz
theorem eO.Wc(o:eO keep rs L row P):0<=mD L:=by rw[<-o.off];exact o.gd.gf.l0
end
abbrev pJ:Cell:=.tab "so_manieth" ⟨116,40,116,73⟩ (UI "so_manieth")
structure gR(Z:aE)(p keep:ay)(rs row:ak Rn)(L:ak Rg):Prop where
 h:Z[p]?=aj (aT keep (whole row) row.length rs L)
 o:eO keep rs L row row.length
 u:Z[0]?=aj pJ
theorem Lr{Z:aE}{i:ay}{c:Cell}(h:Z[i]?=aj c)(j:aE):(Z++j)[i]?=aj c:=by
 rw[jJ (dA.mp h).1];exact h
theorem Vi(x:ar A)(ok:aE->Prop)(aH:∀Z',ok Z'):∀(ps:ak Po) (P:Po) (y:ar A) (Ψ:aE),IE P ps<=100000 ->
  ∃j,eZ ok (gN 2) XQ (ps.map aW) [x,aj (aW P),y] Ψ=eN [x,aj (aW (vU P ps)),j] Ψ
 |[],P,y,Ψ,_=>⟨y,by rw[rW,BQ (aH _)];simp[vU]⟩
 |q::ps,P,y,Ψ,z=>by
  have hl:IE P (q::ps)=P.es.length+q.es.length+(ps.map λq=>q.es.length).sum:=by simp[IE];omega
  have m:CN [aW P,aW q] Ψ=aG (aW (qE P q)) Ψ:=adX P.s P.l P.d q.s q.l q.d P.es q.es Ψ (by omega);have t:XQ [x,aj (aW P),aj (aW q)] Ψ=eN [x,aj (aW (qE P q)),aj (aW q)] Ψ:=jB (i:=1) (Y:=[x,aj (aW P),aj (aW q)]) (FA (bB (aU (a:=aW P) rfl) (bB (aU (a:=aW q) rfl) bY)) m);obtain⟨j,e⟩:=Vi x ok aH ps (qE P q) (aj (aW q)) Ψ (by simp only[IE,asQ];omega);refine⟨j,?_⟩;rw[bU,qO (aH _) (Y0:=[x,aj (aW P),aj (aW q)]) (Z0:=Ψ) (by simp) t,e];rfl
section
variable{Z:aE}{p keep:ay}{rs row:ak Rn}{L:ak Rg}
theorem gR.app(a:gR Z p keep rs row L)(j:aE):gR (Z++j) p keep rs row L:=⟨Lr a.h j,a.o,Lr a.u j⟩
theorem gR.lt(a:gR Z p keep rs row L):p<Z.length:=(dA.mp a.h).1
theorem gR.call(a:gR Z p keep rs row L){m:ba}{F:ak A->Mo A}{n i:ay}{as das:ak A}{fs:Ev->Mo (ak A)}{Y:Ev}{v:A}{Z':aE}(hl:(dY keep (whole row) row.length rs L).lookup m=ao)(h0:(Y[i]?).join=(aD p))(ha:fs Y Z=aG as Z)(hn:as.length+1+das.length=n)
  (j:F (.aI p::(as++das)) Z=aG v Z'):cH m [("Gaps",bX n das F)] (eE i) fs Y Z=aG v Z':=vC a.h hl h0 ha hn j
theorem ZT(a:gR Z p keep rs row L):uJ [.aI p] Z=aG (aW (All rs L)) Z:=by
 have q:=Mv a.h a.o.pos (by have:=a.o.hl;omega) a.o.hw (by have:=a.o.hL;omega);have b:RH [] Z=aG (aW P0) Z:=by
  have z:(4:ay)<=bc:=by decide
  simp[RH,acT,z,aW,eA,encL]
 obtain⟨j,N⟩:=Vi (aD p) (srcOf (.lst ((dX rs L).map aW)) ((dX rs L).map aW)).ok (λ_=>rfl) (dX rs L) P0 ao Z (by have:=a.o.atD;omega);show trim Z (fE (Lj [aD p,ao,ao] Z))=_;unfold Lj;rw[bI (Y1:=[aD p,aj (aW P0),ao]) (Z':=Z) (jB (i:=1) (Y:=[aD p,ao,ao]) (FA bY (by simpa[bS]using b)))];have U:cH "parts" [("Gaps",bX 1 [] wF)] aN a0 [aD p,aj (aW P0),ao] Z=aG (.lst ((dX rs L).map aW)) Z:=a.call rfl rfl (as:=[]) (das:=[]) bY rfl (by simpa using q);have B:iT (jD (cH "parts" [("Gaps",bX 1 [] wF)] aN a0)) (gN 2) XQ [aD p,aj (aW P0),ao] Z=eN [aD p,aj (aW (All rs L)),j] Z:=by
  unfold iT;rw[gL (x:=srcOf (.lst ((dX rs L).map aW)) ((dX rs L).map aW)) (Z':=Z) (by unfold jD;rw[dJ U];simp)];exact N
 rw[bI B];unfold cR;rw[gL (aU (a:=aW (All rs L)) rfl)];exact pH rfl
theorem aJD(a:gR Z p keep rs row L):zW [.aI p] Z=aG (.int (mD L)) Z:=aIQ a.h a.o.pos (by have:=a.o.hl;omega) a.o.hw (by have:=a.o.hL;omega)
theorem aJF(a:gR Z p keep rs row L):KW [.aI p] Z=aG (.lst ((iI (dX rs L)).map A.int)) Z:=aIX a.h a.o.pos (by have:=a.o.hl;omega) a.o.hw (by have:=a.o.hL;omega) (by have:=a.o.nums;omega)
end
open PyProof.Rows (step_dedup)
theorem asU{ns:ak a5}:∀{acc:ak a5} {x:a5},x∈ns.foldl step_dedup acc<->x∈acc\/x∈ns:=by
 induction ns with
 |nil=>intro acc x;simp
 |cons n ns ih =>
  intro acc x;rw[List.foldl_cons,ih];unfold step_dedup;split
  ·rename_i h;simp only[Nk,vS]at h;obtain⟨y,j,e⟩:=h;subst e;constructor
   ·rintro(q|q)
    ·exact .inl q
    ·exact .inr (by simp[q])
   ·rintro(q|q)
    ·exact .inl q
    ·rcases dU.mp q with r|r
     ·exact .inl (by rw[r];exact j)
     ·exact .inr r
  ·simp[or_assoc]
theorem atF(ns:ak a5):∀acc:ak a5,(ns.foldl step_dedup acc).length<=acc.length+ns.length:=by
 induction ns with
 |nil=>intro acc;simp
 |cons n ns ih =>
  intro acc;rw[List.foldl_cons];refine rV (ih _) ?_;unfold step_dedup;split <;> simp <;> omega
theorem aDC(a:ak a5):(xM a).length<=a.length:=by
 have:=atF a [];simpa[xM]using this
noncomputable def CF(rs:ak Rn)(L:ak Rg):ak a5:=sortI (xM (iI (dX rs L)))
theorem agS{c:br}{f:Ev->Mo A}{Y:Ev}{Z Z':aE}{a:A}{ns:ak a5}(h:f Y Z=aG a Z')(hi:fP Z' a=aj (ns.map A.int))(hl:ns.length<4000):SG c f Y Z=mE c ((sortI (xM ns)).map A.int) Z':=by
 have hd:=aDC ns;unfold SG;rw[dJ h];have j:(fP Z' a).bind intsOf=aj ns:=by rw[hi];exact Yc _
 simp only[j];rw[a9 ⟨hl,by omega⟩]
theorem aHR(n t:a5):∀rs:ak Rn,bQ rs n t≠[]
 |[]=>by simp[bQ]
 |r::rs=>by unfold bQ;split <;> simp
theorem Ux{keep:ay}{L:ak Rg}(x:Rg)(nd:(L.map (·.1)).Nodup):pM (kO keep L.length L x)=pM L+x.2.1:=by
 have e:=UR (keep:=keep) (λx=>(x.2.1:a5)) (λx y=>by simp[up1]) L.length (x:=x) nd;have cs:∀l:ak Rg,(l.map λx=>(x.2.1:a5)).sum=(pM l:a5):=by
  intro l
  induction l with
  |nil=>rfl
  |cons x l ih=>simp only[pM,bU,oZ]at ih ⊢;rw[ih];simp
 rw[cs,cs]at e;omega
section
variable{Z Z':aE}{p keep:ay}{rs row:ak Rn}{L:ak Rg}
theorem aJE(a:gR Z p keep rs row L):KU [.aI p] Z=aG (.aI Z.length) (Z++[.lst ((CF rs L).map A.int)]):=by
 have q:cH "kept" [("Gaps",bX 1 [] KW)] aN a0 [aD p] Z=aG (.lst ((iI (dX rs L)).map A.int)) Z:=a.call rfl rfl (as:=[]) (das:=[]) bY rfl (by simpa using aJF a);have j:=agS (c:=ax) q rfl (by have:=a.o.nums;omega);show trim Z (fE (Ld [aD p] Z))=_;unfold Ld cR;rw[gL (x:=A.aI Z.length) (Z':=Z++[.lst ((CF rs L).map A.int)]) (by rw[j];rfl)];exact ahD
theorem uD{f:Ev->Mo A}{Y:Ev}{a:A}(h:f Y Z=aG a Z'):kL f Y Z=eN Y Z':=by
 unfold kL;rw[gL h]
theorem DI{s:ay}{Y:Ev}{fs:ak (ba×Fd)}{f:ba}{fv:Ev->Mo A}{b:A}(j:(Y[0]?).join=(aD s))(h:Z[s]?=aj (.ins "Gaps" fs))(hl:fs.length<1000)(hv:fv Y Z=aG b Z):sH ["Gaps"] f aN fv Y Z=eN Y (Z.set s (.ins "Gaps" (putD f (.val b) fs))):=by
 unfold sH;rw[gL hv];rw[gL (x:=A.aI s) (Z':=Z) (by simp[j])];simp only[h];rw[a9 ⟨by simp,hl⟩]
theorem Wb{P:ay}(o:eO keep rs L row P)(n t:a5)(k:1<=t)(w:ay)(C:1<=w)(hr:(keep<=5/\P+w<2 ^ 40)\/(keep=100/\P+w<=400))(hw:whole row+t<=1000000000)(many tk:a5)(h:Z[p]?=aj (aT keep many tk rs L)) :
  ∃b f,eO keep b f (row++[(n,t)]) (P+w)/\GH [.aI p,.int n,.int t] Z=aG (.cE) (Z.set p (aT keep many tk b f)):=by
 obtain⟨c,s,u,m⟩:=o.MK;have l:=ac7 n t rs;have B:=Vj rs n t k o.pos;have D:=o.rl;have hl:=o.hl;have d:whole (row++[(n,t)])<=1000000000:=by rw[uN];simp[whole]at hw ⊢;omega
 have g:Tn (row++[(n,t)]):=o.tn.app λr hr=>by
  have:r=(n,t):=by simpa using hr
  subst this;show 0<=t;omega
 by_cases U:(bQ rs n t).length<=keep
 ·refine⟨bQ rs n t,L,⟨o.k1,hr,Wl rs n t o.nd,B,U,o.gT,λF j=>?_,⟨c+w,by omega,λz=>bz z (aHR n t rs),by omega⟩,g,d⟩,aIN h o.nd (by omega) n t U⟩;rw[j.add,j.app,<-o.sums F j];omega
 ·have v:keep<=100:=by omega
  have a:keep+1<=c+w:=by omega
  have N:whole (bQ rs n t)<=1000000000:=by
   have h1:=ID.add n t rs;have h2:=o.sums whole ID;have A:=Bn o.gT;have:whole [(n,t)]=t:=by simp[whole]
   omega
  have i:rT keep (0,c+w,bQ rs n t,lE (bQ rs n t)):=Ua B (by omega) a;have q:=aIM o.k1 (by omega) h o.nd (by omega) n t (by omega) B N o.gT (by have:=o.hL;omega) a;refine⟨[],_,⟨o.k1,hr,by simp,by simp,by simp,Ft o.k1 _ cX o.gT i,λF j=>?_,⟨0,by simp,λ_=>rfl,?_⟩,g,d⟩,q⟩
  ·have e:=UR (keep:=keep) (λx=>F x.2.2.1) (λx y=>j.app _ _) L.length (x:=(0,c+w,bQ rs n t,lE (bQ rs n t))) o.gT.nd;show F []+((kO keep L.length L _).map λx=>F x.2.2.1).sum=_;rw[e,j.nil,j.app,<-o.sums F j];show 0+(mZ F L+F (bQ rs n t))=_;rw[j.add];omega
  ·have e:=Ux (keep:=keep) (L:=L) (0,c+w,bQ rs n t,lE (bQ rs n t)) o.gT.nd;simp only at e;omega
theorem aqJ{P:ay}(o:eO keep rs L row P){x:Rg}(g:rT keep x)(hr:(keep<=5/\P+x.2.1<2 ^ 40)\/(keep=100/\P+x.2.1<=400))(hw:whole row+whole x.2.2.1<=1000000000)(many tk:a5)(h:Z[p]?=aj (aT keep many tk rs L)) :
  ∃z,eO keep rs z (row++x.2.2.1) (P+x.2.1)/\CQ [.aI p,aW x.2.2.2,.int x.1] Z=aG (.cE) (Z.set p (aT keep many tk rs z)):=by
 obtain⟨c,B,N,U⟩:=o.MK;have q:=adZ o.k1 (by omega) h (by have:=o.hL;omega) o.gT g;refine⟨_,⟨o.k1,hr,o.nd,o.pos,o.rl,Ft o.k1 _ cX o.gT g,λF j=>?_,⟨c,B,N,?_⟩,o.tn.app g.gd.tn,by rw[uN];exact hw⟩,q⟩
 ·have e:=UR (keep:=keep) (λx=>F x.2.2.1) (λx y=>j.app _ _) L.length (x:=x) o.gT.nd;show F rs+((kO keep L.length L _).map λx=>F x.2.2.1).sum=_;rw[e,j.app,<-o.sums F j];show F rs+(mZ F L+F x.2.2.1)=_;omega
 ·have e:=Ux (keep:=keep) (L:=L) x o.gT.nd;omega
theorem adY{many tk:a5}(h:Z[p]?=aj (aT keep many tk rs L))(t:a5)(hm:many+t<=1000000000):RJ [.aI p,.int t] Z=aG (.cE) Z:=by
 have l:(dY keep many tk rs L).lookup ("many" : ba)=aj (.val (.int many)):=rfl;have j:¬1000000000<many+t:=by omega
 show trim Z (fE (Le [aD p,aA t] Z))=_;simp[Le,h,l,j]
theorem Vc{keep:ay}{many j tk:a5}{rs:ak Rn}{L:ak Rg}:putD "many" (.val (.int j)) (dY keep many tk rs L)=dY keep j tk rs L:=rfl
theorem Uz{keep:ay}{many tk SM:a5}{rs:ak Rn}{L:ak Rg}:putD "taken" (.val (.int SM)) (dY keep many tk rs L)=dY keep many SM rs L:=rfl
theorem aJC(a:gR Z p keep rs row L)(n t:a5)(f:1<=t)(hr:row.length<400)(hw:whole row+t<=1000000000)(g:1<=p) :
  ∃j z,gR (Z.set p (aT keep (whole (row++[(n,t)])) (row++[(n,t)]).length j z)) p keep j (row++[(n,t)]) z/\KS [.aI p,.int n,.int t] Z=aG (.cE) (Z.set p (aT keep (whole (row++[(n,t)])) (row++[(n,t)]).length j z)):=by
 obtain⟨j,z,d,q⟩:=Wb a.o n t f 1 (oX 1) (a.o.kb.imp (λh=>⟨h.1,by omega⟩) λh=>⟨h.1,by omega⟩) hw _ _ a.h;have N:=a.lt;have i:whole (row++[(n,t)])=whole row+t:=by rw[uN];simp[whole]
 have k:(((row++[(n,t)]).length:ay):a5)=(row.length:a5)+1:=by simp
 refine⟨j,z,⟨fG N,by simpa using d,by rw[iO (by omega)];exact a.u⟩,?_⟩;rw[i,k];have c:=adY a.h t hw;have h2:(Z.set p (aT keep (whole row) row.length j z))[p]?=aj (aT keep (whole row) row.length j z):=fG N;have U:(Z.set p (aT keep (whole row+t) row.length j z))[p]?=aj (aT keep (whole row+t) row.length j z):=fG N;have B:¬t<1:=by omega
 show trim Z (fE (XN [aD p,aA n,aA t] Z))=_;unfold XN;rw[bI (Y1:=[aD p,aA n,aA t]) (Z':=Z) (by simp[B])];rw[bI (uD (a.call (by rfl) (by rfl) (as:=[.int t]) (das:=[]) (by simp) (by rfl) (by simpa using c)))];rw[bI (uD (a.call (by rfl) (by rfl) (as:=[.int n,.int t]) (das:=[]) (by simp) (by rfl) (by simpa using q)))];have e:(dY keep (whole row) row.length j z).lookup ("many" : ba)=aj (.val (.int (whole row))):=rfl;rw[bI (DI (b:=.int (whole row+t)) rfl h2 (by simp) (by simp[h2,e]))];rw[Vc,qR];have lt:(dY keep (whole row+t) row.length j z).lookup ("taken" : ba)=aj (.val (.int row.length)):=rfl;rw[DI (b:=.int (row.length+1)) rfl U (by simp) (by simp[U,lt])];rw[Uz,qR];simp only[AS];exact pH (by simp)
end
theorem VY(Z:aE)(c:Cell):(Z++[c])[Z.length]?=aj c:=by simp
theorem TC(Z:aE)(c d:Cell):(Z++[c]).set Z.length d=Z++[d]:=by simp
theorem abD{Z:aE}{keep:ay}{f:ba}{fs:ak (ba×Fd)}(hl:fs.length<1000):(yG ["Gaps"] 0 f wQ) [aD Z.length,aA keep] (Z++[.ins "Gaps" fs])=eN [aD Z.length,aA keep] (Z++[.ins "Gaps" (putD f (.bA []) fs)]):=by
 have ob:DM ["Gaps"] 0 [aD Z.length,aA keep] (Z++[.ins "Gaps" fs])=aj (Z.length,("Gaps" : ba),fs):=by
  unfold DM;simp
 have j:wQ [aD Z.length,aA keep] (Z++[.ins "Gaps" fs])=aG (.aI (Z++[Cell.ins "Gaps" fs]).length) ((Z++[.ins "Gaps" fs])++[.bA []]):=by simp
 unfold yG;rw[ob];simp only[j,VY,Fd.HU];rw[a9 ⟨rfl,rfl,hl,by simp[tI,gC]⟩,TC]
theorem aIV(Z:aE)(keep:ay):OU "Gaps" 2 RM [.int keep] Z=aG (.aI Z.length) (Z++[aT keep 0 0 [] []]):=by
 have base:RK [.aI Z.length,.int keep] (Z++[.ins "Gaps" []])=aG (.cE) (Z++[.ins "Gaps" [("keep",.val (.int keep)),("many",.val (.int 0)),("taken",.val (.int 0))]]):=by
  show trim _ (fE (XO [aD Z.length,aA keep] (Z++[.ins "Gaps" []])))=_;unfold XO;rw[bI (DI (b:=.int keep) (by rfl) (VY _ _) (by simp) (by simp)),TC];rw[bI (DI (b:=.int 0) (by rfl) (VY _ _) (by exact(show(1:ay)<1000 by decide)) (by simp)),TC];rw[DI (b:=.int 0) (by rfl) (VY _ _) (by exact(show(2:ay)<1000 by decide)) (by simp),TC];simp only[AS];rw[pH (by simp)];rfl
 have e:RM [.aI Z.length,.int keep] (Z++[.ins "Gaps" []])=aG (.cE) (Z++[aT keep 0 0 [] []]):=by
  show trim _ (fE (XT [aD Z.length,aA keep] (Z++[.ins "Gaps" []])))=_;unfold XT;rw[bI (uD (a:=.cE) (Z':=Z++[.ins "Gaps" [("keep",.val (.int keep)),("many",.val (.int 0)),("taken",.val (.int 0))]]) (by simp[bS,base]))];rw[bI (abD (by simp))];rw[abD (by exact(show(4:ay)<1000 by decide))];simp only[AS];rw[pH (by simp)];rfl
 unfold OU;rw[a9 (by rfl)];rw[e]
abbrev rJ(x:Rg):A:=.tup [.int x.1,aW x.2.2.2]
noncomputable def uV(L:ak Rg):ak Rn:=(L.map λx=>x.2.2.1).flatten
theorem qU.rows{F:ak Rn->a5}(h:qU F):∀L:ak Rg,F (uV L)=mZ F L
 |[]=>by simp[uV,mZ,h.nil]
 |x::L=>by
  have:=h.rows L;have e:uV (x::L)=x.2.2.1++uV L:=by simp[uV]
  rw[e,h.app,this];simp[mZ]
theorem Su{keep:ay}:∀l:ak Rg,(∀x∈l,rT keep x)->0<=mZ whole l
 |[],_=>by simp[mZ]
 |x::l,h=>by
  have:=Su l λy j=>h y (by simp[j]);have g:=h x (by simp);have h1:=g.nn;rw[g.gd.sz]at h1;simp only[mZ,bU,oZ]at *;omega
section
variable{p p2 keep:ay}{many tk:a5}
theorem zG{Z:aE}{rs:ak Rn}{L:ak Rg}(h:Z[p]?=aj (aT keep many tk rs L)){f:ba}{v:A}{i:ay}{Y:Ev}(j:(Y[i]?).join=(aD p))(hl:(dY keep many tk rs L).lookup f=aj (.val v)):eY ["Gaps"] f (eE i) Y Z=aG v Z:=by
 unfold eY;rw[dJ (aU j)];simp only[ER,h,hl];simp
theorem Xs(U N B z j:ar A)(ok:aE->Prop)(aH:∀Z',ok Z'):∀(xs:ak Rg) (Z:aE) (rs row:ak Rn) (L:ak Rg) (P:ay) (b a:ar A),eO keep rs L row P->(∀x∈xs,rT keep x)->((keep<=5/\P+pM xs<2 ^ 40)\/(keep=100/\P+pM xs<=400))->whole row+mZ whole xs<=1000000000->Z[p]?=aj (aT keep many tk rs L) ->
  ∃c g i,eO keep rs c (row++uV xs) (P+pM xs)/\eZ ok (jG 2 (dN (gN 4) (dN (gN 5) jR))) QB (xs.map rJ) [aD p,U,N,B,b,a,z,j] Z=eN [aD p,U,N,B,g,i,z,j] (Z.set p (aT keep many tk rs c))
 |[],Z,rs,row,L,P,b,a,o,_,_,_,h=>⟨L,b,a,by simpa[uV,pM]using o,by rw[rW,BQ (aH _),TB h]⟩
 |x::xs,Z,rs,row,L,P,b,a,o,e,k,v,h=>by
  have u:pM (x::xs)=x.2.1+pM xs:=by simp[pM]
  have w:mZ whole (x::xs)=whole x.2.2.1+mZ whole xs:=by simp[mZ]
  have s:uV (x::xs)=x.2.2.1++uV xs:=by simp[uV]
  have hn:=Su xs λy d=>e y (by simp[d]);have r:p<Z.length:=(dA.mp h).1;obtain⟨f,m,l⟩:=aqJ o (e x (by simp)) (k.imp (λh=>⟨h.1,by omega⟩) λh=>⟨h.1,by omega⟩) (by omega) many tk h;obtain⟨c,g,i,n,q⟩:=Xs U N B z j ok aH xs (Z.set p (aT keep many tk rs f)) rs (row++x.2.2.1) f (P+x.2.1) (aA x.1) (aj (aW x.2.2.2)) m (λy d=>e y (by simp[d])) (k.imp (λh=>⟨h.1,by omega⟩) λh=>⟨h.1,by omega⟩) (by rw[uN];omega) (fG r);refine⟨c,g,i,by rw[s,u,<-jW,<-YJ];exact n,?_⟩;have t:QB [aD p,U,N,B,aA x.1,aj (aW x.2.2.2),z,j] Z=eN [aD p,U,N,B,aA x.1,aj (aW x.2.2.2),z,j] (Z.set p (aT keep many tk rs f)):=by
   unfold QB;exact uD (vC h rfl rfl (as:=[aW x.2.2.2,.int x.1]) (das:=[]) (bB (aU rfl) (bB (aU rfl) bY)) rfl (by simpa using l))
  rw[bU,qO (aH _) (Y0:=[aD p,U,N,B,aA x.1,aj (aW x.2.2.2),z,j]) (Z0:=Z) (by simp) t,q,qR]
theorem Sh(a U N B j:ar A)(ok:aE->Prop)(aH:∀Z',ok Z'):∀(xs:ak Rn) (W:ay) (Z:aE) (rs row:ak Rn) (L:ak Rg) (P:ay) (d c:ar A),eO keep rs L row P->(∀r∈xs,1<=r.2)->xs.length<=W->(xs=[]->W=0)->((keep<=5/\P+W<2 ^ 40)\/(keep=100/\P+W<=400))->whole row+whole xs<=1000000000->Z[p]?=aj (aT keep many tk rs L) ->
  ∃e f m n,eO keep e f (row++xs) (P+W)/\eZ ok (jG 2 (dN (gN 6) (dN (gN 7) jR))) QA (aM xs) [aD p,a,U,N,B,j,d,c] Z=eN [aD p,a,U,N,B,j,m,n] (Z.set p (aT keep many tk e f))
 |[],W,Z,rs,row,L,P,d,c,o,_,_,v,_,_,h=>⟨rs,L,d,c,by rw[v rfl];simpa using o,by show eZ ok _ _ [] _ Z=_;rw[BQ (aH _),TB h]⟩
 |r::xs,W,Z,rs,row,L,P,d,c,o,g,hl,v,u,S,h=>by
  have G:p<Z.length:=(dA.mp h).1;have T:whole (r::xs)=r.2+whole xs:=by simp[whole]
  have k:whole [(r.1,r.2)]=r.2:=by simp[whole]
  have hn:0<=whole xs:=(OR (R:=xs) λq F=>g q (by simp[F])).gf.s0;obtain⟨w,b,I,i,M,K⟩:∃w b,1<=w/\w+b=W/\xs.length<=b/\(xs=[]->b=0):=by
   simp only[fZ]at hl;cases xs with
   |nil=>exact⟨W,0,by omega,by omega,by simp,λ_=>rfl⟩
   |cons y Q=>exact⟨1,W-1,by omega,by omega,by omega,λz=>by cases z⟩
  obtain⟨s,l,C,x⟩:=Wb o r.1 r.2 (g r (by simp)) w I (u.imp (λh=>⟨h.1,by omega⟩) λh=>⟨h.1,by omega⟩) (by omega) many tk h;obtain⟨e,f,m,n,D,q⟩:=Sh a U N B j ok aH xs b (Z.set p (aT keep many tk s l)) s (row++[(r.1,r.2)]) l (P+w) (aA r.1) (aA r.2) C (λy E=>g y (by simp[E])) M K (u.imp (λh=>⟨h.1,by omega⟩) λh=>⟨h.1,by omega⟩) (by rw[uN,k];omega) (fG G);refine⟨e,f,m,n,?_,?_⟩
  ·have H:row++r::xs=(row++[(r.1,r.2)])++xs:=by simp
   rw[H,<-i,<-YJ];exact D
  ·have t:QA [aD p,a,U,N,B,j,aA r.1,aA r.2] Z=eN [aD p,a,U,N,B,j,aA r.1,aA r.2] (Z.set p (aT keep many tk s l)):=by
    unfold QA;exact uD (vC h rfl rfl (as:=[.int r.1,.int r.2]) (das:=[]) (bB (aU rfl) (bB (aU rfl) bY)) rfl (by simpa using x))
   show eZ ok _ _ (gW r::aM xs) _ Z=_;rw[qO (aH _) (Y0:=[aD p,a,U,N,B,j,aA r.1,aA r.2]) (Z0:=Z) (by simp[gW]) t,q,qR]
theorem aIL{Z:aE}{rs row kM dO:ak Rn}{L L2:ak Rg}{P g:ay}{m k:a5}(o:eO keep rs L row P)(j:eO keep kM L2 dO g)(l:(keep<=5/\P+g<2 ^ 40)\/(keep=100/\P+g<=400))(y:whole row+whole dO<=1000000000)(h:Z[p]?=aj (aT keep many tk rs L))(h2:Z[p2]?=aj (aT keep m k kM L2)) :
  ∃U b,eO keep U b (row++dO) (P+g)/\ZJ [.aI p,.aI p2] Z=aG (.cE) (Z.set p (aT keep many tk U b)):=by
 have x:p<Z.length:=(dA.mp h).1;obtain⟨c,s,w,H⟩:=j.MK;have I:=j.sums whole ID;have hn:0<=whole kM:=(OR j.pos).gf.s0;have G:=Bn j.gT;obtain⟨N,f,e,v,r⟩:=Xs (p:=p) (many:=many) (tk:=tk) (aD p2) (aj (.lst (L2.map rJ))) (aj (.lst (aM kM))) ao ao (srcOf (.lst (L2.map rJ)) (L2.map rJ)).ok (λ_=>rfl) L2 Z rs row L P ao ao o j.gT.ok (l.imp (λh=>⟨h.1,by omega⟩) λh=>⟨h.1,by omega⟩) (by omega) h;obtain⟨U,b,u,t,q,n⟩:=Sh (p:=p) (many:=many) (tk:=tk) (aD p2) (aj (.lst (L2.map rJ))) (aj (.lst (aM kM))) f e (srcOf (.lst (aM kM)) (aM kM)).ok (λ_=>rfl) kM c (Z.set p (aT keep many tk rs N)) rs (row++uV L2) N (P+pM L2) ao ao v j.pos s w (l.imp (λh=>⟨h.1,by omega⟩) λh=>⟨h.1,by omega⟩) (by rw[uN,ID.rows];omega) (fG x);refine⟨U,b,⟨q.k1,l,q.nd,q.pos,q.rl,q.gT,λF B=>?_,?_,o.tn.app j.tn,by rw[uN];exact y⟩,?_⟩
 ·rw[q.sums F B,B.app,B.app,B.app,B.rows,<-j.sums F B];omega
 ·obtain⟨d,E,d0,K⟩:=q.MK;exact⟨d,E,d0,by omega⟩
 ·show trim Z (fE (Lh [aD p,aD p2,ao,ao,ao,ao,ao,ao] Z))=_;have D:jE ["Gaps"] 1 "laid" (λz=>mE au (z.map mG)) [aD p,aD p2,ao,ao,ao,ao,ao,ao] Z=aG (.lst (L2.map rJ)) Z:=by
   unfold jE uX;simp only[QR,ad7,Option.join_some,h2];show mE au ((fB L2).map mG) Z=_;simp[fB,mG,kA,zS]
  have C:jE ["Gaps"] 1 "newest" (λz=>mE au (z.map mG)) [aD p,aD p2,cW (L2.map rJ),ao,ao,ao,ao,ao] Z=aG (.lst (aM kM)) Z:=by
   unfold jE uX;simp only[QR,ad7,Option.join_some,h2];show mE au ((fC kM).map mG) Z=_;rw[Xz];rfl
  unfold Lh;rw[bI (jB (i:=2) D)];simp only[List.set];rw[bI (jB (i:=3) C)];simp only[List.set];have A:iT (jD bR) (jG 2 (dN (gN 4) (dN (gN 5) jR))) QB [aD p,aD p2,cW (L2.map rJ),cW (aM kM),ao,ao,ao,ao] Z=eN [aD p,aD p2,cW (L2.map rJ),cW (aM kM),f,e,ao,ao] (Z.set p (aT keep many tk rs N)):=by
   rw[vN (S:=srcOf (.lst (L2.map rJ)) (L2.map rJ)) (Z':=Z) (by unfold jD;rw[dJ (aU (a:=.lst (L2.map rJ)) rfl)];simp)];exact r
  have f2:iT (jD cQ) (jG 2 (dN (gN 6) (dN (gN 7) jR))) QA [aD p,aD p2,cW (L2.map rJ),cW (aM kM),f,e,ao,ao] (Z.set p (aT keep many tk rs N))=eN [aD p,aD p2,cW (L2.map rJ),cW (aM kM),f,e,u,t] ((Z.set p (aT keep many tk rs N)).set p (aT keep many tk U b)):=by
   rw[vN (S:=srcOf (.lst (aM kM)) (aM kM)) (Z':=Z.set p (aT keep many tk rs N)) (by unfold jD;rw[dJ (aU (a:=.lst (aM kM)) rfl)];simp)];exact n
  rw[bI A,f2,qR];simp only[AS];exact pH (by simp)
end
theorem aFV{i j:a5}(q:0<j)(h1:j<=1001):uL i j:=⟨q,by omega⟩
theorem abV{i j:a5}(h:uL i j)(Z:aE):oS (.int i) (.int j) Z=aG (.int (i/j)) Z:=by
 simp only[oS,gI];simp[h]
theorem yL{Z Z' Z'':aE}{Y:Ev}{f g:Ev->Mo br}(h:f Y Z=aG au Z')(h2:g Y Z'=aG au Z''):kB f g Y Z=aG au Z'':=by rw[orF h,h2]
theorem aFP{Z Z1 Z2 j:aE}{Y:Ev}{g g':A->A->Mo A}{z f2 q:Ev->Mo A}{x y u:A}(h1:z Y Z=aG x Z1)(h2:f2 Y Z1=aG y Z2)(U:g x y Z2=aG (.bl ax) Z2)(N:q Y Z2=aG u j)(B:g' y u j=aG (.bl ax) j):HA g g' z f2 q Y Z=aG (.bl ax) j:=by
 unfold HA;rw[dJ h1,dJ h2,dJ U];simp[N,B]
section
variable{Z:aE}{p p2 keep:ay}{rs row kM dO:ak Rn}{L L2:ak Rg}
theorem aeR(a:gR Z p keep rs row L)(d:gR Z p2 keep kM dO L2)(u:(keep<=5/\row.length+dO.length<2 ^ 40)\/(keep=100/\row.length+dO.length<=400))(c:whole row+whole dO<=1000000000) :
  ∃j q,eO keep j q (row++dO) (row++dO).length/\GG [.aI p,.aI p2] Z=aG (.cE) (Z.set p (aT keep (whole (row++dO)) (row++dO).length j q)):=by
 have U:=a.lt;have h:=a.h;have z:=d.h;obtain⟨j,q,n,m⟩:=aIL a.o d.o u c h z;have y:whole (row++dO)=whole row+whole dO:=uN ..;have C:(((row++dO).length:ay):a5)=(row.length:a5)+dO.length:=by simp
 refine⟨j,q,by simpa using n,?_⟩;rw[y,C];have s:=adY h (whole dO) c;have l:RL [.aI p,.aI p2] Z=aG (.bl ax) Z:=by
  show trim Z (fE (Li [aD p,aD p2] Z))=_;simp[Li,z]
 have k1:=zG (f := "keep") (Y:=[aD p,aD p2]) (i:=1) z rfl rfl;have t:=zG (f := "keep") (Y:=[aD p,aD p2]) (i:=0) h rfl rfl;have r:=zG (f := "many") (Y:=[aD p,aD p2]) (i:=1) z rfl rfl;have k:(kB (sF (cA (cH "same_kind" [("Gaps",bX 2 [] RL)] aN (aB bD a0)))) (cA (aC qL (eY ["Gaps"] "keep" bD) (eY ["Gaps"] "keep" aN)))) [aD p,aD p2] Z=aG au Z :=
  yL (Z':=Z) (HW (b:=ax) (jN (vC h rfl rfl (as:=[.aI p2]) (das:=[]) (by simp) rfl (by simpa using l)))) (jN (dG k1 t (WA (by simp[cJ]))))
 have N:(Z.set p (aT keep (whole row) row.length j q))[p]?=aj (aT keep (whole row) row.length j q):=fG U;have B:(Z.set p (aT keep (whole row+whole dO) row.length j q))[p]?=aj (aT keep (whole row+whole dO) row.length j q):=fG U;have x:=zG (f := "many") (Y:=[aD p,aD p2]) (i:=0) N rfl rfl;have g:p2=p->whole dO=whole row/\(dO.length:a5)=row.length:=λe=>by
  subst e;rw[h]at z;simp only[kX,Cell.ins.injEq,qT,QJ,Fd.val.injEq,A.int.injEq,true_and,and_true]at z;exact⟨z.1.symm,z.2.1.symm⟩
 have f2:eY ["Gaps"] "many" bD [aD p,aD p2] (Z.set p (aT keep (whole row) row.length j q))=aG (.int (whole dO)) (Z.set p (aT keep (whole row) row.length j q)):=by
  by_cases e:p2=p
  ·have:=zG (f := "many") (Y:=[aD p,aD p2]) (i:=1) N (by rw[e];rfl) rfl;rw[this,(g e).1]
  ·exact zG (f := "many") (i:=1) (by rw[iO (dQ e)];exact z) rfl rfl
 have w:=zG (f := "taken") (Y:=[aD p,aD p2]) (i:=0) B rfl rfl;have v:eY ["Gaps"] "taken" bD [aD p,aD p2] (Z.set p (aT keep (whole row+whole dO) row.length j q))=aG (.int dO.length) (Z.set p (aT keep (whole row+whole dO) row.length j q)):=by
  by_cases e:p2=p
  ·have:=zG (f := "taken") (Y:=[aD p,aD p2]) (i:=1) B (by rw[e];rfl) rfl;rw[this,(g e).2]
  ·exact zG (f := "taken") (i:=1) (by rw[iO (dQ e)];exact z) rfl rfl
 show trim Z (fE (Lg [aD p,aD p2] Z))=_;unfold Lg;rw[bI (rF k)];rw[bI (uD (vC h (by rfl) (by rfl) (as:=[.int (whole dO)]) (das:=[]) (bB r bY) (by rfl) (by simpa using s)))];rw[bI (uD (vC h (by rfl) (by rfl) (as:=[.aI p2]) (das:=[]) (by simp) (by rfl) (by simpa using m)))];rw[bI (DI (b:=.int (whole row+whole dO)) (by rfl) N (by simp) (dG x f2 (by simp))),Vc,qR];rw[DI (b:=.int ((row.length:a5)+dO.length)) (by rfl) B (by simp) (dG w v (by simp)),Uz,qR];simp only[AS];exact pH (by simp)
end
theorem aj2{s l d:a5}{es:ak E}(h:GF s l d es)(place:a5)(h1:1<=place)(h2:place<=s)(hz:es.length<=1000)(m:ay)(hm:m<=es.length)(c:∀(i:ay) (e:E),es[i]?=aj e->decide (place+(l+1)/2<e.2.2)=decide (m<=i))(ent:A)(Z:aE)(hT:Z[0]?=aj pJ)(b:gD Z ent=aj (encL es)) :
  ∃e,1<=m/\es[m-1]?=aj e/\rX [.tup [.int s,.int l,.int d,ent],.int place] Z=aG (.int e.1) Z:=by
 have gU:es≠[]:=λz=>by
  have:=(aBH h).mpr z;omega
 have u:=h.l0;have t:1<=m:=by
  cases es with
  |nil=>exact bz rfl gU
  |cons x r =>
   have f:=(h.fst x r rfl).2;have q:=c 0 x rfl;have:¬place+(l+1)/2<x.2.2:=by omega
   rw[nT this]at q;simp at q;omega
 have g:m-1<es.length:=by omega
 refine⟨es[m-1],t,fL g,?_⟩;have hd2:∀j,uL j 2:=λj=>⟨by decide,by decide⟩
 have o:¬place<1:=by omega
 have n:¬s<place:=by omega
 have p:vM (tT JJ [place+(l+1)/2]) ent Z=aG (.int (m:a5)) Z:=by
  refine aB9 b (by simpa using hm) (by simp;omega) λi a ha=>?_;rw[xI]at ha;cases e:es[i]? with
  |none=>rw[e]at ha;cases ha
  |some z =>
   rw[e]at ha;cases ha;have:=c i z e;rw[<-this];simp[JJ,cK]
 have k:fU (encL es) ((m:a5)-1)=aj (cK es[m-1]):=by rw[acX _ _ (by omega),xI,fL g];rfl
 have B:∀U,GX 0 "so_manieth" ⟨116,40,116,73⟩ (UI "so_manieth") [3] (λns a=>vM (tT JJ ns) a) bR [U,aA place,aj ent,aA (place+(l+1)/2)] Z=aG (.int (m:a5)) Z:=by
  intro U;simp only[GX];rw[dJ (x:=ent) (Z':=Z) (by simp)];rw[a9 hT];simp only[BY];simp only[vB];show(match (vM (tT JJ [place+(l+1)/2]) ent Z)with
   |some (.exc _,_)=>ao
   | r=>r)=_
  rw[p]
 have N:gD Z (cK es[m-1])=aj [.int es[m-1].1,.int es[m-1].2.1,.int es[m-1].2.2]:=rfl;show trim Z (fE (PQ [aj (.tup [.int s,.int l,.int d,ent]),aA place,ao,ao] Z))=_;unfold PQ;rw[bI (Y1:=[aj (.tup [.int s,.int l,.int d,ent]),aA place,ao,ao]) (Z':=Z) (by simp[o,n])];rw[bI (Y1:=[aj (.tup [.int s,.int l,.int d,ent]),aA place,aj ent,ao]) (Z':=Z) (by simp)];rw[bI (Y1:=[aj (.tup [.int s,.int l,.int d,ent]),aA place,aj ent,aA (place+(l+1)/2)]) (Z':=Z) (by simp[hd2])];simp[B,b,k,N]
theorem aj3(s l d:a5)(place:a5)(h:place<1\/s<place)(ent:A)(Z:aE):rX [.tup [.int s,.int l,.int d,ent],.int place] Z=aj (.exc ⟨"NoPlace",[]⟩,Z):=by
 have h1:(1:ay)<=bc:=by decide
 have t:∀(x:Exc),x.fs=[]->trim Z (aj (.exc x,Z))=aj (.exc x,Z):=λx q=>by
  simp only[trim];split <;> rfl
 by_cases j:place<1
 ·simp[rX,PQ,j,h1,t]
 ·have h2:s<place:=by omega
  simp[rX,PQ,j,h2,h1,t]
theorem aa8{Z:aE}(n:a5)(L:ak a5):vK ax (.int n) (.lst (L.map A.int)) Z=aG (.bl (!decide (n∈L))) Z:=by
 have j:cJ 8 (.lst (L.map A.int))=ax:=by simp[cJ]
 have N:res Z 6 (.int n)=(aA n):=tP (by simp[cJ]);have q:res Z 6 (.lst (L.map A.int))=aj (.lst (L.map A.int)):=tP j;have U:cJ 7 (.int n)=ax:=by simp[cJ]
 have a:((L.map A.int).any λd=>gQ 7 d (.int n))=decide (n∈L):=by
  rw[List.any_map];have b:∀m:a5,((λd=>gQ 7 d (.int n)) ∘ A.int) m=decide (m=n):=λm=>by
   simp only[Function.comp,gQ]
   by_cases B:m=n
   ·simp[B]
   ·simp[B]
  rw[show((λd=>gQ 7 d (.int n)) ∘ A.int)=λm=>decide (m=n)from funext b];clear q j
  induction L with
  |nil=>rfl
  |cons m L ih =>
   rw[QT,ih]
   by_cases hm:m=n
   ·simp[hm]
   ·have:¬n=m:=λz=>hm z.symm;simp[hm,this]
 unfold vK;rw[N,q];simp only[U,j,Bool.and_self,jP,a]
theorem aE0{f:Ev->Mo A}{fs:Ev->Mo (ak A)}{Y:Ev}{Z Z':aE}{x:Exc}(h:f Y Z=aj (.exc x,Z')):aB f fs Y Z=aj (.exc x,Z'):=by
 unfold aB;simp only[mb,h]
theorem aEZ{f:Ev->Mo A}{fs:Ev->Mo (ak A)}{Y:Ev}{Z Z' Z'':aE}{a:A}{x:Exc}(h:f Y Z=aG a Z')(h2:fs Y Z'=aj (.exc x,Z'')):aB f fs Y Z=aj (.exc x,Z''):=by
 unfold aB;simp only[mb,h,h2]
noncomputable abbrev TK:ak ba:=["NoPlace", "NoRow", "NoTimes", "Unlike"]
noncomputable abbrev Ke:ak ba:=["RankError", "NoRow", "NoPlace", "NoPouch", "NoSize", "Wrong", "NoTimes", "Unlike", "NoText"]
section
variable{Z:aE}{p keep:ay}{rs row:ak Rn}{L:ak Rg}
theorem eO.ac3(o:eO keep rs L row row.length):(All rs L).es.length<=976:=by
 have h:=(Ly (dX rs L) P0).length_eq;have:=o.nums;simp at h;show(vU P0 (dX rs L)).es.length<=_;omega
theorem aJB(a:gR Z p keep rs row L){pl:a5}(h:pl<1\/whole row<pl):xX [.aI p,.int pl] Z=aj (.exc ⟨"NoPlace",[]⟩,Z):=by
 have q:rX [aW (All rs L),.int pl] Z=aj (.exc ⟨"NoPlace",[]⟩,Z):=aj3 _ _ _ pl (by rw[a.o.size];exact h) _ Z;have z:cH "pouch" [("Gaps",bX 1 [] uJ)] aN a0 [aD p,aA pl] Z=aG (aW (All rs L)) Z:=a.call rfl rfl (as:=[]) (das:=[]) bY rfl (by simpa using ZT a);show trim Z (fE (QD [aD p,aA pl] Z))=_;have j:aX (bS 2 rX) (aB (cH "pouch" [("Gaps",bX 1 [] uJ)] aN a0) (aB bD a0)) [aD p,aA pl] Z=aj (.exc ⟨"NoPlace",[]⟩,Z):=by
  unfold aX;rw[dJ (bB z (bB (aU (a:=.int pl) rfl) bY))];simp only[bS];exact q
 unfold QD cR;simp only[sM,j,fE,trim];split <;> rfl
theorem aeP(a:gR Z p keep rs row L){pl:a5}(h1:1<=pl)(h2:pl<=whole row):∃n:a5,n∈(All rs L).es.map (·.1)/\cO row n<cZ row n/\cO row n+1-(mD L+1)/2<=pl/\pl<=cZ row n+(mD L+1)/2 /\
  rX [aW (All rs L),.int pl] Z=aG (.int n) Z/\xX [.aI p,.int pl] Z=aG (.int n) Z:=by
 have g:=a.o.gd;have j:=a.o.size;obtain⟨m,hm,q⟩:=aGY g.gf (pl+((All rs L).l+1)/2);obtain⟨e,d,he,U⟩:=aj2 g.gf pl h1 (by rw[j];exact h2) (by have:=a.o.ac3;omega) m hm q (.lst (encL (All rs L).es)) Z a.u rfl;obtain⟨b,B,z⟩:=aj4 g pl h1 (by rw[j];exact h2) m hm q e d he;rw[a.o.off]at B z;have N:rX [aW (All rs L),.int pl] Z=aG (.int e.1) Z:=U;refine⟨e.1,lX.mpr ⟨e,mQ he,rfl⟩,b,B,z,N,?_⟩;have c:cH "pouch" [("Gaps",bX 1 [] uJ)] aN a0 [aD p,aA pl] Z=aG (aW (All rs L)) Z:=a.call rfl rfl (as:=[]) (das:=[]) bY rfl (by simpa using ZT a);show trim Z (fE (QD [aD p,aA pl] Z))=_;unfold QD cR;rw[gL (jS (n:=2) (F:=rX) (bB c (bB (aU (a:=.int pl) rfl) bY)) rfl N)];exact pH rfl
theorem aJH(a:gR Z p keep rs row L){pl:a5}(h:pl<1\/whole row<pl):CO [.aI p,.int pl] Z=aG (.tup [.str "none",.bl ax]) Z:=by
 have h2:(2:ay)<=bc:=by decide
 have c:(7:ay)<=bc:=by decide
 have U:QF (rA TK Ke "NoPlace") ["NoPouch", "NoRow", "NoSize", "NoText", "NoTimes", "Unlike", "Wrong"]=aj au:=by decide
 have N:rA TK Ke "NoPlace" "RankError" = aj ax:=by decide
 have B:AD TK "NoPlace" "ValueError" = aj ax:=by decide
 have q:=aJB a h;have em:cH "so_manieth" [("Gaps",bX 2 [] xX)] aN (aB bD a0) [aD p,aA pl,ao,ao,ao] Z=aj (.exc ⟨"NoPlace",[]⟩,Z):=by
  unfold cH;rw[dJ (aU (a:=.aI p) rfl)];have b:List.lookup ("Gaps" : ba) [(("Gaps" : ba),bX 2 [] xX)]=aj (bX 2 [] xX):=by simp[List.lookup]
  have hl:(dY keep (whole row) row.length rs L).lookup ("so_manieth" : ba)=ao:=rfl;simp only[WC,a.h,b,hl];rw[dJ (bB (aU (a:=.int pl) rfl) bY)];simp only[bX];rw[a9 (show [A.aI p,A.int pl].length+([]:ak A).length=2 from rfl)];exact q
 have k:PZ [aD p,aA pl,ao,ao,ao] Z=aj (.exc ⟨"NoPlace",[]⟩,[aD p,aA pl,ao,ao,ao],Z):=by
  unfold PZ bK kK;have j:=aEZ (f:=cS "told") (a:=.str "told") (Z:=Z) (Y:=[aD p,aA pl,ao,ao,ao]) (by simp) (aE0 (fs:=a0) em);simp only[sM,mb,j]
 have i:∀q,PD 3 (Lb q ⟨"NoPlace",[]⟩ (([aD p,aA pl,ao,ao,ao]:Ev).set 3 (aj (.adr q))) Z)=eN [aD p,aA pl,aj (.tup [.str "none",.bl ax]),ao,aj (.bl ax)] Z:=by
  intro q;simp[Lb,h2,c,isA,OQ,Jb,U,N,B,PD]
 have g:=ahB (sub:=λz=>rA TK Ke z "NoPlace" == aj ax) k (by decide) i;have e:vT [aD p,aA pl,ao,ao,ao] Z=aj (.ret (.tup [.str "none",.bl ax]),[aD p,aA pl,aj (.tup [.str "none",.bl ax]),ao,aj (.bl ax)],Z):=by
  unfold vT;rw[bI g];simp
 have d:cV 5 vT [.aI p,.int pl] Z=aG (.tup [.str "none",.bl ax]) Z:=by
  show trim Z (fE (vT [aD p,aA pl,ao,ao,ao] Z))=_;rw[e];simp
 show DP (cV 5 vT) [.aI p,.int pl] Z=_;simp only[DP,d]
theorem aJG(a:gR Z p keep rs row L){pl n:a5}(h:xX [.aI p,.int pl] Z=aG (.int n) Z):CO [.aI p,.int pl] Z=aG (.tup [.str "told",.int n]) Z:=by
 have h2:(2:ay)<=bc:=by decide
 have em:cH "so_manieth" [("Gaps",bX 2 [] xX)] aN (aB bD a0) [aD p,aA pl,ao,ao,ao] Z=aG (.int n) Z:=a.call rfl rfl (as:=[.int pl]) (das:=[]) (bB (aU rfl) bY) rfl (by simpa using h);have q:PZ [aD p,aA pl,ao,ao,ao] Z=eN [aD p,aA pl,aj (.tup [.str "told",.int n]),ao,ao] Z:=by
  unfold PZ;refine jB (i:=2) ?_;unfold kK;rw[dJ (bB (a:=.str "told") (by simp) (bB em bY))];simp[h2]
 have e:vT [aD p,aA pl,ao,ao,ao] Z=aj (.ret (.tup [.str "told",.int n]),[aD p,aA pl,aj (.tup [.str "told",.int n]),ao,ao],Z):=by
  unfold vT;rw[bI (Y1:=[aD p,aA pl,aj (.tup [.str "told",.int n]),ao,ao]) (Z':=Z) (by simp[AO,q])];simp
 have j:cV 5 vT [.aI p,.int pl] Z=aG (.tup [.str "told",.int n]) Z:=by
  show trim Z (fE (vT [aD p,aA pl,ao,ao,ao] Z))=_;rw[e];simp
 show DP (cV 5 vT) [.aI p,.int pl] Z=_;simp only[DP,j]
end
theorem Kf(n:a5)(L:A)(ok:aE->Prop)(Z:aE)(aH:ok Z):∀(rs:ak Rn) (u m:a5) (x y:ar A),∃z j,eZ ok (jG 2 (dN (gN 4) (dN (gN 5) jR))) XM (aM rs) [aj L,aA n,aA u,aA m,x,y] Z
  = eN [aj L,aA n,aA (u+cO rs n),aA (m+cZ rs n),z,j] Z
 |[],u,m,x,y=>⟨x,y,by simp[aM,eZ,aH,cZ,cO]⟩
 |r::rs,u,m,x,y=>by
  obtain⟨z,j,q⟩:=Kf n L ok Z aH rs (u+if r.1<n then r.2 else 0) (m+if r.1<=n then r.2 else 0) (aA r.1) (aA r.2);refine⟨z,j,?_⟩;have st:XM [aj L,aA n,aA u,aA m,aA r.1,aA r.2] Z=eN [aj L,aA n,aA (u+if r.1<n then r.2 else 0),aA (m+if r.1<=n then r.2 else 0),aA r.1,aA r.2] Z:=by
   by_cases h1:r.1<n <;> by_cases h2:r.1<=n <;> simp[XM,h1,h2]
  show eZ ok _ _ (gW r::aM rs) _ Z=_;rw[qO aH (Y0:=[aj L,aA n,aA u,aA m,aA r.1,aA r.2]) (Z0:=Z) (by simp[gW]) st,q];simp only[cZ,cO,bU,oZ,Int.add_assoc]
theorem aI0(rs:ak Rn)(n:a5)(Z:aE):zV [.lst (aM rs),.int n] Z=aG (.tup [.int (cO rs n),.int (cZ rs n)]) Z:=by
 obtain⟨z,j,q⟩:=Kf n (.lst (aM rs)) (λZ'=>gD Z' (.lst (aM rs))=aj (aM rs)) Z rfl rs 0 0 ao ao;have h2:(2:ay)<=bc:=by decide
 simp only[YW]at q;show trim Z (fE (PY [cW (aM rs),aA n,ao,ao,ao,ao] Z))=_;unfold PY;rw[bI (Y1:=[cW (aM rs),aA n,aA 0,ao,ao,ao]) (Z':=Z) (by simp)];rw[bI (Y1:=[cW (aM rs),aA n,aA 0,aA 0,ao,ao]) (Z':=Z) (by simp)];rw[bI (Y1:=[cW (aM rs),aA n,aA (cO rs n),aA (cZ rs n),z,j]) (Z':=Z) (by
  rw[vN (S:=srcOf (.lst (aM rs)) (aM rs)) (Z':=Z) (by simp)];exact q)]
 simp[h2]
theorem ad0{Z:aE}{R:A}{rs:ak Rn}(j:gD Z R=aj (aM rs))(n:a5):zV [R,.int n] Z=aG (.tup [.int (cO rs n),.int (cZ rs n)]) Z:=by
 obtain⟨B,z,q⟩:=Kf n R (λZ'=>gD Z' R=aj (aM rs)) Z j rs 0 0 ao ao;have h2:(2:ay)<=bc:=by decide
 simp only[YW]at q;show trim Z (fE (PY [aj R,aA n,ao,ao,ao,ao] Z))=_;unfold PY;rw[bI (Y1:=[aj R,aA n,aA 0,ao,ao,ao]) (Z':=Z) (by simp)];rw[bI (Y1:=[aj R,aA n,aA 0,aA 0,ao,ao]) (Z':=Z) (by simp)];rw[bI (Y1:=[aj R,aA n,aA (cO rs n),aA (cZ rs n),B,z]) (Z':=Z) (by
  rw[vN (S:=srcOf R (aM rs)) (Z':=Z) (by simp[j])];exact q)]
 simp[h2]
theorem Lw{f:Ev->Mo A}{i j:ay}{a b:A}{Y:Ev}{Z Z':aE}(h:f Y Z=aG (.tup [a,b]) Z'):bK f (jG 2 (dN (gN i) (dN (gN j) jR))) Y Z=eN ((Y.set i (aj a)).set j (aj b)) Z':=by
 unfold bK;rw[gL h];simp
section
variable{Z:aE}{p keep:ay}{rs row:ak Rn}{L:ak Rg}{R:A}
theorem aeQ(a:gR Z p keep rs row L)(hR:gD Z R=aj (aM row)){pl:a5}(h1:1<=pl)(h2:pl<=whole row):ZI [.aI p,R,.int pl] Z=aG (.bl ax) Z:=by
 obtain⟨n,hn,D,C,y,m,_⟩:=aeP a h1 h2;have r:=ad0 hR n;have x:=a.o.Wc;have w:uL (mD L+1) 2:=⟨by decide,by decide⟩;show trim Z (fE (Kx [aD p,aj R,aA pl,ao,ao,ao,ao,ao] Z))=_;unfold Kx;have v:cH "pouch" [("Gaps",bX 1 [] uJ)] aN a0 [aD p,aj R,aA pl,ao,ao,ao,ao,ao] Z=aG (aW (All rs L)) Z:=a.call rfl rfl (as:=[]) (das:=[]) bY rfl (by simpa using ZT a);rw[bI (jB (i:=3) v)];simp only[List.set];have B:∀q:Ev,(q[3]?).join=aj (aW (All rs L))->aC bO cQ bL q Z=aG (.int (mD L)) Z:=λq h=>by
  rw[<-a.o.off];exact dG (aU h) (b:=.int 1) (by simp) (by simp[aW,eA])
 rw[bI (jB (i:=4) (jS (n:=2) (F:=rX) (bB (aU (a:=aW (All rs L)) rfl) (bB (aU (a:=.int pl) rfl) bY)) rfl m))];simp only[List.set];rw[bI (Lw (i:=5) (j:=6) (jS (n:=2) (F:=zV) (bB (aU (a:=R) rfl) (bB (aU (a:=.int n) rfl) bY)) rfl r))];simp only[List.set];rw[bI (jB (i:=7) (a:=.int ((mD L+1)/2)) (Z':=Z) (dG (dG (B _ rfl) (b:=.int 1) (by simp) (c:=.int (mD L+1)) (by simp)) (b:=.int 2) (by simp) (abV w _)))];simp only[List.set];generalize z:[aj (A.aI p),aj R,aA pl,aj (aW (All rs L)),aA n,aA (cO row n),aA (cZ row n),aA ((mD L+1)/2)]=q;have k:eE 2 q Z=aG (.int pl) Z:=aU (by subst z;rfl);have g:eE 4 q Z=aG (.int n) Z:=aU (by subst z;rfl);have d:eE 5 q Z=aG (.int (cO row n)) Z:=aU (by subst z;rfl);have U:eE 6 q Z=aG (.int (cZ row n)) Z:=aU (by subst z;rfl);have N:eE 7 q Z=aG (.int ((mD L+1)/2)) Z:=aU (by subst z;rfl);have eq1:Kw q Z=aG (.lst (((All rs L).es.map (·.1)).map A.int)) Z:=by
  have e:((All rs L).es.map (·.1)).map A.int=(All rs L).es.map λe=>A.int e.1:=by simp[zS]
  rw[e];refine Al (S:=srcOf (.lst (encL (All rs L).es)) (encL (All rs L).es)) (All rs L).es cK (λe=>A.int e.1) (λq=>∃u,q=[u]) (λa b e=>by simp[cK]at e;rw[e.1]) ?_ (λf=>rfl) ⟨ao,rfl⟩ rfl (by have:=a.o.ac3;omega) (λe _ q ⟨u,s⟩ f=>by subst s;exact⟨[aj (cK e)],⟨_,rfl⟩,by simp,by simp[cK]⟩) (λe _=>by simp only[Cl]);unfold jD;rw[dJ (dG (aU (a:=aW (All rs L)) (by subst z;rfl)) (b:=A.int 3) (by simp) (c:=.lst (encL (All rs L).es)) (by simp[aW,eA]))];simp
 have l:(kB (cA (aC (vK ax) eP Kw)) (cA (aC iK tL nL))) q Z=aG au Z :=
  yL (Z':=Z) (jN (dG g eq1 (by rw[aa8];simp only[hn,JC,Bool.not_true]))) (jN (dG U d (by simp;omega)))
 rw[bI (rF l)];have t:HA BP BP (aC (rH) (aC cF nL bL) wJ) bR (aC cF tL wJ) q Z=aG (.bl ax) Z :=
  aFP (dG (dG d (b:=.int 1) (by simp) (c:=.int (cO row n+1)) (by simp)) N (c:=.int (cO row n+1-(mD L+1)/2)) (by simp)) k (by simp;omega) (dG U N (c:=.int (cZ row n+(mD L+1)/2)) (by simp)) (by simp;omega)
 unfold cR;rw[gL t];exact pH rfl
theorem aB2(n:a5)(N:ak a5)(h:n∈N){k:ay}(g:Z[k]?=aj (.lst (N.map A.int))):vK ax (.int n) (.aI k) Z=aG (.bl au) Z:=by
 have q:=aa8 (Z:=Z) n N;have j:res Z 6 (.aI k)=res Z 6 (.lst (N.map A.int)):=by
  rw[Ud g,Fc _ (by simp),tP (a:=.lst (N.map A.int)) (by simp[cJ])];rfl
 unfold vK at q ⊢;rw[j,q];simp[h]
theorem Pp(a:gR Z p keep rs row L)(hR:∀C,gD (Z++C) R=aj (aM row))(pl:a5):zT [.aI p,R,.int pl] Z=aG (.bl ax) Z:=by
 show trim Z (fE (Kv [aD p,aj R,aA pl,ao,ao,ao,ao] Z))=_;unfold Kv;have N:gD Z R=aj (aM row):=by simpa using hR []
 by_cases v:pl<1\/whole row<pl
 ·have U:=aJH a v;rw[bI (jB (i:=3) (jS (n:=2) (F:=CO) (bB (aU (a:=.aI p) rfl) (bB (aU (a:=.int pl) rfl) bY)) rfl U))];simp only[List.set];have s:cH "length" [("Gaps",bX 1 [] qW)] aN a0 [aD p,aj R,aA pl,aj (.tup [.str "none",.bl ax]),ao,ao,ao] Z=aG (.int (whole row)) Z:=a.call rfl rfl (as:=[]) (das:=[]) bY rfl (by simpa using YL a.h);have S:(kB (cA (aC qM bR bL)) (cA (aC vL bR (cH "length" [("Gaps",bX 1 [] qW)] aN a0)))) [aD p,aj R,aA pl,aj (.tup [.str "none",.bl ax]),ao,ao,ao] Z=aG ax Z:=by
   have e1:cA (aC qM bR bL) [aD p,aj R,aA pl,aj (.tup [.str "none",.bl ax]),ao,ao,ao] Z=aG (decide (pl<1)) Z:=jN (dG (aU (a:=.int pl) rfl) (b:=.int 1) (by simp) (by simp));have X:cA (aC vL bR (cH "length" [("Gaps",bX 1 [] qW)] aN a0)) [aD p,aj R,aA pl,aj (.tup [.str "none",.bl ax]),ao,ao,ao] Z=aG (decide (whole row<pl)) Z:=jN (dG (aU (a:=.int pl) rfl) s (by simp));unfold kB;rw[dJ e1]
   by_cases zD:pl<1
   ·simp[zD]
   ·have jQ:=v.resolve_left zD;simp only[zD,JD,kZ,iJ];rw[X];simp[jQ]
  have OP:(2:ay)<=bc:=by decide
  have pt:cJ 8 (.tup [.str "none",.bl ax])=ax:=by simp[cJ];decide +kernel
  have T:aC iK cQ (kK (aB (cS "none") (aB (cB ax) a0))) [aD p,aj R,aA pl,aj (.tup [.str "none",.bl ax]),ao,ao,ao] Z=aG (.bl ax) Z:=dG (aU (a:=.tup [.str "none",.bl ax]) rfl) (b:=.tup [.str "none",.bl ax]) (by simp[OP]) (aB3 pt);rw[akY (a:=.bl ax) (Y1:=[aD p,aj R,aA pl,aj (.tup [.str "none",.bl ax]),ao,ao,ao]) (Z':=Z) (by
   unfold fO;rw[gL S];simp only[jP];unfold cR;rw[gL T])]
  simp only[HS];exact pH rfl
 ·have k:1<=pl:=by omega
  have l:pl<=whole row:=by omega
  obtain⟨n,hn,g1,g2,g3,so,G⟩:=aeP a k l;have U:=aJG a G;have qn:=aeQ a N k l;have H:=ad0 N n;have axP:=a.o.Wc;have u:n∈CF rs L:=by
   have h1:n∈iI (dX rs L):=by
    have:=(Ly (dX rs L) P0).mem_iff.mp hn;simpa using this
   unfold CF;refine(sortI_perm _).mem_iff.mpr ((asU (acc:=[])).mpr ?_);simp[h1]
  rw[bI (jB (i:=3) (jS (n:=2) (F:=CO) (bB (aU (a:=.aI p) rfl) (bB (aU (a:=.int pl) rfl) bY)) rfl U))];simp only[List.set];have s:cH "length" [("Gaps",bX 1 [] qW)] aN a0 [aD p,aj R,aA pl,aj (.tup [.str "told",.int n]),ao,ao,ao] Z=aG (.int (whole row)) Z:=a.call rfl rfl (as:=[]) (das:=[]) bY rfl (by simpa using YL a.h);rw[bI (rF (yL (Z':=Z) (Z'':=Z) (jN (dG (aU (a:=.int pl) rfl) (b:=.int 1) (by simp) (by simp;omega))) (jN (dG (aU (a:=.int pl) rfl) s (by simp;omega)))))];have d:∀(g P M:ar A) (q:aE),aC bO cQ bL [aD p,aj R,aA pl,aj (.tup [.str "told",.int n]),g,P,M] q=aG (.int n) q:=λ_ _ _ q=>dG (aU rfl) (b:=.int 1) (by simp) (by simp);have Q:aC bO cQ dC [aD p,aj R,aA pl,aj (.tup [.str "told",.int n]),ao,ao,ao] Z=aG (.str "told") Z:=dG (aU rfl) (b:=.int 0) (by simp) (by simp);have I:cJ 8 (.str "told")=ax:=by simp[cJ];decide +kernel
  rw[bI (rF (yL (Z':=Z) (Z'':=Z) (jN (dG Q (b:=.str "told") (by simp) (WA I))) (yL (Z':=Z) (Z'':=Z) (HW (b:=ax) (jN (FA (Z':=Z) (bB (d _ _ _ _) (bB (a:=.ty "int") (by simp) bY)) (by simp)))) (jN (FA (Z':=Z) (bB (d _ _ _ _) (bB (a:=.ty "bool") (by simp) bY)) (by simp))))))];have w:∀g:ar A,cH "pouch" [("Gaps",bX 1 [] uJ)] aN a0 [aD p,aj R,aA pl,aj (.tup [.str "told",.int n]),g,ao,ao] Z=aG (aW (All rs L)) Z:=λ_=>a.call rfl rfl (as:=[]) (das:=[]) bY rfl (by simpa using ZT a);rw[bI (jB (i:=4) (w ao))];simp only[List.set];have pt:cJ 8 (.tup [.str "told",.int n])=ax:=by simp[cJ];decide +kernel
  have K:cJ 8 (aW (All rs L))=ax:=anS ..;rw[bI (rF (yL (Z':=Z) (Z'':=Z) (jN (dG (jS (n:=2) (F:=CO) (bB (aU (a:=.aI p) rfl) (bB (aU (a:=.int pl) rfl) bY)) rfl U) (aU (a:=.tup [.str "told",.int n]) rfl) (WA pt))) (jN (dG (w _) (aU (a:=aW (All rs L)) rfl) (WA K)))))];rw[bI (Lw (i:=5) (j:=6) (jS (n:=2) (F:=zV) (bB (aU (a:=R) rfl) (bB (d _ _ _ _) bY)) rfl H))];simp only[List.set];have e:=a.app [.lst ((CF rs L).map A.int)];have k1:(Z++[Cell.lst ((CF rs L).map A.int)])[Z.length]?=aj (.lst ((CF rs L).map A.int)):=by simp
  have y:=aJE a;have x:=aeQ e (hR _) k l;generalize z:[aj (A.aI p),aj R,aA pl,aj (.tup [.str "told",.int n]),aj (aW (All rs L)),aA (cO row n),aA (cZ row n)]=B;generalize r:Z++[Cell.lst ((CF rs L).map A.int)]=q at e k1 y x;have V:cH "numbers" [("Gaps",bX 1 [] KU)] aN a0 B Z=aG (.aI Z.length) q:=a.call rfl (by subst z;rfl) (as:=[]) (das:=[]) bY rfl (by simpa using y);have eo:cH "off" [("Gaps",bX 1 [] zW)] aN a0 B q=aG (.int (mD L)) q:=e.call rfl (by subst z;rfl) (as:=[]) (das:=[]) bY rfl (by simpa using aJD e);have f:eE 2 B q=aG (.int pl) q:=aU (by subst z;rfl);have E:eE 5 B q=aG (.int (cO row n)) q:=aU (by subst z;rfl);have D:eE 6 B q=aG (.int (cZ row n)) q:=aU (by subst z;rfl);have m:aC bO cQ bL B Z=aG (.int n) Z:=by subst z;exact d _ _ _ _
  have t:(kB (cA (aC (vK ax) (aC bO cQ bL) (cH "numbers" [("Gaps",bX 1 [] KU)] aN a0))) (kB (cA (aC Je nL (aC cF bR (cH "off" [("Gaps",bX 1 [] zW)] aN a0)))) (cA (aC qM tL (aC (rH) bR (cH "off" [("Gaps",bX 1 [] zW)] aN a0)))))) B Z=aG au q :=
   yL (Z':=q) (jN (Ek m V (aB2 n _ u k1))) (yL (Z':=q) (jN (dG E (dG f eo (c:=.int (pl+mD L)) (by simp)) (by simp;omega))) (jN (dG D (dG f eo (c:=.int (pl-mD L)) (by simp)) (by simp;omega))))
  rw[bI (rF t)];have W:aX (bS 3 ZI) (aB aN (aB bD (aB bR a0))) B q=aG (.bl ax) q:=jS (bB (aU (a:=.aI p) (by subst z;rfl)) (bB (aU (a:=R) (by subst z;rfl)) (bB f bY))) rfl x;unfold cR;rw[gL W];simp only[HS];rw[<-r];exact DB (by simp only[Cl])
theorem aeT(a:gR Z p keep rs row L)(hR:∀j,gD (Z++j) R=aj (aM row))(he:∀Ψ:aE,iK R (.lst []) Z=aG (.bl row.isEmpty) Z):KR [.aI p,R] Z=aG (.bl ax) Z:=by
 have z:=Pp a hR 1;have q:=Pp a hR (whole row);show trim Z (fE (Lc [aD p,aj R] Z))=_;unfold Lc cR;have B:cH "length" [("Gaps",bX 1 [] qW)] aN a0 [aD p,aj R] Z=aG (.int (whole row)) Z:=a.call rfl rfl (as:=[]) (das:=[]) bY rfl (by simpa using YL a.h);have d:aC iK bD (lD au a0) [aD p,aj R] Z=aG (.bl row.isEmpty) Z:=dG (aU (a:=R) rfl) (b:=.lst []) (by simp) (he Z);have c:aX (bS 3 zT) (aB aN (aB bD (aB bL a0))) [aD p,aj R] Z=aG (.bl ax) Z:=jS (bB (aU (a:=.aI p) rfl) (bB (aU (a:=R) rfl) (bB (a:=.int 1) (by simp) bY))) rfl z;have U:aX (bS 3 zT) (aB aN (aB bD (aB (cH "length" [("Gaps",bX 1 [] qW)] aN a0) a0))) [aD p,aj R] Z=aG (.bl ax) Z:=jS (bB (aU (a:=.aI p) rfl) (bB (aU (a:=R) rfl) (bB B bY))) rfl q;have N:(GW (aC iK bD (lD au a0)) (yD (aX (bS 3 zT) (aB aN (aB bD (aB bL a0)))) (aX (bS 3 zT) (aB aN (aB bD (aB (cH "length" [("Gaps",bX 1 [] qW)] aN a0) a0)))))) [aD p,aj R] Z=aG (.bl ax) Z:=by
  unfold GW;rw[dJ d];cases row.isEmpty with
  |true=>simp
  |false =>
   unfold yD;simp only[IV,asV,kZ,iJ];rw[dJ c];simpa using U
 rw[gL N];exact pH rfl
end
theorem abT{Y:Ev}{Z:aE}{f:Ev->Mo A}{c:a5}(d m:a5)(hd:0<d)(j:d<=1001)(hm:0<m)(h:f Y Z=aG (.int c) Z):aC (gV) (aC (oS) f (cI d)) (cI m) Y Z=aG (.int (c/d%m)) Z :=
 dG (dG h (b:=.int d) (by simp) (abV (aFV hd j) _)) (b:=.int m) (by simp) (by simp[hm])
theorem aGX{g:A->ak A->Mo A}{fo:Ev->Mo A}{f:Ev->Mo (ak A)}{Y:Ev}{Z Z1 Z2:aE}{o v:A}{as ds:ak A}(h1:fo Y Z=aG o Z)(hi:fP Z o=aj ds)(h2:f Y Z=aG as Z1)(j:g o as Z1=aG v Z2):pZ g fo f Y Z=aG v Z2:=by
 unfold pZ;rw[dJ h1,a9 (ED hi),dJ h2,j]
theorem acZ{Ψ:aE}{n i:ay}{ds:ak A}{fv:Ev->Mo A}{y:A}(hn:Ψ[n]?=aj (.lst ds))(hl:ds.length<100000){Y:Ev}(h1:(Y[i]?).join=(aD n))(hv:fv Y Ψ=aG y Ψ):pZ uA (eE i) (aB fv a0) Y Ψ=aG (.cE) (Ψ.set n (.lst (ds++[y]))) :=
 aGX (aU h1) (vD hn) (bB hv bY) (by
  have:ds.length<bc:=by rw[nO];omega
  simp[FC hn,this])
theorem UX{t:Ev->Mo br}{f g:MS}{Y:Ev}{Z Z':aE}{b:br}(h:t Y Z=aG b Z'):fO t f g Y Z=if b then f Y Z' else g Y Z':=by
 unfold fO;rw[gL h]
theorem aHP{Z Z1 Z2:aE}{Y:Ev}{f g:Ev->Mo A}(h:f Y Z=aG (.bl ax) Z1)(h2:g Y Z1=aG (.bl ax) Z2):yD f g Y Z=aG (.bl ax) Z2:=by
 unfold yD;rw[dJ h];simp[h2]
theorem amN{Z:aE}{k:ay}{rs:ak Rn}(g:Z[k]?=aj (.lst (aM rs))):res Z 6 (.aI k)=aj (.lst (aM rs)):=by
 have h:(aM rs).all (cJ 8)=ax:=by simp[aM,gW,cJ]
 rw[Ud g,Fc _ h];rfl
theorem abK{Z:aE}{R:A}{row:ak Rn}(h:res Z 6 R=aj (.lst (aM row))):iK R (.lst []) Z=aG (.bl row.isEmpty) Z:=by
 have z:=Ea row;have j:cJ 8 (.lst [])=ax:=rfl;have he:gQ 8 (.lst (aM row)) (.lst [])=row.isEmpty:=by cases row <;> rfl
 have q:res Z 6 (.lst [])=aj (.lst []):=tP j;simp[iK,xF,h,q,z,j,he]
abbrev iH(Z:aE)(keep:ay)(rs row:ak Rn)(L:ak Rg):aE:=Z++[aT keep (whole row) row.length rs L,.lst (aM row)]
section
variable{Z:aE}{keep:ay}{ns:ak a5}
theorem Lv{rs row:ak Rn}{L:ak Rg}(hT:Z[0]?=aj pJ)(o:eO keep rs L row row.length)(j:aE):gR (Z++aT keep (whole row) row.length rs L::j) Z.length keep rs row L:=⟨by simp,o,Lr hT _⟩
abbrev tK(Z:aE)(ns:ak a5)(keep:ay)(f st most cs:a5)(j q z:ar A):Ev:=[aj (.dW ns),aA keep,aA f,aA st,aA most,aD Z.length,aD (Z.length+1),aj (.bl ax),aA cs,j,q,z]
theorem aCJ{rs row:ak Rn}{L:ak Rg}(hT:Z[0]?=aj pJ)(o:eO keep rs L row row.length){f st most cs:a5}(iX:1<=st)(Yv:st<=3)(VR:0<=cs)(aaE:cs<=62)(hi:row.length<60)(hw:whole row<=1000000*row.length)(H p:ar A) :
  ∃z B n t ZV LH,eO keep z B (row++[(n,t)]) (row++[(n,t)]).length/\whole (row++[(n,t)])<=1000000*(row++[(n,t)]).length/\PX (tK Z ns keep f st most cs (aA row.length) H p) (iH Z keep rs row L)=eN (tK Z ns keep f st most cs (aA row.length) ZV LH) (iH Z keep z (row++[(n,t)]) B):=by
 have M:(0:a5)<max 1 cs:=by omega
 have ax6:=QW (row.length:a5) (show max 1 cs≠0 by omega);have ax5:=KO (row.length:a5) M;have x:=λZ=>ad1 ns (st+(row.length:a5)%max 1 cs) Z (by omega) (by omega);have I:=acE ns (st+(row.length:a5)%max 1 cs);have c1:=acD ns (st+(row.length:a5)%max 1 cs);generalize FD ns (st+(row.length:a5)%max 1 cs)=h at x I c1;have w:=λZ=>CH h row.length Z I (by omega) (by omega) (by omega);have s0:=DX h row.length;have S:=Ez h row.length;generalize tR h row.length=N at w s0 S;have D:=λZ=>CH N 1 Z s0 (by omega) (by omega) (by omega);have G:=DX N 1;have T:=Ez N 1;generalize tR N 1=k at D G T;have C:=λZ=>CH N 2 Z s0 (by omega) (by omega) (by omega);have g:=DX N 2;generalize tR N 2=U at C g;have v:=λZ=>aIS k (f/64%5) Z G (by omega);generalize DO k (f/64%5)=n at v;have s:=λZ=>aIJ U Z g;have P:=ahO U g;have m:=ahN U g;generalize DC U=t at s P m;have Q:0<Z.length:=(dA.mp hT).1;have a:=Lv hT o [.lst (aM row)];obtain⟨z,B,a',u⟩:=aJC a n t P (by omega) (by omega) Q;have E:=a'.o;have l:whole (row++[(n,t)])<=1000000*(row++[(n,t)]).length:=by
  rw[uN];have:whole [(n,t)]=t:=by simp[whole]
  simp;omega
 refine⟨z,B,n,t,aA N,aj (gW (n,t)),E,l,?_⟩;have r:(Z++[aT keep (whole row) row.length rs L,.lst (aM row)]).set Z.length (aT keep (whole (row++[(n,t)])) (row++[(n,t)]).length z B)=Z++[aT keep (whole (row++[(n,t)])) (row++[(n,t)]).length z B,.lst (aM row)]:=by simp
 rw[r]at u;unfold PX;have OP:(2:ay)<=bc:=by decide
 have e1:aX (bS 2 pV) (aB (aX (bS 2 GD) (aB aN (aB (aC cF cQ (aC (gV) sA (aX xE (aB bL (aB pY a0))))) a0))) (aB sA a0)) (tK Z ns keep f st most cs (aA row.length) H p) (iH Z keep rs row L)=aG (.int N) (iH Z keep rs row L) :=
  jS (bB (jS (bB (aU (a:=.dW ns) rfl) (bB (dG (aU (a:=.int st) rfl) (dG (aU (a:=.int row.length) rfl) (vR (Z':=iH Z keep rs row L) (bB (a:=.int 1) (by simp) (bB (aU (a:=.int cs) rfl) bY)) (a:=.int (max 1 cs)) (by simp)) (c:=.int ((row.length:a5)%max 1 cs)) (by simp only[gV,gI];simp[M])) (c:=.int (st+(row.length:a5)%max 1 cs)) (by simp)) bY)) rfl (x _)) (bB (aU (a:=.int row.length) rfl) bY)) rfl (w _)
 rw[bI (jB (i:=10) e1)];simp only[tK,List.set];have X:kK (aB (aX (bS 2 zU) (aB (aX (bS 2 pV) (aB GU (aB bL a0))) (aB (aC (gV) (aC (oS) bR (cI 64)) CV) a0))) (aB (aX (bS 1 RI) (aB (aX (bS 2 pV) (aB GU (aB mW a0))) a0)) a0)) [aj (.dW ns),aA keep,aA f,aA st,aA most,aD Z.length,aD (Z.length+1),aj (.bl ax),aA cs,aA row.length,aA N,p] (iH Z keep rs row L)=aG (gW (n,t)) (iH Z keep rs row L):=by
  unfold kK;rw[dJ (bB (jS (as:=[.int k,.int (f/64%5)]) (bB (jS (as:=[.int N,.int 1]) (bB (aU (by rfl)) (bB (by rfl) bY)) (by rfl) (D _)) (bB (abT 64 5 (by decide) (by decide) (by decide) (aU (by rfl))) bY)) (by rfl) (v _)) (bB (jS (as:=[.int U]) (bB (jS (as:=[.int N,.int 2]) (bB (aU (by rfl)) (bB (by rfl) bY)) (by rfl) (C _)) bY) (by rfl) (s _)) bY))];simp[OP,gW]
 rw[bI (jB (i:=11) X)];simp only[List.set];generalize j:[aj (A.dW ns),aA keep,aA f,aA st,aA most,aD Z.length,aD (Z.length+1),aj (.bl ax),aA cs,aA row.length,aA N,aj (gW (n,t))]=Y;have V:cH "put" [("Gaps",bX 3 [] KS)] nL (aB (aC bO wK dC) (aB (aC bO wK bL) a0)) Y (iH Z keep rs row L)=aG (.cE) (Z++[aT keep (whole (row++[(n,t)])) (row++[(n,t)]).length z B,.lst (aM row)]) :=
  a.call rfl (by subst j;rfl) (as:=[.int n,.int t]) (das:=[]) (bB (dG (aU (a:=gW (n,t)) (by subst j;rfl)) (b:=.int 0) (by simp) (by simp[gW])) (bB (dG (aU (a:=gW (n,t)) (by subst j;rfl)) (b:=.int 1) (by simp) (by simp[gW])) bY)) rfl (by simpa using u)
 rw[bI (uD V)];have W:pZ uA tL (aB wK a0) Y (Z++[aT keep (whole (row++[(n,t)])) (row++[(n,t)]).length z B,.lst (aM row)])=aG (.cE) (iH Z keep z (row++[(n,t)]) B):=by
  have q:=acZ (Ψ:=Z++[aT keep (whole (row++[(n,t)])) (row++[(n,t)]).length z B,.lst (aM row)]) (n:=Z.length+1) (i:=6) (ds:=aM row) (fv:=eE 11) (y:=gW (n,t)) (by simp) (by simp[aM];omega) (Y:=Y) (by subst j;rfl) (aU (by subst j;rfl));rw[q];simp[aM]
 rw[bI (uD W)];have a2:=Lv hT E [.lst (aM (row++[(n,t)]))];have K:∀e,(iH Z keep z (row++[(n,t)]) B++e)[Z.length+1]?=aj (.lst (aM (row++[(n,t)]))):=λe=>by simp
 have Dy:=aeT (R:=.aI (Z.length+1)) a2 (λe=>Bu (vD (K e))) (λ_=>abK (amN (by simpa using K [])));have em:cA (aC iK (aC (gV) sA uO) dC) Y (iH Z keep z (row++[(n,t)]) B)=aG ((row.length:a5)%10==0) (iH Z keep z (row++[(n,t)]) B):=jN (dG (dG (aU (a:=.int row.length) (by subst j;rfl)) (b:=.int 10) (by simp) (c:=.int ((row.length:a5)%10)) (by simp)) (b:=.int 0) (by simp) (by simp));rw[UX em]
 by_cases d:(row.length:a5)%10=0
 ·rw[a9 (by simp[d])];rw[jB (i:=7) (a:=.bl ax) (Z':=iH Z keep z (row++[(n,t)]) B) (aHP (aU (by subst j;rfl)) (jS (n:=2) (F:=KR) (bB (aU (a:=.aI Z.length) (by subst j;rfl)) (bB (aU (a:=.aI (Z.length+1)) (by subst j;rfl)) bY)) rfl Dy))];subst j;rfl
 ·rw[bf (by simp[d])];subst j;rfl
theorem aeS(hT:Z[0]?=aj pJ)(D:1<=keep)(w:keep<=5\/keep=100)(BE:ns.length<=63){f st most:a5}(sS:0<=f)(y:1<=st)(T:st<=3)(C:0<=most)(EF:most<=60) :
  ∃rs row L,eO keep rs L row row.length/\(row.length:a5)<=most/\whole row<=1000000*row.length/\GC [.dW ns,.int keep,.int f,.int st,.int most] Z=aG (.tup [.aI Z.length,.lst (aM row),.bl ax]) (Z++[aT keep (whole row) row.length rs L,.dead]):=by
 generalize V:max 0 ((ns.length:a5)-st)=cs;have e:0<=cs:=by omega
 have k:cs<=62:=by omega
 have H:=QW f (show most+1≠0 by omega);have I:=KO f (show 0<most+1 by omega);generalize hm:min most (max cs (f%(most+1)))=m;have K:0<=m:=by omega
 have M:m<=most:=by omega
 have h:∀Z,gD Z (.dW ns)=aj (ns.map A.int):=λ_=>rfl;obtain⟨s,u,r,N,z,B,rs,row,L,rfl,rfl,o,hl,hw⟩:=Jr (ok:=λ_=>True) (g:=gN 9) (b:=PX)
  (λi l Z'=>∃(N z B:ar A) (rs row:ak Rn) (L:ak Rg),l=tK Z ns keep f st most cs N z B/\Z'=iH Z keep rs row L/\eO keep rs L row row.length/\row.length=i/\whole row<=1000000*row.length) (λ_ _ _ _=>trivial)
  ((List.range m.toNat).map λ(i:ay)=>A.int (0+(i:a5))) 0 (tK Z ns keep f st most cs ao ao ao) (iH Z keep [] [] []) ⟨ao,ao,ao,[],[],[],rfl,rfl,aqL D w,rfl,by simp[whole]⟩
  (by
   rintro i x l Z' p ⟨N,z,B,rs,row,L,rfl,rfl,o,hl,hw⟩;have hi:i<m.toNat:=by simpa using(dA.mp p).1
   obtain rfl:A.int (0+(i:a5))=x:=by
    have:=(dA.mp p).2;simpa using this
   rw[zM]at hl ⊢;obtain⟨G,X,n,t,R,W,Q,P,q⟩:=aCJ (ns:=ns) (f:=f) (st:=st) (most:=most) (cs:=cs) hT o y T e k (by omega) hw z B;refine⟨tK Z ns keep f st most cs (aA i) z B,iH Z keep rs row L,_,_,by simp[tK],.inl (by rw[<-hl];exact q),aA row.length,R,W,G,row++[(n,t)],X,rfl,rfl,Q,by simp[hl],P⟩)
 simp only[zM,lI,List.length_range]at hl r;refine⟨rs,row,L,o,by omega,hw,?_⟩;have mk:=aIV Z keep;show trim Z (fE (Ky [aj (.dW ns),aA keep,aA f,aA st,aA most,ao,ao,ao,ao,ao,ao,ao] Z))=_;unfold Ky;rw[bI (jB (i:=5) (Z':=Z++[aT keep 0 0 [] []]) (a:=.aI Z.length) (vR (bB (aU (a:=.int keep) (by rfl)) bY) mk))];simp only[List.set];rw[bI (jB (i:=6) (Z':=iH Z keep [] [] []) (a:=.aI (Z.length+1)) (by simp[iH,aM,whole]))];simp only[List.set];rw[bI (jB (i:=7) (Z':=iH Z keep [] [] []) (a:=.bl ax) (by simp))];simp only[List.set];rw[bI (jB (i:=8) (Z':=iH Z keep [] [] []) (a:=.int cs) (vR (Z':=iH Z keep [] [] []) (bB (a:=.int 0) (by rfl) (bB (dG (vR (Z':=iH Z keep [] [] []) (bB (aU (a:=.dW ns) (by rfl)) bY) (a:=.int ns.length) (by simp[h])) (aU (a:=.int st) (by rfl)) (c:=.int ((ns.length:a5)-st)) (by simp)) bY)) (by simp[V])))];simp only[List.set];have E:iT (yC (aB (aX WB (aB eP (aB (aX xE (aB pY (aB (aC (gV) bR (aC cF eP bL)) a0))) a0))) a0)) (gN 9) PX (tK Z ns keep f st most cs ao ao ao) (iH Z keep [] [] [])=eN (tK Z ns keep f st most cs N z B) (iH Z keep rs row L):=by
  have U:0<most+1:=by omega
  rw[vN (S:=AQ 0 m.toNat) (Z':=iH Z keep [] [] []) (Ub (j:=m) (bB (vR (Z':=iH Z keep [] [] []) (bB (aU (a:=.int most) (by rfl)) (bB (vR (Z':=iH Z keep [] [] []) (bB (aU (a:=.int cs) (by rfl)) (bB (dG (aU (a:=.int f) (by rfl)) (dG (aU (a:=.int most) (by rfl)) (b:=.int 1) (by rfl) (c:=.int (most+1)) (by simp)) (c:=.int (f%(most+1))) (by simp only[gV,gI];simp[U])) bY)) (a:=.int (max cs (f%(most+1)))) (by simp)) bY)) (by simp[hm])) bY) (by unfold DE;omega))];exact r
 rw[bI E];have d:(3:ay)<=bc:=by decide
 have F:cR (kK (aB nL (aB (wO 6) (aB wJ a0)))) (tK Z ns keep f st most cs N z B) (iH Z keep rs row L)=aj (.ret (.tup [.aI Z.length,.lst (aM row),.bl ax]),tK Z ns keep f st most cs N z B,Z++[aT keep (whole row) row.length rs L,.dead]):=by
  have v:(iH Z keep rs row L)[Z.length+1]?=aj (.lst (aM row)):=by simp
  simp[d,v]
 rw[F];simp only[HS];simp[trim,Cl,gC]
end
abbrev mC(ns:ak a5)(z0:a5)(keep p:ay)(R:A)(z q j:ar A)(sz:a5)(c:ay)(a b N U B:ar A):Ev:=[aj (.dW ns),aA z0,aA keep,aD p,aj R,z,q,j,aA sz,aD c,a,b,N,U,B]
section
variable{Z:aE}{p keep:ay}{rs row:ak Rn}{L:ak Rg}{ns:ak a5}{z0:a5}
theorem aoI(X:0<=z0)(Yi:z0<2147483587)(Gu:row.length<=1000)(k:ay)(hk:k<5)(U N B y e f d:ar A)(sz:a5){c:ay}{ps:ak a5}(w:Z[c]?=aj (.lst (ps.map A.int)))(yV:ps.length<=1000) :
  ∃(c':ay) (D:ak a5) (Z':aE) (W m o:ar A),D.length<=ps.length+3/\(c'=c\/Z.length<=c')/\Z'[c']?=aj (.lst (D.map A.int))/\(∃E,Z'=Z.set c (.lst ((ps++[1+tR z0 (10+(k:a5))%max 1 sz]).map A.int))++E) /\
   JM (mC ns z0 keep p (.lst (aM row)) U N B sz c (aA k) y e f d) Z=eN (mC ns z0 keep p (.lst (aM row)) U N B sz c' (aA k) W m o d) Z':=by
 have s:=λZ=>CH z0 (10+(k:a5)) Z X (by omega) (by omega) (by omega);have s0:=DX z0 (10+(k:a5));generalize tR z0 (10+(k:a5))=st at s s0;have S:(0:a5)<max 1 sz:=by omega
 have fR:c<Z.length:=(dA.mp w).1;unfold JM;have R:aX (bS 2 pV) (aB bD (aB (aC cF uO GU) a0)) (mC ns z0 keep p (.lst (aM row)) U N B sz c (aA k) y e f d) Z=aG (.int st) Z:=jS (bB (aU (a:=.int z0) rfl) (bB (dG (a:=.int 10) (by simp) (aU (a:=.int k) rfl) (c:=.int (10+(k:a5))) (by simp)) bY)) rfl (s _);rw[bI (jB (i:=11) R)];simp only[mC,List.set];have P:pZ uA sA (aB (aC cF bL (aC (gV) wK (aX xE (aB bL (aB pY a0))))) a0) [aj (.dW ns),aA z0,aA keep,aD p,cW (aM row),U,N,B,aA sz,aD c,aA k,aA st,e,f,d] Z=aG (.cE) (Z.set c (.lst (ps.map A.int++[.int (1+st%max 1 sz)]))) :=
  acZ (i:=9) w (by simp;omega) rfl (dG (a:=.int 1) (by simp) (dG (aU (a:=.int st) rfl) (vR (Z':=Z) (bB (a:=.int 1) (by simp) (bB (aU (a:=.int sz) rfl) bY)) (a:=.int (max 1 sz)) (by simp)) (c:=.int (st%max 1 sz)) (by simp only[gV,gI];simp[S])) (by simp))
 rw[bI (uD P)];have em:ps.map A.int++[.int (1+st%max 1 sz)]=(ps++[1+st%max 1 sz]).map A.int:=by simp
 rw[em];generalize l:ps++[1+st%max 1 sz]=z;have lU:z.length=ps.length+1:=by rw[<-l];simp
 have h:(Z.set c (.lst (z.map A.int)))[c]?=aj (.lst (z.map A.int)):=fG fR;generalize T:Z.set c (.lst (z.map A.int))=q at h;have ne:qL (.lst (aM row)) (.lst []) q=aG (.bl (!row.isEmpty)) q:=by
  have v:=Ea row;have u:cJ 8 (.lst [])=ax:=rfl;have he:gQ 8 (.lst (aM row)) (.lst [])=row.isEmpty:=by cases row <;> rfl
  simp[qL,xF,tP v,tP u,v,u,he]
 have g:cA (aC qL eP (lD au a0)) [aj (.dW ns),aA z0,aA keep,aD p,cW (aM row),U,N,B,aA sz,aD c,aA k,aA st,e,f,d] q=aG (!row.isEmpty) q:=jN (dG (aU (a:=.lst (aM row)) rfl) (b:=.lst []) (by simp) ne);cases x:row.isEmpty with
 |true =>
  rw[x]at g;refine⟨c,z,q,aA st,e,f,by omega,.inl rfl,h,⟨[],by simp⟩,?_⟩;rw[rF (by rw[g];rfl)]
 |false =>
  rw[x]at g;have H:0<row.length:=by cases row <;> simp_all
  have C:(0:a5)<(row.length:a5):=by omega
  obtain⟨j,L⟩:=aeD (QW st (show(row.length:a5)≠0 by omega));have G:j<row.length:=by
   have:=KO st C;omega
  have t:fU (aM row) (j:a5)=aj (gW row[j]):=by rw[xO];simp[aM,G]
  generalize row[j]=r at t;have I:=aI0 row r.1 q;rw[UX (b:=ax) (Z':=q) (by rw[g];rfl),a9 rfl];have M:aC bO (aC bO eP (aC (gV) wK (aX sU (aB eP a0)))) dC [aj (.dW ns),aA z0,aA keep,aD p,cW (aM row),U,N,B,aA sz,aD c,aA k,aA st,e,f,d] q=aG (.int r.1) q :=
   dG (dG (aU (a:=.lst (aM row)) rfl) (dG (aU (a:=.int st) rfl) (vR (Z':=q) (bB (aU (a:=.lst (aM row)) rfl) bY) (a:=.int row.length) (by simp[aM])) (c:=.int j) (by simp only[gV,gI];simp[C,L,H])) (c:=gW r) (by simp[t])) (b:=.int 0) (by simp) (by simp[gW])
  rw[bI (Lw (i:=12) (j:=13) (jS (n:=2) (F:=zV) (bB (aU (a:=.lst (aM row)) rfl) (bB M bY)) rfl I))];simp only[List.set];have V:(2:ay)<=bc:=by decide
  have K:z.length+2<=bc:=by rw[nO];omega
  refine⟨q.length,z++[cO row r.1+1,cZ row r.1],q++[.lst ((z++[cO row r.1+1,cZ row r.1]).map A.int)],aA st,aA (cO row r.1),aA (cZ row r.1),by simp;omega,.inr (by rw[<-T];simp),by simp,⟨_,rfl⟩,?_⟩;have Q:aC (IW ax) sA (lD au (aB (aC cF Qw bL) (aB Qv a0))) [aj (.dW ns),aA z0,aA keep,aD p,cW (aM row),U,N,B,aA sz,aD c,aA k,aA st,aA (cO row r.1),aA (cZ row r.1),d] q=aG (.aI q.length) (q++[.lst ((z++[cO row r.1+1,cZ row r.1]).map A.int)]) :=
   Ek (aU (a:=.aI c) rfl) (Z'':=q) (b:=.lst [.int (cO row r.1+1),.int (cZ row r.1)]) (by simp[V]) (by simp[vD h,K])
  rw[jB (i:=9) Q];rfl
theorem Uc(a:gR Z p keep rs row L)(B z j d f N U:ar A)(sz:a5)(c:ay)(ok:aE->Prop)(aH:ok Z):∀(ps:ak a5) (g:ar A),∃h,
  eZ ok (gN 14) JL (ps.map A.int) (mC ns z0 keep p (.lst (aM row)) B z j sz c d f N U g) Z=eN (mC ns z0 keep p (.lst (aM row)) B z j sz c d f N U h) Z
 |[],g=>⟨g,by rw[rW,BQ aH]⟩
 |q::ps,g=>by
  have i:=Pp (R:=.lst (aM row)) a (λ_=>rfl) q;have t:JL (mC ns z0 keep p (.lst (aM row)) B z j sz c d f N U (aA q)) Z=eN (mC ns z0 keep p (.lst (aM row)) B z j sz c d f N U (aA q)) Z:=by
   unfold JL;exact rF (HW (b:=ax) (jN (jS (bB (aU (a:=.aI p) rfl) (bB (aU (a:=.lst (aM row)) rfl) (bB (aU (a:=.int q) rfl) bY))) rfl i)))
  obtain⟨h,e⟩:=Uc a B z j d f N U sz c ok aH ps (aA q);refine⟨h,?_⟩;rw[bU,qO aH (Y0:=mC ns z0 keep p (.lst (aM row)) B z j sz c d f N U (aA q)) (Z0:=Z) (by simp[mC]) t,e]
theorem Jv(a:gR Z p keep rs row L)(Gj:0<=z0)(Yi:z0<2147483587)(Gu:row.length<=1000)(U N B:ar A):∃Y' Z',
  (aQ (bK (cH "length" [("Gaps",bX 1 [] qW)] cQ a0) (gN 8))
  (aQ (bK (lD ax (aB dC (aB bL (aB pY (aB (aC cF pY bL) (aB (LS bL) (aB (aC cF pY (aC (BO) uO (cI 12))) a0))))))) (gN 9))
  (aQ (iT (yC (aB CV a0)) (gN 10) JM)
  (aQ (iT (jD sA) (gN 14) JL)
  (cR (cB ax)))))) [aj (.dW ns),aA z0,aA keep,aD p,cW (aM row),U,N,B,ao,ao,ao,ao,ao,ao,ao] Z=aj (.ret (.bl ax),Y',Z'):=by
 have V:cH "length" [("Gaps",bX 1 [] qW)] cQ a0 [aj (.dW ns),aA z0,aA keep,aD p,cW (aM row),U,N,B,ao,ao,ao,ao,ao,ao,ao] Z=aG (.int (whole row)) Z:=a.call rfl rfl (as:=[]) (das:=[]) bY rfl (by simpa using YL a.h);rw[bI (jB (i:=8) V)];simp only[List.set];have y:(6:ay)<=bc:=by decide
 have w:GJ 10 12:=⟨by decide,by decide,by decide⟩;generalize E:[(0:a5),1,whole row,whole row+1,-1,whole row+10 ^ 12]=sI;have W:lD ax (aB dC (aB bL (aB pY (aB (aC cF pY bL) (aB (LS bL) (aB (aC cF pY (aC (BO) uO (cI 12))) a0)))))) [aj (.dW ns),aA z0,aA keep,aD p,cW (aM row),U,N,B,aA (whole row),ao,ao,ao,ao,ao,ao] Z=aG (.aI Z.length) (Z++[.lst (sI.map A.int)]):=by
  rw[<-E];simp[y,w]
 rw[bI (jB (i:=9) W)];simp only[List.set];have a1:=a.app [.lst (sI.map A.int)];have k1:(Z++[Cell.lst (sI.map A.int)])[Z.length]?=aj (.lst (sI.map A.int)):=by simp
 have tU:=a.lt;have aK6:sI.length=6:=by rw[<-E];rfl
 have zF:0<Z.length:=(dA.mp a.u).1;obtain⟨K,d,e1,c,m,l,k,e,f,rfl,n,OI,H,b1⟩:=Jr (ok:=λ_=>True) (g:=gN 10) (b:=JM)
  (λi D Z'=>∃(c:ay) (m:ak a5) (l k e f:ar A),D=mC ns z0 keep p (.lst (aM row)) U N B (whole row) c l k e f ao/\Z'[c]?=aj (.lst (m.map A.int))/\Z.length<=c/\m.length<=6+3*i/\gR Z' p keep rs row L) (λ_ _ _ _=>trivial)
  ((List.range 5).map λ(i:ay)=>A.int (0+(i:a5))) 0 (mC ns z0 keep p (.lst (aM row)) U N B (whole row) Z.length ao ao ao ao ao) (Z++[.lst (sI.map A.int)]) ⟨_,_,ao,ao,ao,ao,rfl,k1,oX _,by omega,a1⟩
  (by
   rintro i x D Z' G ⟨c,m,l,k,e,f,rfl,n,OI,H,b⟩;have hi:i<5:=by simpa using(dA.mp G).1
   obtain rfl:A.int (0+(i:a5))=x:=by
    have:=(dA.mp G).2;simpa using this
   rw[zM]at H ⊢;obtain⟨I,TU,r,v,t,s,h1,C,h2,⟨M,Q⟩,q⟩:=aoI (p:=p) (keep:=keep) (ns:=ns) Gj Yi Gu i hi U N B k e f ao (whole row) n (by omega);have aLE:Z.length<=Z'.length:=by
    have:=(dA.mp n).1;omega
   have b2:gR r p keep rs row L:=by
    rw[Q];exact gR.app ⟨by rw[iO (by omega)];exact b.h,b.o,by rw[iO (by omega)];exact b.u⟩ M
   have P:Z.length<=I:=by
    rcases C with z|z <;> omega
   exact⟨mC ns z0 keep p (.lst (aM row)) U N B (whole row) c (aA i) k e f ao,Z',_,_,by simp[mC],.inl q,I,TU,_,v,t,s,rfl,h2,P,by omega,b2⟩)
 have R:iT (yC (aB CV a0)) (gN 10) JM (mC ns z0 keep p (.lst (aM row)) U N B (whole row) Z.length ao ao ao ao ao) (Z++[.lst (sI.map A.int)])=eN (mC ns z0 keep p (.lst (aM row)) U N B (whole row) c l k e f ao) d:=by
  have T:yC (aB CV a0) (mC ns z0 keep p (.lst (aM row)) U N B (whole row) Z.length ao ao ao ao ao) (Z++[.lst (sI.map A.int)])=aG (AQ 0 5) (Z++[.lst (sI.map A.int)]):=Ub (j:=5) (bB (by simp) bY) (by unfold DE;omega);rw[vN T];exact e1
 obtain⟨F,X⟩:=Uc (ns:=ns) (z0:=z0) b1 U N B l k e f (whole row) c (srcOf (.aI c) (m.map A.int)).ok (Bu (vD n)) m ao;have f2:iT (jD sA) (gN 14) JL (mC ns z0 keep p (.lst (aM row)) U N B (whole row) c l k e f ao) d=eN (mC ns z0 keep p (.lst (aM row)) U N B (whole row) c l k e f F) d:=by
  rw[vN (S:=srcOf (.aI c) (m.map A.int)) (Z':=d) (by unfold jD;rw[dJ (aU (a:=.aI c) rfl)];simp[Bu (vD n)])];exact X
 refine⟨mC ns z0 keep p (.lst (aM row)) U N B (whole row) c l k e f F,d,?_⟩;rw[bI R,bI f2];unfold cR;rw[gL (x:=.bl ax) (Z':=d) (by simp)]
end
theorem auF(v:a5)(j:0<=v)(h1:v<8):∃keep:ay,1<=keep/\(keep<=5\/keep=100)/\fU [A.int 100,.int 1,.int 2,.int 3,.int 4,.int 1,.int 2,.int 3] v=(aA keep):=by
 obtain⟨n,rfl⟩:=aeD j;rw[xO];have hn:n<8:=by omega
 match n,hn with
 |0,_=>exact⟨100,by decide,by decide,rfl⟩
 |1,_=>exact⟨1,by decide,by decide,rfl⟩
 |2,_=>exact⟨2,by decide,by decide,rfl⟩
 |3,_=>exact⟨3,by decide,by decide,rfl⟩
 |4,_=>exact⟨4,by decide,by decide,rfl⟩
 |5,_=>exact⟨1,by decide,by decide,rfl⟩
 |6,_=>exact⟨2,by decide,by decide,rfl⟩
 |7,_=>exact⟨3,by decide,by decide,rfl⟩
theorem atU(ns:ak a5)(BE:ns.length<=63):∃W,aeG [.dW ns] [pJ]=aG (.bl ax) W:=by
 have K:=λZ=>ad1 ns 0 Z (by decide) (by decide);have g:=acE ns 0;have w:=acD ns 0;generalize FD ns 0=q at K g w;obtain⟨keep,H,t,qJ⟩:=auF (q%8) (by omega) (by omega);have V:=λZ=>CH q 1 Z g (by omega) (by omega) (by omega);have P:=DX q 1;generalize tR q 1=I at V P;have X:=λZ=>CH q 2 Z g (by omega) (by omega) (by omega);have Q:=DX q 2;generalize tR q 2=f2 at X Q;obtain⟨p,row,L,o,hl,hw,qf⟩:=aeS (Z:=[pJ]) (ns:=ns) (f:=I) (st:=1) (most:=60) rfl H t BE P (by omega) (by omega) (by omega) (by omega);have S:GC [.dW ns,.int keep,.int I,.int 1,.int 60] [pJ]=aG (.tup [.aI 1,.lst (aM row),.bl ax]) [pJ,aT keep (whole row) row.length p L,.dead]:=qf;generalize l:[pJ,aT keep (whole row) row.length p L,.dead]=j at S;have a:gR j 1 keep p row L:=by rw[<-l];exact⟨rfl,o,rfl⟩
 have D:(8:ay)<=bc:=by decide
 have Dy:=aeT (R:=.lst (aM row)) a (λ_=>rfl) (λ_=>abK (tP (Ea row)))
 suffices hh:∃k Z',XI [aj (.dW ns),ao,ao,ao,ao,ao,ao,ao,ao,ao,ao,ao,ao,ao,ao] [pJ]=aj (.ret (.bl ax),k,Z')by
  obtain⟨k,Z',e⟩:=hh;show ∃W,trim [pJ] (fE (XI [aj (.dW ns),ao,ao,ao,ao,ao,ao,ao,ao,ao,ao,ao,ao,ao,ao] [pJ]))=_;rw[e];simp only[HS,trim];split
  ·exact⟨_,rfl⟩
  ·exact⟨_,rfl⟩
 unfold XI;rw[bI (jB (i:=1) (Z':=[pJ]) (a:=.int q) (jS (as:=[.dW ns,.int 0]) (bB (aU (by rfl)) (bB (by rfl) bY)) (by rfl) (K _)))];simp only[List.set];rw[bI (jB (i:=2) (Z':=[pJ]) (a:=.int keep) (dG (a:=.lst [A.int 100,.int 1,.int 2,.int 3,.int 4,.int 1,.int 2,.int 3]) (by simp[D]) (dG (aU (a:=.int q) (by rfl)) (b:=.int 8) (by rfl) (c:=.int (q%8)) (by simp)) (by simp[qJ])))];simp only[List.set];have eF:aX (bS 5 GC) (aB aN (aB bR (aB (aX (bS 2 pV) (aB bD (aB bL a0))) (aB bL (aB (cI 60) a0))))) [aj (.dW ns),aA q,aA keep,ao,ao,ao,ao,ao,ao,ao,ao,ao,ao,ao,ao] [pJ]=aG (.tup [.aI 1,.lst (aM row),.bl ax]) j :=
  jS (bB (aU (a:=.dW ns) rfl) (bB (aU (a:=.int keep) rfl) (bB (jS (as:=[.int q,.int 1]) (bB (aU rfl) (bB rfl bY)) rfl (V _)) (bB (a:=.int 1) rfl (bB (a:=.int 60) rfl bY))))) rfl S
 rw[bI (Y1:=[aj (.dW ns),aA q,aA keep,aD 1,cW (aM row),aj (.bl ax),ao,ao,ao,ao,ao,ao,ao,ao,ao]) (Z':=j) (by
  unfold bK;rw[gL eF];simp)]
 have t1:(kB (sF (cA nL)) (sF (cA (aX (bS 2 KR) (aB cQ (aB eP a0)))))) [aj (.dW ns),aA q,aA keep,aD 1,cW (aM row),aj (.bl ax),ao,ao,ao,ao,ao,ao,ao,ao,ao] j=aG au j :=
  yL (Z':=j) (HW (b:=ax) (jN (aU rfl))) (HW (b:=ax) (jN (jS (bB (aU (a:=.aI 1) rfl) (bB (aU (a:=.lst (aM row)) rfl) bY)) rfl Dy)))
 rw[bI (rF t1)];have d0:∀(x:Ev) (y:aE) (v:a5),(x[1]?).join=(aA q)->cA (aC iK (aC (gV) (aC (oS) bD RV) mV) (cI v)) x y=aG (q/8%3==v) y:=λx y v h=>jN (dG (abT 8 3 (by decide) (by decide) (by decide) (aU h)) (b:=.int v) (by simp) (by simp))
 by_cases E:q/8%3=0
 ·obtain⟨N,U,C,r⟩:=aeR a a (t.imp (λh=>⟨h,by omega⟩) λh=>⟨h,by omega⟩) (by omega);have m:cH "join" [("Gaps",bX 2 [] GG)] cQ (aB cQ a0) [aj (.dW ns),aA q,aA keep,aD 1,cW (aM row),aj (.bl ax),ao,ao,ao,ao,ao,ao,ao,ao,ao] j=aG (.cE) (j.set 1 (aT keep (whole (row++row)) (row++row).length N U)):=a.call rfl rfl (as:=[.aI 1]) (das:=[]) (bB (aU rfl) bY) rfl (by simpa using r);have b:gR (j.set 1 (aT keep (whole (row++row)) (row++row).length N U)) 1 keep N (row++row) U:=⟨fG a.lt,C,by rw[iO (by omega)];exact a.u⟩;generalize j.set 1 (aT keep (whole (row++row)) (row++row).length N U)=B at m b;have F:aC cF eP eP [aj (.dW ns),aA q,aA keep,aD 1,cW (aM row),aj (.bl ax),ao,ao,ao,ao,ao,ao,ao,ao,ao] B=aG (.lst (aM (row++row))) B:=dG (aU (a:=.lst (aM row)) rfl) (aU (a:=.lst (aM row)) rfl) (by
   have:row.length+row.length<=bc:=by rw[nO];omega
   simp[aM,this])
  rw[bI (Y1:=[aj (.dW ns),aA q,aA keep,aD 1,cW (aM (row++row)),aj (.bl ax),ao,ao,ao,ao,ao,ao,ao,ao,ao]) (Z':=B) (by
   rw[UX (d0 _ _ 0 rfl),a9 (by simp[E]),bI (uD m),jB (i:=4) F];rfl)]
  rw[bI (rF (Z':=B) (by rw[d0 _ _ 1 rfl];simp[E]))];exact Jv (ns:=ns) b g w (by simp;omega) (aj (.bl ax)) ao ao
 ·rw[bI (rF (Z':=j) (by rw[d0 _ _ 0 rfl];simp[E]))]
  by_cases h1:q/8%3=1
  ·obtain⟨s,z,L2,o2,lU,hw2,T⟩:=aeS (Z:=j) (ns:=ns) (f:=f2) (st:=3) (most:=20) a.u H t BE Q (by omega) (by omega) (by omega) (by omega);have n:gR (j++[aT keep (whole z) z.length s L2,.dead]) 1 keep p row L:=a.app _;have M:gR (j++[aT keep (whole z) z.length s L2,.dead]) j.length keep s z L2:=Lv a.u o2 [.dead];obtain⟨N,U,C,r⟩:=aeR n M (t.imp (λh=>⟨h,by omega⟩) λh=>⟨h,by omega⟩) (by omega);generalize j++[aT keep (whole z) z.length s L2,.dead]=B at T n M r;have G:aX (bS 5 GC) (aB aN (aB bR (aB (aX (bS 2 pV) (aB bD (aB mW a0))) (aB mV (aB (cI 20) a0))))) [aj (.dW ns),aA q,aA keep,aD 1,cW (aM row),aj (.bl ax),ao,ao,ao,ao,ao,ao,ao,ao,ao] j=aG (.tup [.aI j.length,.lst (aM z),.bl ax]) B :=
    jS (bB (aU (a:=.dW ns) rfl) (bB (aU (a:=.int keep) rfl) (bB (jS (as:=[.int q,.int 2]) (bB (aU rfl) (bB rfl bY)) rfl (X _)) (bB (a:=.int 3) rfl (bB (a:=.int 20) rfl bY))))) rfl T
   have m:cH "join" [("Gaps",bX 2 [] GG)] cQ (aB tL a0) [aj (.dW ns),aA q,aA keep,aD 1,cW (aM row),aj (.bl ax),aD j.length,cW (aM z),ao,ao,ao,ao,ao,ao,ao] B=aG (.cE) (B.set 1 (aT keep (whole (row++z)) (row++z).length N U)):=n.call rfl rfl (as:=[.aI j.length]) (das:=[]) (bB (aU rfl) bY) rfl (by simpa using r);have b:gR (B.set 1 (aT keep (whole (row++z)) (row++z).length N U)) 1 keep N (row++z) U:=⟨fG n.lt,C,by rw[iO (by omega)];exact n.u⟩;generalize B.set 1 (aT keep (whole (row++z)) (row++z).length N U)=d at m b;have F:aC cF eP wJ [aj (.dW ns),aA q,aA keep,aD 1,cW (aM row),aj (.bl ax),aD j.length,cW (aM z),ao,ao,ao,ao,ao,ao,ao] d=aG (.lst (aM (row++z))) d:=dG (aU (a:=.lst (aM row)) rfl) (aU (a:=.lst (aM z)) rfl) (by
    have:row.length+z.length<=bc:=by rw[nO];omega
    simp[aM,this])
   rw[bI (Y1:=[aj (.dW ns),aA q,aA keep,aD 1,cW (aM (row++z)),aj (.bl ax),aD j.length,cW (aM z),ao,ao,ao,ao,ao,ao,ao]) (Z':=d) (by
    rw[UX (d0 _ _ 1 rfl),a9 (by simp[h1])];rw[bI (Y1:=[aj (.dW ns),aA q,aA keep,aD 1,cW (aM row),aj (.bl ax),aD j.length,cW (aM z),ao,ao,ao,ao,ao,ao,ao]) (Z':=B) (by
     unfold bK;rw[gL G];simp)]
    rw[bI (uD m),bI (jB (i:=4) F)];simp only[List.set];exact rF (HW (b:=ax) (jN (aU rfl))))]
   exact Jv (ns:=ns) b g w (by simp;omega) (aj (.bl ax)) (aD j.length) (aj (.lst (aM z)))
  ·rw[bI (rF (Z':=j) (by rw[d0 _ _ 1 rfl];simp[h1]))];exact Jv (ns:=ns) a g w (by omega) (aj (.bl ax)) ao ao
end M
namespace Np
open PySem L2 V2 PyProof.Rows M
noncomputable def top(i:ay):b7:=PySem.Challenge.pw_rankpouch_k44_the_so_manieth.main.body.getD i (.Pass ⟨0,0,0,0⟩)
abbrev Cb:b7:=top 12
abbrev Cf:b7:=top 15
abbrev Bz:b7:=top 16
abbrev By:b7:=top 17
abbrev Cj:b7:=top 19
abbrev Ca:b7:=top 20
abbrev Ce:b7:=top 21
abbrev Cd:b7:=top 22
abbrev Ci:b7:=top 23
abbrev Cc:b7:=top 24
abbrev Ck:b7:=top 25
abbrev Bx:b7:=top 26
abbrev Cg:b7:=top 27
abbrev AN:b7:=top 29
abbrev HK:b7:=top 31
abbrev Cq:b7:=top 38
abbrev Ct:b7:=top 39
abbrev Co:b7:=top 40
abbrev Cm:b7:=top 41
abbrev Cs:b7:=top 42
abbrev Cu:b7:=top 43
abbrev Cp:b7:=top 44
abbrev Cn:b7:=top 45
abbrev Cv:b7:=top 46
abbrev Cr:b7:=top 47
abbrev HL:b7:=inClass (top 33) 0
abbrev DF:b7:=inClass (top 33) 1
abbrev Dc:b7:=inClass (top 33) 2
abbrev Cy:b7:=inClass (top 33) 3
abbrev Cz:b7:=inClass (top 33) 4
abbrev Cw:b7:=inClass (top 33) 7
abbrev HM:b7:=inClass (top 36) 0
abbrev Dg:b7:=inClass (top 36) 1
abbrev De:b7:=inClass (top 36) 2
abbrev Dd:b7:=inClass (top 36) 3
abbrev Dl:b7:=inClass (top 36) 4
abbrev Dk:b7:=inClass (top 36) 5
abbrev Di:b7:=inClass (top 36) 6
abbrev Dh:b7:=inClass (top 36) 7
abbrev Dm:b7:=inClass (top 36) 8
abbrev Dj:b7:=inClass (top 36) 9
abbrev Df:b7:=inClass (top 36) 12
abbrev yF:b7:=top 48
structure eK(mg:ba->ar aq):Prop where
 ValueError:mg "ValueError" = ao
 bool:mg "bool" = ao
 enumerate:mg "enumerate" = ao
 int:mg "int" = ao
 isinstance:mg "isinstance" = ao
 len:mg "len" = ao
 list:mg "list" = ao
 max:mg "max" = ao
 min:mg "min" = ao
 range:mg "range" = ao
 set:mg "set" = ao
 sorted:mg "sorted" = ao
 sum:mg "sum" = ao
section
variable(P:bh)(w:bw)(K:bj)(mg:ba->ar aq)(base:b8)
abbrev Ty0:=cP P w K mg base "near_enough" 1 ["before", "entry", "slack"] RE
abbrev Ty1:=cP P w K mg base "goes_first" 1 ["entries", "at", "others", "other_at"] KQ
abbrev Ty2:=cP P w K mg base "bounds_ahead" 1 ["pouch", "at"] GA
abbrev YA:=cP P w K mg base "_law_mix" 1 ["_law_cell_here", "_law_k"] pV
abbrev Ty4:=cP P w K mg base "_law_number" 1 ["_law_cell_here", "_law_kind"] zU
abbrev Ty5:=cP P w K mg base "_law_times" 1 ["_law_cell_here"] RI
abbrev XZ:=cP P w K mg base "_law_counts" 1 ["_law_row", "_law_number_here"] zV
abbrev Ty7:=cP P w K mg base "moved" 2 ["entry", "pouch", "at"] RF
abbrev Ty8:=cP P w K mg base "kept_entries" 2 ["entries", "slack"] RG
abbrev Md:=cP P w K mg base "_law_cell" 2 ["_law_script", "_law_k"] GD
abbrev adM:=cP P w K mg base "merged_entries" 3 ["one", "other"] ZG
abbrev adL:=cP P w K mg base "thinned" 3 ["pouch", "keep"] QZ
abbrev Mj:=cP P w K mg base "merged" 4 ["one", "other"] CN
abbrev adK:=dF P w K mg base "Gaps" "newest_pouch" 4 1 [] CP
abbrev Mi:=dF P w K mg base "Gaps" "parts" 5 1 [] wF
abbrev YC:=dF P w K mg base "Gaps" "look_room" 1 2 [] RJ
abbrev YB:=dF P w K mg base "Gaps" "take" 6 3 [] GH
abbrev adJ:=cP P w K mg base "so_manieth_asks" 3 ["pouch", "place"] rX
abbrev Mh:=dF P w K mg base "Gaps" "pouch" 6 1 [] uJ
abbrev adI:=cP P w K mg base "_law_near" 7 ["_law_pouch", "_law_row", "_law_place"] ZI
abbrev adG:=cP P w K mg base "_law_asked" 8 ["_law_pouch", "_law_place"] CO
abbrev Mg:=dF P w K mg base "Gaps" "length" 1 1 [] qW
abbrev Mf:=cP P w K mg base "_law_right" 9 ["_law_pouch", "_law_row", "_law_place"] zT
abbrev Me:=cP P w K mg base "_law_amid" 10 ["_law_pouch", "_law_row"] KR
abbrev adF:=cP P w K mg base "_law_filled" 11 ["_law_script", "_law_keep", "_law_first", "_law_start", "_law_most"] GC
end
section
variable{P:bh}{w:bw}{K:bj}{mg:ba->ar aq}{base:b8}
theorem ak8:cY ["before", "entry", "slack"] ["before", "entry", "slack"] (aR Cb):=eW
theorem aDU(B:eK mg)(h:HasFn K mg "near_enough" Cb):Ty0 P w K mg base :=
 cP.o h ak8 λhr=>(bH (eB (Af (CY (qB hr.units) (bZ (vv 1) aK bV) (bZ (vv 0) aK bV) (eS _)) (GV (CY MT (bZ (vv 1) aK bV) (aZ (dI au) (aZ (dI au) (bZ (vv 0) aK bV) (vv 2)) aK) (eS _))))))
theorem alC:cY ["row", "length", "at", "run", "times"] ["row"] (aR Cf):=eW
theorem aDY(B:eK mg)(h:HasFn K mg "look_row" Cf)(j:∃t,mg "LONGEST" = aj (.int 1000000000 t)):cP P w K mg base "look_row" 1 ["row"] ZH :=
 cP.o h alC λhr=>(aV (cM 1 aK)
  (aV (sC bN.passes rfl (Qy rfl B.enumerate (vv 0)) (sE rfl (iQ (fN 2) (iQ (fN 3) sD)))
   (aV (cM 4 (bZ (vv 3) aK bV))
   (aV (cM 1 (aZ (dI au) (vv 1) (vv 4)))
   (bH (hX (VW.vt (rB (fI uZ (vv 4) aK (eS _)) (uP (fI DN (vv 1) (Rb rfl j) (eS _)))))
    (bH RW)
    iP)))))
  (bH (eB (vv 1)))))
theorem ak6:cY ["row", "times_of", "number", "times"] ["row"] (aR Bz):=eW
theorem aDS(B:eK mg)(h:HasFn K mg "packed" Bz):cP P w K mg base "packed" 1 ["row"] ZF :=
 cP.o h ak6 λhr=>(aV (cM 1 LP)
  (aV (sC bN.passes rfl (tM (vv 0)) (sE rfl (iQ (fN 2) (iQ (fN 3) sD)))
   (bH (RX (cL.AI hr) (vv 1) (vv 2) (aZ (dI au) (Rf (cL.AI hr) (vv 1) (vv 2) aK ⟨rfl,rfl,rfl,rfl⟩) (vv 3)))))
  (bH (eB (SD au ["number"] [1] (tM (kJ (aGA rfl au) rfl B.sorted boot_sorted (aF (vv 1) aS))) ⟨(fN 0),RY,(oA (aF (vv 0) (aF (agJ (cL.AI hr) (vv 1) (vv 0) bV) aS)))⟩)))))
theorem alH:cY [] [] (aR Cj):=eW
theorem aD6(B:eK mg)(h:HasFn K mg "empty" Cj):cP P w K mg base "empty" 1 [] RH:=by
 refine cP.of h alH (λ_ _ _ _ _ _ j hl=>Rt j hl rfl) (λ_ _ _ _ _ _ _ hr=>?_);exact(bH (eB (oA (aF aK (aF aK (aF aK (aF (rC au aS) aS)))))))
theorem alF:cY ["entries", "at", "others", "other_at"] ["entries", "at", "others", "other_at"] (aR Ci):=eW
theorem aD3(B:eK mg)(h:HasFn K mg "goes_first" Ci):Ty1 P w K mg base :=
 cP.o h alF λhr=>(aV (hX (fI (qB hr.units) (vv 1) (kJ xN rfl B.len PySem.boot_len (aF (vv 0) aS)) (eS _))
   (bH (eB uQ))
   iP)
  (bH (eB (Af (CY (qB hr.units) (vv 3) (kJ xN rfl B.len PySem.boot_len (aF (vv 2) aS)) (eS _)) (GV (CY MT (bZ (bZ (vv 0) (vv 1) bV) aK bV) (bZ (bZ (vv 2) (vv 3) bV) aK bV) (eS _)))))))
theorem alI:cY ["pouch", "at", "entries", "low", "high"] ["pouch", "at"] (aR Ck):=eW
theorem aD7(B:eK mg)(h:HasFn K mg "bounds_ahead" Ck):Ty2 P w K mg base :=
 cP.o h alI λhr=>(aV (cM 2 (bZ (vv 0) aK bV))
  (aV (cM 3 (Ra (fI DN (vv 1) aK (eS _)) (bZ (bZ (vv 2) (aZ uY (vv 1) aK) bV) aK bV) aK))
  (aV (cM 4 (Ra (fI uZ (vv 1) (kJ xN rfl B.len PySem.boot_len (aF (vv 2) aS)) (eS _)) (aZ uY (bZ (bZ (vv 2) (vv 1) bV) aK bV) aK) (bZ (vv 0) aK bV)))
  (bH (eB (oA (aF (vv 3) (aF (vv 4) aS))))))))
theorem alW:cY ["self", "keep"] ["self", "keep"] (aR HL):=eW
theorem aHB(B:eK mg)(q:eQ K ["Gaps"] "keep")(N:eQ K ["Gaps"] "many")(z:eQ K ["Gaps"] "taken")(f:aw)(j:aq)(A:bu)(outer:ak Env)(s:av)(H:Hp)(E:XK)(hr:cL 0 (A.deeper (cy "Pouch.__init__" (aR HL) s.heap.objs.size f j))) :
  gY (nU P w K mg base ["self", "keep"] "Pouch.__init__" (aR HL) f j A outer s H E) (λ_=>E) (eM HL) XO:=by
 exact(aV (wM (vv 0) (vv 1) q)
  (aV (wM (vv 0) aK N)
  (bH (wM (vv 0) aK z))))
theorem aDB(B:eK mg)(q:eQ K ["Gaps"] "keep")(N:eQ K ["Gaps"] "many")(z:eQ K ["Gaps"] "taken"){rk:ba}(h:ZD K mg rk "__init__" "Pouch.__init__" HL):FY P w K mg base rk "__init__" 1 2 RK:=FY.of h alW (λ_ _ _ _ _ _ j hl=>AH j hl bV) (aHB B q N z)
theorem alT:cY ["self", "more"] ["self", "more"] (aR Cy):=eW
theorem aEK(B:eK mg)(q:∃t,mg "LONGEST" = aj (.int 1000000000 t))(j:eQ K ["Gaps"] "many"){cls:ba}(h:pA K mg cls "look_room" "Pouch.look_room" Cy):dF P w K mg base cls "look_room" 1 2 [] RJ :=
 dF.o h alT λhr=>(bH (hX (fI DN (aZ (dI au) (oB (vv 0) j) (vv 1)) (Rb rfl q) (eS _))
   (bH RW)
   iP))
theorem alU:cY ["self"] ["self"] (aR Cz):=eW
theorem aEL(B:eK mg)(j:eQ K ["Gaps"] "many"){cls:ba}(h:pA K mg cls "length" "Pouch.length" Cz):dF P w K mg base cls "length" 1 1 [] qW :=
 dF.o h alU λhr=>(bH (eB (oB (vv 0) j)))
theorem al0:cY ["self", "other"] ["self", "other"] (aR Dg):=eW
theorem aEQ(B:eK mg)(j:Ob K mg "Gaps")(q:Nv K ["Gaps"]){cls:ba}(h:pA K mg cls "same_kind" "Gaps.same_kind" Dg):dF P w K mg base cls "same_kind" 1 2 [] RL :=
 dF.o h al0 λhr=>(bH (eB (kJ (aGC q) rfl B.isinstance PO (aF (vv 1) (aF (agD j rfl) aS)))))
theorem alN:cY ["_law_cell_here", "_law_k", "_law_first"] ["_law_cell_here", "_law_k"] (aR Cq):=eW
theorem aEC(B:eK mg)(h:HasFn K mg "_law_mix" Cq):YA P w K mg base :=
 cP.o h alN λhr=>(aV (cM 2 (aZ nC (aZ yM (aZ (dI au) (vv 0) aK) (aZ (dI au) aK (aZ yM aK (vv 1)))) aK))
  (bH (eB (aZ nC (aZ (dI au) (aZ (dI au) (aZ yM (aZ wU (vv 2) aK) aK) (aZ yM (vv 2) (aZ (dI au) (aZ yM (vv 1) (vv 1)) aK))) (vv 1)) aK))))
theorem alL:cY ["_law_cell_here", "_law_kind"] ["_law_cell_here", "_law_kind"] (aR Co):=eW
theorem aEA(B:eK mg)(h:HasFn K mg "_law_number" Co):Ty4 P w K mg base :=
 cP.o h alL λhr=>(aV (hX (fI (qB hr.units) (vv 1) aK (eS _))
   (bH (eB (aZ nC (vv 0) aK)))
   iP)
  (aV (hX (fI (qB hr.units) (vv 1) aK (eS _))
   (bH (eB (aZ uY (aZ nC (vv 0) aK) aK)))
   iP)
  (aV (hX (fI (qB hr.units) (vv 1) aK (eS _))
   (bH (eB (aZ uY (aZ nC (aZ yM (vv 0) aK) (aZ (dI au) (aZ yM aK (aZ MR aK aK)) aK)) (aZ MR aK aK))))
   iP)
  (aV (hX (fI (qB hr.units) (vv 1) aK (eS _))
   (bH (eB aK))
   iP)
  (bH (eB (bZ (rC au (aF (aZ (dI au) (aZ yM (vv 0) (aZ MR aK aK)) aK) (aF (aZ uY aK (aZ yM (vv 0) (aZ MR aK aK))) (aF (vv 0) (aF (aZ uY aK (vv 0)) aS))))) (aZ nC (vv 0) aK) bV)))))))
theorem alJ:cY ["_law_cell_here"] ["_law_cell_here"] (aR Cm):=eW
theorem aD8(B:eK mg)(h:HasFn K mg "_law_times" Cm):Ty5 P w K mg base :=
 cP.o h alJ λhr=>(bH (eB (bZ (rC au (aF aK (aF aK (aF (aZ (dI au) aK (aZ nC (aZ wU (vv 0) aK) aK)) (aF (aZ (dI au) aK (aZ nC (aZ wU (vv 0) aK) aK)) aS))))) (aZ nC (vv 0) aK) bV)))
theorem alP:cY ["_law_row", "_law_number_here", "_law_under", "_law_many", "_law_value", "_law_times_here"] ["_law_row", "_law_number_here"] (aR Cs):=eW
theorem aEE(B:eK mg)(h:HasFn K mg "_law_counts" Cs):XZ P w K mg base :=
 cP.o h alP λhr=>(aV (cM 2 aK)
  (aV (cM 3 aK)
  (aV (sC bN.passes rfl (tM (vv 0)) (sE rfl (iQ (fN 4) (iQ (fN 5) sD)))
   (aV (hX (fI uZ (vv 4) (vv 1) (eS _))
    (bH (cM 2 (aZ (dI au) (vv 2) (vv 5))))
    iP)
   (bH (hX (fI MT (vv 4) (vv 1) (eS _))
    (bH (cM 3 (aZ (dI au) (vv 3) (vv 5))))
    iP))))
  (bH (eB (oA (aF (vv 2) (aF (vv 3) aS))))))))
theorem ak5:cY ["row", "places", "length", "number", "times"] ["row"] (aR By):=eW
theorem aDR(B:eK mg)(h:HasFn K mg "places_of" By)(j:cP P w K mg base "packed" 1 ["row"] ZF):cP P w K mg base "places_of" 2 ["row"] RC :=
 cP.o h ak5 λhr=>(aV (cM 1 LP)
  (aV (cM 2 aK)
  (aV (sC bN.passes rfl (tM (fD bN j hr.m rfl (aF (vv 0) aS))) (sE rfl (iQ (fN 3) (iQ (fN 4) sD)))
   (aV (RX (cL.AI hr) (vv 1) (vv 3) (oA (aF (aZ (dI au) (vv 2) aK) (aF (aZ (dI au) (vv 2) (vv 4)) aS))))
   (bH (cM 2 (aZ (dI au) (vv 2) (vv 4))))))
  (bH (eB (vv 1))))))
theorem ak9:cY ["entry", "pouch", "at", "ahead"] ["entry", "pouch", "at"] (aR Cc):=eW
theorem aDV(B:eK mg)(h:HasFn K mg "moved" Cc)(j:Ty2 P w K mg base):Ty7 P w K mg base :=
 cP.o h ak9 λhr=>(aV (cM 3 (fD bN j hr.m rfl (aF (vv 1) (aF (vv 2) aS))))
  (bH (eB (oA (aF (bZ (vv 0) aK bV) (aF (aZ (dI au) (bZ (vv 0) aK bV) (bZ (vv 3) aK bV)) (aF (aZ (dI au) (bZ (vv 0) aK bV) (bZ (vv 3) aK bV)) aS)))))))
theorem alE:cY ["entries", "slack", "kept", "last", "at", "entry"] ["entries", "slack"] (aR Cg):=eW
theorem aD1(B:eK mg)(h:HasFn K mg "kept_entries" Cg)(j:Ty0 P w K mg base):Ty8 P w K mg base :=
 cP.o h alE λhr=>(aV (cM 2 (rC ax aS))
  (aV (cM 3 (aZ uY (kJ xN rfl B.len PySem.boot_len (aF (vv 0) aS)) aK))
  (aV (sC bN.passes rfl (Qy rfl B.enumerate (vv 0)) (sE rfl (iQ (fN 4) (iQ (fN 5) sD)))
   (bH (hX (VW.vt (rB (fI (qB hr.units) (vv 4) aK (eS _)) (rB (fI (qB hr.units) (vv 4) (vv 3) (eS _)) (uP (CW (wL (fD bN j hr.m rfl (aF (bZ (vv 2) (Qz aK) bV) (aF (bZ (vv 0) (aZ (dI au) (vv 4) aK) bV) (aF (vv 1) aS))))))))))
    (bH (mX (AG PySem.F.plainAttrs_list PySem.F.slot_list_append PySem.F.type_list_append DW DZ (vv 2) (aF (vv 5) aS))))
    iP)))
  (bH (eB (vf 2))))))
theorem alG:cY ["entries", "holds", "start", "end", "middle"] ["entries", "holds"] (aR HK):=eW
theorem aHA(B:eK mg){qual:ba}{params:dh}{body:bx}{scope:cq}{y:ba}{cs:ak ba}{fb:Ev->Mo A}(c:KH scope y cs)(e:∀(u:aq) cl N c' b,c7 (kla_fn "<lambda>" qual params body scope cl N (.ref c') b) ⟨[u],[]⟩=pure [(y,u)])(q:aeB P w K mg base qual body scope y cs fb) :
  ∀(j:aw) (dD:ak (ba×a5)),dD.map (·.1)=cs->∀(f:aw) (z:aq) (A:bu) (outer:ak Env) (s:av) (H:Hp) (E:XK),cL 1 (A.deeper (cy "first_where" (aR HK) s.heap.objs.size f z))->xW s.heap H j qual params body scope dD ->
   gY (nU P w K mg base ["entries", "holds", "start", "end", "middle"] "first_where" (aR HK) f z A outer s H E) (λ_=>E) (eM HK) (PU j (tT fb (dD.map (·.2)))):=by
 intro j dD U f z A outer s H E hr d;subst U;have S:=c;have a:=q;exact(aV (cM 2 aK)
  (aV (cM 3 (kJ xN rfl B.len PySem.boot_len (aF (vv 0) aS)))
  (aV (Aa (λ_ _=>1000000) bN.passes (fI uZ (vv 2) (vv 3) (eS _))
   (aV (cM 4 (aZ wU (aZ (dI au) (vv 2) (vv 3)) aK))
   (bH (hX (wL (agC (i:=1) rfl d S hr.m e a rfl oIr (bZ (vv 0) (vv 4) bV)))
    (bH (cM 3 (vv 4)))
    (bH (cM 2 (aZ (dI au) (vv 4) aK)))))))
  (bH (eB (vv 2))))))
theorem alQ:cY ["_law_script", "_law_k", "_law_cell_here"] ["_law_script", "_law_k"] (aR Ct):=eW
theorem aEF(B:eK mg)(h:HasFn K mg "_law_cell" Ct)(j:YA P w K mg base):Md P w K mg base :=
 cP.o h alQ λhr=>(aV (cM 2 aK)
  (aV (hX (fI uZ (vv 1) (kJ xN rfl B.len PySem.boot_len (aF (vv 0) aS)) (eS _))
   (bH (cM 2 (aZ nC (bZ (vv 0) (vv 1) bV) aK)))
   iP)
  (bH (eB (fD bN j hr.m rfl (aF (vv 2) (aF (aZ (dI au) (vv 1) aK) aS)))))))
theorem ak7:cY ["row", "entries", "number", "stands"] ["row"] (aR Ca):=eW
theorem aDT(B:eK mg)(h:HasFn K mg "of_row" Ca)(j:cP P w K mg base "look_row" 1 ["row"] ZH)(q:cP P w K mg base "places_of" 2 ["row"] RC):cP P w K mg base "of_row" 3 ["row"] RD :=
 cP.o h ak7 λhr=>(aV (cM 1 (rC ax aS))
  (aV (sC bN.passes rfl (af6 (fD bN q hr.m rfl (aF (vv 0) aS))) (sE rfl (iQ (fN 2) (iQ (fN 3) sD)))
   (aV (mX (AG PySem.F.plainAttrs_list PySem.F.slot_list_append PySem.F.type_list_append DW DZ (vv 1) (aF (oA (aF (vv 2) (aF (bZ (vv 3) aK bV) (aF (bZ (vv 3) aK bV) aS)))) aS)))
   (bH (hX (fI (HV hr.units) (bZ (vv 3) aK bV) (bZ (vv 3) aK bV) (eS _))
    (bH (mX (AG PySem.F.plainAttrs_list PySem.F.slot_list_append PySem.F.type_list_append DW DZ (vv 1) (aF (oA (aF (vv 2) (aF (bZ (vv 3) aK bV) (aF (bZ (vv 3) aK bV) aS)))) aS))))
    iP))))
  (bH (eB (oA (aF (fD bN j hr.m rfl (aF (vv 0) aS)) (aF aK (aF aK (aF (vf 1) aS)))))))))
theorem alA:cY ["one", "other", "entries", "at", "other_at"] ["one", "other"] (aR Cd):=eW
theorem aDW(B:eK mg)(h:HasFn K mg "merged_entries" Cd)(q:Ty1 P w K mg base)(j:Ty7 P w K mg base):adM P w K mg base :=
 cP.o h alA λhr=>(aV (cM 2 (rC ax aS))
  (aV (cM 3 aK)
  (aV (cM 4 aK)
  (aV (Aa (λ_ _=>1000000) bN.passes (VW.vt (rB (fI uZ (vv 3) (kJ xN rfl B.len PySem.boot_len (aF (bZ (vv 0) aK bV) aS)) (eS _)) (uP (fI uZ (vv 4) (kJ xN rfl B.len PySem.boot_len (aF (bZ (vv 1) aK bV) aS)) (eS _)))))
   (bH (hX (wL (fD bN q hr.m rfl (aF (bZ (vv 0) aK bV) (aF (vv 3) (aF (bZ (vv 1) aK bV) (aF (vv 4) aS))))))
    (aV (mX (AG PySem.F.plainAttrs_list PySem.F.slot_list_append PySem.F.type_list_append DW DZ (vv 2) (aF (fD bN j hr.m rfl (aF (bZ (bZ (vv 0) aK bV) (vv 3) bV) (aF (vv 1) (aF (vv 4) aS)))) aS)))
    (bH (cM 3 (aZ (dI au) (vv 3) aK))))
    (aV (mX (AG PySem.F.plainAttrs_list PySem.F.slot_list_append PySem.F.type_list_append DW DZ (vv 2) (aF (fD bN j hr.m rfl (aF (bZ (bZ (vv 1) aK bV) (vv 4) bV) (aF (vv 0) (aF (vv 3) aS)))) aS)))
    (bH (cM 4 (aZ (dI au) (vv 4) aK)))))))
  (bH (eB (vf 2)))))))
theorem ak3:cY ["pouch", "keep", "size", "slack"] ["pouch", "keep"] (aR Bx):=eW
theorem aDN(B:eK mg)(h:HasFn K mg "thinned" Bx)(j:Ty8 P w K mg base):adL P w K mg base :=
 cP.o h ak3 λhr=>(aV (cM 2 (bZ (vv 0) aK bV))
  (aV (cM 3 (aZ (dI au) (bZ (vv 0) aK bV) (aZ wU (vv 2) (vv 1))))
  (bH (eB (oA (aF (vv 2) (aF (vv 3) (aF (aZ (dI au) (bZ (vv 0) aK bV) aK) (aF (fD bN j hr.m rfl (aF (bZ (vv 0) aK bV) (aF (vv 3) aS))) aS)))))))))
theorem ak4:cY ["pouch", "place", "entries", "farthest"] ["pouch", "place"] (aR AN):=eW
theorem aDO(B:eK mg)(h:HasFn K mg "so_manieth" AN)(g:HasFn K mg "first_where" HK)(e:YG K mg "NoPlace")(q:Ml K mg base "so_manieth"):cP P w K mg base "so_manieth" 3 ["pouch", "place"] rX:=by
 refine cP.ofT h q ak4 (λ_ _ _ _ _ _ j hl=>AH j hl bV) (λc l U N f A outer s H E hr=>?_);exact(aV (hX (VW.vt (rB (fI uZ (vv 1) aK (eS _)) (uP (fI DN (vv 1) (bZ (vv 0) aK bV) (eS _)))))
   (bH (af3 bN rfl e rfl (aF LO aS)))
   iP)
  (aV (cM 2 (bZ (vv 0) aK bV))
  (aV (cM 3 (aZ (dI au) (vv 1) (aZ wU (aZ (dI au) (bZ (vv 0) aK bV) aK) aK)))
  (bH (eB (bZ (bZ (vv 2) (aZ uY (agE (k:=0) (js:=[3]) (cs:=["farthest"]) (y := "entry") (fb:=JJ) (bfw:=PU) (kf:=1) U N q.blt rfl rfl rfl (ZE.of (aR AN) ["pouch", "place", "entries", "farthest"] rfl rfl (by decide +kernel)) g rfl alG (λ_ _ _ _ _ _ j hl=>AH j hl bV) (λd=>aHA B d (λ_ _ _ _ _=>rfl) (λf i cl A outer s H hr=>(CY DN (bZ (vv 0) aK bV) (vv 1) (eS _)))) (λb ns a z r h=>M.aB6 b _ a z r h) hr.m rfl (vv 2)) aK) bV) aK bV))))))
theorem al7:cY ["self", "keep"] ["self", "keep"] (aR HM):=eW
theorem aHC(B:eK mg)(N:FY P w K mg base "RankPouch" "__init__" 1 2 RK)(q:eQ K ["Gaps"] "laid")(z:eQ K ["Gaps"] "newest")(f:aw)(j:aq)(A:bu)(outer:ak Env)(s:av)(H:Hp)(E:XK)(hr:cL 2 (A.deeper (cy "Gaps.__init__" (aR HM) s.heap.objs.size f j))) :
  gY (nU P w K mg base ["self", "keep"] "Gaps.__init__" (aR HM) f j A outer s H E) (λ_=>E) (eM HM) XT:=by
 exact(aV (mX (agM bN N rfl hr.m (aF (vv 0) (aF (vv 1) aS))))
  (aV (Ad (wM (vv 0) LP z))
  (bH (Ad (wM (vv 0) LP q)))))
theorem aC9(B:eK mg)(N:FY P w K mg base "RankPouch" "__init__" 1 2 RK)(q:eQ K ["Gaps"] "laid")(z:eQ K ["Gaps"] "newest"){cls:ba}(h:Oa K mg cls "Gaps.__init__" HM):JV P w K mg base cls 3 2 RM:=JV.of h al7 (λ_ _ _ _ _ _ j hl=>AH j hl bV) (aHC B N q z)
theorem alB:cY ["one", "other", "size", "slack", "depth"] ["one", "other"] (aR Ce):=eW
theorem aDX(B:eK mg)(h:HasFn K mg "merged" Ce)(j:adM P w K mg base):Mj P w K mg base :=
 cP.o h alB λhr=>(aV (cM 2 (aZ (dI au) (bZ (vv 0) aK bV) (bZ (vv 1) aK bV)))
  (aV (cM 3 (aZ (dI au) (bZ (vv 0) aK bV) (bZ (vv 1) aK bV)))
  (aV (cM 4 (kJ (PN rfl) rfl B.max boot_max (aF (bZ (vv 0) aK bV) (aF (bZ (vv 1) aK bV) aS))))
  (bH (eB (oA (aF (vv 2) (aF (vv 3) (aF (vv 4) (aF (fD bN j hr.m rfl (aF (vv 0) (aF (vv 1) aS))) aS))))))))))
theorem al4:cY ["self"] ["self"] (aR Dk):=eW
theorem aEU(B:eK mg)(q:cP P w K mg base "of_row" 3 ["row"] RD)(j:eQ K ["Gaps"] "newest"){cls:ba}(h:pA K mg cls "newest_pouch" "Gaps.newest_pouch" Dk):dF P w K mg base cls "newest_pouch" 4 1 [] CP :=
 dF.o h al4 λhr=>(bH (eB (fD bN q hr.m rfl (aF (Ag au rfl (vv 0) j rfl B.list) aS))))
theorem al5:cY ["self", "part", "level"] ["self", "part", "level"] (aR Dl):=eW
theorem aEV(B:eK mg)(N:Mj P w K mg base)(z:adL P w K mg base)(q:eQ K ["Gaps"] "keep")(j:eQ K ["Gaps"] "laid"){cls:ba}(h:pA K mg cls "lay" "Gaps.lay" Dl):dF P w K mg base cls "lay" 5 3 [] CQ :=
 dF.o h al5 λhr=>(aV (Aa (λ_ _=>1000000) bN.passes (afY (cL.AI hr) (vv 2) (vv 0) j)
   (aV (Ac (i:=0) (f := "laid") (cM 1 (fD bN z hr.m rfl (aF (fD bN N hr.m rfl (aF (agI (oB (vv 0) j) (vv 2) ⟨rfl,rfl,rfl,rfl⟩) (aF (vv 1) aS))) (aF (oB (vv 0) q) aS)))))
   (bH (cM 2 (aZ (dI au) (vv 2) aK)))))
  (bH (Ac (i:=0) (f := "laid") (RX (cL.AI hr) (oB (vv 0) j) (vv 2) (vv 1)))))
theorem al2:cY ["self"] ["self"] (aR Di):=eW
theorem aES(B:eK mg)(j:eQ K ["Gaps"] "laid")(q:adK P w K mg base){cls:ba}(h:pA K mg cls "parts" "Gaps.parts" Di):dF P w K mg base cls "parts" 5 1 [] wF :=
 dF.o h al2 λhr=>(bH (eB (aZ (dI au) (rC au (aF (pE bN (cU.cons q hr.m cU.nil) (vv 0)) aS)) (agG au rfl (vv 0) j rfl B.list))))
theorem alY:cY ["self", "number", "times"] ["self", "number", "times"] (aR De):=eW
theorem aEO(B:eK mg)(q:eQ K ["Gaps"] "keep")(j:eQ K ["Gaps"] "newest")(z:dF P w K mg base "Gaps" "lay" 5 3 [] CQ)(N:adK P w K mg base){cls:ba}(h:pA K mg cls "take" "Gaps.take" De):dF P w K mg base cls "take" 6 3 [] GH :=
 dF.o h alY λhr=>(aV (Ac (i:=0) (f := "newest") (RX (cL.AI hr) (oB (vv 0) j) (vv 1) (aZ (dI au) (Rf (cL.AI hr) (oB (vv 0) j) (vv 1) aK ⟨rfl,rfl,rfl,rfl⟩) (vv 2))))
  (bH (hX (fI DN (agH (vv 0) j rfl B.len) (oB (vv 0) q) (eS _))
   (aV (mX (tN bN (cU.cons z hr.m cU.nil) (vv 0) (aF (pE bN (cU.cons N hr.m cU.nil) (vv 0)) (aF aK aS))))
   (bH (Ad (wM (vv 0) LP j))))
   iP)))
theorem al1:cY ["self", "whole", "part"] ["self"] (aR Dh):=eW
theorem aER(B:eK mg)(q:cP P w K mg base "empty" 1 [] RH)(z:Mj P w K mg base)(j:Mi P w K mg base){cls:ba}(h:pA K mg cls "pouch" "Gaps.pouch" Dh):dF P w K mg base cls "pouch" 6 1 [] uJ :=
 dF.o h al1 λhr=>(aV (cM 1 (agK bN q hr.m rfl))
  (aV (sC bN.passes rfl (tM (pE bN (cU.cons j hr.m cU.nil) (vv 0))) (fN 2)
   (bH (cM 1 (fD bN z hr.m rfl (aF (vv 1) (aF (vv 2) aS))))))
  (bH (eB (vv 1)))))
theorem al6:cY ["self", "numbers", "part"] ["self"] (aR Dm):=eW
theorem aEW(B:eK mg)(j:Mi P w K mg base){cls:ba}(h:pA K mg cls "kept" "Gaps.kept" Dm):dF P w K mg base cls "kept" 6 1 [] KW :=
 dF.o h al6 λhr=>(aV (cM 1 (rC ax aS))
  (aV (sC bN.passes rfl (tM (pE bN (cU.cons j hr.m cU.nil) (vv 0))) (fN 2)
   (bH (mX (AG PySem.F.plainAttrs_list PySem.F.slot_list_extend PySem.F.type_list_extend asK as1 (vv 1) (aF (SD au ["entry"] [] (tM (bZ (vv 2) aK bV)) ⟨(fN 0),RY,(bZ (vv 0) aK bV)⟩) aS)))))
  (bH (eB (vf 1)))))
theorem al3:cY ["self"] ["self"] (aR Dj):=eW
theorem aET(B:eK mg)(j:Mi P w K mg base){cls:ba}(h:pA K mg cls "off" "Gaps.off" Dj):dF P w K mg base cls "off" 6 1 [] zW :=
 dF.o h al3 λhr=>(bH (eB (kJ (aF9 rfl) rfl B.sum boot_sum (aF (SD au ["part"] [] (tM (pE bN (cU.cons j hr.m cU.nil) (vv 0))) ⟨(fN 0),RY,(bZ (vv 0) aK bV)⟩) aS))))
theorem Tw:cY ["self", "number", "times"] ["self", "number", "times"] (aR DF):=eW
theorem acM(B:eK mg)(q:eQ K ["Gaps"] "many")(j:eQ K ["Gaps"] "taken")(N:YC P w K mg base)(U:YB P w K mg base)(f:aw)(z:aq)(A:bu)(outer:ak Env)(s:av)(H:Hp)(E:XK)(hr:cL 6 (A.deeper (cy "Pouch.put" (aR DF) s.heap.objs.size f z))) :
  gY (nU P w K mg base ["self", "number", "times"] "Pouch.put" (aR DF) f z A outer s H E) (λ_=>E) (eM DF) XN:=by
 exact(aV (hX (fI uZ (vv 2) aK (eS _))
   (bH RW)
   iP)
  (aV (mX (tN bN (cU.cons N hr.m cU.nil) (vv 0) (aF (vv 2) aS)))
  (aV (mX (tN bN (cU.cons U hr.m cU.nil) (vv 0) (aF (vv 1) (aF (vv 2) aS))))
  (aV (wM (vv 0) (aZ (dI au) (oB (vv 0) q) (vv 2)) q)
  (bH (wM (vv 0) (aZ (dI au) (oB (vv 0) j) aK) j))))))
theorem aEI(B:eK mg)(U:eQ K ["Gaps"] "many")(N:eQ K ["Gaps"] "taken")(j:YC P w K mg base)(q:YB P w K mg base){cls:ba}{tk:Tok}(h:ZC K mg cls "put" "Pouch.put" DF #[.int 1 tk]):dF P w K mg base cls "put" 7 3 [] KS:=dF.ofD (ds:=[]) (dvs:=[]) h .nil (λ_ _ => .nil) Tw (λ_ _ _ _ _ _ _ z hl=>match z,hl with|[_,_,_],_=>⟨_,rfl,rfl⟩) (acM B U N j q)
theorem aC7(B:eK mg)(U:eQ K ["Gaps"] "many")(N:eQ K ["Gaps"] "taken")(j:YC P w K mg base)(q:YB P w K mg base){cls:ba}{tk:Tok}(h:ZC K mg cls "put" "Pouch.put" DF #[.int 1 tk]):dF P w K mg base cls "put" 7 3 [.int 1] KS:=dF.ofD (ds:=[.int 1 tk]) (dvs:=[.int 1]) h (.cons ⟨_,rfl⟩ .nil) (λ_ _ => .cons (by simp only[V2.Den]) .nil) Tw (λ_ _ _ _ _ _ _ z hl=>match z,hl with|[_,_],_=>⟨_,rfl,rfl⟩) (acM B U N j q)
theorem alS:cY ["self"] ["self"] (aR Cw):=eW
theorem aEJ(B:eK mg)(j:dF P w K mg base "Gaps" "kept" 6 1 [] KW){cls:ba}(h:pA K mg cls "numbers" "Pouch.numbers" Cw):dF P w K mg base cls "numbers" 7 1 [] KU :=
 dF.o h alS λhr=>(bH (eB (af8 ax rfl rfl B.sorted rfl B.set (pE bN (cU.cons j hr.m cU.nil) (vv 0)))))
theorem alX:cY ["self", "other", "laid", "runs", "level", "part", "number", "times"] ["self", "other"] (aR Dd):=eW
theorem aEN(B:eK mg)(q:eQ K ["Gaps"] "laid")(z:eQ K ["Gaps"] "newest")(N:dF P w K mg base "Gaps" "lay" 5 3 [] CQ)(j:YB P w K mg base){cls:ba}(h:pA K mg cls "take_in" "Gaps.take_in" Dd):dF P w K mg base cls "take_in" 7 2 [] ZJ :=
 dF.o h alX λhr=>(aV (cM 2 (Ag au rfl (vv 1) q rfl B.list))
  (aV (cM 3 (Ag au rfl (vv 1) z rfl B.list))
  (aV (sC bN.passes rfl (tM (vv 2)) (sE rfl (iQ (fN 4) (iQ (fN 5) sD)))
   (bH (mX (tN bN (cU.cons N hr.m cU.nil) (vv 0) (aF (vv 5) (aF (vv 4) aS))))))
  (bH (sC bN.passes rfl (tM (vv 3)) (sE rfl (iQ (fN 6) (iQ (fN 7) sD)))
   (bH (mX (tN bN (cU.cons j hr.m cU.nil) (vv 0) (aF (vv 6) (aF (vv 7) aS))))))))))
theorem alZ:cY ["self", "place"] ["self", "place"] (aR Df):=eW
theorem aEP(B:eK mg)(q:adJ P w K mg base)(j:Mh P w K mg base){cls:ba}(h:pA K mg cls "so_manieth" "Gaps.so_manieth" Df):dF P w K mg base cls "so_manieth" 7 2 [] xX :=
 dF.o h alZ λhr=>(bH (eB (fD bN q hr.m rfl (aF (pE bN (cU.cons j hr.m cU.nil) (vv 0)) (aF (vv 1) aS)))))
theorem alM:cY ["_law_pouch", "_law_row", "_law_place", "_law_told", "_law_number_here", "_law_under", "_law_many", "_law_half"] ["_law_pouch", "_law_row", "_law_place"] (aR Cp):=eW
theorem aEB(B:eK mg)(h:HasFn K mg "_law_near" Cp)(j:XZ P w K mg base)(z:adJ P w K mg base)(q:Mh P w K mg base):adI P w K mg base :=
 cP.o h alM λhr=>(aV (cM 3 (pE bN (cU.cons q hr.m cU.nil) (vv 0)))
  (aV (cM 4 (fD bN z hr.m rfl (aF (vv 3) (aF (vv 2) aS))))
  (aV (LN (fD bN j hr.m rfl (aF (vv 1) (aF (vv 4) aS))) (sE rfl (iQ (fN 5) (iQ (fN 6) sD))))
  (aV (cM 7 (aZ wU (aZ (dI au) (bZ (vv 3) aK bV) aK) aK))
  (aV (hX (VW.vt (rB (fI (Wh hr.units) (vv 4) (SD au ["_law_entry"] [] (tM (bZ (vv 3) aK bV)) ⟨(fN 0),RY,(bZ (vv 0) aK bV)⟩) rfl) (uP (fI (qB hr.units) (vv 6) (vv 5) (eS _)))))
   (bH (eB uQ))
   iP)
  (bH (eB (agL MT MT (aZ uY (aZ (dI au) (vv 5) aK) (vv 7)) (vv 2) (aZ (dI au) (vv 6) (vv 7))))))))))
theorem alV:cY ["self", "other"] ["self", "other"] (aR Dc):=eW
theorem aEM(B:eK mg)(z:eQ K ["Gaps"] "keep")(j:eQ K ["Gaps"] "many")(q:eQ K ["Gaps"] "taken")(N:YC P w K mg base)(U:dF P w K mg base "Gaps" "same_kind" 1 2 [] RL)(a:dF P w K mg base "Gaps" "take_in" 7 2 [] ZJ){cls:ba}(h:pA K mg cls "join" "Pouch.join" Dc):dF P w K mg base cls "join" 8 2 [] GG :=
 dF.o h alV λhr=>(aV (hX (VW.vt (rB (CW (wL (tN bN (cU.cons U hr.m cU.nil) (vv 0) (aF (vv 1) aS)))) (uP (fI (HV hr.units) (oB (vv 1) z) (oB (vv 0) z) (eS _)))))
   (bH RW)
   iP)
  (aV (mX (tN bN (cU.cons N hr.m cU.nil) (vv 0) (aF (oB (vv 1) j) aS)))
  (aV (mX (tN bN (cU.cons a hr.m cU.nil) (vv 0) (aF (vv 1) aS)))
  (aV (wM (vv 0) (aZ (dI au) (oB (vv 0) j) (oB (vv 1) j)) j)
  (bH (wM (vv 0) (aZ (dI au) (oB (vv 0) q) (oB (vv 1) q)) q))))))
theorem Tv:cY ["_law_pouch", "_law_place", "_law_found", "error", "_law_alone"] ["_law_pouch", "_law_place"] (aR Cu):=eW
theorem aEG(B:eK mg)(h:HasFn K mg "_law_asked" Cu)(z:mR K mg "NoPlace")(N:mR K mg "NoPouch")(U:mR K mg "NoRow")(a:mR K mg "NoSize")(b:mR K mg "NoText")(c:mR K mg "NoTimes")(d:mR K mg "RankError")(f:mR K mg "Unlike")(g:mR K mg "Wrong")(k:dF P w K mg base "Gaps" "so_manieth" 7 2 [] xX)(j:zK K ["NoPlace", "NoRow", "NoTimes", "Unlike"] ["RankError", "NoRow", "NoPlace", "NoPouch", "NoSize", "Wrong", "NoTimes", "Unlike", "NoText"]):adG P w K mg base:=by
 refine cP.ofN (ZK.of0 h Tv (λ_ _ _ _ _ _ q hl=>AH q hl bV) (λ_ _ _ _ _ _ _ hr=>?_));exact(afZ (af0 (i:=3) (rs:=["NoPlace", "NoRow", "NoTimes", "Unlike"]) (ns:=["RankError", "NoRow", "NoPlace", "NoPouch", "NoSize", "Wrong", "NoTimes", "Unlike", "NoText"]) Sa rfl z rfl j Tv.nd rfl rfl (λW=>(gY.v0 (bH (cM 2 (oA (aF LO (aF (tN ahU (cU.cons k hr.m cU.nil) (vv 0) (aF (vv 1) aS)) aS)))))))
   (λp l e he=>(aV (cM 4 (af9 (kJ (Kj (lO _ (Nf _)) j he) rfl B.isinstance PO (aF (vv 3) (aF (oA (aF (AF N rfl) (aF (AF U rfl) (aF (AF a rfl) (aF (AF b rfl) (aF (AF c rfl) (aF (AF f rfl) (aF (AF g rfl) aS)))))))) aS)))))
   (bH (cM 2 (oA (aF LO (aF (SA (vv 4) (SA (kJ (Kj (lO _ (Nf _)) j he) rfl B.isinstance PO (aF (vv 3) (aF (AF d rfl) aS))) (GV (kJ (Kj (lO _ (Nf _)) j he) rfl B.isinstance PO (aF (vv 3) (aF (Ae rfl B.ValueError aGN) aS)))))) aS))))))))
  (gY.v0 (bH (eB (vv 2)))))
theorem alK:cY ["_law_pouch", "_law_row", "_law_place", "_law_found", "_law_told", "_law_under", "_law_many"] ["_law_pouch", "_law_row", "_law_place"] (aR Cn):=eW
theorem aD9(B:eK mg)(h:HasFn K mg "_law_right" Cn)(q:adG P w K mg base)(N:XZ P w K mg base)(a:adI P w K mg base)(U:Mg P w K mg base)(b:dF P w K mg base "Gaps" "numbers" 7 1 [] KU)(z:dF P w K mg base "Gaps" "off" 6 1 [] zW)(j:Mh P w K mg base):Mf P w K mg base :=
 cP.o h alK λhr=>(aV (cM 3 (fD bN q hr.m rfl (aF (vv 0) (aF (vv 2) aS))))
  (aV (hX (VW.vt (rB (fI uZ (vv 2) aK (eS _)) (uP (fI DN (vv 2) (pE bN (cU.cons U hr.m cU.nil) (vv 0)) (eS _)))))
   (bH (eB (CY (qB hr.units) (vv 3) (oA (aF LO (aF uQ aS))) (eS _))))
   iP)
  (aV (hX (VW.vt (rB (fI (HV hr.units) (bZ (vv 3) aK bV) LO (eS _)) (rB (CW (wL (kJ acH rfl B.isinstance PO (aF (bZ (vv 3) aK bV) (aF (Ae rfl B.int PyProof.Rows.boot_int) aS))))) (uP (wL (kJ acH rfl B.isinstance PO (aF (bZ (vv 3) aK bV) (aF (Ae rfl B.bool PyProof.Rows.boot_bool) aS))))))))
   (bH (eB uQ))
   iP)
  (aV (cM 4 (pE bN (cU.cons j hr.m cU.nil) (vv 0)))
  (aV (hX (VW.vt (rB (fI (HV hr.units) (fD bN q hr.m rfl (aF (vv 0) (aF (vv 2) aS))) (vv 3) (eS _)) (uP (fI (HV hr.units) (pE bN (cU.cons j hr.m cU.nil) (vv 0)) (vv 4) (eS _)))))
   (bH (eB uQ))
   iP)
  (aV (LN (fD bN N hr.m rfl (aF (vv 1) (aF (bZ (vv 3) aK bV) aS))) (sE rfl (iQ (fN 5) (iQ (fN 6) sD))))
  (aV (hX (VW.vt (rB (fI (Wh hr.units) (bZ (vv 3) aK bV) (pE bN (cU.cons b hr.m cU.nil) (vv 0)) rfl) (rB (fI aq7 (vv 5) (aZ (dI au) (vv 2) (pE bN (cU.cons z hr.m cU.nil) (vv 0))) (eS _)) (uP (fI uZ (vv 6) (aZ uY (vv 2) (pE bN (cU.cons z hr.m cU.nil) (vv 0))) (eS _))))))
   (bH (eB uQ))
   iP)
  (bH (eB (fD bN a hr.m rfl (aF (vv 0) (aF (vv 1) (aF (vv 2) aS)))))))))))))
theorem alR:cY ["_law_pouch", "_law_row"] ["_law_pouch", "_law_row"] (aR Cv):=eW
theorem aEH(B:eK mg)(h:HasFn K mg "_law_amid" Cv)(j:Mf P w K mg base)(q:Mg P w K mg base):Me P w K mg base :=
 cP.o h alR λhr=>(bH (eB (Af (CY (qB hr.units) (vv 1) (rC au aS) (eS _)) (GV (SA (fD bN j hr.m rfl (aF (vv 0) (aF (vv 1) (aF aK aS)))) (GV (fD bN j hr.m rfl (aF (vv 0) (aF (vv 1) (aF (pE bN (cU.cons q hr.m cU.nil) (vv 0)) aS))))))))))
theorem alO:cY ["_law_script", "_law_keep", "_law_first", "_law_start", "_law_most", "_law_pouch", "_law_row", "_law_good", "_law_cells", "_law_k", "_law_cell_here", "_law_run"] ["_law_script", "_law_keep", "_law_first", "_law_start", "_law_most"] (aR Cr):=eW
theorem aED(B:eK mg)(h:HasFn K mg "_law_filled" Cr)(a:Me P w K mg base)(b:Md P w K mg base)(j:YA P w K mg base)(q:Ty4 P w K mg base)(z:Ty5 P w K mg base)(N:JV P w K mg base "Gaps" 3 2 RM)(U:dF P w K mg base "Gaps" "put" 7 3 [] KS):adF P w K mg base :=
 cP.o h alO λhr=>(aV (cM 5 (agA N hr.m rfl (aF (vv 1) aS)))
  (aV (cM 6 (rC ax aS))
  (aV (cM 7 uQ)
  (aV (cM 8 (kJ (PN rfl) rfl B.max boot_max (aF aK (aF (aZ uY (kJ xN rfl B.len PySem.boot_len (aF (vv 0) aS)) (vv 3)) aS))))
  (aV (sC bN.passes rfl (Qx rfl B.range (aF (kJ (aGB rfl) rfl B.min boot_min (aF (vv 4) (aF (kJ (PN rfl) rfl B.max boot_max (aF (vv 8) (aF (aZ nC (vv 2) (aZ (dI au) (vv 4) aK)) aS))) aS))) aS)) (fN 9)
   (aV (cM 10 (fD bN j hr.m rfl (aF (fD bN b hr.m rfl (aF (vv 0) (aF (aZ (dI au) (vv 3) (aZ nC (vv 9) (kJ (PN rfl) rfl B.max boot_max (aF aK (aF (vv 8) aS))))) aS))) (aF (vv 9) aS))))
   (aV (cM 11 (oA (aF (fD bN q hr.m rfl (aF (fD bN j hr.m rfl (aF (vv 10) (aF aK aS))) (aF (aZ nC (aZ wU (vv 2) aK) aK) aS))) (aF (fD bN z hr.m rfl (aF (fD bN j hr.m rfl (aF (vv 10) (aF aK aS))) aS)) aS))))
   (aV (mX (tN bN (cU.cons U hr.m cU.nil) (vv 5) (aF (bZ (vv 11) aK bV) (aF (bZ (vv 11) aK bV) aS))))
   (aV (mX (AG PySem.F.plainAttrs_list PySem.F.slot_list_append PySem.F.type_list_append DW DZ (vv 6) (aF (vv 11) aS)))
   (bH (hX (fI (qB hr.units) (aZ nC (vv 9) aK) aK (eS _))
    (bH (cM 7 (SA (vv 7) (GV (fD bN a hr.m rfl (aF (vv 5) (aF (vv 6) aS)))))))
    iP)))))))
  (bH (eB (oA (aF (vv 5) (aF (vf 6) (aF (vv 7) aS)))))))))))
theorem alD:cY ["_law_script", "_law_first", "_law_keep", "_law_pouch", "_law_row", "_law_good", "_law_other", "_law_more", "_law_size", "_law_places", "_law_k", "_law_cell_here", "_law_under", "_law_many", "_law_place"] ["_law_script"] (aR yF):=eW
theorem aD0{f:aw}{fd:c4}(B:eK mg)(F:uI K "law" "law" yF f fd)(a:Me P w K mg base)(b:Md P w K mg base)(N:XZ P w K mg base)(q:adF P w K mg base)(j:YA P w K mg base)(c:Mf P w K mg base)(z:dF P w K mg base "Gaps" "join" 8 2 [] GG)(U:Mg P w K mg base):jX P w K mg base (pC P w) 12 f fd ["_law_script"] (sG K 1 aeG):=by
 refine abE F alD (λ_ _ _ _ _ _ _ hr=>?_);exact(aV (cM 1 (fD bN b hr.m rfl (aF (vv 0) (aF aK aS))))
  (aV (cM 2 (bZ (rC au (aF aK (aF aK (aF aK (aF aK (aF aK (aF aK (aF aK (aF aK aS))))))))) (aZ nC (vv 1) aK) bV))
  (aV (LN (fD bN q hr.m rfl (aF (vv 0) (aF (vv 2) (aF (fD bN j hr.m rfl (aF (vv 1) (aF aK aS))) (aF aK (aF aK aS)))))) (sE rfl (iQ (fN 3) (iQ (fN 4) (iQ (fN 5) sD)))))
  (aV (hX (VW.vt (rB (CW (wL (vv 5))) (uP (CW (wL (fD bN a hr.m rfl (aF (vv 3) (aF (vv 4) aS))))))))
   (bH (eB uQ))
   iP)
  (aV (hX (fI (qB hr.units) (aZ nC (aZ wU (vv 1) aK) aK) aK (eS _))
   (aV (mX (tN bN (cU.cons z hr.m cU.nil) (vv 3) (aF (vv 3) aS)))
   (bH (cM 4 (aZ (dI au) (vv 4) (vv 4)))))
   iP)
  (aV (hX (fI (qB hr.units) (aZ nC (aZ wU (vv 1) aK) aK) aK (eS _))
   (aV (LN (fD bN q hr.m rfl (aF (vv 0) (aF (vv 2) (aF (fD bN j hr.m rfl (aF (vv 1) (aF aK aS))) (aF aK (aF aK aS)))))) (sE rfl (iQ (fN 6) (iQ (fN 7) (iQ (fN 5) sD)))))
   (aV (mX (tN bN (cU.cons z hr.m cU.nil) (vv 3) (aF (vv 6) aS)))
   (aV (cM 4 (aZ (dI au) (vv 4) (vv 7)))
   (bH (hX (CW (wL (vv 5)))
    (bH (eB uQ))
    iP)))))
   iP)
  (aV (cM 8 (pE bN (cU.cons U hr.m cU.nil) (vv 3)))
  (aV (cM 9 (rC ax (aF aK (aF aK (aF (vv 8) (aF (aZ (dI au) (vv 8) aK) (aF (Qz aK) (aF (aZ (dI au) (vv 8) (aZ MR aK aK)) aS))))))))
  (aV (sC bN.passes rfl (Qx rfl B.range (aF aK aS)) (fN 10)
   (aV (cM 11 (fD bN j hr.m rfl (aF (vv 1) (aF (aZ (dI au) aK (vv 10)) aS))))
   (aV (mX (AG PySem.F.plainAttrs_list PySem.F.slot_list_append PySem.F.type_list_append DW DZ (vv 9) (aF (aZ (dI au) aK (aZ nC (vv 11) (kJ (PN rfl) rfl B.max boot_max (aF aK (aF (vv 8) aS))))) aS)))
   (bH (hX (fI (HV hr.units) (vv 4) (rC au aS) (eS _))
    (aV (LN (fD bN N hr.m rfl (aF (vv 4) (aF (bZ (bZ (vv 4) (aZ nC (vv 11) (kJ xN rfl B.len PySem.boot_len (aF (vv 4) aS))) bV) aK bV) aS))) (sE rfl (iQ (fN 12) (iQ (fN 13) sD))))
    (bH (cM 9 (aZ (dI ax) (vv 9) (rC au (aF (aZ (dI au) (vv 12) aK) (aF (vv 13) aS)))))))
    iP)))))
  (aV (sC bN.passes rfl (tM (vv 9)) (fN 14)
   (bH (hX (CW (wL (fD bN c hr.m rfl (aF (vv 3) (aF (vv 4) (aF (vv 14) aS))))))
    (bH (eB uQ))
    iP)))
  (bH (eB uQ))))))))))))
end
theorem all_mk{l:OpenLaw}{w:bw}{K:bj}{h:b8}{mg:ba->ar aq}{fa fl:aw}{od an:ar aw}{sl:a8 (ar aq)}{oc kV dc pm cd ct:aq}(X:K.In h)(G:h.Ns az mg)(hfa:mg "law" = aj (.ref fa))
  (al:cw K az "law" = aj (aj (.ref fl))) (ll:K.lookup fl=aj ⟨oc,od,.func (ea "law" "law" (iL yF) (eM yF) (aR yF) .none kV dc pm an cd ct),sl⟩) (lc:codeIn K cd "law" = ax) (lk:keepIn K (.ref fl)=ax)
  {Q R E:aw} {aq2 aq0 aHO:ar aw} {akF akE:a8 (ar aq)} {Ab:a8 aq} {aq4 auG aDM aoH aEX:aq} (Lx:cw K az "so_manieth" = aj (aj (.ref Q))) (Xi:K.lookup Q=aj ⟨aq4,aq0,.func (ea "so_manieth" "so_manieth" (iL AN) (eM AN) (aR AN) .none auG aDM aoH aHO (.ref R) aEX),akE⟩) (aFE:codeIn K (.ref R) "so_manieth" = ax) (atZ:keepIn K (.ref Q)=ax)
  (B:eK mg)
  (azY:HasFn K mg "near_enough" Cb)
  (az2:HasFn K mg "look_row" Cf)
  (azW:HasFn K mg "packed" Bz)
  (azV:HasFn K mg "places_of" By)
  (az5:HasFn K mg "empty" Cj)
  (azX:HasFn K mg "of_row" Ca)
  (az1:HasFn K mg "merged" Ce)
  (az0:HasFn K mg "merged_entries" Cd)
  (az4:HasFn K mg "goes_first" Ci)
  (azZ:HasFn K mg "moved" Cc)
  (az6:HasFn K mg "bounds_ahead" Ck)
  (azT:HasFn K mg "thinned" Bx)
  (az3:HasFn K mg "kept_entries" Cg)
  (Ih:HasFn K mg "first_where" HK)
  (aAB:HasFn K mg "_law_mix" Cq)
  (aAE:HasFn K mg "_law_cell" Ct)
  (az9:HasFn K mg "_law_number" Co)
  (az7:HasFn K mg "_law_times" Cm)
  (aAD:HasFn K mg "_law_counts" Cs)
  (aAF:HasFn K mg "_law_asked" Cu)
  (aAA:HasFn K mg "_law_near" Cp)
  (az8:HasFn K mg "_law_right" Cn)
  (aAG:HasFn K mg "_law_amid" Cv)
  (aAC:HasFn K mg "_law_filled" Cr)
  (IT:∃t,mg "LONGEST" = aj (.int 1000000000 t))
  {o:aw} (A:cw K az "RankError" = aj (aj (.ref o)))
  {arT amX aIC aGF aGQ ay6 aj7 aiY aHX aE5 aDF avJ avA au1 auS auJ} (arA:K.lookup o=aj (df arT amX o aIC aGF aGQ ay6 aj7 aiY aHX aE5 aDF avJ avA au1 auS auJ "ValueError.__new__"))
  (aBR:cg K (.ref o) "__getattribute__" = aj (aj (.builtin "BaseException.__getattribute__"))) (aA7:cg K (.ref o) "__getattr__" = aj ao) (aFH:cg K (.ref o) "__class__" = aj (aj (.builtin "object.__class__"))) (aG3:cj K (.ref o) (.type "BaseException")=aj ax) (aqO:cj K (.ref o) (.type "object")=aj ax)
  {N:aw} (f:cw K az "NoRow" = aj (aj (.ref N)))
  {arX am1 aIG aGJ aGU azA akB ajK aH1 aE9 aDJ avN avE au5 auW auN} (arE:K.lookup N=aj (df arX am1 N aIG aGJ aGU azA akB ajK aH1 aE9 aDJ avN avE au5 auW auN "ValueError.__new__"))
  (aBV:cg K (.ref N) "__getattribute__" = aj (aj (.builtin "BaseException.__getattribute__"))) (aBB:cg K (.ref N) "__getattr__" = aj ao) (aFL:cg K (.ref N) "__class__" = aj (aj (.builtin "object.__class__"))) (aG7:cj K (.ref N) (.type "BaseException")=aj ax) (aqS:cj K (.ref N) (.type "object")=aj ax)
  {z:aw} (d:cw K az "NoPlace" = aj (aj (.ref z)))
  {arZ am3 aII aGL aGW azC akD ajV aH3 aFB aDL avP avG au7 auY auP} (arG:K.lookup z=aj (df arZ am3 z aII aGL aGW azC akD ajV aH3 aFB aDL avP avG au7 auY auP "ValueError.__new__"))
  (aBX:cg K (.ref z) "__getattribute__" = aj (aj (.builtin "BaseException.__getattribute__"))) (aBD:cg K (.ref z) "__getattr__" = aj ao) (aFN:cg K (.ref z) "__class__" = aj (aj (.builtin "object.__class__"))) (aG9:cj K (.ref z) (.type "BaseException")=aj ax) (aqU:cj K (.ref z) (.type "object")=aj ax)
  {k:aw} (r:cw K az "NoPouch" = aj (aj (.ref k)))
  {arY am2 aIH aGK aGV azB akC ajL aH2 aFA aDK avO avF au6 auX auO} (arF:K.lookup k=aj (df arY am2 k aIH aGK aGV azB akC ajL aH2 aFA aDK avO avF au6 auX auO "ValueError.__new__"))
  (aBW:cg K (.ref k) "__getattribute__" = aj (aj (.builtin "BaseException.__getattribute__"))) (aBC:cg K (.ref k) "__getattr__" = aj ao) (aFM:cg K (.ref k) "__class__" = aj (aj (.builtin "object.__class__"))) (aG8:cj K (.ref k) (.type "BaseException")=aj ax) (aqT:cj K (.ref k) (.type "object")=aj ax)
  {m:aw} (u:cw K az "NoSize" = aj (aj (.ref m)))
  {arW am0 aIF aGI aGT ay9 akA ajA aH0 aE8 aDI avM avD au4 auV auM} (arD:K.lookup m=aj (df arW am0 m aIF aGI aGT ay9 akA ajA aH0 aE8 aDI avM avD au4 auV auM "ValueError.__new__"))
  (aBU:cg K (.ref m) "__getattribute__" = aj (aj (.builtin "BaseException.__getattribute__"))) (aBA:cg K (.ref m) "__getattr__" = aj ao) (aFK:cg K (.ref m) "__class__" = aj (aj (.builtin "object.__class__"))) (aG6:cj K (.ref m) (.type "BaseException")=aj ax) (aqR:cj K (.ref m) (.type "object")=aj ax)
  {p:aw} (C:cw K az "Wrong" = aj (aj (.ref p)))
  {arR amV aIA aGD aGO ay4 aj5 aiN aHV aE3 aDD avH au8 auZ auQ auH} (aq8:K.lookup p=aj (df arR amV p aIA aGD aGO ay4 aj5 aiN aHV aE3 aDD avH au8 auZ auQ auH "ValueError.__new__"))
  (aBP:cg K (.ref p) "__getattribute__" = aj (aj (.builtin "BaseException.__getattribute__"))) (aA5:cg K (.ref p) "__getattr__" = aj ao) (aFF:cg K (.ref p) "__class__" = aj (aj (.builtin "object.__class__"))) (aG1:cj K (.ref p) (.type "BaseException")=aj ax) (aqM:cj K (.ref p) (.type "object")=aj ax)
  {U:aw} (g:cw K az "NoTimes" = aj (aj (.ref U)))
  {arU amY aID aGG aGR ay7 aj8 ai8 aHY aE6 aDG avK avB au2 auT auK} (arB:K.lookup U=aj (df arU amY U aID aGG aGR ay7 aj8 ai8 aHY aE6 aDG avK avB au2 auT auK "ValueError.__new__"))
  (aBS:cg K (.ref U) "__getattribute__" = aj (aj (.builtin "BaseException.__getattribute__"))) (aA8:cg K (.ref U) "__getattr__" = aj ao) (aFI:cg K (.ref U) "__class__" = aj (aj (.builtin "object.__class__"))) (aG4:cj K (.ref U) (.type "BaseException")=aj ax) (aqP:cj K (.ref U) (.type "object")=aj ax)
  {a:aw} (i:cw K az "Unlike" = aj (aj (.ref a)))
  {arS amW aIB aGE aGP ay5 aj6 aiX aHW aE4 aDE avI au9 au0 auR auI} (aq9:K.lookup a=aj (df arS amW a aIB aGE aGP ay5 aj6 aiX aHW aE4 aDE avI au9 au0 auR auI "ValueError.__new__"))
  (aBQ:cg K (.ref a) "__getattribute__" = aj (aj (.builtin "BaseException.__getattribute__"))) (aA6:cg K (.ref a) "__getattr__" = aj ao) (aFG:cg K (.ref a) "__class__" = aj (aj (.builtin "object.__class__"))) (aG2:cj K (.ref a) (.type "BaseException")=aj ax) (aqN:cj K (.ref a) (.type "object")=aj ax)
  {n:aw} (x:cw K az "NoText" = aj (aj (.ref n)))
  {arV amZ aIE aGH aGS ay8 aj9 ai9 aHZ aE7 aDH avL avC au3 auU auL} (arC:K.lookup n=aj (df arV amZ n aIE aGH aGS ay8 aj9 ai9 aHZ aE7 aDH avL avC au3 auU auL "ValueError.__new__"))
  (aBT:cg K (.ref n) "__getattribute__" = aj (aj (.builtin "BaseException.__getattribute__"))) (aA9:cg K (.ref n) "__getattr__" = aj ao) (aFJ:cg K (.ref n) "__class__" = aj (aj (.builtin "object.__class__"))) (aG5:cj K (.ref n) (.type "BaseException")=aj ax) (aqQ:cj K (.ref n) (.type "object")=aj ax)
  (agQ:cj K (.ref z) (.type "ValueError")=aj ax)
  (ajO:cj K (.ref z) (.ref o)=aj ax)
  (ajS:cj K (.ref z) (.ref N)=aj au)
  (ajU:cj K (.ref z) (.ref z)=aj ax)
  (ajT:cj K (.ref z) (.ref k)=aj au)
  (ajR:cj K (.ref z) (.ref m)=aj au)
  (ajM:cj K (.ref z) (.ref p)=aj au)
  (ajP:cj K (.ref z) (.ref U)=aj au)
  (ajN:cj K (.ref z) (.ref a)=aj au)
  (ajQ:cj K (.ref z) (.ref n)=aj au)
  (agP:cj K (.ref N) (.type "ValueError")=aj ax)
  (ajD:cj K (.ref N) (.ref o)=aj ax)
  (ajH:cj K (.ref N) (.ref N)=aj ax)
  (ajJ:cj K (.ref N) (.ref z)=aj au)
  (ajI:cj K (.ref N) (.ref k)=aj au)
  (ajG:cj K (.ref N) (.ref m)=aj au)
  (ajB:cj K (.ref N) (.ref p)=aj au)
  (ajE:cj K (.ref N) (.ref U)=aj au)
  (ajC:cj K (.ref N) (.ref a)=aj au)
  (ajF:cj K (.ref N) (.ref n)=aj au)
  (agO:cj K (.ref U) (.type "ValueError")=aj ax)
  (ai1:cj K (.ref U) (.ref o)=aj ax)
  (ai5:cj K (.ref U) (.ref N)=aj au)
  (ai7:cj K (.ref U) (.ref z)=aj au)
  (ai6:cj K (.ref U) (.ref k)=aj au)
  (ai4:cj K (.ref U) (.ref m)=aj au)
  (aiZ:cj K (.ref U) (.ref p)=aj au)
  (ai2:cj K (.ref U) (.ref U)=aj ax)
  (ai0:cj K (.ref U) (.ref a)=aj au)
  (ai3:cj K (.ref U) (.ref n)=aj au)
  (agN:cj K (.ref a) (.type "ValueError")=aj ax)
  (aiQ:cj K (.ref a) (.ref o)=aj ax)
  (aiU:cj K (.ref a) (.ref N)=aj au)
  (aiW:cj K (.ref a) (.ref z)=aj au)
  (aiV:cj K (.ref a) (.ref k)=aj au)
  (aiT:cj K (.ref a) (.ref m)=aj au)
  (aiO:cj K (.ref a) (.ref p)=aj au)
  (aiR:cj K (.ref a) (.ref U)=aj au)
  (aiP:cj K (.ref a) (.ref a)=aj ax)
  (aiS:cj K (.ref a) (.ref n)=aj au)
  (Mp:YG K mg "NoPlace")
  {j:aw} (q:cw K az "Gaps" = aj (aj (.ref j))) (b:nI K j)
  (asG:cg K (.ref j) "keep" = aj ao)
  (asF:cg K (.ref j) "laid" = aj ao)
  (asE:cg K (.ref j) "many" = aj ao)
  (asD:cg K (.ref j) "newest" = aj ao)
  (asC:cg K (.ref j) "taken" = aj ao)
  (awK:cg K (.ref j) "__class__" = aj (aj (.builtin "object.__class__"))) (awD:specialIn K (.builtin "object.__class__") "__get__" = aj (aj (.builtin "getset_descriptor.__get__"))) (av4:takesIn K (.builtin "object.__class__")=aj ax) (awF:mroIn K j (.type "object")=aj ax)
  {ahL:Tok} (Uw:YK K j "put" "Pouch.put" DF #[.int 1 ahL])
  (anH:oY K j "join" "Pouch.join" Dc)
  (anD:oY K j "look_room" "Pouch.look_room" Cy)
  (anE:oY K j "length" "Pouch.length" Cz)
  (anB:oY K j "numbers" "Pouch.numbers" Cw)
  (anI:YX K j "Gaps.__init__" HM)
  (am7:oY K j "same_kind" "Gaps.same_kind" Dg)
  (am5:oY K j "take" "Gaps.take" De)
  (am4:oY K j "take_in" "Gaps.take_in" Dd)
  (anF:oY K j "lay" "Gaps.lay" Dl)
  (anC:oY K j "newest_pouch" "Gaps.newest_pouch" Dk)
  (am9:oY K j "parts" "Gaps.parts" Di)
  (am8:oY K j "pouch" "Gaps.pouch" Dh)
  (anG:oY K j "kept" "Gaps.kept" Dm)
  (anA:oY K j "off" "Gaps.off" Dj)
  (am6:oY K j "so_manieth" "Gaps.so_manieth" Df)
  (azM:ZD K mg "RankPouch" "__init__" "Pouch.__init__" HL)
  (aHQ:cw K az "so_manieth_asks" = aj (aj (.ref Q)))
  {ts:ak aw}
  (atH:K.lookup R=aj ⟨.type "code",aq2,.fields Ab,akF⟩)
  (Yo:Ab[11]?=aj (.ref E)) (Zs:aaB Ab R E=ax)
  (hsub:E∈ts) (hnd:[E].Nodup) (hall:∀P∈ts,P=E)
  : ∃fd:c4,(∀(s:av) (v:aq),BindsTo s fd ⟨[v],[]⟩ [("_law_script",v)])/\(∀P∈ts,∃c,codeHdIn K c P=ax)/\∀base:b8,K.In base->base.Ns az mg->xZ base mg->jX l.prog w K mg base xY 12 fa fd ["_law_script"] (SX K ts):=by
 have e:=hfa.symm.trans (mg_of X G al);cases e;have Px:XC K o:=⟨⟨_,_,_,_,_,_,_,_,_,_,_,_,_,_,_,_,arA⟩,aBR,aA7,aFH,aG3,aqO⟩;have Pc:mR K mg "RankError":=⟨o,Px,mg_of X G A,A⟩;have Qb:XC K N:=⟨⟨_,_,_,_,_,_,_,_,_,_,_,_,_,_,_,_,arE⟩,aBV,aBB,aFL,aG7,aqS⟩;have Pg:mR K mg "NoRow":=⟨N,Qb,mg_of X G f,f⟩;have Qd:XC K z:=⟨⟨_,_,_,_,_,_,_,_,_,_,_,_,_,_,_,_,arG⟩,aBX,aBD,aFN,aG9,aqU⟩;have Pj:mR K mg "NoPlace":=⟨z,Qd,mg_of X G d,d⟩;have Qc:XC K k:=⟨⟨_,_,_,_,_,_,_,_,_,_,_,_,_,_,_,_,arF⟩,aBW,aBC,aFM,aG8,aqT⟩;have Ph:mR K mg "NoPouch":=⟨k,Qc,mg_of X G r,r⟩;have Qa:XC K m:=⟨⟨_,_,_,_,_,_,_,_,_,_,_,_,_,_,_,_,arD⟩,aBU,aBA,aFK,aG6,aqR⟩;have Pf:mR K mg "NoSize":=⟨m,Qa,mg_of X G u,u⟩;have Pu:XC K p:=⟨⟨_,_,_,_,_,_,_,_,_,_,_,_,_,_,_,_,aq8⟩,aBP,aA5,aFF,aG1,aqM⟩;have Pa:mR K mg "Wrong":=⟨p,Pu,mg_of X G C,C⟩;have Py:XC K U:=⟨⟨_,_,_,_,_,_,_,_,_,_,_,_,_,_,_,_,arB⟩,aBS,aA8,aFI,aG4,aqP⟩;have Pd:mR K mg "NoTimes":=⟨U,Py,mg_of X G g,g⟩;have Pw:XC K a:=⟨⟨_,_,_,_,_,_,_,_,_,_,_,_,_,_,_,_,aq9⟩,aBQ,aA6,aFG,aG2,aqN⟩;have Pb:mR K mg "Unlike":=⟨a,Pw,mg_of X G i,i⟩;have Pz:XC K n:=⟨⟨_,_,_,_,_,_,_,_,_,_,_,_,_,_,_,_,arC⟩,aBT,aA9,aFJ,aG5,aqQ⟩;have Pe:mR K mg "NoText":=⟨n,Pz,mg_of X G x,x⟩;have JQ:zK K ["NoPlace", "NoRow", "NoTimes", "Unlike"] ["RankError", "NoRow", "NoPlace", "NoPouch", "NoSize", "Wrong", "NoTimes", "Unlike", "NoText"]:=⟨(dP (sJ A Px) (dP (sJ f Qb) (dP (sJ d Qd) (dP (sJ r Qc) (dP (sJ u Qa) (dP (sJ C Pu) (dP (sJ g Py) (dP (sJ i Pw) (dP (sJ x Pz) ET))))))))),(dP (dP (fT d A ajO) (dP (fT d f ajS) (dP (fT d d ajU) (dP (fT d r ajT) (dP (fT d u ajR) (dP (fT d C ajM) (dP (fT d g ajP) (dP (fT d i ajN) (dP (fT d x ajQ) ET))))))))) (dP (dP (fT f A ajD) (dP (fT f f ajH) (dP (fT f d ajJ) (dP (fT f r ajI) (dP (fT f u ajG) (dP (fT f C ajB) (dP (fT f g ajE) (dP (fT f i ajC) (dP (fT f x ajF) ET))))))))) (dP (dP (fT g A ai1) (dP (fT g f ai5) (dP (fT g d ai7) (dP (fT g r ai6) (dP (fT g u ai4) (dP (fT g C aiZ) (dP (fT g g ai2) (dP (fT g i ai0) (dP (fT g x ai3) ET))))))))) (dP (dP (fT i A aiQ) (dP (fT i f aiU) (dP (fT i d aiW) (dP (fT i r aiV) (dP (fT i u aiT) (dP (fT i C aiO) (dP (fT i g aiR) (dP (fT i i aiP) (dP (fT i x aiS) ET))))))))) ET)))),(dP (sJ d agQ) (dP (sJ f agP) (dP (sJ g agO) (dP (sJ i agN) ET)))),by decide⟩;have F:eQ K ["Gaps"] "keep":=PL q b asG (PK);have H:eQ K ["Gaps"] "laid":=PL q b asF (PK);have D:eQ K ["Gaps"] "many":=PL q b asE (PK);have I:eQ K ["Gaps"] "newest":=PL q b asD (PK);have L:eQ K ["Gaps"] "taken":=PL q b asC (PK);have Mm:=av5 q b awK awD av4 awF;have Oc:Ob K mg "Gaps":=⟨j,mg_of X G q,q⟩;have FL:=OW (st:=yF) ll lc lk;have azU:HasFn K mg "so_manieth" AN:=kG X G Lx Xi aFE atZ;obtain⟨Sf,Se⟩:=ahX (st:=AN) Lx Xi atH Yo Zs;refine⟨ea "law" "law" (iL yF) (eM yF) (aR yF) .none kV dc pm an cd ct,λs v => .of_eq rfl,?_,λbase KB GB BB=>?_⟩
 ·intro P hP
  rcases hall P hP with e
  ·rw[e];exact⟨_,Se⟩
 have YD:Ml K mg base "so_manieth":=⟨KB,GB,BB,_,_,Sf,Se⟩;have Oi:=@aDU l.prog w K mg base B azY;have Ol:=@aDY l.prog w K mg base B az2 IT;have Og:=@aDS l.prog w K mg base B azW;have Oq:=@aD6 l.prog w K mg base B az5;have Oo:=@aD3 l.prog w K mg base B az4;have Ot:=@aD7 l.prog w K mg base B az6;have tG:=@aEC l.prog w K mg base B aAB;have Ov:=@aEA l.prog w K mg base B az9;have Ou:=@aD8 l.prog w K mg base B az7;have S:=@aEE l.prog w K mg base B aAD;have QX:=@aDB l.prog w K mg base B F D L _ azM;have vY:=@aEK l.prog w K mg base B IT D _ (anD.has X G q b);have T:=@aEL l.prog w K mg base B D _ (anE.has X G q b);have My:=@aEQ l.prog w K mg base B Oc Mm _ (am7.has X G q b);have Of:=@aDR l.prog w K mg base B azV Og;have ZL:=@aDV l.prog w K mg base B azZ Ot;have Om:=@aD1 l.prog w K mg base B az3 Oi;have LC:=@aEF l.prog w K mg base B aAE tG;have Oh:=@aDT l.prog w K mg base B azX Ol Of;have Oj:=@aDW l.prog w K mg base B az0 Oo ZL;have Oe:=@aDN l.prog w K mg base B azT Om;have aI9:=@aDO l.prog w K mg base B azU Ih Mp YD;have KZ:=aI9.alias (y := "so_manieth_asks") ((mg_of X G aHQ).trans (mg_of X G Lx).symm);have Nn:=@aC9 l.prog w K mg base B QX H I _ (anI.has X G q);have LA:=@aDX l.prog w K mg base B az1 Oj;have JW:=@aEU l.prog w K mg base B Oh I _ (anC.has X G q b);have JX:=@aEV l.prog w K mg base B LA Oe F H _ (anF.has X G q b);have V:=@aES l.prog w K mg base B H JW _ (am9.has X G q b);have vX:=@aEO l.prog w K mg base B F I JX JW _ (am5.has X G q b);have W:=@aER l.prog w K mg base B Oq LA V _ (am8.has X G q b);have Nb:=@aEW l.prog w K mg base B V _ (anG.has X G q b);have YM:=@aET l.prog w K mg base B V _ (anA.has X G q b);have Ow:=@aEB l.prog w K mg base B aAA S KZ W;have Mz:=@aEI l.prog w K mg base B D L vY vX _ _ (Uw.has X G q b);have aL5:=@aC7 l.prog w K mg base B D L vY vX _ _ (Uw.has X G q b);have Na:=@aEJ l.prog w K mg base B Nb _ (anB.has X G q b);have Mw:=@aEN l.prog w K mg base B H I JX vX _ (am4.has X G q b);have Mx:=@aEP l.prog w K mg base B KZ W _ (am6.has X G q b);have ZN:=@aEG l.prog w K mg base B aAF Pj Ph Pg Pf Pe Pd Pc Pb Pa Mx JQ;have YN:=@aEM l.prog w K mg base B F D L vY My Mw _ (anH.has X G q b);have GI:=@aD9 l.prog w K mg base B az8 ZN S Ow T Na YM W;have LD:=@aEH l.prog w K mg base B aAG GI T;have ZM:=@aED l.prog w K mg base B aAC LD LC tG Ov Ou Nn Mz;exact atQ [(E, "so_manieth",⟨116,40,116,73⟩,UI "so_manieth")] hnd (by simp only[dU,zP,yK,forall_eq_or_imp,forall_eq];exact hsub) (by simp only[dU,zP,yK,forall_eq_or_imp,forall_eq];exact⟨_,Sf⟩) (aD0 B FL LD LC S ZM tG GI YN T) M.atU
theorem walk{l:OpenLaw}{q:bh}{loose:ak ba}{XP:(ba->ar aq)->b8->Prop}{YP:bw->b8->Prop}{d:DefRec}{K:Params->bj}{ts:ak aw}(hn:l.most=aj 63)(U:d.params.defaults=[])
  (j:∀(w:bw) (h:b8),YP w h->(K w.params).In h/\∀P∈ts,h.get? P=aj (tabObj #[])) (B:∀w:bw,noTabs (K w.params)=ax)
  (F:∀(w:bw) (mg:ba->ar aq) (fa:aw) (h:b8),(K w.params).In h->h.Ns az mg->mg d.name=aj (.ref fa) ->
   ∃fd:c4,(∀(s:av) (u:aq),BindsTo s fd ⟨[u],[]⟩ [("_law_script",u)])/\(∀P∈ts,∃c,codeHdIn (K w.params) c P=ax)/\∀base:b8,(K w.params).In base->base.Ns az mg->xZ base mg->jX l.prog w (K w.params) mg base xY 12 fa fd ["_law_script"] (SX (K w.params) ts)) :
  PySem.W.WalkO q loose XP YP l.row.toRowW d [] (λf vs=>PySem.call f vs) :=
 L2.afV (n:=63) (k:=12) (x := "_law_script") (CX:=λ_=>xY) (sp:=λw=>SX (K w.params) ts) hn (by decide) U ⟨rfl,by decide,by decide⟩ j B F (λ_ _ a ns hl _ N hS=>⟨a,ns,rfl,hS,hl,N,λ_=>rfl⟩) λ_ _ _ _ _ z=>z
end Np
open PySem PySem.W PyProof.Rows
namespace HD
open PySem PySem.W PyProof.Rows
noncomputable def TJ(B:cz->ar Builtin)(p:bh)(w:bw)(lo:ay)(j:ar aq):ay->SharedT->Thread->ar SharedT
 |0,_,_=>ao
 |m+1,x,th=>bif through th then aj x else bif stepOk lo j th then(stepT (denote B) p w x th).bind (λy=>TJ B p w lo j m y.1 y.2)else ao
theorem amI{B:cz->ar Builtin}{p:bh}{w:bw}{lo:ay}{j:ar aq}(m:ay) :
  ∀(x y:SharedT) (th:Thread),TJ B p w lo j m x th=aj y->topRun B p w lo j m x.abs th=aj y.abs:=by
 induction m with
 |zero=>intro x y th z;cases z
 |succ m ih =>
  intro x y th z;unfold TJ at z;unfold topRun;cases a:through th <;> rw[a]at z
  ·cases b:stepOk lo j th <;> rw[b]at z
   ·cases z
   ·obtain⟨u,N,q⟩:=QN.mp (show(stepT (denote B) p w x th).bind _=aj y from z);dsimp only;rw[stepT_spec (s':=u.1) (t':=u.2) N];exact ih _ _ _ q
  ·cases z;rfl
noncomputable def grow:ak c5->BT->ay->BT
 |[],T,_=>T
 |o::l,T,n=>grow l (T.ins n o) (n+1)
noncomputable def boot(w:bw)(os:OsState):SharedT:=⟨grow (eh w.params).objs.toList .nil 0,11,(eh w.params).life,#[],boot_drawn,boot_toks,os⟩
noncomputable def ends(p:bh)(N:ay)(w:bw)(os:OsState):ar SharedT:=TJ treeTable p w 11 (aj (.ref 6)) N (boot w os) (topStub p)
theorem aGM(w:bw):((eh w.params).isNs az&&(#[]:a8 GenState).size==0,(eh w.params).objs.size,(eh w.params).nsMap az "__annotations__")=(ax,11,aj (Value.ref 6)):=by kernel_rfl
theorem boot_abs(w:bw)(os:OsState):(boot w os).abs=⟨eh w.params,#[],boot_drawn,boot_toks,os⟩:=by kernel_rfl
noncomputable def fits(p:bh)(h:b8)(y:SharedT):br:=staticsOk (importedModules p.main.body) h y.abs.heap&&namesBound p y.abs.heap&&gensDone y.abs&&laidKept h y.abs.heap
theorem left{p q:bh}{loose:ak ba}{Xt:av->br}{α:Type}{Yf:av->α}{Ya:bw->α}{N:ay}{U:br}
  (plain:opening p=plainProg p.main.scope.names) (e:Nat.ble 600 N=ax) (fence:∀s,fenceModules? p s=aj s)
  (tests:∀(w:bw) (os:OsState),(ends p N w os).map (fits p (eh w.params))=aj ax)
  (Fh:∀(w:bw) (os:OsState),(ends p N w os).map (λy=>openSeen q loose (importedModules p.main.body) Xt U y.abs)=aj (openGood q loose))
  (hook:∀(w:bw) (os:OsState),(ends p N w os).map (λy=>Yf y.abs)=aj (Ya w)) :
  LeftO p q loose Xt Yf Ya N U:=by
 intro w;obtain⟨⟨g,h,i,tk,os⟩,d,B⟩:=CD.mp (boot_open plain e fence w);simp only[QJ]at B;obtain⟨rfl,rfl,rfl,rfl⟩:=B;have bs:=aGM w;simp only[QJ]at bs;obtain⟨y,z,f⟩:=CD.mp (tests w os);have b:=Fh w os;have a:=hook w os;rw[z]at b a;have j:=amI _ _ _ _ z;rw[boot_abs]at j;have c:topFrom treeTable p w N ⟨eh w.params,#[],boot_drawn,boot_toks,os⟩=aj y.abs:=by
  unfold topFrom;dsimp only;rw[bs.1,bs.2.1,bs.2.2,j];show(match fits p (eh w.params) y with|true=>aj y.abs|false=>ao)=aj y.abs;rw[f]
 show((fencedOpening treeTable p w N).bind (topFrom treeTable p w N)).map _=_;rw[d,Option.bind_some,c,JS,kX,QJ];exact⟨kY b,kY a⟩
set_option maxRecDepth 100000
set_option compiler.extract_closed false
set_option genSizeOf false
set_option bootstrap.genMatcherCode false
set_option maxHeartbeats 0
noncomputable def auE(ds:ak ay)(l:ak b7):ak b7:=@List.rec b7 (λ_=>ay->ak b7) (λ_=>[]) (λs _ f i=>@Bool.rec (λ_=>ak b7) (s::f (Nat.succ i)) (f (Nat.succ i)) (ds.any (Nat.beq i))) l 0
noncomputable def kept:bh:={PySem.Challenge.pw_rankpouch_k44_the_so_manieth with main:={PySem.Challenge.pw_rankpouch_k44_the_so_manieth.main with body:=auE [1,11,13,18,28,32,35,37] PySem.Challenge.pw_rankpouch_k44_the_so_manieth.main.body} }
noncomputable def seenX(s:av):br:=xlAt kept [] s&&recOk (RowW.records (OpenRow.toRowW (OpenLaw.row PySem.Challenge.rw_rankpouch_k44_the_so_manieth))) s
theorem said:OpenLaw.wellSaid PySem.Challenge.rw_rankpouch_k44_the_so_manieth=ax:=by kernel_rfl
theorem plain:opening PySem.Challenge.pw_rankpouch_k44_the_so_manieth=plainProg PySem.Challenge.pw_rankpouch_k44_the_so_manieth.main.scope.names:=by kernel_rfl
theorem fence(s:av):fenceModules? PySem.Challenge.pw_rankpouch_k44_the_so_manieth s=aj s:=by kernel_rfl
theorem tests(w:bw)(os:OsState):(ends PySem.Challenge.pw_rankpouch_k44_the_so_manieth 9388 w os).map (fits PySem.Challenge.pw_rankpouch_k44_the_so_manieth (eh w.params))=aj ax:=by kernel_rfl
theorem Fh(w:bw)(os:OsState):(ends PySem.Challenge.pw_rankpouch_k44_the_so_manieth 9388 w os).map (λy=>openSeen kept [Str.ofString "so_manieth_asks"] (importedModules PySem.Challenge.pw_rankpouch_k44_the_so_manieth.main.body) seenX ax y.abs)=aj (openGood kept [Str.ofString "so_manieth_asks"]):=by kernel_rfl
end HD
open PySem PySem.W PyProof.Rows
local macro_rules
 | `(tactic| o_head $H) => `(tactic| refine holds_open (q := HD.kept) (loose := [Str.ofString "so_manieth_asks"]) (N := 9388) (Xt := HD.seenX)
   (XP := XL HD.kept []) (Yf := Hook.obs $H) (Ya := Hook.val $H) (YP := Hook.says $H)
   ?_ (Hook.of $H) (Hook.keeps $H) (fun s e => xl_of s (Bool.and_eq_true_iff.mp e).1) XL.keeps
   (by rfl) (by rfl) (by rfl) (fun s e => recFacts_of (Bool.and_eq_true_iff.mp e).2)
   (by rfl) (by assumption) (by decide +kernel) ⟨rfl, rfl, rfl, rfl, rfl, by decide +kernel⟩ ?_ ?_)
set_option maxRecDepth 100000 in
set_option maxHeartbeats 0 in
theorem PySem.Challenge.cw_rankpouch_k44_the_so_manieth_holds : PySem.Challenge.rw_rankpouch_k44_the_so_manieth.Holds := by
 w_on
 refine holds_law HD.said λsaid=>?_
 k_head
 ·clear said
  refine HD.left HD.plain (by kernel_rfl) HD.fence HD.tests HD.Fh ?_
  intro w os
  kernel_rfl
 ·clear said
  w_witness2
 clear said
 k_fill
 refine Np.walk (l:=PySem.Challenge.rw_rankpouch_k44_the_so_manieth) rfl rfl (λw h ρ=>⟨PySem.W.km_in_of ρ,PySem.W.km_tabs_of ρ⟩) (λw=>by kernel_rfl) ?F
 case F =>
  as_aux_lemma =>
   intro w mg fa h KX G NS
   refine' Np.all_mk KX G NS ?_ ?_ ?_ ?_ ?_ ?_ ?_ ?_ ⟨tS KX G ?_,tS KX G ?_,tS KX G ?_,tS KX G ?_,tS KX G ?_,tS KX G ?_,tS KX G ?_,tS KX G ?_,tS KX G ?_,tS KX G ?_,tS KX G ?_,tS KX G ?_,tS KX G ?_⟩ (L2.kG KX G ?_ ?_ ?_ ?_) (L2.kG KX G ?_ ?_ ?_ ?_) (L2.kG KX G ?_ ?_ ?_ ?_) (L2.kG KX G ?_ ?_ ?_ ?_) (L2.kG KX G ?_ ?_ ?_ ?_) (L2.kG KX G ?_ ?_ ?_ ?_) (L2.kG KX G ?_ ?_ ?_ ?_) (L2.kG KX G ?_ ?_ ?_ ?_) (L2.kG KX G ?_ ?_ ?_ ?_) (L2.kG KX G ?_ ?_ ?_ ?_) (L2.kG KX G ?_ ?_ ?_ ?_) (L2.kG KX G ?_ ?_ ?_ ?_) (L2.kG KX G ?_ ?_ ?_ ?_) (L2.kG KX G ?_ ?_ ?_ ?_) (L2.kG KX G ?_ ?_ ?_ ?_) (L2.kG KX G ?_ ?_ ?_ ?_) (L2.kG KX G ?_ ?_ ?_ ?_) (L2.kG KX G ?_ ?_ ?_ ?_) (L2.kG KX G ?_ ?_ ?_ ?_) (L2.kG KX G ?_ ?_ ?_ ?_) (L2.kG KX G ?_ ?_ ?_ ?_) (L2.kG KX G ?_ ?_ ?_ ?_) (L2.kG KX G ?_ ?_ ?_ ?_) (L2.kG KX G ?_ ?_ ?_ ?_) (V2.aEY KX G ?_) ?_ ?_ ?_ ?_ ?_ ?_ ?_ ?_ ?_ ?_ ?_ ?_ ?_ ?_ ?_ ?_ ?_ ?_ ?_ ?_ ?_ ?_ ?_ ?_ ?_ ?_ ?_ ?_ ?_ ?_ ?_ ?_ ?_ ?_ ?_ ?_ ?_ ?_ ?_ ?_ ?_ ?_ ?_ ?_ ?_ ?_ ?_ ?_ ?_ ?_ ?_ ?_ ?_ ?_ ?_ ?_ ?_ ?_ ?_ ?_ ?_ ?_ ?_ ?_ ?_ ?_ ?_ ?_ ?_ ?_ ?_ ?_ ?_ ?_ ?_ ?_ ?_ ?_ ?_ ?_ ?_ ?_ ?_ ?_ ?_ ?_ ?_ ?_ ?_ ?_ ?_ ?_ ?_ ?_ ?_ ?_ ?_ ?_ ?_ ?_ ?_ ?_ ?_ (V2.apY KX G ?_ ?_) ?_ ⟨?_,?_,?_,?_⟩ ?_ ?_ ?_ ?_ ?_ ?_ ?_ ?_ ?_ (V2.asJ ?_ ?_ ?_ ?_ ?_ ?_) (V2.rD ?_ ?_ ?_ ?_ ?_) (V2.rD ?_ ?_ ?_ ?_ ?_) (V2.rD ?_ ?_ ?_ ?_ ?_) (V2.rD ?_ ?_ ?_ ?_ ?_) (V2.awC ?_ ?_ ?_ ?_ ?_ ?_ ?_) (V2.rD ?_ ?_ ?_ ?_ ?_) (V2.rD ?_ ?_ ?_ ?_ ?_) (V2.rD ?_ ?_ ?_ ?_ ?_) (V2.rD ?_ ?_ ?_ ?_ ?_) (V2.rD ?_ ?_ ?_ ?_ ?_) (V2.rD ?_ ?_ ?_ ?_ ?_) (V2.rD ?_ ?_ ?_ ?_ ?_) (V2.rD ?_ ?_ ?_ ?_ ?_) (V2.rD ?_ ?_ ?_ ?_ ?_) (V2.rD ?_ ?_ ?_ ?_ ?_) (V2.aHD KX G ?_ ?_ ?_ ?_ ?_ ?_ ?_) ?_ ?_ ?Yo ?Zs ?hsub ?hnd ?hall <;> try first|exact(show(_)[_]?=aj (Value.ref _)from rfl)|k_is|kernel_rfl|k_exc
   (case hsub=>decide)
   (case hnd=>decide)
   (case hall=>intro P hP;first|simpa using hP|(simp at hP;omega)|(simp only[dU,zP,yK]at hP;rcases hP with e|e <;> simp[e];done)|(simp only[dU,zP,yK]at hP;rcases hP with e|e|e <;> simp[e]))
