import PyProof.Rows.All
import KE.IntTextLaws
import KE.KIsAll
import KE.KItemsList
import KE.KLam
import KE.KNestM
import KE.KRevIter
import KE.KSortTup
import KE.LcSums
import PySem.Challenge.RW_rankpouch_k41_gaps_bounds
set_option Elab.async false
set_option linter.all false
set_option maxRecDepth 100000
set_option compiler.extract_closed false
set_option genSizeOf false
set_option bootstrap.genMatcherCode false
noncomputable section
open PySem renaming wpAny_bind->aL,wpAny_pure->bH,sizeLine_eq->nD,wpAny_newObj_type->oK,wpAny_mono->pN,codeAny_mono->rZ,wpAny_call_entry->sL,wpAny_ite_false->tZ,wpAny_Call_Name_kw->uA,wpAny_truthy_bool->vG,wpAny_setField_rec->xW,wpAny_setState_of->zW,wpAny_field->zX,wpAny_call->zY,wpAny_askSetting->zZ,wpAny_setEntries_of->DM,wpAny_passesOwn->DN,wpAny_holding->DO,wpAny_callSpecial?_slot->DP,wpAny_fieldsOf->IH,wpAny_attempt->II,codeAny_builtin->MB,call_meetsIn->MH,plainId_quiet->PD,wpAny_ite_true->VB,wpAny_isInstance->VC,wpAny_execs_nil->VD,wpAny_Call_method0_late->VF,tupleKind_room_in1->WM,fits_of_scanBound->Dx
open List renaming map_cons->cK,mem_cons->dI,getElem?_eq_some_iff->dO,getElem?_eq_getElem->dP,mem_cons_of_mem->fL,length_cons->gZ,getElem?_set_self->iD,size_toArray->iZ,mem_map->jA,getElem?_map->jV,getElem?_set_ne->kG,getElem?_append_left->kP,length_map->lJ,sum_cons->lZ,nodup_cons->pE,mem_of_getElem?->pF,map_nil->pG,mem_singleton->qA,drop_eq_getElem_cons->qY,length_append->sD,set_set->uV,mem_append_right->uW,append_nil->uX,not_mem_nil->xI,map_map->xJ,drop_length->xK,pairwise_cons->zN,eq_nil_of_length_eq_zero->zO,nil_append->DB,mem_append->DC,map_append->DD,length_nil->DE,find?_cons->DF,append_assoc->DG,map_congr_left->GX,lookup_cons->GY,getElem?_append_right->GZ,all_eq_true->HA,nodup_append->MY,length_set->MZ,getElem?_take->NA,getElem?_eq_none->NB,any_cons->NC,mem_map_of_mem->TJ,mem_append_left->TK,filterMap_cons->TL,ext_getElem?->TM,any_eq_true->TN,of_mem_zip->Il,mem_filter->Im,getElem_mem->Io,cons_append->Ip,all_cons->Iq,mem_of_find?_eq_some->Zp,length_filter_le->Zq,getElem?_cons_succ->Zr,filter_sublist->Zs,length_filter_eq_length_iff->axI
open PySem.Heap renaming get?_push_of_some->dQ,lt_size->eB,get?_push_size->fW,get?_update_other->sE,size_push->HH,get?_update_self->TZ
open Ne renaming symm->dX
open Nat renaming ne_of_lt->gB,lt_of_lt_of_le->lI,le_trans->pC,le_refl->tV,zero_le->zK,zero_add->CW,ne_of_gt->GP,le_succ->GQ,lt_succ_self->SW,lt_succ_of_lt->Hu,lt_or_ge->Hv,le_of_not_lt->Hw,le_of_lt->Hx
open Option.some renaming inj->kE,injEq->kO
open _root_ renaming if_true->kL,decide_eq_false->oF,if_false->pS,or_false->vW,decide_eq_true->xA,beq_iff_eq->xF,beq_eq_false_iff_ne->xG,decide_eq_true_eq->RH,getElem?_pos->Dj,of_decide_eq_true->Pg
open Bool renaming and_eq_true->mC,false_eq_true->IG,false_ne_true->Jw
open List.cons renaming injEq->qZ
open PySem.W renaming mg_none_of->rQ
open Array renaming length_toList->sI,getElem?_eq_some_iff->NV,getElem?_toList->Jy,getElem?_eq_getElem->Jz,getElem?_eq_none_iff->aaF
open Function renaming comp_def->uZ
open Int renaming le_refl->xN,toNat_natCast->DI,le_trans->HG,emod_lt_of_pos->NF,add_comm->NG,zero_add->TU,mul_add->TV,emod_nonneg->TX,natCast_zero->Jb,le_of_eq->Jc,eq_ofNat_of_zero_le->Zu
open PyProof.Rows renaming boot_isinstance->zH,boot_max->CM,callWith_type1->SU,boot_list->SV,boot_bool->Ho,slot_tuple_getitem->Zd
open Option renaming map_eq_some_iff->CT,map_some->GO,bind_eq_some_iff->Hr,isSome_map->Zh
open PySem.Calls renaming spliced_cons->ID,callWith_builtin->IE,spliced_nil->NU,evalArgs_plain->aaB
open List.Perm renaming refl->ND
open Classical renaming choose_spec->UR
open PySem.Around renaming under_plainId->UT
open Prod.mk renaming injEq->Hq
open PyProof.Rows.F renaming plain_set_update_loop->Ze,entry_set_update_loop->awK
open Option renaming some->ag,none->ao
open _root_ renaming List->ai,Option->aq,Int->aw,Nat->ax,if_pos->a6,if_neg->a7,Bool->bc,Array->bh,absurd->bp,False->bz,String->cc,congrArg->cy,Decidable->c2,beq_eq_false_iff_ne->de
open PySem renaming Value->aj,Addr->ar,Shared->au,sizeLine->ay,Str->az,starEach->a5,mainGlobals->a8,Program->a9,model->bb,World->bf,Expr->bg,Around->bj,Heap->bo,Stmt->bq,compareOp->br,eval->bt,attributeBase->bu,rawInt->bw,SetTable->bx,Scope->b0,backTo->b7,FuncData->b8,binaryOp->b9,Obj->cb,intKind->cg,Arguments->ck,bootBuiltins->cm,Pos->cn,foldedSetIterable->cp,bindArgs->cq,keywordEach->cv,behindInMarks->cw,assignEach->cx,NameKind->cz,sysModules->c3,firstArgMember->c7,scanBound->c9,pyNext->df,swapsWith->dj,cLine->dm,sliceBounds->dn
open Bool renaming false->ak,true->av
open PySem.W renaming Frag->ba,findIn->c4,boot_heap->da,keepIn->dh,fnOf->di,emptyDict->dk
open PyProof.Rows renaming envOfC->cj,IntsAre->cu,seqObj->c5,step_dedup->c6,lo1->c8
theorem oIr{α:Sort _}{a:α}{q:Prop}:a=a\/q:=Or.inl rfl
theorem bG{α β j:Sort _}{f:α->β->j}:∀x y,f x y=f x y:=λ_ _=>rfl
theorem cR{n:ax}:n<=n:=tV n
theorem wL{n:aw}:n<=n:=xN n
theorem kU{α:Type _}{a:α}{l:ai α}:a∈a::l:=List.mem_cons_self ..
theorem AW{n:ax}:0<=n:=zK n
open PySem.W (Frag OpenLaw callWith_K cellsFrom_some codeHdIn codeIn emptyDict envX findIn fnOf hasDictIn instObj isFn keepIn kia_one kitOne kla_fn kla_obj lookIn makesIn methodCall_KW methodObj mg_of noTabs nsIn plainGet plainGet_of specialIn tabIn tabObj takerIn)
namespace L2
open PySem PySem.Spec PyProof.Rows
abbrev Key:=Sum aw az
noncomputable def EN:Key->aj->bc
 |.inl k,v=>Value.isInt k v
 |.inr x,v=>Value.isStrOf x v
noncomputable def amM(w:bf):Key->aw
 |.inl k=>hashInt k
 |.inr x=>hashStr w x
theorem tI:∀{k:Key} {v:aj},EN k v=av->(∃i t,k=Sum.inl i/\v=Value.int i t)\/(∃x t,k=Sum.inr x/\v=Value.str x t)
 |.inl i,v,h=>by
  obtain⟨t,e⟩:=Value.isInt_shape (k:=i) (v:=v) h;exact .inl ⟨i,t,rfl,e⟩
 |.inr x,v,h=>by
  obtain⟨t,e⟩:=Value.isStrOf_shape (x:=x) (v:=v) h;exact .inr ⟨x,t,rfl,e⟩
theorem amL(i:aw)(t:Tok):EN (.inl i) (.int i t)=av:=by simp[EN,Value.isInt]
theorem amK(x:az)(t:Tok):EN (.inr x) (.str x t)=av:=by simp[EN,Value.isStrOf]
theorem amJ(a b:aw):decide ((Sum.inl a:Key)=Sum.inl b)=(a==b):=by
 by_cases e:a=b
 ·subst e;simp
 ·have h:¬(Sum.inl a:Key)=Sum.inl b:=λq=>e (Sum.inl.inj q);rw[oF h];exact(xG.mpr e).symm
theorem amG(a b:az):decide ((Sum.inr a:Key)=Sum.inr b)=decide (a=b):=by
 by_cases e:a=b
 ·subst e;simp
 ·have h:¬(Sum.inr a:Key)=Sum.inr b:=λq=>e (Sum.inr.inj q);rw[oF h,oF e]
theorem amI(a:aw)(b:az):decide ((Sum.inl a:Key)=Sum.inr b)=ak:=oF (λq=>nomatch q)
theorem amH(a:az)(b:aw):decide ((Sum.inr a:Key)=Sum.inl b)=ak:=oF (λq=>nomatch q)
def jD(prog:a9)(w:bf):PySem.KeyKind prog w Key where
 is:=EN
 hash:=amM w
 inj:=λv a b B hb=>by
  rcases tI B with⟨i,t,rfl,rfl⟩|⟨x,t,rfl,rfl⟩
  ·rcases tI hb with⟨j,u,rfl,e⟩|⟨y,u,rfl,e⟩
   ·injection e with q _;rw[q]
   ·exact nomatch e
  ·rcases tI hb with⟨j,u,rfl,e⟩|⟨y,u,rfl,e⟩
   ·exact nomatch e
   ·injection e with q _;rw[q]
 byValue:=λk v h=>by
  rcases tI h with⟨i,t,rfl,rfl⟩|⟨x,t,rfl,rfl⟩ <;> rfl
 pyHash:=λhv h=>by
  rcases tI hv with⟨i,t,rfl,rfl⟩|⟨x,t,rfl,rfl⟩
  ·exact wpAny_pyHash_int h
  ·exact wpAny_pyHash_str h
 eqBool:=λz hv h=>by
  rcases tI z with⟨i,t,rfl,rfl⟩|⟨x,t,rfl,rfl⟩
  ·rcases tI hv with⟨j,u,rfl,rfl⟩|⟨y,u,rfl,rfl⟩
   ·rw[amJ]at h;exact wpAny_eqBool_int h
   ·rw[amI]at h;exact SeqAt.EqAt.int_str i t y u _ _ _ _ h
  ·rcases tI hv with⟨j,u,rfl,rfl⟩|⟨y,u,rfl,rfl⟩
   ·rw[amH]at h;exact SeqAt.EqAt.str_int x t j u _ _ _ _ h
   ·rw[amG]at h;exact wpAny_eqBool_str h
 «strs»:=λk x t v h=>by
  rcases tI h with⟨i,u,rfl,e⟩|⟨y,u,rfl,e⟩
  ·exact nomatch e
  ·injection e with q _;subst q;cases v <;> rfl
theorem alB(prog:a9)(w:bf)(i:aw)(t:Tok):(jD prog w).is (.inl i) (.int i t)=av:=amL i t
theorem alA(prog:a9)(w:bf)(x:az)(t:Tok):(jD prog w).is (.inr x) (.str x t)=av:=amK x t
inductive V where
 |cV|bl (b:bc)|int (i:aw)|str (x:az)|RM (b:bh UInt8)|CB (b:UInt64)|ref (a:ar)|ty (n:cc)
 deriving DecidableEq
def RelV:V->aj->Prop
 |.cV,u=>u=Value.none
 |.bl b,u=>u=Value.bool b
 |.int i,u=>∃t,u=Value.int i t
 |.str x,u=>∃t,u=Value.str x t
 |.RM b,u=>∃t,u=Value.bytes b t
 |.CB b,u=>∃t,u=Value.float b t
 |.ref a,u=>u=Value.ref a
 |.ty n,u=>u=Value.type n
abbrev Vals:ai V->ai aj->Prop:=Paired RelV
theorem Vals.length{xs:ai V}{us:ai aj}(r:Vals xs us):xs.length=us.length:=Paired.length r
theorem Vals.get:∀{xs:ai V} {us:ai aj} {i:ax} {x:V},Vals xs us->xs[i]?=ag x->∃u,us[i]?=ag u/\RelV x u
 |_,_,_,_,.nil,e=>by simp at e
 |_,_,0,_,.cons r _,e=>by simp at e;subst e;exact⟨_,rfl,r⟩
 |_,_,i+1,x,.cons _ t,e=>by
  obtain⟨u,h1,h2⟩:=Vals.get (i:=i) (x:=x) t (by simpa using e);exact⟨u,by simpa using h1,h2⟩
theorem Vals.set{x:V}{u:aj}(r:RelV x u):∀{xs:ai V} {us:ai aj} (i:ax),Vals xs us->Vals (xs.set i x) (us.set i u)
 |_,_,_,.nil => .nil
 |_,_,0,.cons _ t => .cons r t
 |_,_,i+1,.cons q t => .cons q (Vals.set r i t)
theorem Vals.append:∀{xs ys:ai V} {us ws:ai aj},Vals xs us->Vals ys ws->Vals (xs++ys) (us++ws)
 |_,_,_,_,.nil,s=>s
 |_,_,_,_,.cons r t,s => .cons r (Vals.append t s)
theorem Vals.take:∀{xs:ai V} {us:ai aj} (n:ax),Vals xs us->Vals (xs.take n) (us.take n)
 |_,_,0,_ => .nil
 |_,_,_+1,.nil => .nil
 |_,_,n+1,.cons r t => .cons r (Vals.take n t)
theorem Vals.drop:∀{xs:ai V} {us:ai aj} (n:ax),Vals xs us->Vals (xs.drop n) (us.drop n)
 |_,_,0,r=>r
 |_,_,_+1,.nil => .nil
 |_,_,n+1,.cons _ t=>Vals.drop n t
def lX:aq V->aq aj->Prop
 |some v,ag u=>RelV v u
 |none,ao=>True
 |_,_=>bz
def KV{κ:Type}:ai (κ×V)->ai (κ×aj)->Prop:=Paired λ(p:κ×V) (q:κ×aj)=>p.1=q.1/\RelV p.2 q.2
noncomputable def kV:Key->V
 |.inl i => .int i
 |.inr x => .str x
inductive HO where
 |lst (xs:ai V)
 |tup (xs:ai V)
 |dK (kvs:ai (Key×V))|dT (kvs:ai (ai Key×V))
 |set (S:aw->bc) (n:ax)
 |ins (C dx:ar) (fs:ai (az×V))
 |own (x:ar)
 |xd (fs:ai (az×V))
 |met (f x:ar)
 |ZP (lo hi:aw)
 |eP (o:cb) (u:HO)
 |iN (ps:bh aj)
 |ext (φ:bo->Prop)
abbrev Hp:=ar->aq HO
noncomputable def upd(H:Hp)(a:ar)(o:HO):Hp:=λb=>if b=a then ag o else H b
theorem dZ{H:Hp}{a:ar}{o:HO}:upd H a o a=ag o:=by unfold upd;rw[a6 rfl]
theorem bO{H:Hp}{a b:ar}{o:HO}(h:b≠a):upd H a o b=H b:=by unfold upd;rw[a7 h]
theorem JN{H:Hp}{a b:ar}{o u:HO}(h:H a=ag o)(h':H b=ag u)(d:o≠u):a≠b:=by
 intro e;subst e;rw[h]at h';exact d (kE h')
theorem iG{H:Hp}{a b:ar}{o:HO}(h:H a=ag o)(h':H b=ao):a≠b:=by
 intro e;subst e;rw[h]at h';cases h'
section
variable(P:a9)(w:bf)
def iC(H:Hp)(h:bo)(a:ar):HO->Prop
 | .lst xs=>xs.length<=ay/\∃(j:ai aj) (n:ax),Vals xs j/\h.get? a=ag {cls:=.type "list",data:=.seq j.toArray n}
 |.tup xs=>xs.length<=ay/\∃j:ai aj,Vals xs j/\IsTup h a j.toArray
 |.dK kvs=>kvs.length<=ay/\(a==c3)=ak/\∃vs,KV kvs vs/\h.DictOf (jD P w) a vs
 |.dT kvs=>kvs.length<=ay/\(a==c3)=ak/\∃xs:ai (ai Key×ar×aj),
   Paired (λ(p:ai Key×V) (q:ai Key×ar×aj)=>p.1=q.1/\H q.2.1=ag (.tup (p.1.map kV))/\RelV p.2 q.2.2) kvs xs /\
   ∃o es ep,h.get? a=ag o/\o.ExactDict/\o.data=.dict es ep/\es.toList=xs.map (entryOfKey (tupleKind (jD P w)))/\(xs.map (·.1)).Nodup
 |.set S n=>h.SetOf (cg P w) a S n
 |.ins C dx fs=>H dx=ag (.own a)/\fs.length<=1000/\dx≠a/\h.get? a=ag (instObj C dx) /\
   ∃mA,h.Ns1 dx mA/\(∀f,lX (fs.lookup f) (mA f))/\PySem.Within mA (fs.map (·.1))
 |.own _=>∃o,h.get? a=ag o
 |.xd fs=>∃mA,h.Ns1 a mA/\∀f,lX (fs.lookup f) (mA f)
 | .ZP lo hi=>∃t u v,h.get? a=ag {cls:=.type "range",data:=.fields #[.int lo t,.int hi u,.int 1 v]}
 |.eP o u=>h.get? a=ag o/\iC H h a u
 |.iN ps=>h.get? a=ag {cls:=.none,data:=.fields ps}
 |.met f x=>h.get? a=ag (methodObj (.ref f) (.ref x))
 |.ext z=>z h/\(∃o,h.get? a=ag o)/\∀h1 h2:bo,z h1->(∀o,h1.get? a=ag o->h2.get? a=ag o)->z h2
def fE(H:Hp)(h:bo):Prop:=∀a o,H a=ag o->iC P w H h a o
end
section
variable{P:a9}{w:bf}{H H':Hp}{h h':bo}{a:ar}{o:HO}
theorem iC.lt(x:iC P w H h a o):a<h.objs.size:=by
 cases o with
 |lst xs=>obtain⟨_,_,_,_,e⟩:=x;exact eB e
 |tup xs=>obtain⟨_,_,_,p⟩:=x;exact p.lt
 |dK j=>obtain⟨_,_,_,_,o,_,_,e,_⟩:=x;exact eB e
 |dT j=>obtain⟨_,_,_,_,o,_,_,e,_⟩:=x;exact eB e
 |set S n=>obtain⟨o,_,_,_,e,_⟩:=x;exact eB e
 |ins C N fs=>obtain⟨_,_,_,e,_⟩:=x;exact eB e
 |own y=>obtain⟨_,e⟩:=x;exact eB e
 |xd fs=>obtain⟨_,⟨_,_,_,e,_⟩,_⟩:=x;exact eB e
 |ZP lo hi=>obtain⟨_,_,_,e⟩:=x;exact eB e
 |eP B u=>obtain⟨e,_⟩:=x;exact eB e
 |iN z=>exact eB (show h.get? a=ag _ from x)
 |met f y=>exact eB (show h.get? a=ag _ from x)
 |ext q=>obtain⟨_,⟨_,e⟩,_⟩:=x;exact eB e
theorem Paired.Au{α β:Type}{F G:α->β->Prop}:∀{l₁:ai α} {l₂:ai β},Paired F l₁ l₂->(∀a b,F a b->G a b)->Paired G l₁ l₂
 |_,_,.nil,_ => .nil
 |_,_,.cons r t,f => .cons (f _ _ r) (Paired.Au t f)
theorem iC.nC(x:iC P w H h a o)(k:∀b u,(b=a\/H b=ag (.own a))->h.get? b=ag u->h'.get? b=ag u)
  (A:∀b,H b=ag (.own a)->H' b=ag (.own a)) (s:∀b xs,H b=ag (.tup xs)->H' b=ag (.tup xs)):iC P w H' h' a o:=by
 induction o with
 |lst xs=>obtain⟨z,i,n,r,e⟩:=x;exact⟨z,i,n,r,k _ _ (.inl rfl) e⟩
 |tup xs=>obtain⟨z,i,r,j,e,c⟩:=x;exact⟨z,i,r,j,k _ _ (.inl rfl) e,c⟩
 |dK g=>obtain⟨z,y,m,r,j,es,B,e,c⟩:=x;exact⟨z,y,m,r,j,es,B,k _ _ (.inl rfl) e,c⟩
 |dT g =>
  obtain⟨z,y,xs,r,j,es,B,e,c⟩:=x;exact⟨z,y,xs,Paired.Au r λp q z=>⟨z.1,s _ _ z.2.1,z.2.2⟩,j,es,B,k _ _ (.inl rfl) e,c⟩
 |set S n=>obtain⟨j,es,B,t,e,c⟩:=x;exact⟨j,es,B,t,k _ _ (.inl rfl) e,c⟩
 |ins C F fs =>
  obtain⟨d,z,ne,e,U,⟨N,es,B,D,c⟩,r⟩:=x;exact⟨A _ d,z,ne,k _ _ (.inl rfl) e,U,⟨N,es,B,k _ _ (.inr d) D,c⟩,r⟩
 |own y=>obtain⟨j,e⟩:=x;exact⟨j,k _ _ (.inl rfl) e⟩
 |xd fs=>obtain⟨U,⟨N,es,B,e,c⟩,r⟩:=x;exact⟨U,⟨N,es,B,k _ _ (.inl rfl) e,c⟩,r⟩
 |ZP lo hi=>obtain⟨t,u,v,e⟩:=x;exact⟨t,u,v,k _ _ (.inl rfl) e⟩
 |eP j u ih=>obtain⟨e,q⟩:=x;exact⟨k _ _ (.inl rfl) e,ih q⟩
 |iN l =>
  have e:h.get? a=ag {cls:=.none,data:=.fields l}:=x;show h'.get? a=ag {cls:=.none,data:=.fields l};exact k a _ (.inl rfl) e
 |met f y =>
  have e:h.get? a=ag (methodObj (.ref f) (.ref y)):=x;show h'.get? a=ag (methodObj (.ref f) (.ref y));exact k a _ (.inl rfl) e
 |ext E=>obtain⟨p,⟨o,e⟩,st⟩:=x;exact⟨st _ _ p λo q=>k _ _ (.inl rfl) q,⟨o,k _ _ (.inl rfl) e⟩,st⟩
theorem fE.lt(x:fE P w H h)(e:H a=ag o):a<h.objs.size:=(x a o e).lt
theorem fE.fresh(x:fE P w H h)(e:h.objs.size<=a):H a=ao:=by
 cases q:H a with
 |none=>rfl
 |some u=>exact bp (lI (x.lt q) e) (Nat.lt_irrefl _)
theorem fE.kept(x:fE P w H h)(k:∀b u,h.get? b=ag u->h'.get? b=ag u):fE P w H h':=λa o e =>
 (x a o e).nC (λb u _ q=>k b u q) (λ_ q=>q) λ_ _ q=>q
theorem fE.laid(x:fE P w H h)(k:∀b u,h.get? b=ag u->h'.get? b=ag u)(j:h.objs.size<=a)(new:iC P w (upd H a o) h' a o):fE P w (upd H a o) h':=λb u e=>by
 have hn:=x.fresh j
 by_cases hb:b=a
 ·subst hb;rw[dZ]at e;cases e;exact new
 ·rw[bO hb]at e;exact(x b u e).nC (λc v _ q=>k c v q) (λc q=>by rw[bO (iG q hn)];exact q) λc xs q=>by rw[bO (iG q hn)];exact q
end
def Rd(H:Hp)(a:ar)(u:HO):Prop:=H a=ag u\/∃o,H a=ag (.eP o u)
theorem Rd.ok{P:a9}{w:bf}{H:Hp}{h:bo}{a:ar}{u:HO}(r:Rd H a u)(x:fE P w H h):iC P w H h a u:=by
 rcases r with r|⟨o,r⟩
 ·exact x a u r
 ·obtain⟨_,q⟩:=x a _ r;exact q
def MU:aq HO->Prop
 |some (.lst _)=>True
 |some (.dK _)=>True
 |some (.dT _)=>True
 |some (.set _ _)=>True
 |some (.ins _ _ _)=>True
 |some (.ext _)=>True
 |_=>bz
section
variable{P:a9}{w:bf}{H:Hp}{h h':bo}{x e:ar}{o':HO}
theorem fE.write(ok:fE P w H h)(j:MU (H x))(he:e=x\/H e=ag (.own x))(k:∀b u,b≠e->h.get? b=ag u->h'.get? b=ag u)(f:∃u,h'.get? e=ag u)
  (new:iC P w (upd H x o') h' x o'):fE P w (upd H x o') h':=λb u q=>by
 have d:∀c y,H c=ag (.own y)->c≠x:=λc y r z=>by subst z;rw[r]at j;exact j
 have U:∀c xs,H c=ag (.tup xs)->c≠x:=λc xs r z=>by subst z;rw[r]at j;exact j
 by_cases hb:b=x
 ·subst hb;rw[dZ]at q;cases q;exact new
 ·rw[bO hb]at q
  by_cases N:b=e
  ·have a:H b=ag (.own x):=by
    rcases he with z|z
    ·exact bp (N.trans z) hb
    ·rw[N];exact z
   rw[q]at a;cases a;obtain⟨v,hv⟩:=f;exact⟨v,by rw[N];exact hv⟩
  ·refine(ok b u q).nC (λc v B r=>k c v ?_ r) (λc r=>by rw[bO (d c b r)];exact r) λc xs r=>by rw[bO (U c xs r)];exact r
   rcases B with rfl|B
   ·exact N
   ·rintro rfl
    rcases he with z|z
    ·exact d c b B z
    ·rw[B]at z;cases z;exact hb rfl
end
structure Un(fs ex:ai ar)(H H':Hp)(h h':bo):Prop where
 keep:∀b o,h.get? b=ag o->H b=ao->b∉fs->b∉ex->h'.get? b=ag o
 slot:∀b o,h.get? b=ag o->H b=ao->b∈fs->b∉ex->∃sl,h'.get? b=ag {o with slots:=sl}
 free:∀b o,h.get? b=ag o->H b=ao->b∉ex->H' b=ao
 there:∀b o,h.get? b=ag o->b∉ex->∃o',h'.get? b=ag o'
 nA:∀b xs,H b=ag (.tup xs)->H' b=ag (.tup xs)
 lG:∀b o u,H b=ag (.eP o u)->H' b=ag (.eP o u)
 mK:∀b ps,H b=ag (.iN ps)->∃more,H' b=ag (.iN (ps++more))
section
variable{fs iA ex Vc:ai ar}{H H1 H2:Hp}{h h1 h2 h':bo}{a x e:ar}{o:HO}
theorem Un.any(u:Un fs ex H H1 h h1){b:ar}{j:cb}(q:h.get? b=ag j)(n:H b=ao)(z:b∉ex):∃sl,h1.get? b=ag {j with slots:=sl}:=by
 by_cases hb:b∈fs
 ·exact u.slot b j q n hb z
 ·exact⟨j.slots,u.keep b j q n hb z⟩
theorem Un.trans(a:Un fs ex H H1 h h1)(b:Un fs ex H1 H2 h1 h2):Un fs ex H H2 h h2 where
 keep:=λc j q n N z=>b.keep c j (a.keep c j q n N z) (a.free c j q n z) N z
 slot:=λc j q n N z=>by
  obtain⟨sl,B⟩:=a.slot c j q n N z;obtain⟨i,d⟩:=b.slot c _ B (a.free c j q n z) N z;exact⟨i,d⟩
 free:=λc j q n z=>by
  obtain⟨U,B⟩:=a.there c j q z;exact b.free c U B (a.free c j q n z) z
 there:=λc j q z=>by
  obtain⟨U,B⟩:=a.there c j q z;exact b.there c U B z
 nA:=λc xs q=>b.nA c xs (a.nA c xs q)
 lG:=λc j xs q=>b.lG c j xs (a.lG c j xs q)
 mK:=λc e q=>by
  obtain⟨g,B⟩:=a.mK c e q;obtain⟨f,d⟩:=b.mK c _ B;exact⟨g++f,by rw[d,Array.append_assoc]⟩
theorem Un.kept(k:∀b u,h.get? b=ag u->h'.get? b=ag u):Un fs ex H H h h' :=
 ⟨λb j q _ _ _=>k b j q,λb j q _ _ _=>⟨j.slots,k b j q⟩,λ_ _ _ n _=>n,λb j q _=>⟨j,k b j q⟩,λ_ _ q=>q,λ_ _ _ q=>q,λ_ z q=>⟨#[],by rw[q];simp⟩⟩
theorem Un.refl:Un fs ex H H h h:=Un.kept λ_ _ q=>q
theorem Un.laid(k:∀b u,h.get? b=ag u->h'.get? b=ag u)(j:h.objs.size<=a)(hn:H a=ao):Un fs ex H (upd H a o) h h' where
 keep:=λb u q _ _ _=>k b u q
 slot:=λb u q _ _ _=>⟨u.slots,k b u q⟩
 free:=λb u q n _=>by rw[bO (gB (lI (eB q) j))];exact n
 there:=λb u q _=>⟨u,k b u q⟩
 nA:=λb xs q=>by rw[bO (iG q hn)];exact q
 lG:=λb u xs q=>by rw[bO (iG q hn)];exact q
 mK:=λb z q=>⟨#[],by rw[bO (iG q hn),q];simp⟩
theorem Un.write(j:MU (H x))(he:e=x\/H e=ag (.own x))(k:∀b u,b≠e->h.get? b=ag u->h'.get? b=ag u)(U:∃u,h'.get? e=ag u):Un fs ex H (upd H x o) h h':=by
 have B:∀b,H b=ao->b≠x:=λb n z=>by subst z;rw[n]at j;exact j
 have hb:∀b,H b=ao->b≠e:=λb n z=>by
  subst z
  rcases he with r|r
  ·exact B b n r
  ·rw[n]at r;cases r
 have hm:∀b u,H b=ag u->¬MU (ag u)->b≠x:=λb u q nm z=>by subst z;rw[q]at j;exact nm j
 refine⟨λb u q n _ _=>k b u (hb b n) q,λb u q n _ _=>⟨u.slots,k b u (hb b n) q⟩,λb u q n _=>by rw[bO (B b n)];exact n,λb u q _=>?_,
  λb xs q=>by rw[bO (hm b _ q λz=>z)];exact q,λb u xs q=>by rw[bO (hm b _ q λz=>z)];exact q,λb a q=>⟨#[],by rw[bO (hm b _ q λz=>z),q];simp⟩⟩
 by_cases N:b=e
 ·subst N;exact U
 ·exact⟨u,k b u N q⟩
theorem Un.mono(u:Un fs ex H H1 h h1)(N:∀b∈fs,b∈iA)(B:∀b∈ex,b∈Vc):Un iA Vc H H1 h h1 :=
 ⟨λb j q n hb he=>u.keep b j q n (λz=>hb (N b z)) λz=>he (B b z),λ_ _ q n _ he=>u.any q n λz=>he (B _ z),λb j q n he=>u.free b j q n λz=>he (B b z),λb j q he=>u.there b j q λz=>he (B b z),u.nA,u.lG,u.mK⟩
end
noncomputable def OH(h:bo)(H:Hp):ai ar:=(List.range h.objs.size).filter λa=>(H a).isSome
def uL(h:bo)(H:Hp):bo:=PySem.W.hideAll h (OH h H)
theorem ao7(h:bo)(H:Hp):(uL h H).objs.size=h.objs.size:=PySem.W.hideAll_size _ _
theorem ao8{h:bo}{H:Hp}{b:ar}{o:cb}(e:h.get? b=ag o)(n:H b=ao):(uL h H).get? b=ag o :=
 PySem.W.hideAll_get _ e λhm=>by
  have q:(H b).isSome=av:=(Im.mp hm).2;rw[n]at q;simp at q
theorem aj2{h:bo}{H:Hp}{b:ar}{o:cb}(e:(uL h H).get? b=ag o):h.get? b=ag o/\H b=ao:=by
 have j:h.get? b=ag o:=PySem.W.of_hideAll (OH h H) e;refine⟨j,?_⟩;cases q:H b with
 |none=>rfl
 |some x =>
  have hm:b∈OH h H:=Im.mpr ⟨List.mem_range.mpr (eB j),by simp[q]⟩;have z:(uL h H).get? b=ao:=PySem.W.hideAll_none (OH h H) hm;rw[z]at e;cases e
structure Mod(K:ba)(mg:az->aq aj)(base:bo):Prop where
 rS:K.In base
 glob:base.Ns a8 mg
 blt:∃mb,base.Ns builtinsNs mb/\∀x:az,x≠"__name__"->mb x=cm x
 nolimit:base.NoLimit
structure Cx where
 prog:a9
 w:bf
 K:ba
 mg:az->aq aj
 base:bo
 A:bj
 N:ai az
 s₀:au
 H₀:Hp
 env:Env
 outer:ai Env
 stack:ai Env
 ex:ai ar
 fn:az->bc
 calm:bc
 pn:ai (ar×cb)
 xe:aj->au->Prop
noncomputable def iI(l:ai Env):ai ar:=l.filterMap (·.frame)
abbrev Cx.fs(X:Cx):ai ar:=iI X.outer
def MO(sc:b0)(x:az):Prop:=sc.names.lookup x=ag .local\/sc.names.lookup x=ag .cell\/sc.names.lookup x=ag .free
def Loc(sc:b0)(x:az):Prop:=sc.names.lookup x=ag .local\/sc.names.lookup x=ag .cell
def Look(env:Env)(h:bo)(m:az->aq aj)(x:az)(u:aj):Prop :=
 (env.kindOf x=ag .local/\m x=ag u)\/((env.kindOf x=ag .cell\/env.kindOf x=ag .free)/\∃c,env.cells.lookup x=ag c/\h.IsCell c (ag u))
structure Cx.Ok(X:Cx):Prop where
 mod:Mod X.K X.mg X.base
 kind:X.env.scope.kind=.function
 glob:X.env.globals=a8
 blt:X.env.builtins=builtinsNs
 above:X.s₀.heap.objs.size<=X.env.locals
 inj:∀x y c,X.env.cells.lookup x=ag c->X.env.cells.lookup y=ag c->x=y
 has:∀x,(X.env.kindOf x=ag .cell\/X.env.kindOf x=ag .free)->∃c,X.env.cells.lookup x=ag c
 FW:∀x c,X.fn x=av->X.env.cells.lookup x=ag c->X.s₀.heap.objs.size<=c
 hd:X.calm=av->X.A.handled=ao
 frames:X.A.frames=ag X.stack
 sX:X.stack=X.outer\/(X.stack=X.env::X.outer/\X.env.frame=ag X.env.locals)
 FK:∀b∈X.ex,b≠X.env.locals/\∀x c,X.env.cells.lookup x=ag c->c≠b
 bs:∀b o,X.base.get? b=ag o->X.s₀.heap.get? b=ag o/\X.H₀ b=ao
 qU:X.base.objs.size<=X.s₀.heap.objs.size
 yM:∀b o,X.base.get? b=ag o->b∉X.ex
 CC:∀b∈X.ex,b∉X.fs
 oC:X.s₀.heap.FunFrames X.base X.outer
 tP:∀b∈X.fs,X.H₀ b=ao
structure Inv(X:Cx)(aa:ai (ar×cb))(J:ai (aq V))(H:Hp)(s:au):Prop where
 ok:X.Ok
 os:s.os=X.s₀.os
 bare:AllBare s.gens
 base:Un X.fs X.ex X.H₀ H X.s₀.heap s.heap
 loc:∃m,s.heap.Ns X.env.locals m/\∀(i:ax) (x:az) (v:V),X.N[i]?=ag x->J[i]?=ag (ag v)->MO X.env.scope x->∃u,RelV v u/\Look X.env s.heap m x u
 cell:∀x c,X.env.cells.lookup x=ag c->∃v,s.heap.IsCell c v
 free:H X.env.locals=ao
 mR:∀x c,X.env.cells.lookup x=ag c->H c=ao
 pin:∀p∈X.pn++aa,s.heap.get? p.1=ag p.2/\H p.1=ao/\p.1≠X.env.locals/\p.1∉X.fs/\∀v,p.2.data≠.cell v
 aK:fE X.prog X.w H s.heap
 len:J.length=X.N.length
section
variable{X:Cx}{aa:ai (ar×cb)}{J:ai (aq V)}{H H':Hp}{s:au}{h':bo}
theorem Cx.Ok.akP(ok:X.Ok){b:ar}{o:cb}(e:X.base.get? b=ag o):b∉X.fs:=λhb=>by
 have:=(ok.oC.mem hb).1;rw[e]at this;cases this
theorem Inv.bs(I:Inv X aa J H s):∀b o,X.base.get? b=ag o->s.heap.get? b=ag o/\H b=ao:=λb o e =>
 ⟨I.base.keep b o (I.ok.bs b o e).1 (I.ok.bs b o e).2 (I.ok.akP e) (I.ok.yM b o e),I.base.free b o (I.ok.bs b o e).1 (I.ok.bs b o e).2 (I.ok.yM b o e)⟩
theorem Inv.bk(I:Inv X aa J H s):∀b o,X.base.get? b=ag o->s.heap.get? b=ag o:=λb o e=>(I.bs b o e).1
theorem Inv.mod(I:Inv X aa J H s):Mod X.K X.mg X.base:=I.ok.mod
theorem Inv.fI(I:Inv X aa J H s):X.K.In s.heap:=I.ok.mod.rS.keeps I.bk
theorem Inv.nolimit(I:Inv X aa J H s):s.heap.NoLimit:=I.ok.mod.nolimit.keeps I.bk
theorem Inv.lt(I:Inv X aa J H s):X.env.locals<s.heap.objs.size:=let ⟨_,hn,_⟩:=I.loc;hn.lt
theorem Inv.sz(I:Inv X aa J H s):X.s₀.heap.objs.size<=s.heap.objs.size:=pC I.ok.above (Hx I.lt)
theorem Inv.akN(I:Inv X aa J H s){a:ar}(h:s.heap.objs.size<=a):a∉X.fs:=λhb=>by
 obtain⟨_,o,j,_⟩:=I.ok.oC.mem hb;exact bp (lI (eB j) (pC I.sz h)) (Nat.lt_irrefl _)
theorem Inv.CI(I:Inv X aa J H s):∀x c,X.env.cells.lookup x=ag c->c≠X.env.locals:=λx c e z=>by
 obtain⟨v,o,j,hd⟩:=I.cell x c e;obtain⟨m,⟨N,es,U,q,B,_⟩,_⟩:=I.loc;rw[z,q]at j;cases j;rw[B]at hd;cases hd
theorem Inv.oC(I:Inv X aa J H s):s.heap.FunFrames X.base X.outer:=by
 have all:∀(l:ai Env),(∀b∈iI l,b∈X.fs)->X.s₀.heap.FunFrames X.base l->s.heap.FunFrames X.base l:=by
  intro l
  induction l with
  |nil=>intro _ _;trivial
  |cons env r ih =>
   intro j hl;obtain⟨B,⟨L,o,hf,hn,q,hd⟩,hr⟩:=hl;have hL:L∈X.fs:=j L (by unfold iI;rw[List.filterMap_cons,hf];exact List.mem_cons_self);obtain⟨sl,e⟩:=I.base.slot L o q (I.ok.tP L hL) hL λz=>I.ok.CC L z hL;exact⟨B,⟨L,_,hf,hn,e,hd⟩,ih (λb hb=>j b (by unfold iI;rw[List.filterMap_cons,hf];exact List.mem_cons_of_mem _ hb)) hr⟩
 exact all X.outer (λ_ hb=>hb) I.ok.oC
theorem Inv.stack(I:Inv X aa J H s):s.heap.FunFrames X.base X.stack:=by
 rcases I.ok.sX with e|⟨e,hf⟩
 ·rw[e];exact I.oC
 ·rw[e];obtain⟨m,hn,_⟩:=I.loc;refine .cons (by rw[I.ok.kind];decide) hf hn ?_ I.oC;exact Heap.get?_none_of_le (pC I.ok.qU I.ok.above)
theorem Inv.IY(I:Inv X aa J H s):∀b∈iI X.stack,b∈X.env.locals::X.fs:=λb hb=>by
 rcases I.ok.sX with e|⟨e,hf⟩
 ·rw[e]at hb;exact fL _ hb
 ·rw[e]at hb;unfold iI at hb;rw[TL,hf]at hb;exact hb
theorem Inv.XH(I:Inv X aa J H s):∀b∈iI X.stack,H b=ao:=λb hb=>by
 rcases dI.mp (I.IY b hb)with e|hb
 ·rw[e];exact I.free
 ·obtain⟨_,o,j,_⟩:=I.ok.oC.mem hb;exact I.base.free b o j (I.ok.tP b hb) λz=>I.ok.CC b z hb
theorem Inv.step{g':bh GenState}{t':ax}{d':Drawn}{ch:ai ar}(I:Inv X aa J H s)
  (U:∀b∈ch,(b∈X.ex\/X.s₀.heap.objs.size<=b)/\b≠X.env.locals/\(∀x c,X.env.cells.lookup x=ag c->c≠b)/\∀p∈X.pn++aa,p.1≠b)
  (keep:∀b o,b≠X.env.locals->b∉X.fs->b∉ch->s.heap.get? b=ag o->H b=ao->h'.get? b=ag o)
  (slot:∀b o,b≠X.env.locals->b∈X.fs->b∉ch->s.heap.get? b=ag o->H b=ao->∃sl,h'.get? b=ag {o with slots:=sl}) (free:∀b o,b∉ch->s.heap.get? b=ag o->H b=ao->H' b=ao)
  (there:∀b o,b∉ch->s.heap.get? b=ag o->∃o',h'.get? b=ag o')
  (nA:∀b xs,H b=ag (.tup xs)->H' b=ag (.tup xs)) (lG:∀b o u,H b=ag (.eP o u)->H' b=ag (.eP o u)) (mK:∀b ps,H b=ag (.iN ps)->∃more,H' b=ag (.iN (ps++more)))
  (ns:∀m,s.heap.Ns X.env.locals m->h'.Ns X.env.locals m) (aK:fE X.prog X.w H' h') (E:AllBare g') :
  Inv X aa J H' {s with heap:=h',gens:=g',drawn:=d',toks:=t' }:=by
 have A:∀b o,X.s₀.heap.get? b=ag o->b≠X.env.locals:=λb o e=>gB (lI (eB e) I.ok.above);have g:∀b o,X.s₀.heap.get? b=ag o->b∉X.ex->b∉ch:=λb o e j hb=>by
  rcases(U b hb).1 with z|z
  ·exact j z
  ·exact bp (lI (eB e) z) (Nat.lt_irrefl _)
 have cellK:∀x c,X.env.cells.lookup x=ag c->∀v,s.heap.IsCell c v->h'.IsCell c v:=λx c e v ⟨o,N,hd⟩=>by
  have f:c∉ch:=λz=>(U c z).2.2.1 x c e rfl
  by_cases y:c∈X.fs
  ·obtain⟨sl,q⟩:=slot c o (I.CI x c e) y f N (I.mR x c e);exact⟨_,q,hd⟩
  ·exact⟨o,keep c o (I.CI x c e) y f N (I.mR x c e),hd⟩
 refine⟨I.ok,I.os,E,⟨λb o e n hb j=>?_,λb o e n hb j=>?_,λb o e n j=>?_,λb o e j=>?_,λb xs e=>nA b xs (I.base.nA b xs e),λb o xs e=>lG b o xs (I.base.lG b o xs e),λb ps e=>?_⟩,?_,λx c e=>?_,?_,λx c e=>?_,λp t=>?_,aK,I.len⟩
 ·exact keep b o (A b o e) hb (g b o e j) (I.base.keep b o e n hb j) (I.base.free b o e n j)
 ·obtain⟨sl,B⟩:=I.base.slot b o e n hb j;obtain⟨G,a⟩:=slot b _ (A b o e) hb (g b o e j) B (I.base.free b o e n j);exact⟨G,a⟩
 ·obtain⟨o',B⟩:=I.base.there b o e j;exact free b o' (g b o e j) B (I.base.free b o e n j)
 ·obtain⟨o',B⟩:=I.base.there b o e j;exact there b o' (g b o e j) B
 ·obtain⟨D,B⟩:=I.base.mK b ps e;obtain⟨C,a⟩:=mK b _ B;exact⟨D++C,by rw[a,Array.append_assoc]⟩
 ·obtain⟨m,hn,hl⟩:=I.loc;refine⟨m,ns m hn,λi x v B a F=>?_⟩;obtain⟨u,r,l⟩:=hl i x v B a F;refine⟨u,r,?_⟩
  rcases l with l|⟨k,c,e,z⟩
  ·exact .inl l
  ·exact .inr ⟨k,c,e,cellK x c e _ z⟩
 ·obtain⟨v,z⟩:=I.cell x c e;exact⟨v,cellK x c e v z⟩
 ·obtain⟨m,⟨o,_,_,N,_⟩,_⟩:=I.loc;exact free _ o (λz=>(U _ z).2.1 rfl) N I.free
 ·obtain⟨v,o,N,hd⟩:=I.cell x c e;exact free c o (λz=>(U c z).2.2.1 x c e rfl) N (I.mR x c e)
 ·obtain⟨e,n,ne,h,d⟩:=I.pin p t;have f:p.1∉ch:=λz=>(U p.1 z).2.2.2 p t rfl;exact⟨keep p.1 p.2 ne h f e n,free p.1 p.2 f e n,ne,h,d⟩
theorem Inv.un{t':ax}(I:Inv X aa J H s)(u:Un X.fs [] H H' s.heap h')(aK:fE X.prog X.w H' h'):Inv X aa J H' {s with heap:=h',toks:=t' }:=by
 obtain⟨m,⟨o,es,c,q,r⟩,_⟩:=id I.loc;obtain⟨sl,hL⟩:=u.any q I.free (by simp);exact I.step (g':=s.gens) (d':=s.drawn) (ch:=[]) (λ_ z=>nomatch z) (λb o _ hb _ e n=>u.keep b o e n hb (by simp)) (λb o _ hb _ e n=>u.slot b o e n hb (by simp)) (λb o _ e n=>u.free b o e n (by simp)) (λb o _ e=>u.there b o e (by simp)) u.nA u.lG u.mK (λa hm=>by
  obtain⟨U,dR,N,j,B⟩:=hm;rw[q]at j;cases j;exact⟨_,dR,N,hL,B⟩) aK I.bare
theorem Inv.call{g':bh GenState}{t':ax}{d':Drawn}{ch:ai ar}(I:Inv X aa J H s)(u:Un (iI X.stack) ch H H' s.heap h')(aK:fE X.prog X.w H' h')(a:AllBare g')
  (q:∀b∈ch,(b∈X.ex\/X.s₀.heap.objs.size<=b)/\b≠X.env.locals/\(∀x c,X.env.cells.lookup x=ag c->c≠b)/\∀p∈X.pn++aa,p.1≠b) :
  Inv X aa J H' {s with heap:=h',gens:=g',drawn:=d',toks:=t' }:=by
 obtain⟨m,⟨o,es,h,N,r⟩,_⟩:=id I.loc;obtain⟨sl,hL⟩:=u.any N I.free λz=>(q _ z).2.1 rfl;exact I.step (ch:=ch) q (λb o hL hb j e n=>u.keep b o e n (λz=>(dI.mp (I.IY b z)).elim hL hb) j) (λb o _ _ j e n=>u.any e n j) (λb o j e n=>u.free b o e n j) (λb o j e=>u.there b o e j) u.nA u.lG u.mK (λg hm=>by
  obtain⟨f,dR,d,B,U⟩:=hm;rw[N]at B;cases B;exact⟨_,dR,d,hL,U⟩) aK a
theorem Inv.turned{t':ax}{it:ar}(I:Inv X aa J H s)(k:∀b o,b≠it->s.heap.get? b=ag o->h'.get? b=ag o)(hn:H it=ao)(hL:it≠X.env.locals)
  (h1:it∈X.ex\/X.s₀.heap.objs.size<=it) (h2:∀x c,X.env.cells.lookup x=ag c->c≠it) (U:∀p∈X.pn++aa,p.1≠it):Inv X aa J H {s with heap:=h',toks:=t' }:=by
 have B:∀b u,H b=ag u->b≠it:=λb u e z=>by rw[z,hn]at e;cases e
 refine I.step (g':=s.gens) (d':=s.drawn) (ch:=[it]) (λb hb=>?_) (λb o _ _ j e _=>k b o (λz=>j (by simp[z])) e) (λb o _ _ j e _=>⟨o.slots,k b o (λz=>j (by simp[z])) e⟩) (λ_ _ _ _ n=>n)
  (λb o j e=>⟨o,k b o (λz=>j (by simp[z])) e⟩) (λ_ _ e=>e) (λ_ _ _ e=>e) (λb d e=>⟨#[],by rw[e];simp⟩) (λm hm=>?_) (λb u e=>?_) I.bare
 ·have e:b=it:=by simpa using hb
  subst e;exact⟨h1,hL,h2,U⟩
 ·obtain⟨o,es,a,N,r⟩:=hm;exact⟨o,es,a,k _ o (dX hL) N,r⟩
 ·refine(I.aK b u e).nC (λc v j q=>k c v ?_ q) (λ_ q=>q) λ_ _ q=>q
  rcases j with z|z
  ·rw[z];exact B b u e
  ·exact B c _ z
theorem Inv.tok(I:Inv X aa J H s)(t:ax):Inv X aa J H {s with toks:=t}:=I.un (h':=s.heap) (t':=t) Un.refl I.aK
theorem Inv.kept{t':ax}(I:Inv X aa J H s)(k:∀b u,s.heap.get? b=ag u->h'.get? b=ag u):Inv X aa J H {s with heap:=h',toks:=t' }:=I.un (Un.kept k) (I.aK.kept k)
theorem Inv.laid{a:ar}{o:HO}{t':ax}(I:Inv X aa J H s)(k:∀b u,s.heap.get? b=ag u->h'.get? b=ag u)(j:s.heap.objs.size<=a)(new:iC X.prog X.w (upd H a o) h' a o) :
  Inv X aa J (upd H a o) {s with heap:=h',toks:=t' }:=I.un (Un.laid k j (I.aK.fresh j)) (I.aK.laid k j new)
theorem Inv.write{x e:ar}{o:HO}{t':ax}(I:Inv X aa J H s)(j:MU (H x))(he:e=x\/H e=ag (.own x))(k:∀b u,b≠e->s.heap.get? b=ag u->h'.get? b=ag u)(q:∃u,h'.get? e=ag u)
  (new:iC X.prog X.w (upd H x o) h' x o):Inv X aa J (upd H x o) {s with heap:=h',toks:=t' }:=I.un (Un.write j he k q) (I.aK.write j he k q new)
theorem Inv.Aa{j:ai (ar×cb)}(I:Inv X aa J H s)(h:∀p∈j,s.heap.get? p.1=ag p.2/\H p.1=ao/\p.1≠X.env.locals/\p.1∉X.fs/\∀v,p.2.data≠.cell v):Inv X j J H s :=
 ⟨I.ok,I.os,I.bare,I.base,I.loc,I.cell,I.free,I.mR,λp q=>(DC.mp q).elim (λz=>I.pin p (TK _ z)) (h p),I.aK,I.len⟩
theorem Pp{N:ai az}(q:N.Nodup){i j:ax}{x:az}(a:N[i]?=ag x)(b:N[j]?=ag x):i=j:=by
 obtain⟨h1,B⟩:=dO.mp a;obtain⟨h2,z⟩:=dO.mp b;exact(List.getElem_inj q).mp (B.trans z.symm)
theorem adC{M:Model}{A:bj}{E:aj->au->Prop}{i:ax}{x:az}{v:V}{u:aj}{Q:Unit->au->Prop}(I:Inv X aa J H s)(hN:X.N.Nodup)(hi:X.N[i]?=ag x)(g:Loc X.env.scope x)(r:RelV v u)
  (h:∀s',Inv X aa (J.set i (ag v)) H s'->(∃a,Heap.SameBut a s.heap s'.heap/\(a=X.env.locals\/X.env.cells.lookup x=ag a))->Q () s') (hf:X.fn x=av\/X.env.scope.names.lookup x=ag .local:=by first|exact .inl rfl|exact .inr rfl|assumption):wpAny M A (storeName X.env x u) Q E s:=by
 obtain⟨m,hn,hl⟩:=id I.loc;have apS:(X.env.scope.kind == .class||(X.env.scope.kind == .module&&X.env.locals != X.env.globals))=ak:=by rw[I.ok.kind];rfl
 have Sq:i<J.length:=by rw[I.len];exact(dO.mp hi).1
 have CI:=I.CI;have tracked:∀{a:ar} {h':bo},(∃o,s.heap.get? a=ag o/\H a=ao)->Heap.SameBut a s.heap h'->fE X.prog X.w H h':=λ{a h'} ha B b ob e=>by
  obtain⟨_,_,EX⟩:=ha;refine(I.aK b ob e).nC (λc D f q=>(B.2 c ?_).trans q) (λ_ q=>q) λ_ _ q=>q;rintro rfl
  rcases f with rfl|f
  ·rw[EX]at e;cases e
  ·rw[EX]at f;cases f
 rcases g with t|t
 ·refine wpAny_storeName_local t hn (λh' T B=>?_) apS;obtain⟨oL,_,_,wR,_⟩:=id hn;refine h _ ⟨I.ok,I.os,I.bare,⟨λb o e n hb g=>?_,λb o e n hb g=>?_,I.base.free,λb o e g=>?_,I.base.nA,I.base.lG,I.base.mK⟩,⟨_,T,λj y G U l W=>?_⟩,λy c e=>?_,I.free,I.mR,λp S=>?_,tracked ⟨oL,wR,I.free⟩ B,by simpa using I.len⟩ ⟨_,B,.inl rfl⟩
  ·exact(B.2 b (gB (lI (eB e) I.ok.above))).trans (I.base.keep b o e n hb g)
  ·obtain⟨sl,U⟩:=I.base.slot b o e n hb g;exact⟨sl,(B.2 b (gB (lI (eB e) I.ok.above))).trans U⟩
  ·obtain⟨P,U⟩:=I.base.there b o e g;exact⟨P,(B.2 b (gB (lI (eB e) I.ok.above))).trans U⟩
  ·by_cases C:j=i
   ·subst C;rw[hi]at U;cases U;rw[iD Sq]at l;cases l;exact⟨u,r,.inl ⟨t,by simp⟩⟩
   ·rw[kG (dX C)]at l;obtain⟨K,L,q⟩:=hl j y G U l W;refine⟨K,L,?_⟩
    rcases q with⟨k,e⟩|⟨k,c,e,z⟩
    ·refine .inl ⟨k,?_⟩;have:y≠x:=λe=>C (Pp hN U (e ▸ hi));simp[this,e]
    ·exact .inr ⟨k,c,e,z.sameBut B (CI y c e)⟩
  ·obtain⟨D,z⟩:=I.cell y c e;exact⟨D,z.sameBut B (CI y c e)⟩
  ·obtain⟨e,n,ne,R,d⟩:=I.pin p S;exact⟨(B.2 p.1 ne).trans e,n,ne,R,d⟩
 ·have Ck:X.fn x=av:=by
   rcases hf with z|z
   ·exact z
   ·rw[z]at t;cases t
  obtain⟨c,f⟩:=I.ok.has x (.inl t);obtain⟨D,z⟩:=I.cell x c f;refine wpAny_storeName_cell I.ok.kind t f z (λh' uM B=>?_);obtain⟨oc,KP,aoE⟩:=id z;refine h {s with heap:=h' } ⟨I.ok,I.os,I.bare,⟨λb o e n hb g=>?_,λb o e n hb g=>?_,I.base.free,λb o e g=>?_,I.base.nA,I.base.lG,I.base.mK⟩,⟨m,hn.sameBut B (dX (CI x c f)),λj y G U l W=>?_⟩,λy F e=>?_,I.free,I.mR,λp S=>?_,tracked ⟨oc,KP,I.mR x c f⟩ B,by simpa using I.len⟩ ⟨c,B,.inr f⟩
  ·exact(B.2 b (gB (lI (eB e) (I.ok.FW x c Ck f)))).trans (I.base.keep b o e n hb g)
  ·obtain⟨sl,U⟩:=I.base.slot b o e n hb g;exact⟨sl,(B.2 b (gB (lI (eB e) (I.ok.FW x c Ck f)))).trans U⟩
  ·obtain⟨P,U⟩:=I.base.there b o e g;exact⟨P,(B.2 b (gB (lI (eB e) (I.ok.FW x c Ck f)))).trans U⟩
  ·by_cases C:j=i
   ·subst C;rw[hi]at U;cases U;rw[iD Sq]at l;cases l;exact⟨u,r,.inr ⟨.inl t,c,f,uM⟩⟩
   ·rw[kG (dX C)]at l;obtain⟨K,L,q⟩:=hl j y G U l W;refine⟨K,L,?_⟩
    rcases q with q|⟨k,F,e,z'⟩
    ·exact .inl q
    ·refine .inr ⟨k,F,e,z'.sameBut B ?_⟩;rintro rfl;exact C (Pp hN U (I.ok.inj _ _ _ e f ▸ hi))
  ·by_cases Tg:F=c
   ·subst Tg;exact⟨_,uM⟩
   ·obtain⟨w2,z2⟩:=I.cell y F e;exact⟨w2,z2.sameBut B Tg⟩
  ·obtain⟨e,n,ne,R,d⟩:=I.pin p S;refine⟨(B.2 p.1 ?_).trans e,n,ne,R,d⟩;intro q;rw[q,KP]at e;have q':oc=p.2:=kE e;exact d D (by rw[<-q'];exact aoE)
theorem Mm{M:Model}{A:bj}{E:aj->au->Prop}{i:ax}{x:az}{v:V}{u:aj}{Q:Unit->au->Prop}(I:Inv X aa J H s)(z:X.N.Nodup)(hi:X.N[i]?=ag x)(j:Loc X.env.scope x)(r:RelV v u)
  (h:∀s',Inv X aa (J.set i (ag v)) H s'->Q () s') (q:X.fn x=av\/X.env.scope.names.lookup x=ag .local:=by first|exact .inl rfl|exact .inr rfl|assumption):wpAny M A (storeName X.env x u) Q E s :=
 adC I z hi j r (λs' B _=>h s' B) q
theorem Inv.FV{s':au}{ch:ai ar}(I:Inv X aa J H s)(z:s'.os=s.os)(u:Un (iI X.stack) ch H H' s.heap s'.heap)(aK:fE X.prog X.w H' s'.heap)(B:AllBare s'.gens)
  (j:∀b∈ch,(b∈X.ex\/X.s₀.heap.objs.size<=b)/\b≠X.env.locals/\(∀x c,X.env.cells.lookup x=ag c->c≠b)/\∀p∈X.pn++aa,p.1≠b):Inv X aa J H' s':=by
 obtain⟨h',g',d',t',q⟩:=s';have e:q=s.os:=z;subst e;exact I.call (g':=g') (t':=t') (d':=d') u aK B j
end
abbrev XK:=aj->aq ar->Hp->Prop
abbrev St:=ai (aq V)
abbrev VK:=V->Hp->Prop
abbrev TE:=St->Hp->VK->Prop
abbrev TT:=St->Hp->(bc->Hp->Prop)->Prop
abbrev TA:=St->Hp->(ai V->Hp->Prop)->Prop
structure Ends where
 nx:St->Hp->Prop
 rt:VK
 bk:St->Hp->Prop:=λ_ _=>bz
 ct:St->Hp->Prop:=λ_ _=>bz
abbrev TS:=Ends->St->Hp->Prop
def EP(X:Cx)(aa:ai (ar×cb))(J:St)(Q:VK)(u:aj)(s':au):Prop:=∃v H',Inv X aa J H' s'/\RelV v u/\Q v H'
def TP(X:Cx)(aa:ai (ar×cb))(J:St)(Q:bc->Hp->Prop)(b:bc)(s':au):Prop:=∃H',Inv X aa J H' s'/\Q b H'
def AP(X:Cx)(aa:ai (ar×cb))(J:St)(Q:ai V->Hp->Prop)(us:ai aj)(s':au):Prop:=∃vs H',Inv X aa J H' s'/\Vals vs us/\Q vs H'
def SP(X:Cx)(aa:ai (ar×cb))(D:Ends)(f:Flow)(s':au):Prop :=
 match f with
 |.next=>∃j H',Inv X aa j H' s'/\D.nx j H'
 |.brk=>∃j H',Inv X aa j H' s'/\D.bk j H'
 |.cont=>∃j H',Inv X aa j H' s'/\D.ct j H'
 |.ret u=>∃v j H',Inv X aa j H' s'/\RelV v u/\D.rt v H'
def PE(X:Cx)(e:bg)(t:TE):Prop :=
 ∀(aa:ai (ar×cb)) (s:au) (J:St) (H:Hp) (Q:VK),Inv X aa J H s->t J H Q->wpAny (bb X.prog X.w) X.A (bt e X.env) (EP X aa J Q) X.xe s
def PT(X:Cx)(e:bg)(t:TT):Prop :=
 ∀(aa:ai (ar×cb)) (s:au) (J:St) (H:Hp) (Q:bc->Hp->Prop),Inv X aa J H s->t J H Q->wpAny (bb X.prog X.w) X.A (isTrue e X.env (bt e X.env)) (TP X aa J Q) X.xe s
def PW(X:Cx)(e:bg)(t:TT):Prop :=
 ∀(whole:Sem aj) (aa:ai (ar×cb)) (s:au) (J:St) (H:Hp) (Q:bc->Hp->Prop),Inv X aa J H s->t J H Q->wpAny (bb X.prog X.w) X.A (isTrue e X.env whole) (TP X aa J Q) X.xe s
theorem PW.pt{X:Cx}{e:bg}{t:TT}(h:PW X e t):PT X e t:=h _
def PA(X:Cx)(es:ai bg)(t:TA):Prop :=
 ∀(pos:cn) (aa:ai (ar×cb)) (s:au) (J:St) (H:Hp) (Q:ai V->Hp->Prop),Inv X aa J H s->t J H Q->wpAny (bb X.prog X.w) X.A (spliced (b7 pos (a5 es X.env))) (AP X aa J Q) X.xe s
def PS(X:Cx)(st:bq)(t:TS):Prop :=
 ∀(aa:ai (ar×cb)) (s:au) (J:St) (H:Hp) (D:Ends),Inv X aa J H s->t D J H->wpAny (bb X.prog X.w) X.A (exec st X.env) (SP X aa D) X.xe s
def qW(X:Cx)(st:ai bq)(t:TS):Prop :=
 ∀(aa:ai (ar×cb)) (s:au) (J:St) (H:Hp) (D:Ends),Inv X aa J H s->t D J H->wpAny (bb X.prog X.w) X.A (execs st X.env) (SP X aa D) X.xe s
theorem bI{α:Type}{t:Sem α}{Q j:α->au->Prop}{M:Model}{A:bj}{E:aj->au->Prop}{s:au}(h:wpAny M A t Q E s)(q:∀a s,Q a s->j a s):wpAny M A t j E s:=pN h q λ_ _ x=>x
section
variable{X:Cx}
def WU(i:ax):TE:=λJ H Q=>∃v,J[i]?=ag (ag v)/\Q v H
def tC(v:V):TE:=λ_ H Q=>Q v H
theorem Ad{i:ax}{x:az}{pos:cn}(U:X.N[i]?=ag x)(hv:MO X.env.scope x)(hd:(x==("__debug__" : az))=ak:=by decide)(B:(x==("__classdict__" : az))=ak:=by decide):PE X (.Name x pos) (WU i):=by
 intro aa s J H Q I h;obtain⟨v,e,h⟩:=h;obtain⟨m,hn,hl⟩:=I.loc;obtain⟨u,r,l⟩:=hl i x v U e hv;have fin:EP X aa J Q u s:=⟨v,H,I,r,h⟩
 rcases l with⟨j,hm⟩|⟨j,c,q,z⟩
 ·exact wpAny_Name (wpAny_loadName_local I.ok.kind j hn hm fin) hd
 ·rcases j with j|j
  ·exact wpAny_Name (wpAny_loadName_cell I.ok.kind j q z fin) hd
  ·exact wpAny_Name (wpAny_loadName_free I.ok.kind j q z fin B) hd
theorem aiQ{i j pos}:PE X (.Constant (.int i) j pos) (tC (.int i)):=λ_ _ _ H _ I h=>wpAny_Constant_int ⟨.int i,H,I.tok _,⟨_,rfl⟩,h⟩
theorem ai7{b j pos}:PE X (.Constant (.bool b) j pos) (tC (.bl b)):=λ_ _ _ H _ I h=>Constant_bool ⟨.bl b,H,I,rfl,h⟩
def Gl(X:Cx)(x:az):Prop:=X.env.kindOf x=ag .globalImplicit
theorem AZ{E:aj->au->Prop}{aa:ai (ar×cb)}{s:au}{J:St}{H:Hp}{x:az}{u:aj}{pos:cn}{Q:aj->au->Prop}(I:Inv X aa J H s)(j:Gl X x)(hm:X.mg x=ag u)(h:Q u s)
  (hd:(x==("__debug__" : az))=ak:=by decide):wpAny (bb X.prog X.w) X.A (bt (.Name x pos) X.env) Q E s :=
 Calls.Name_function_global I.ok.kind j (Calls.loadGlobal_global (by rw[I.ok.glob];exact I.mod.glob.keeps I.bk) hm h) hd
theorem BA{E:aj->au->Prop}{aa:ai (ar×cb)}{s:au}{J:St}{H:Hp}{x:az}{u:aj}{pos:cn}{Q:aj->au->Prop}(I:Inv X aa J H s)(j:Gl X x)(hm:X.mg x=ao)(hv:cm x=ag u)(h:Q u s)
  (hn:x≠"__name__":=by decide) (hd:(x==("__debug__" : az))=ak:=by decide):wpAny (bb X.prog X.w) X.A (bt (.Name x pos) X.env) Q E s:=by
 obtain⟨mb,h1,h2⟩:=I.mod.blt;exact Calls.Name_function_global I.ok.kind j (Calls.loadGlobal_builtin (by rw[I.ok.glob];exact I.mod.glob.keeps I.bk) hm (by rw[I.ok.blt];exact h1.keeps I.bk) ((h2 x hn).trans hv) h) hd
theorem aiS{x:az}{v:V}{u:aj}{pos:cn}(j:Gl X x)(hm:X.mg x=ag u)(r:RelV v u)(hd:(x==("__debug__" : az))=ak:=by decide):PE X (.Name x pos) (tC v) :=
 λ_ _ _ H _ I h=>AZ I j hm ⟨v,H,I,r,h⟩ hd
theorem ai6{x:az}{v:V}{u:aj}{pos:cn}(j:Gl X x)(hm:X.mg x=ao)(hv:cm x=ag u)(r:RelV v u)(hn:x≠"__name__":=by decide)(hd:(x==("__debug__" : az))=ak:=by decide):PE X (.Name x pos) (tC v) :=
 λ_ _ _ H _ I h=>BA I j hm hv ⟨v,H,I,r,h⟩ hn hd
variable{a b:bg}{ta tb:TE}{pos:cn}
def PC(X:Cx)(j:CmpOp)(a b:bg)(t:TE):Prop :=
 ∀(aa:ai (ar×cb)) (s:au) (J:St) (H:Hp) (Q:VK),Inv X aa J H s->t J H Q ->
  wpAny (bb X.prog X.w) X.A (bt a X.env) (λv s₁=>wpAny (bb X.prog X.w) X.A (bt b X.env) (λu s₂=>wpAny (bb X.prog X.w) X.A (br j v u) (EP X aa J Q) X.xe s₂) X.xe s₁) X.xe s
def tB(t:TE):TT:=λJ H Q=>t J H λx H1=>∃c,x=.bl c/\Q c H1
theorem ahA{j:CmpOp}{t:TE}(h:PC X j a b t)(h1:cw j b=ak:=by first|exact N _ (by decide) (by decide)|rfl):PT X (.Compare a [j] [b] pos) (tB t):=by
 intro aa s J H Q I hw;refine wpAny_isTrue_Compare1 (bI (h aa s J H _ I hw) λv i h1=>bI h1 λu g h2=>bI h2 λc f ⟨x,e,U,z,B⟩=>?_) h1;obtain⟨d,rfl,q⟩:=B;cases z;exact vG ⟨e,U,q⟩
theorem ag7{e:bg}{t:TE}(h:PE X e t)(he:∀whole,isTrue e X.env whole=(do let v<-whole;standAt e.pos;holding [v] (truthy v)):=by intro _;rfl):PT X e (tB t):=by
 intro aa s J H Q I hw;refine isTrue_plain (bI (h aa s J H _ I hw) λv U ⟨x,N,B,j,z⟩=>?_) (he _);obtain⟨d,rfl,q⟩:=z;cases j;exact vG ⟨N,B,q⟩
variable{tA ON:TT}{ae:ai bg}
def ac8(t u:TT):TT:=λJ H Q=>t J H λc H1=>if c=av then u J H1 Q else Q ak H1
def tOr(t u:TT):TT:=λJ H Q=>t J H λc H1=>if c=av then Q av H1 else u J H1 Q
def acR(t:TT):TT:=λJ H Q=>t J H λc H1=>Q (!c) H1
theorem pw_and1(j:PT X a tA):PW X (.BoolOp .And [a] pos) tA:=by
 intro q aa s J H Q I h;refine isTrue_and (bI (j aa s J H Q I h) λc z e=>?_);cases c with
 |true=>exact isTrue_and_nil e
 |false=>exact e
theorem pw_or1(j:PT X a tA):PW X (.BoolOp .Or [a] pos) tA:=by
 intro q aa s J H Q I h;refine isTrue_or (bI (j aa s J H Q I h) λc z e=>?_);cases c with
 |false=>exact isTrue_or_nil e
 |true=>exact e
theorem pw_and(U:PT X a tA)(hb:PW X (.BoolOp .And (b::ae) pos) ON):PW X (.BoolOp .And (a::b::ae) pos) (ac8 tA ON):=by
 intro B aa s J H Q I h;refine isTrue_and (bI (U aa s J H _ I h) λc N ⟨z,q,j⟩=>?_);cases c with
 |true=>exact hb B aa N J z Q q j
 |false=>exact⟨z,q,j⟩
theorem pw_or(U:PT X a tA)(hb:PW X (.BoolOp .Or (b::ae) pos) ON):PW X (.BoolOp .Or (a::b::ae) pos) (tOr tA ON):=by
 intro B aa s J H Q I h;refine isTrue_or (bI (U aa s J H _ I h) λc N ⟨z,q,j⟩=>?_);cases c with
 |true=>exact⟨z,q,j⟩
 |false=>exact hb B aa N J z Q q j
theorem ag8(j:PT X a tA):PT X (.UnaryOp .Not a pos) (acR tA):=by
 intro aa s J H Q I h;exact isTrue_not (j aa s J H (λc q=>Q (!c) q) I h)
def ac7(ta tb:TE):TE:=λJ H Q=>ta J H λx H1=>∃c,x=.bl c/\if c=av then tb J H1 Q else Q (.bl ak) H1
def acP(ta tb:TE):TE:=λJ H Q=>ta J H λx H1=>∃c,x=.bl c/\if c=av then Q (.bl av) H1 else tb J H1 Q
theorem aiG{j}{t:TE}(h:PE X a t):PE X (.BoolOp j [a] pos) t:=λaa s J H Q I hw=>BoolOp_one (h aa s J H Q I hw)
theorem ai9(U:PE X a ta)(hb:PE X (.BoolOp .And (b::ae) pos) tb):PE X (.BoolOp .And (a::b::ae) pos) (ac7 ta tb):=by
 intro aa s J H Q I h;refine BoolOp_and (bI (U aa s J H _ I h) λv B ⟨x,z,q,N,j⟩=>?_);obtain⟨c,rfl,j⟩:=j;cases N;refine vG ?_;cases c with
 |true=>exact hb aa B J z Q q j
 |false=>exact⟨.bl ak,z,q,rfl,j⟩
theorem aiE(U:PE X a ta)(hb:PE X (.BoolOp .Or (b::ae) pos) tb):PE X (.BoolOp .Or (a::b::ae) pos) (acP ta tb):=by
 intro aa s J H Q I h;refine BoolOp_or (bI (U aa s J H _ I h) λv B ⟨x,z,q,N,j⟩=>?_);obtain⟨c,rfl,j⟩:=j;cases N;refine vG ?_;cases c with
 |false=>exact hb aa B J z Q q j
 |true=>exact⟨.bl av,z,q,rfl,j⟩
def tIf(t:TT)(ta tb:TE):TE:=λJ H Q=>t J H λc H1=>if c=av then ta J H1 Q else tb J H1 Q
theorem aiR{c:bg}(N:PT X c tA)(U:PE X a ta)(hb:PE X b tb):PE X (.IfExp c a b pos) (tIf tA ta tb):=by
 intro aa s J H Q I h;refine wpAny_IfExp (bI (N aa s J H _ I h) λd j ⟨B,z,q⟩=>?_);cases d with
 |true=>exact U aa j J B Q z q
 |false=>exact hb aa j J B Q z q
end
def fB(K:ba)(H:Hp)(a:ar)(xs:ai V):Prop :=
 Rd H a (.lst xs) \/
  ∃(o:cb) (j:bh aj) (n:ax),K.lookup a=ag o/\o.cls=.type "list"/\o.dict=ao/\o.data=.seq j n/\j.size<=ay/\Vals xs j.toList
def iL(K:ba)(H:Hp)(a:ar)(xs:ai V):Prop :=
 Rd H a (.tup xs) \/
  ∃(o:cb) (j:bh aj) (n:ax),K.lookup a=ag o/\o.cls=.type "tuple"/\o.data=.seq j n/\j.size<=ay/\Vals xs j.toList
noncomputable def awF:aj->aq V
 |.none=>ag .cV
 |.bool b=>ag (.bl b)
 |.int i _=>ag (.int i)
 |.str x _=>ag (.str x)
 |.bytes b _=>ag (.RM b)
 |.float b _=>ag (.CB b)
 |.ref a=>ag (.ref a)
 |.type n=>ag (.ty n)
 |_=>ao
theorem RelV.abs{x:V}{u:aj}(r:RelV x u):awF u=ag x:=by
 cases x with
 |cV=>cases r;rfl
 |bl _=>cases r;rfl
 |int _=>obtain⟨t,rfl⟩:=r;rfl
 |str _=>obtain⟨t,rfl⟩:=r;rfl
 |RM _=>obtain⟨t,rfl⟩:=r;rfl
 |CB _=>obtain⟨t,rfl⟩:=r;rfl
 |ref _=>cases r;rfl
 |ty _=>cases r;rfl
theorem RelV.inj{x y:V}{u:aj}(r:RelV x u)(q:RelV y u):x=y:=kE (r.abs.symm.trans q.abs)
theorem Vals.inj:∀{xs ys:ai V} {us:ai aj},Vals xs us->Vals ys us->xs=ys
 |_,_,_,.nil,.nil=>rfl
 |_,_,_,.cons r t,.cons q j=>by rw[r.inj q,Vals.inj t j]
section
variable{X:Cx}{aa:ai (ar×cb)}{J:St}{H:Hp}{s:au}{a:ar}{xs ys:ai V}
theorem fB.of{K:ba}(h:H a=ag (.lst xs)):fB K H a xs:=.inl (.inl h)
theorem iL.of{K:ba}(h:H a=ag (.tup xs)):iL K H a xs:=.inl (.inl h)
theorem Inv.list(I:Inv X aa J H s)(h:fB X.K H a xs):∃j:ai aj,Vals xs j/\PlainL s.heap a j.toArray/\xs.length<=ay:=by
 rcases h with h|⟨o,j,n,B,N,hd,q,U,r⟩
 ·obtain⟨z,j,n,r,e⟩:=h.ok I.aK;exact⟨j,r,⟨_,n,e,rfl,rfl,rfl⟩,z⟩
 ·refine⟨j.toList,r,⟨o,n,I.fI a o B,N,hd,by simpa using q⟩,?_⟩;have e:=r.length;simp only[sI]at e;omega
theorem Inv.tuple(I:Inv X aa J H s)(h:iL X.K H a xs):∃j:ai aj,Vals xs j/\IsTup s.heap a j.toArray/\xs.length<=ay:=by
 rcases h with h|⟨o,j,n,B,N,q,U,r⟩
 ·obtain⟨z,j,r,p⟩:=h.ok I.aK;exact⟨j,r,p,z⟩
 ·refine⟨j.toList,r,⟨o,I.fI a o B,N,n,by simpa using q⟩,?_⟩;have e:=r.length;simp only[sI]at e;omega
theorem Inv.Qo(I:Inv X aa J H s)(h:fB X.K H a xs)(h':fB X.K H a ys):xs=ys:=by
 obtain⟨N,r,⟨o,n,e,_,_,d⟩,_⟩:=I.list h;obtain⟨j,z,⟨U,b,q,_,_,d'⟩,_⟩:=I.list h';rw[e]at q;cases q;rw[d]at d';injection d' with B _;have:N=j:=by simpa using cy Array.toList B
 subst this;exact r.inj z
theorem Inv.abX(I:Inv X aa J H s)(h:iL X.K H a xs)(h':iL X.K H a ys):xs=ys:=by
 obtain⟨N,r,⟨o,e,_,n,d⟩,_⟩:=I.tuple h;obtain⟨j,z,⟨U,q,_,b,d'⟩,_⟩:=I.tuple h';rw[e]at q;cases q;rw[d]at d';injection d' with B _;have:N=j:=by simpa using cy Array.toList B
 subst this;exact r.inj z
end
noncomputable abbrev Cx.sN(X:Cx)(E:aj->au->Prop):Cx:={X with xe:=E}
theorem Cx.Ok.sN{X:Cx}(ok:X.Ok)(E:aj->au->Prop):(X.sN E).Ok :=
 ⟨ok.mod,ok.kind,ok.glob,ok.blt,ok.above,ok.inj,ok.has,ok.FW,ok.hd,ok.frames,ok.sX,ok.FK,ok.bs,ok.qU,ok.yM,ok.CC,ok.oC,ok.tP⟩
theorem Cx.Ok.vP{X:Cx}{E:aj->au->Prop}(ok:(X.sN E).Ok):X.Ok :=
 ⟨ok.mod,ok.kind,ok.glob,ok.blt,ok.above,ok.inj,ok.has,ok.FW,ok.hd,ok.frames,ok.sX,ok.FK,ok.bs,ok.qU,ok.yM,ok.CC,ok.oC,ok.tP⟩
section
variable{X:Cx}{aa:ai (ar×cb)}{J:St}{H:Hp}{s:au}{E:aj->au->Prop}
theorem Inv.sN(I:Inv X aa J H s)(E:aj->au->Prop):Inv (X.sN E) aa J H s:=⟨I.ok.sN E,I.os,I.bare,I.base,I.loc,I.cell,I.free,I.mR,I.pin,I.aK,I.len⟩
theorem Inv.vP(I:Inv (X.sN E) aa J H s):Inv X aa J H s:=⟨I.ok.vP,I.os,I.bare,I.base,I.loc,I.cell,I.free,I.mR,I.pin,I.aK,I.len⟩
theorem SP.vP{D:Ends}{f:Flow}{s':au}(h:SP (X.sN E) aa D f s'):SP X aa D f s':=by
 cases f with
 |next=>obtain⟨j,z,I,q⟩:=h;exact⟨j,z,I.vP,q⟩
 |brk=>obtain⟨j,z,I,q⟩:=h;exact⟨j,z,I.vP,q⟩
 |cont=>obtain⟨j,z,I,q⟩:=h;exact⟨j,z,I.vP,q⟩
 |ret u=>obtain⟨v,j,z,I,r,q⟩:=h;exact⟨v,j,z,I.vP,r,q⟩
end
section
variable{X:Cx}{st:bq}{ae:ai bq}{t u:TS}{e:bg}{te:TE}{pos:cn}
def acT:TS:=λD J H=>D.nx J H
def Lz(t u:TS):TS:=λD J H=>t {D with nx:=u D} J H
theorem ahD:qW X [] acT:=λ_ _ J H _ I h=>VD ⟨J,H,I,h⟩
theorem ahE(h1:PS X st t)(h2:qW X ae u):qW X (st::ae) (Lz t u):=by
 intro aa s J H D I h;refine wpAny_execs_cons (bI (h1 aa s J H {D with nx:=u D} I h) λf z q=>?_);cases f with
 |next =>
  obtain⟨j,N,B,q⟩:=q;exact h2 aa z j N D B q
 |ret v=>exact q
 |brk=>exact q
 |cont=>exact q
theorem ahC(h1:PS X st t):qW X [st] t:=by
 intro aa s J H D I h;refine wpAny_execs_cons (bI (h1 aa s J H D I h) λf j q=>?_);cases f with
 |next=>exact VD q
 |ret v=>exact q
 |brk=>exact q
 |cont=>exact q
theorem Inv.quiet{aa:ai (ar×cb)}{J:St}{H:Hp}{s:au}(I:Inv X aa J H s):interactive X.env=ak:=by simp[interactive,I.ok.kind]
def acZ(te:TE):TS:=λD J H=>te J H λ_ H1=>D.nx J H1
theorem ahM(he:PE X e te)(q:dj e ao pos.line X.env=pure ak:=by rfl):PS X (.Expr e pos) (acZ te):=by
 intro aa s J H D I h;exact wpAny_Expr_any (bI (he aa s J H _ I h) λv N ⟨x,B,z,U,j⟩=>⟨J,B,z,j⟩) I.quiet q
def acN(te:TE):TS:=λD J H=>te J H D.rt
theorem ahH(he:PE X e te):PS X (.Return (ag e) pos) (acN te):=by
 intro aa s J H D I h;exact wpAny_Return_some (bI (he aa s J H _ I h) λv N ⟨x,B,z,j,q⟩=>⟨x,J,B,z,j,q⟩)
def acX(c:TT)(t u:TS):TS:=λD J H=>c J H λb H1=>if b=av then t D J H1 else u D J H1
theorem ahJ{c:bg}{a b:ai bq}{tc:TT}(N:PT X c tc)(U:qW X a t)(hb:qW X b u):PS X (.If c a b pos) (acX tc t u):=by
 intro aa s J H D I h;refine wpAny_If (bI (N aa s J H _ I h) λd j ⟨B,z,q⟩=>?_);cases d with
 |true=>exact U aa j J B D z q
 |false=>exact hb aa j J B D z q
def acU:TS:=λ_ _ _=>bz
theorem ahI:PS X st acU:=λ_ _ _ _ _ _ h=>h.elim
end
abbrev TG:=V->St->Hp->(St->Hp->Prop)->Prop
abbrev zJ:=ai V->St->Hp->(St->Hp->Prop)->Prop
def PG(X:Cx)(target:bg)(t:TG):Prop :=
 ∀(aa:ai (ar×cb)) (s:au) (J:St) (H:Hp) (v:V) (u:aj) (Q:St->Hp->Prop),Inv X aa J H s->RelV v u->t v J H Q ->
  wpAny (bb X.prog X.w) X.A (assign target X.env u) (λ_ s'=>∃j H',Inv X aa j H' s'/\Q j H') X.xe s
def MT(X:Cx)(q:ai bg)(t:zJ):Prop :=
 ∀(aa:ai (ar×cb)) (s:au) (J:St) (H:Hp) (vs:ai V) (us:ai aj) (Q:St->Hp->Prop),Inv X aa J H s->Vals vs us->t vs J H Q ->
  wpAny (bb X.prog X.w) X.A (assignInOrder ((cx q X.env).map (·.2)) us) (λ_ s'=>∃j H',Inv X aa j H' s'/\Q j H') X.xe s
abbrev awI:=V->V->V->Hp->(Hp->Prop)->Prop
section
variable{X:Cx}{pos:cn}
def Ul(i:ax):TG:=λv J H Q=>Q (J.set i (ag v)) H
theorem aiA{i:ax}{x:az}(z:X.N.Nodup)(hi:X.N[i]?=ag x)(j:Loc X.env.scope x)(q:X.fn x=av\/X.env.scope.names.lookup x=ag .local:=by first|exact .inl rfl|exact .inr rfl|assumption):PG X (.Name x pos) (Ul i):=by
 intro aa s J H v u Q I r h;exact wpAny_assign_Name (Mm I z hi j r (λs' B=>⟨_,H,B,h⟩) q)
def arU:zJ:=λvs J H Q=>vs=[]/\Q J H
def arW(t:TG)(u:zJ):zJ:=λvs J H Q=>∃v r,vs=v::r/\t v J H λj H'=>u r j H' Q
theorem ah7:MT X [] arU:=by
 intro aa s J H j q Q I r h;obtain⟨e,h⟩:=h;subst e;cases r;exact assignInOrder_nil ⟨J,H,I,h⟩
theorem ah8{e:bg}{es:ai bg}{t:TG}{u:zJ}(h1:PG X e t)(h2:MT X es u)
  (N:(cx (e::es) X.env).map (·.2)=assign e X.env::(cx es X.env).map (·.2):=by rfl):MT X (e::es) (arW t u):=by
 intro aa s J H c f Q I r h;obtain⟨v,d,U,h⟩:=h;subst U;cases r with
 |cons r z =>
  rw[N];refine assignInOrder_cons (bI (h1 aa s J H _ _ _ I r h) λ_ q ⟨j,b,a,B⟩=>?_);exact h2 aa q j b _ _ Q a z B
def arT(K:ba)(n:ax)(t:zJ):TG:=λv J H Q=>∃a xs,v=.ref a/\iL K H a xs/\xs.length=n/\t xs J H Q
theorem ah9{es:ai bg}{k:ax}{t:zJ}{n:ax}(c:X.calm=av)(h:MT X es t)
  (hn:(cx es X.env).length=n:=by rfl) (z:(cx es X.env).findIdx? (·.1)=ao:=by rfl):PG X (.Tuple es k pos) (arT X.K n t):=by
 intro aa s J H v u Q I r hw;obtain⟨a,q,d,U,hl,hw⟩:=hw;subst d;cases r;obtain⟨i,j,N,g⟩:=I.tuple U;refine assign_Tuple_tuple (I.ok.hd c) N (by simp[hn,<-hl,j.length]) z λh' B=>?_;have f:Inv X aa J H {s with heap:=h' }:=I.kept (t':=s.toks) λb o e=>B b o (gB (eB e)) e;exact h aa _ J H q _ Q f (by simpa using j) hw
noncomputable def lE(to j:TE)(t:awI):TG:=λv J H Q=>to J H λo H1=>j J H1 λi H2=>t o i v H2 λq=>Q J q
def XF(te:TE)(g:TG):TS:=λD J H=>te J H λx H1=>g x J H1 D.nx
theorem ahO{tg e:bg}{te:TE}{g:TG}(he:PE X e te)(U:PG X tg g)(N:swapsWithSole [tg] e pos.line X.env=pure ak:=by rfl)(hw:swappedStores [tg] e X.env=pure ao:=by rfl)
  (h1:(cx [tg] X.env).map (·.2)=[assign tg X.env]:=by rfl):PS X (.Assign [tg] e pos) (XF te g):=by
 intro aa s J H D I h;refine wpAny_Assign_stores (bI (he aa s J H _ I h) λv j ⟨x,b,a,z,B⟩=>?_) N hw;rw[h1];exact bI (U aa j J b x v _ a z B) λ_ c q=>q
theorem ahG{i:ax}{x:az}{e:bg}{te:TE}{pos':cn}(a:X.N.Nodup)(hi:X.N[i]?=ag x)(z:Loc X.env.scope x)(he:PE X e te)(B:dj e (ag (.Name x pos')) pos.line X.env=pure ak:=by rfl)(U:X.fn x=av\/X.env.scope.names.lookup x=ag .local:=by first|exact .inl rfl|exact .inr rfl|assumption) :
  PS X (.Assign [.Name x pos'] e pos) (XF te (Ul i)):=by
 intro aa s J H D I h;refine wpAny_Assign_Name (bI (he aa s J H _ I h) λv g ⟨y,d,c,j,q⟩=>?_) B;exact Mm c a hi z j (λf b=>⟨_,d,b,q⟩) U
def Ly(c:TT)(tb:TS):TS:=λD J H=>∃W:ax->St->Hp->Prop,(∃m,W m J H)/\∀m J H,W m J H ->
 c J H λb H1=>if b=av then ∃N:St->Hp->Prop,(∀j H',N j H'->∃q,q<m/\W q j H')/\tb {D with nx:=N,ct:=N,bk:=D.nx} J H1 else D.nx J H1
theorem ahF{c:bg}{body:ai bq}{tc:TT}{tb:TS}(k:PassesOwn (bb X.prog X.w) X.A X.env X.xe)(E:PT X c tc)(hb:qW X body tb):PS X (.While c body [] pos) (Ly tc tb):=by
 intro aa s J H D I h;obtain⟨W,⟨C,u⟩,turn⟩:=h;refine wpAny_While (codeAny_whileLoop (λn s'=>∃z r,Inv X aa z r s'/\W n z r) ?_ C ⟨J,H,I,u⟩);rintro n y ⟨q,p,F,t⟩;refine DN k (bI (E aa y q p _ F (turn n q p t)) λb x ⟨o,m,a⟩=>?_);cases b with
 |true =>
  obtain⟨N,l,a⟩:=a;rw[a6 rfl];refine DN k (bI (hb aa x q o _ m a) λf G U=>?_);cases f with
  |next =>
   obtain⟨j,B,i,e⟩:=U;obtain⟨g,hm,d⟩:=l j B e;exact⟨g,hm,j,B,i,d⟩
  |cont =>
   obtain⟨j,B,i,e⟩:=U;obtain⟨g,hm,d⟩:=l j B e;exact⟨g,hm,j,B,i,d⟩
  |brk=>exact U
  |ret v=>exact U
 |false =>
  rw[a7 Jw];exact VD ⟨q,o,m,a⟩
end
structure It where
 go:ax->Hp->Prop
 zV:ax->Hp->V->Hp->Prop
 stop:ax->Hp->Prop
def pH(X:Cx)(aa:ai (ar×cb))(H:Hp)(b:ar):Prop :=
 H b=ao/\b≠X.env.locals/\b∉X.fs/\(b∈X.ex\/X.s₀.heap.objs.size<=b)/\(∀x c,X.env.cells.lookup x=ag c->c≠b)/\∀p∈X.pn++aa,p.1≠b
theorem Inv.uN{X:Cx}{aa:ai (ar×cb)}{J:St}{H H':Hp}{s:au}{b:ar}(I:Inv X aa J H s)(hb:s.heap.objs.size<=b)(hn:H' b=ao):pH X aa H' b:=by
 refine⟨hn,GP (lI I.lt hb),I.akN hb,.inr (pC I.sz hb),λx c e z=>?_,λp j z=>?_⟩
 ·obtain⟨v,q⟩:=I.cell x c e;exact bp (lI q.lt (by rw[z];exact hb)) (Nat.lt_irrefl _)
 ·exact bp (lI (eB (I.pin p j).1) (by rw[z];exact hb)) (Nat.lt_irrefl _)
structure Turn(P:a9)(w:bf)(K:ba)(tg:bg)(σ:It)(fp:ai ar)(it:ar)(tn:ax->bo->Prop):Prop where
 mem:it∈fp
 obj:∀i h,tn i h->∀b∈fp,∃o,h.get? b=ag o/\∀v,o.data≠.cell v
 keep:∀i h h',tn i h->(∀b∈fp,∀o,h.get? b=ag o->h'.get? b=ag o)->tn i h'
 item:∀(X:Cx),X.prog=P->X.w=w->X.K=K->X.calm=av->∀(i:ax) (aa:ai (ar×cb)) (s:au) (J:St) (H:Hp) (E:aj->au->Prop),Inv X aa J H s->(∀b∈fp,pH X aa H b)->tn i s.heap->σ.go i H ->
  wpAny (bb P w) X.A (df (.ref it)) (λr s1=>∃u,r=ag u /\
   wpAny (bb P w) X.A (letOwnedTupleGo tg (.ref it) u) (λ_ s2=>∃x H',Inv X aa J H' s2/\RelV x u/\σ.zV i H x H'/\tn (i+1) s2.heap/\∀b∈fp,H' b=ao) E s1) E s
 done:∀(X:Cx),X.prog=P->X.w=w->X.K=K->X.calm=av->∀(i:ax) (aa:ai (ar×cb)) (s:au) (J:St) (H:Hp) (E:aj->au->Prop),Inv X aa J H s->(∀b∈fp,pH X aa H b)->tn i s.heap->σ.stop i H ->
  wpAny (bb P w) X.A (df (.ref it)) (λr s1=>r=ao/\Inv X aa J H s1) E s
 self:∀(A:bj) (i:ax) (s:au) (Q:aj->au->Prop) (E:aj->au->Prop),tn i s.heap->Q (.ref it) s->wpAny (bb P w) A (pyIter (.ref it)) Q E s
abbrev TI:=St->Hp->(It->Hp->Prop)->Prop
def Zg(X:Cx)(aa:ai (ar×cb))(J:St)(tg:bg)(R:It->Hp->Prop)(z:aj)(j:au):Prop :=
 ∃(q:ar) (fp:ai ar) (tn:ax->bo->Prop) (σ:It) (H':Hp),z=.ref q/\Inv X aa J H' j/\Turn X.prog X.w X.K tg σ fp q tn/\tn 0 j.heap/\(∀b∈fp,pH X aa H' b)/\R σ H'
def PI(X:Cx)(tg iter:bg)(j:TI):Prop :=
 ∀(aa:ai (ar×cb)) (s:au) (J:St) (H:Hp) (R:It->Hp->Prop),Inv X aa J H s->j J H R ->
  wpAny (bb X.prog X.w) X.A (bt iter X.env) (λv q=>wpAny (bb X.prog X.w) X.A (pyIter v) (Zg X aa J tg R) X.xe q) X.xe s
theorem Di{M:Model}{A:bj}{E:aj->au->Prop}{s:au}{tg:bg}{q:ar}{u:aj}{o:cb}{n:cc}{vs:bh aj}{Q:Unit->au->Prop}(z:s.heap.get? q=ag o)(B:o.cls=.type n)(hd:o.data=.fields vs)
  (hn:["enumerate", "zip", "dict_itemiterator", "dict_reverseitemiterator", "odict_iterator", "itertools.zip_longest", "itertools.pairwise"].contains n=ak) (j:Q () s):wpAny M A (letOwnedTupleGo tg (.ref q) u) Q E s:=by
 unfold letOwnedTupleGo;cases tg <;> first
  |exact bH j
  | (cases u <;> first
    |exact bH j
    | (refine aL (wpAny_load z ?_)
       rw[B,hd];show wpAny M A (if(["enumerate", "zip", "dict_itemiterator", "dict_reverseitemiterator", "odict_iterator", "itertools.zip_longest", "itertools.pairwise"].contains n&&vs[0]? == ag (bw _))=av then _ else _) Q E s;rw[a7 (by intro h;rw[hn,Bool.false_and]at h;cases h)];exact bH j))
noncomputable def Iy(K:ba)(a:ar):It :=
 ⟨λi H=>∃xs x,fB K H a xs/\xs[i]?=ag x,λi H x H'=>H'=H/\∀xs,fB K H a xs->xs[i]?=ag x,λi H=>∃xs,fB K H a xs/\xs.length<=i⟩
noncomputable def Iw(K:ba)(a:ar):It :=
 ⟨λi H=>∃xs x,iL K H a xs/\xs[i]?=ag x,λi H x H'=>H'=H/\∀xs,iL K H a xs->xs[i]?=ag x,λi H=>∃xs,iL K H a xs/\xs.length<=i⟩
noncomputable def TQ(lo:aw)(n:ax):It:=⟨λi _=>i<n,λi H x H'=>H'=H/\x=.int (lo+i),λi _=>n<=i⟩
theorem abT{P:a9}{w:bf}{K:ba}{tg:bg}(a j:ar):Turn P w K tg (Iy K a) [j] j (λi h=>h.IsListIter j a i)where
 mem:=by simp
 obj:=λi h st b hb=>by
  have e:b=j:=by simpa using hb
  subst e;obtain⟨o,e,c,d⟩:=st;exact⟨o,e,λv z=>by rw[d]at z;cases z⟩
 keep:=λi h h' st k=>st.at λo e=>k j (by simp) o e
 item:=by
  intro X g hw l C i aa s J H E I B st f;subst g hw l;obtain⟨D,x,q,U⟩:=f;obtain⟨T,N,p,L⟩:=I.list q;obtain⟨u,Q,G⟩:=N.get U;obtain⟨y,t,R,r,n,m⟩:=B j (by simp);refine wpAny_pyNext_list_item st p.isList (x:=u) (by simpa using Q) λh' A F=>?_;have V:Inv X aa J H {s with heap:=h' }:=I.turned (t':=s.toks) (λb o hb e=>(F.2 b hb).trans e) y t r n m;obtain⟨o,e,c,d⟩:=id A;exact⟨u,rfl,Di (s:={s with heap:=h' }) e c d (by decide) ⟨x,H,V,G,⟨rfl,λW M=>by rw[I.Qo M q];exact U⟩,A,λb hb=>(B b hb).1⟩⟩
 done:=by
  intro X g hw l C i aa s J H E I B st f;subst g hw l;obtain⟨D,q,U⟩:=f;obtain⟨T,N,p,L⟩:=I.list q;obtain⟨y,t,R,r,n,m⟩:=B j (by simp);have hl:=N.length;exact wpAny_pyNext_list_end (I.ok.hd C) st p.isList (by simp;omega) λh' S=>⟨rfl,I.turned (t':=s.toks) (λb o hb e=>S b o hb e) y t r n m⟩
 self:=λ_ _ _ _ _ st h=>wpAny_pyIter_listiter st h
theorem abR{P:a9}{w:bf}{K:ba}{tg:bg}(a j:ar):Turn P w K tg (Iw K a) [j] j (λi h=>h.IsTupleIter j a i)where
 mem:=by simp
 obj:=λi h st b hb=>by
  have e:b=j:=by simpa using hb
  subst e;obtain⟨o,e,c,d⟩:=st;exact⟨o,e,λv z=>by rw[d]at z;cases z⟩
 keep:=λi h h' st k=>st.at λo e=>k j (by simp) o e
 item:=by
  intro X g hw l D i aa s J H E I B st f;subst g hw l;obtain⟨F,x,q,U⟩:=f;obtain⟨A,N,p,M⟩:=I.tuple q;obtain⟨u,R,L⟩:=N.get U;obtain⟨y,t,S,r,n,m⟩:=B j (by simp);refine wpAny_pyNext_tuple_item st (show s.heap.IsTuple a A.toArray from p) (x:=u) (by simpa using R) λh' C G=>?_;have V:Inv X aa J H {s with heap:=h' }:=I.turned (t':=s.toks) (λb o hb e=>(G.2 b hb).trans e) y t r n m;obtain⟨o,e,c,d⟩:=id C;exact⟨u,rfl,Di (s:={s with heap:=h' }) e c d (by decide) ⟨x,H,V,L,⟨rfl,λW Q=>by rw[I.abX Q q];exact U⟩,C,λb hb=>(B b hb).1⟩⟩
 done:=by
  intro X g hw l D i aa s J H E I B st f;subst g hw l;obtain⟨F,q,U⟩:=f;obtain⟨A,N,p,M⟩:=I.tuple q;obtain⟨y,t,S,r,n,m⟩:=B j (by simp);have hl:=N.length;exact wpAny_pyNext_tuple_end (I.ok.hd D) st (show s.heap.IsTuple a A.toArray from p) (by simp;omega) λh' T=>⟨rfl,I.turned (t':=s.toks) (λb o hb e=>T b o hb e) y t r n m⟩
 self:=λ_ _ _ _ _ st h=>wpAny_pyIter_tupleiter st h
theorem abS{P:a9}{w:bf}{K:ba}{tg:bg}(j:ar)(lo:aw)(n:ax):Turn P w K tg (TQ lo n) [j] j (λi h=>IsRangeIter h j (lo+(i:ax)*1) ((n:aw)-(i:ax)) 1)where
 mem:=by simp
 obj:=λi h st b hb=>by
  have e:b=j:=by simpa using hb
  subst e;exact⟨_,st,λv z=>by
   have p:Data.fields _=Data.cell v:=z;cases p⟩
 keep:=λi h h' st k=>k j (by simp) _ st
 item:=by
  intro X U hw a N i aa s J H E I q st B;subst U hw a;obtain⟨l,g,u,f,d,c⟩:=q j (by simp);have W:=Walks.range (prog:=X.prog) (w:=X.w) (I.ok.hd N) j lo 1 n;refine W.item i s _ _ B st λv h' tk hv m r=>?_;obtain⟨t,rfl⟩:=hv;have y:Inv X aa J H {s with heap:=h',toks:=tk}:=I.turned (λb o hb e=>r b o (by simpa using hb) e) l g f d c;refine⟨_,rfl,Di (s:={s with heap:=h',toks:=tk}) (n := "range_iterator") m rfl rfl (by decide) ⟨.int (lo+i),H,y,⟨t,?_⟩,⟨rfl,rfl⟩,m,λb hb=>(q b hb).1⟩⟩;rw[Int.mul_one]
 done:=by
  intro X U hw a N i aa s J H E I q st B;subst U hw a;obtain⟨l,g,u,f,d,c⟩:=q j (by simp);exact wpAny_pyNext_range_end (I.ok.hd N) st (by have:n<=i:=B;omega) λh' x=>⟨rfl,I.turned (t':=s.toks) (λb o hb e=>x b o hb e) l g f d c⟩
 self:=λ_ _ _ _ _ st h=>wpAny_pyIter_rangeiter st h
section
variable{X:Cx}{tg:bg}
theorem af2{aa:ai (ar×cb)}{J:St}{H:Hp}{s:au}{R:It->Hp->Prop}{E:aj->au->Prop}{lo hi:aw}{t u v:Tok}{tk:ax}(I:Inv X aa J H s)(h1 : -(2 ^ 62)<=lo)(h2:lo<2 ^ 62)(B : -(2 ^ 62)<=hi)(z:hi<2 ^ 62)
  (q:R (TQ lo (hi-lo).toNat) H):wpAny (bb X.prog X.w) X.A (pyIter (.ref s.heap.objs.size)) (Zg X aa J tg R) E {s with heap:=s.heap.push {cls:=.type "range",data:=.fields #[.int lo t,.int hi u,.int 1 v]},toks:=tk}:=by
 refine wpAny_pyIter_range (IsRange.new ..) (small_one h1 h2 B z) ?_;have j:Inv X aa J H {s with heap:=s.heap.push {cls:=.type "range",data:=.fields #[.int lo t,.int hi u,.int 1 v]},toks:=tk}:=I.kept λb o e=>dQ _ e;refine⟨(s.heap.push {cls:=.type "range",data:=.fields #[.int lo t,.int hi u,.int 1 v]}).objs.size,[(s.heap.push {cls:=.type "range",data:=.fields #[.int lo t,.int hi u,.int 1 v]}).objs.size],_,_,H,rfl,
  j.kept (t':=tk) λb o e=>dQ _ e,abS _ lo (hi-lo).toNat,?_,λb hb=>?_,q⟩
 ·have U:lo+((0:ax):aw)*1=lo:=by simp
  have N:(((hi-lo).toNat:ax):aw)-((0:ax):aw)=Builtin.Range.rangeSize lo hi 1:=by rw[rangeSize_one];split <;> omega
  show IsRangeIter _ _ (lo+((0:ax):aw)*1) ((((hi-lo).toNat:ax):aw)-((0:ax):aw)) 1;rw[U,N];exact fW _ rfl
 ·have e:b=(s.heap.push {cls:=.type "range",data:=.fields #[.int lo t,.int hi u,.int 1 v]}).objs.size:=by simpa using hb
  subst e;exact j.uN cR (j.aK.fresh cR)
def anG(ta:TA):TI:=λJ H R=>ta J H λvs H1=>∃j:aw,vs=[.int j]/\-(2 ^ 62)<=j/\j<2 ^ 62/\R (TQ 0 j.toNat) H1
theorem ah4{a:bg}{ta:TA}{p pos:cn}(c:Gl X "range")(hm:X.mg "range" = ao)(d:PA X [a] ta)(b:a5 [a] X.env=[(ak,bt a X.env)]:=by rfl):PI X tg (.Call (.Name "range" p) [a] [] pos) (anG ta):=by
 intro aa s J H R I h;refine Call_ (BA I c hm boot_range (SU (bI (d pos aa s J H _ I h) λi k ⟨g,l,f,N,z⟩=>?_) b rfl));obtain⟨j,e,z,U,q⟩:=z;subst e;cases N with
 |cons r B =>
  cases B;obtain⟨t,rfl⟩:=r;exact call_range_1 (af2 f (by omega) (by omega) z U (by simpa using q))
def Ma(B:TI)(g:TG)(tb:TS):TS:=λD J H=>B J H λσ H1=>∃W:ax->ax->St->Hp->Prop,(∃m,W 0 m J H1)/\∀i m J H,W i m J H ->
 (σ.stop i H/\D.nx J H)\/(σ.go i H/\∃N:St->Hp->Prop,(∀j H',N j H'->∃z,z<m/\W (i+1) z j H')/\∀x H',σ.zV i H x H'->g x J H' λq H2=>tb {D with nx:=N,ct:=N,bk:=D.nx} q H2)
noncomputable def JF(fp:ai ar)(h:bo):ai (ar×cb):=fp.filterMap λb=>(h.get? b).map λo=>(b,o)
theorem PV{fp:ai ar}{h:bo}{b:ar}{o:cb}(hb:b∈fp)(e:h.get? b=ag o):(b,o)∈JF fp h:=List.mem_filterMap.mpr ⟨b,hb,by rw[e];rfl⟩
theorem aj1{fp:ai ar}{h:bo}{p:ar×cb}(j:p∈JF fp h):p.1∈fp/\h.get? p.1=ag p.2:=by
 obtain⟨b,hb,e⟩:=List.mem_filterMap.mp j;cases q:h.get? b with
 |none=>rw[q]at e;cases e
 |some o =>
  rw[q]at e;have z:(b,o)=p:=kE e;subst z;exact⟨hb,q⟩
theorem Inv.pinned{aa:ai (ar×cb)}{J:St}{H:Hp}{s:au}{fp:ai ar}(I:Inv X aa J H s)(hf:∀b∈fp,pH X aa H b)(B:∀b∈fp,∃o,s.heap.get? b=ag o/\∀v,o.data≠.cell v):Inv X (aa++JF fp s.heap) J H s :=
 I.Aa λp q=>(DC.mp q).elim (λz=>I.pin p (uW _ z)) λz=>by
  obtain⟨hb,e⟩:=aj1 z;obtain⟨f0,f1,f2,_⟩:=hf p.1 hb;obtain⟨o,j,d⟩:=B p.1 hb;rw[e]at j;cases j;exact⟨e,f0,f1,f2,d⟩
theorem Inv.OF{aa pl:ai (ar×cb)}{J:St}{H:Hp}{s:au}(I:Inv X (aa++pl) J H s):Inv X aa J H s:=I.Aa λp j=>I.pin p (uW _ (TK _ j))
theorem ahK{iter:bg}{body:ai bq}{K:TI}{g:TG}{tb:TS}{pos:cn}(l:PassesOwn (bb X.prog X.w) X.A X.env X.xe)(P:X.calm=av)(hi:PI X tg iter K)(hg:PG X tg g)(hb:qW X body tb)
  (hs:∀x,cp iter X.env x=pure x:=by intro _;rfl):PS X (.For tg iter body [] pos) (Ma K g tb):=by
 intro aa s J H D I h;refine wpAny_For (bI (hi aa s J H _ I h) λv s1 h1=>bI h1 λBj s2 h2=>?_) hs;obtain⟨it,p,tn,σ,H2,e,I2,T,uE,Q,W,⟨m0,w0⟩,turn⟩:=h2;subst e;have E:∀{a:Hp},(∀b∈p,a b=ao)->∀b∈p,pH X aa a b:=λhn b hb=>⟨hn b hb,(Q b hb).2⟩
 refine codeAny_forLoop_any (λn s'=>∃i z a,Inv X aa z a s'/\tn i s'.heap/\(∀b∈p,a b=ao)/\W i n z a) ?_ m0 ⟨0,J,H2,I2,uE,λb hb=>(Q b hb).1,w0⟩;rintro n M ⟨i,q,t,V,S,R,w3⟩
 rcases turn i n q t w3 with⟨stop,qn⟩|⟨go,N,hN,step⟩
 ·refine DN l (bI (T.done X rfl rfl rfl P i aa M q t X.xe V (E R) S stop) λr s4 ⟨hr,I4⟩=>?_);subst hr;exact VD ⟨q,t,I4,qn⟩
 ·refine DN l (bI (T.item X rfl rfl rfl P i aa M q t X.xe V (E R) S go) λr s4 ⟨u,hr,h4⟩=>?_);subst hr;refine DN l (bI h4 λ_ L zz=>?_);obtain⟨x,H5,I5,r5,y5,G,QZ⟩:=zz;have F:=I5.pinned (E QZ) (T.obj _ _ G);refine DN l (bI (hg _ L q H5 x u _ F r5 (step x H5 y5)) λ_ s6 ⟨y,H6,I6,q6⟩=>?_);refine DN l (bI (hb _ s6 y H6 _ I6 q6) λf C c=>?_);have again:∀{j:St} {U:Hp},Inv X (aa++JF p L.heap) j U C->N j U->∃m,m<n/\∃i z a,Inv X aa z a C/\tn i C.heap/\(∀b∈p,a b=ao)/\W i m z a:=λ{j U} B k=>by
   obtain⟨m',hm,w7⟩:=hN j U k;refine⟨m',hm,i+1,j,U,B.OF,T.keep _ _ _ G λb hb o e=>(B.pin (b,o) (uW _ (uW _ (PV hb e)))).1,λb hb=>?_,w7⟩;obtain⟨o,e,d⟩:=T.obj _ _ G b hb;exact(B.pin (b,o) (uW _ (uW _ (PV hb e)))).2.1
  cases f with
  |next=>obtain⟨j,U,B,k⟩:=c;exact again B k
  |cont=>obtain⟨j,U,B,k⟩:=c;exact again B k
  |brk=>obtain⟨j,U,B,c⟩:=c;exact⟨j,U,B.OF,c⟩
  |ret v=>obtain⟨x7,j,U,B,r7,c⟩:=c;exact⟨x7,j,U,B.OF,r7,c⟩
end
abbrev R2:=V->V->Hp->VK->Prop
def fV(X:Cx)(f:aj->aj->Sem aj)(r:R2):Prop :=
 ∀(aa:ai (ar×cb)) (s:au) (J:St) (H:Hp) (x y:V) (v u:aj) (Q:VK),Inv X aa J H s->RelV x v->RelV y u->r x y H Q ->
  wpAny (bb X.prog X.w) X.A (f v u) (EP X aa J Q) X.xe s
def Hd(X:Cx)(f:aj->Sem aj)(r:V->Hp->VK->Prop):Prop :=
 ∀(aa:ai (ar×cb)) (s:au) (J:St) (H:Hp) (x:V) (v:aj) (Q:VK),Inv X aa J H s->RelV x v->r x H Q ->
  wpAny (bb X.prog X.w) X.A (f v) (EP X aa J Q) X.xe s
def rG(X:Cx)(f:aj)(r:ai V->Hp->VK->Prop):Prop :=
 ∀(aa:ai (ar×cb)) (s:au) (J:St) (H:Hp) (xs:ai V) (us:ai aj) (Q:VK),Inv X aa J H s->Vals xs us->r xs H Q ->
  wpAny (bb X.prog X.w) X.A (call f us) (EP X aa J Q) X.xe s
def IU(r:R2)(ta tb:TE):TE:=λJ H Q=>ta J H λx H1=>tb J H1 λy H2=>r x y H2 Q
def tUn(r:V->Hp->VK->Prop)(ta:TE):TE:=λJ H Q=>ta J H λx H1=>r x H1 Q
def rI(C:aw->aw->Prop)(g:aw->aw->V):R2:=λx y H Q=>∃i j,x=.int i/\y=.int j/\C i j/\Q (g i j) H
def vU(g:aw->aw->V):R2:=λx y H Q=>∃i j,x=.int i/\y=.int j/\Q (g i j) H
def rU(g:aw->V):V->Hp->VK->Prop:=λx H Q=>∃i,x=.int i/\Q (g i) H
section
variable{X:Cx}{a b c:bg}{ta tb tc:TE}{pos:cn}
theorem Eu(d:PE X a ta)(hb:PE X b tb){aa:ai (ar×cb)}{s:au}{J:St}{H:Hp}{R:V->V->Hp->Prop}(I:Inv X aa J H s)
  (h:ta J H λx H1=>tb J H1 λy H2=>R x y H2) {Q:aj->au->Prop} {f:aj->aj->Sem aj}
  (c:∀v u j x y H2,Inv X aa J H2 j->RelV x v->RelV y u->R x y H2->wpAny (bb X.prog X.w) X.A (f v u) Q X.xe j) :
  wpAny (bb X.prog X.w) X.A (bt a X.env) (λv s₁=>wpAny (bb X.prog X.w) X.A (bt b X.env) (λu s₂=>wpAny (bb X.prog X.w) X.A (f v u) Q X.xe s₂) X.xe s₁) X.xe s:=by
 refine bI (d aa s J H _ I h) λv q ⟨x,H1,g,B,U⟩=>?_;refine bI (hb aa q J H1 _ g U) λu j ⟨y,H2,e,z,N⟩=>?_;exact c v u j x y H2 e B z N
theorem aiF{j:Operator}{r:R2}(U:fV X (b9 j) r)(c:PE X a ta)(hb:PE X b tb):PE X (.BinOp a j b pos) (IU r ta tb):=by
 intro aa s J H Q I h;exact wpAny_BinOp (Eu c hb I h λv u z x y e d N B q=>U aa z J e x y v u Q d N B q)
theorem aiB{j:UnaryOp}{r:V->Hp->VK->Prop}(N:Hd X (unaryOp j) r)(U:PE X a ta):PE X (.UnaryOp j a pos) (tUn r ta):=by
 intro aa s J H Q I h;exact UnaryOp_ (bI (U aa s J H _ I h) λv q ⟨x,c,b,z,B⟩=>N aa q J c x v Q b z B)
theorem PJ{f:aj->aj->Sem aj}{C:aw->aw->Prop}{g:aw->aw->aw}
  (rule:∀(i j:aw) (t u:Tok) (s:au) (Q:aj->au->Prop) (E:aj->au->Prop),C i j->Q (.int (g i j) s.toks) {s with toks:=s.toks+1}->wpAny (bb X.prog X.w) X.A (f (.int i t) (.int j u)) Q E s) :
  fV X f (rI C λi j => .int (g i j)):=by
 intro aa s J H x y v u Q I N B h;obtain⟨i,j,rfl,rfl,U,q⟩:=h;obtain⟨t,rfl⟩:=N;obtain⟨z,rfl⟩:=B;exact rule i j t z s _ _ U ⟨.int (g i j),H,I.tok _,⟨_,rfl⟩,q⟩
theorem Pd{f:aj->aj->Sem aj}{g:aw->aw->aw}
  (rule:∀(i j:aw) (t u:Tok) (s:au) (Q:aj->au->Prop) (E:aj->au->Prop),Q (.int (g i j) s.toks) {s with toks:=s.toks+1}->wpAny (bb X.prog X.w) X.A (f (.int i t) (.int j u)) Q E s) :
  fV X f (vU λi j => .int (g i j)):=by
 intro aa s J H x y v u Q I N B h;obtain⟨i,j,rfl,rfl,q⟩:=h;obtain⟨t,rfl⟩:=N;obtain⟨z,rfl⟩:=B;exact rule i j t z s _ _ ⟨.int (g i j),H,I.tok _,⟨_,rfl⟩,q⟩
theorem PK{f:aj->aj->Sem aj}{g:aw->aw->bc}
  (rule:∀(i j:aw) (t u:Tok) (s:au) (Q:aj->au->Prop) (E:aj->au->Prop),Q (.bool (g i j)) s->wpAny (bb X.prog X.w) X.A (f (.int i t) (.int j u)) Q E s) :
  fV X f (vU λi j => .bl (g i j)):=by
 intro aa s J H x y v u Q I N B h;obtain⟨i,j,rfl,rfl,q⟩:=h;obtain⟨t,rfl⟩:=N;obtain⟨z,rfl⟩:=B;exact rule i j t z s _ _ ⟨.bl (g i j),H,I,rfl,q⟩
def oJ(i j:aw):Prop:=0<j/\j<1073741824
def IF(i j:aw):Prop:=0<=j/\j<=1000000/\i.natAbs<2 ^ 64
def kI(i j:aw):Prop:=(-(2 ^ 64)<i/\i<2 ^ 64)\/(-(2 ^ 64)<j/\j<2 ^ 64)
theorem kI.ok{i j:aw}(h:kI i j):IntMulOk i j:=by
 rcases h with⟨h1,h2⟩|⟨h1,h2⟩
 ·exact .of_left (intBits_le_64 h1 h2)
 ·exact .of_right (intBits_le_64 h1 h2)
theorem ajW:fV X (b9 .Add) (vU λi j => .int (i+j)):=Pd λ_ _ _ _ _ _ _ q=>add_int q
theorem ajI:fV X (b9 .Sub) (vU λi j => .int (i-j)):=Pd λ_ _ _ _ _ _ _ q=>sub_int q
theorem ajM:fV X (b9 .Mult) (rI kI λi j => .int (i*j)):=PJ λ_ _ _ _ _ _ _ z q=>mul_int q z.ok
theorem ajS:fV X (b9 .FloorDiv) (rI oJ λi j => .int (i/j)):=PJ λi j _ _ _ _ _ z q=>by
 have h1:(0:aw)<j:=z.1;have h2:j<1073741824:=z.2;exact floordiv_int (by omega) (by rw[Int.fdiv_eq_ediv_of_nonneg i (by omega)];exact q) (.inl (PyProof.noPylong_small (by omega)))
theorem ajN:fV X (b9 .Mod) (rI (λ_ j=>0<j) λi j => .int (i%j)):=PJ λi j _ _ _ _ _ z q=>by
 have h1:(0:aw)<j:=z;exact mod_int' (by omega) (by rw[Int.fmod_eq_emod_of_nonneg i (by omega)];exact q)
theorem ajJ:fV X (b9 .Pow) (rI IF λi j => .int (i ^ j.toNat)):=PJ λ_ _ _ _ _ _ _ z q=>pow_int_small z.1 z.2.1 z.2.2 q
theorem unI{f:aj->Sem aj}{g:aw->aw}
  (rule:∀(i:aw) (t:Tok) (s:au) (Q:aj->au->Prop) (E:aj->au->Prop),Q (.int (g i) s.toks) {s with toks:=s.toks+1}->wpAny (bb X.prog X.w) X.A (f (.int i t)) Q E s) :
  Hd X f (rU λi => .int (g i)):=by
 intro aa s J H x v Q I j h;obtain⟨i,rfl,q⟩:=h;obtain⟨t,rfl⟩:=j;exact rule i t s _ _ ⟨.int (g i),H,I.tok _,⟨_,rfl⟩,q⟩
theorem abL:Hd X (unaryOp .USub) (rU λi => .int (-i)):=unI λ_ _ _ _ _ q=>neg_int q
theorem ajO:fV X (br .Lt) (vU λi j => .bl (decide (i<j))):=PK λ_ _ _ _ _ _ _ q=>lt_int q
theorem ajP:fV X (br .LtE) (vU λi j => .bl (decide (i<=j))):=PK λ_ _ _ _ _ _ _ q=>le_int q
theorem ajQ:fV X (br .Gt) (vU λi j => .bl (decide (j<i))):=PK λ_ _ _ _ _ _ _ q=>gt_int q
theorem ajR:fV X (br .GtE) (vU λi j => .bl (decide (j<=i))):=PK λ_ _ _ _ _ _ _ q=>ge_int q
theorem fV.or{f:aj->aj->Sem aj}{r B:R2}(h:fV X f r)(h':fV X f B):fV X f (λx y H Q=>r x y H Q\/B x y H Q):=by
 intro aa s J H x y v u Q I z j q
 rcases q with q|q
 ·exact h aa s J H x y v u Q I z j q
 ·exact h' aa s J H x y v u Q I z j q
theorem dG(b:bg){j:CmpOp}(h:j≠.In:=by decide)(h2:j≠.NotIn:=by decide):cw j b=ak:=by
 have z:(j==CmpOp.In)=ak:=by cases j <;> first|rfl|exact bp rfl h
 have q:(j==CmpOp.NotIn)=ak:=by cases j <;> first|rfl|exact bp rfl h2
 cases b <;> simp[cw,z,q]
theorem ai0{j:CmpOp}{r:R2}(U:fV X (br j) r)(c:PE X a ta)(hb:PE X b tb)(hm:cw j b=ak):PE X (.Compare a [j] [b] pos) (IU r ta tb):=by
 intro aa s J H Q I h;exact wpAny_Compare1 (Eu c hb I h λv u z x y e d N B q=>U aa z J e x y v u Q d N B q) hm
def WV(t:TE):TT:=λJ H Q=>t J H λx H'=>∃k,x=.bl k/\Q k H'
theorem ag9{j:CmpOp}{r:R2}(l:fV X (br j) r)(m:PE X a ta)(hb:PE X b tb)(hm:cw j b=ak):PT X (.Compare a [j] [b] pos) (WV (IU r ta tb)):=by
 intro aa s J H Q I h;refine wpAny_isTrue_Compare1 (bI (m aa s J H _ I h) λv B ⟨x,A,p,d,i⟩=>bI (hb aa B J A _ p i) λu q ⟨y,w,o,U,g⟩ =>
  bI (l aa q J w x y v u _ o d U g) λc C ⟨z,t,n,N,k,e,f⟩=>?_) hm
 subst e;cases N;exact vG ⟨t,n,f⟩
def XA(r B:R2)(ta tb tc:TE):TE:=λJ H Q=>ta J H λx H1=>tb J H1 λy H2=>r x y H2 λz j=>∃k,z=.bl k /\
 (if k=av then tc J j λq N=>B y q N Q else Q (.bl ak) j)
theorem ai2{j q:CmpOp}{r N:R2}(G:fV X (br j) r)(F:fV X (br q) N)(L:PE X a ta)(hb:PE X b tb)(K:PE X c tc)
  (hm:lastMarks [j,q] [b,c]=ak:=by with_unfolding_all rfl):PE X (.Compare a [j,q] [b,c] pos) (XA r N ta tb tc):=by
 intro aa s J H Q I h;refine Compare_chain (bI (L aa s J H _ I h) λv p ⟨x,V,R,A,E⟩=>chain_link (bI (hb aa p J V _ R E) λu o ⟨y,T,P,B,D⟩ =>
  bI (G aa o J T x y v u _ P A B D) λd n ⟨z,g,f,w,k,e,U⟩=>?_)) hm
 subst e;cases w;refine vG ?_;cases k with
 |false=>exact ite_ff ⟨.bl ak,g,f,rfl,U⟩
 |true=>exact ite_tt (chain_last (bI (K aa n J g _ f U) λl m ⟨i,S,M,t,C⟩=>F aa m J S y i u l Q M B t C))
theorem ahB{j q:CmpOp}{r N:R2}(M:fV X (br j) r)(L:fV X (br q) N)(R:PE X a ta)(hb:PE X b tb)(P:PE X c tc)
  (hm:lastMarks [j,q] [b,c]=ak:=by with_unfolding_all rfl):PT X (.Compare a [j,q] [b,c] pos) (WV (XA r N ta tb tc)):=by
 intro aa s J H Q I h;refine isTrue_chain (bI (R aa s J H _ I h) λv p ⟨x,H1,I1,C,G⟩=>test_link (bI (hb aa p J H1 _ I1 G) λu o ⟨y,H2,I2,B,F⟩ =>
  bI (M aa o J H2 x y v u _ I2 C B F) λd n ⟨z,g,f,A,k,e,U⟩=>?_)) hm
 subst e;cases A;refine vG ?_;cases k with
 |false =>
  obtain⟨k',T,K⟩:=U;cases T;exact ite_ff ⟨g,f,K⟩
 |true =>
  refine ite_tt (test_last (bI (P aa n J g _ f U) λl m ⟨i,H4,W,w,E⟩=>bI (L aa m J H4 y i u l _ W B w E) λd' s5 zz=>?_));obtain⟨z2,H5,V,t,k2,S,D⟩:=zz;subst S;cases t;exact vG ⟨H5,V,D⟩
theorem QB:(ay:ax)<2 ^ 63:=by rw[nD];decide
theorem vals1{x:V}{us:ai aj}(r:Vals [x] us):∃u,us=[u]/\RelV x u:=by
 cases r with
 |cons q j=>cases j;exact⟨_,rfl,q⟩
theorem vals2{x y:V}{us:ai aj}(r:Vals [x,y] us):∃u j,us=[u,j]/\RelV x u/\RelV y j:=by
 cases r with
 |cons N B =>
  cases B with
  |cons z q=>cases q;exact⟨_,_,rfl,N,z⟩
theorem avF(B:X.calm=av):rG X (.builtin "max") (λxs H Q=>∃i j,xs=[.int i,.int j]/\Q (.int (if j>i then j else i)) H):=by
 intro aa s J H xs U Q I r h;obtain⟨i,j,rfl,q⟩:=h;obtain⟨u,N,rfl,⟨t,rfl⟩,⟨a,rfl⟩⟩:=vals2 r;refine max_two_ints (I.ok.hd B) λh' tk k=>⟨_,H,I.kept k,?_,q⟩
 by_cases z:j>i
 ·rw[a6 z,a6 z];exact⟨_,rfl⟩
 ·rw[a7 z,a7 z];exact⟨_,rfl⟩
theorem avE(B:X.calm=av):rG X (.builtin "min") (λxs H Q=>∃i j,xs=[.int i,.int j]/\Q (.int (if j<i then j else i)) H):=by
 intro aa s J H xs U Q I r h;obtain⟨i,j,rfl,q⟩:=h;obtain⟨u,N,rfl,⟨t,rfl⟩,⟨a,rfl⟩⟩:=vals2 r;refine min_two_ints (I.ok.hd B) λh' tk k=>⟨_,H,I.kept k,?_,q⟩
 by_cases z:j<i
 ·rw[a6 z,a6 z];exact⟨_,rfl⟩
 ·rw[a7 z,a7 z];exact⟨_,rfl⟩
end
structure CU(h:bo)(x dx C:ar)(mA:az->aq aj):Prop where
 obj:h.get? x=ag (instObj C dx)
 ns:h.Ns1 dx mA
 ne:dx≠x
theorem alQ{h:bo}{dx:ar}{mA:az->aq aj}(n:h.Ns1 dx mA):∃j,h.get? dx=ag j/\∀name,lookIn name j=ag (mA name):=by
 obtain⟨o,es,d,N,hd,U,_,hm⟩:=n;refine⟨o,N,λname=>?_⟩;have e:=hm name;unfold nsFind findBy at e;rw[<-Array.find?_toList]at e;unfold lookIn;rw[hd];dsimp only;split
 ·rename_i y q;rw[q]at e;exact cy ag e
 ·rename_i q;rw[q]at e;have a:es.toList.any (·.refKey)=ak:=by
   rw[List.any_eq_false];intro y B;obtain⟨z,t,c⟩:=U y (Array.mem_toList_iff.mp B);simp[DictEntry.refKey,c]
  have b:¬es.toList.any (·.refKey)=av:=by rw[a];exact Jw
  rw[a7 b];exact cy ag e
theorem CU.look{h:bo}{x dx C:ar}{mA:az->aq aj}(I:CU h x dx C mA):∃j,PySem.W.InstAt h x (instObj C dx) C (ag j)/\∀name,lookIn name j=ag (mA name) :=
 let ⟨j,q,hl⟩:=alQ I.ns
 ⟨j,⟨I.obj,rfl,rfl,q⟩,hl⟩
section
variable{prog:a9}{w:bf}{A:bj}{E:aj->au->Prop}{s:au}{K:ba}{x dx C f:ar}{mA:az->aq aj}{name:az}{v:aj}
theorem get_map{expr:bc}{Q:aj->au->Prop}(X:K.In s.heap)(I:CU s.heap x dx C mA)(q:plainGet K C name=av)(hh:hasDictIn K C=av)
  (z:c4 K (.ref C) name=ag ao) (hv:mA name=ag v) (j:PySem.W.handedIn v=av) (h:Q v {s with toks:=s.toks+1}) :
  wpAny (bb prog w) A (getAttr (.ref x) name expr) Q E s:=by
 obtain⟨B,σ,hl⟩:=I.look;exact PySem.W.get_value X σ (plainGet_of q).1 (PySem.W.findObj_own hh z rfl (by rw[hl,hv])) j h
theorem arQ{pl:Sem bc}{Q:aj×ai aj->au->Prop}(X:K.In s.heap)(I:CU s.heap x dx C mA)(j:plainGet K C name=av)
  (B:c4 K (.ref C) name=ag (ag (.ref f))) (z:isFn K (.ref f)=av) (hv:mA name=ao) (h:Q (.ref f,[.ref x]) s) :
  wpAny (bb prog w) A (getMethod (.ref x) name pl) Q E s:=by
 obtain⟨q,σ,hl⟩:=I.look;exact PySem.W.method_fn X σ (plainGet_of j).1 (plainGet_of j).2 B (xF.mp z) (by show(lookIn name q).map (·.isSome)=ag ak;rw[hl,hv];rfl) h
theorem ad0{ns:ai az}{Q:Unit->au->Prop}(X:K.In s.heap)(I:CU s.heap x dx C mA)
  (d:c4 K (.ref C) "__setattr__" = ag (ag (.builtin "object.__setattr__"))) (e:PySem.W.plainOver K C=av) (c:takerIn K C name=ag ao) (hh:hasDictIn K C=av)
  (hw:PySem.Within mA ns) (hsz:ns.length<=ay)
  (h:∀h',CU h' x dx C (λy=>if y=name then ag v else mA y)->Heap.SameBut dx s.heap h'->Q () {s with heap:=h',toks:=s.toks+2}) :
  wpAny (bb prog w) A (setAttr (.ref x) name v) Q E s:=by
 obtain⟨l,σ,hl⟩:=I.look;refine PySem.W.set_plain X σ d (PySem.W.osa_open (s:={s with toks:=s.toks+1}) (r:=ao) X σ e c λb=>?_);obtain⟨n,f,k⟩:=PySem.W.any_some hh;have U:s.heap.get? x=ag ⟨.ref C,ag dx,.plain,#[]⟩:=I.obj;refine aL (bH (aL (aL (wpAny_loadPart U (aL (PySem.W.Looks.here (s:={s with toks:=s.toks+1}) (PySem.W.looks_clsIn X f) ?_))))));rw[k];refine bH (a:=ag dx) (aL (bH (aL ?_)));refine wpAny_nsSet1 (s:={s with toks:=s.toks+1}) I.ns λh' N B=>?_;obtain⟨m,g,i,j,q,z⟩:=N.count (PySem.Within.cons name v hw);refine aL (wpAny_lookBehind j (by rw[q];exact pastItsLine_dict (pC z (by rw[gZ];omega))) ?_);exact bH (h _ ⟨(B.2 _ (dX I.ne)).trans I.obj,N,I.ne⟩ B)
theorem alL{R:Result->au->Prop}{vs:ai aj}{j:ai (az×aj)}(X:K.In s.heap)(hm:makesIn K C=av)
  (hi:c4 K (.ref C) "__init__" = ag (ag (.ref f))) (q:PySem.W.typeIn K (.ref f)=ag (.type "function"))
  (h:codeAny (bb prog w) (A.under (.builtin "type.__call__" ⟨.ref C::vs,j⟩)) (.call (.ref f) ⟨.ref (s.heap.objs.size+1)::vs,j⟩) (PySem.W.InitBack (s.heap.objs.size+1) R)
   {s with heap:=(s.heap.push dk).push (instObj C s.heap.objs.size)}) :
  codeAny (bb prog w) A (.call (.ref C) ⟨vs,j⟩) R s:=by
 obtain⟨hh,g,d,t,os⟩:=s;exact PySem.W.make_core (PySem.W.makes_of X hm) (PySem.W.looks_findIn X hi) (λself=>PySem.W.bind_fn X self q) (.inl rfl) h
end
noncomputable def iS(f:az)(v:V):ai (az×V)->ai (az×V)
 |[]=>[(f,v)]
 |(g,x)::r=>if g=f then(g,v)::r else(g,x)::iS f v r
theorem Qg(f g:az)(v:V):∀fs:ai (az×V),(iS f v fs).lookup g=if g=f then ag v else fs.lookup g
 |[]=>by
  show List.lookup g [(f,v)]=_
  by_cases h:g=f
  ·have hb:(g==f)=av:=xF.mpr h;simp only[List.lookup,hb,a6 h]
  ·have hb:(g==f)=ak:=xG.mpr h;simp only[List.lookup,hb,a7 h]
 |(k,x)::r=>by
  have ih:=Qg f g v r;rw[show iS f v ((k,x)::r)=(if k=f then(k,v)::r else(k,x)::iS f v r)from rfl]
  by_cases j:k=f
  ·rw[a6 j]
   by_cases h:g=k
   ·have hb:(g==k)=av:=xF.mpr h;simp only[List.lookup,hb,a6 (h.trans j)]
   ·have hb:(g==k)=ak:=xG.mpr h;simp only[List.lookup,hb,a7 (λe:g=f=>h (e.trans j.symm))]
  ·rw[a7 j]
   by_cases h:g=k
   ·have hb:(g==k)=av:=xF.mpr h;simp only[List.lookup,hb,a7 (λe:g=f=>j (h.symm.trans e))]
   ·have hb:(g==k)=ak:=xG.mpr h;simp only[List.lookup,hb];exact ih
theorem Be(f:az)(v:V):∀fs:ai (az×V),f∈(iS f v fs).map (·.1)/\∀g,g∈fs.map (·.1)->g∈(iS f v fs).map (·.1)
 |[]=>⟨by simp[iS],λg h=>by simp at h⟩
 |(k,x)::r=>by
  obtain⟨z,q⟩:=Be f v r;rw[show iS f v ((k,x)::r)=(if k=f then(k,v)::r else(k,x)::iS f v r)from rfl]
  by_cases j:k=f
  ·rw[a6 j];subst j;exact⟨by simp,λg h=>by simpa using h⟩
  ·rw[a7 j];refine⟨?_,λg h=>?_⟩
   ·rw[cK];exact fL _ z
   ·rw[cK]at h ⊢
    rcases dI.mp h with e|e
    ·exact dI.mpr (.inl e)
    ·exact fL _ (q g e)
theorem Qr(f:az)(v:V):∀fs:ai (az×V),(iS f v fs).length<=fs.length+1
 |[]=>by simp[iS]
 |(k,x)::r=>by
  have ih:=Qr f v r;rw[show iS f v ((k,x)::r)=(if k=f then(k,v)::r else(k,x)::iS f v r)from rfl]
  by_cases j:k=f
  ·rw[a6 j,gZ,gZ];omega
  ·rw[a7 j,gZ,gZ];omega
theorem lX.some_of{v:V}{o:aq aj}(r:lX (ag v) o):∃u,o=ag u/\RelV v u:=by
 cases o with
 |none=>exact(show bz from r).elim
 |some u=>exact⟨u,rfl,r⟩
theorem lX.none_of{o:aq aj}(r:lX ao o):o=ao:=by
 cases o with
 |none=>rfl
 |some u=>exact(show bz from r).elim
theorem Ts{v:V}{u:aj}(r:RelV v u):PySem.W.handedIn u=av:=by
 cases v with
 |cV=>cases(show u=Value.none from r);rfl
 |bl b=>cases(show u=Value.bool b from r);rfl
 |int i=>obtain⟨t,e⟩:=(show ∃t,u=Value.int i t from r);cases e;rfl
 |str x=>obtain⟨t,e⟩:=(show ∃t,u=Value.str x t from r);cases e;rfl
 |RM b=>obtain⟨t,e⟩:=(show ∃t,u=Value.bytes b t from r);cases e;rfl
 |CB b=>obtain⟨t,e⟩:=(show ∃t,u=Value.float b t from r);cases e;rfl
 |ref a=>cases(show u=Value.ref a from r);rfl
 |ty n=>cases(show u=Value.type n from r);rfl
section
variable{P:a9}{w:bf}{H H':Hp}{h h':bo}{a C dx:ar}{fs iA:ai (az×V)}
theorem QH(aK:fE P w H h)(e:H a=ag (.ins C dx fs)):∃mA,CU h a dx C mA/\(∀f,lX (fs.lookup f) (mA f))/\PySem.Within mA (fs.map (·.1))/\fs.length<=1000/\H dx=ag (.own a):=by
 obtain⟨d,z,ne,j,mA,n,r,q⟩:=(show iC P w H h a (.ins C dx fs)from aK a _ e);exact⟨mA,⟨j,n,ne⟩,r,q,z,d⟩
end
structure nR(K:ba)(C:ar):Prop where
 pg:plainGet K C Str.empty=av
 hd:hasDictIn K C=av
 po:PySem.W.plainOver K C=av
 sa:c4 K (.ref C) "__setattr__" = ag (ag (.builtin "object.__setattr__"))
theorem nR.get{K:ba}{C:ar}(c:nR K C)(f:az):plainGet K C f=av:=c.pg
def CV(K:ba)(C:ar)(f:az):Prop:=c4 K (.ref C) f=ag ao
theorem CV.acG{K:ba}{C:ar}{f:az}(n:CV K C f):takerIn K C f=ag ao:=by
 unfold takerIn;rw[show c4 K (.ref C) f=ag ao from n];rfl
structure Meth(K:ba)(C:ar)(m:az)(f:ar):Prop where
 at_:c4 K (.ref C) m=ag (ag (.ref f))
 fn:isFn K (.ref f)=av
 kp:dh K (.ref f)=av
section
variable{X:Cx}{aa:ai (ar×cb)}{J:St}{H:Hp}{s:au}{a C dx:ar}{fs:ai (az×V)}{f:az}{v:V}{A:bj}{E:aj->au->Prop}
theorem arO{b:bc}{Q:aj->au->Prop}(I:Inv X aa J H s)(e:H a=ag (.ins C dx fs))(c:nR X.K C)(n:CV X.K C f)(l:fs.lookup f=ag v)
  (h:∀u s',Inv X aa J H s'->RelV v u->Q u s'):wpAny (bb X.prog X.w) A (getAttr (.ref a) f b) Q E s:=by
 obtain⟨q,ι,r,_,_,_⟩:=QH I.aK e;obtain⟨u,z,j⟩:=lX.some_of (v:=v) (o:=q f) (by rw[<-l];exact r f);exact get_map I.fI ι (c.get f) c.hd n z (Ts j) (h u _ (I.tok _) j)
theorem Ug{m:az}{g:ar}{pl:Sem bc}{Q:aj×ai aj->au->Prop}(I:Inv X aa J H s)(e:H a=ag (.ins C dx fs))(c:nR X.K C)(k:Meth X.K C m g)(l:fs.lookup m=ao)
  (h:Q (.ref g,[.ref a]) s):wpAny (bb X.prog X.w) A (getMethod (.ref a) m pl) Q E s:=by
 obtain⟨j,ι,r,_,_,_⟩:=QH I.aK e;have hn:j m=ao:=lX.none_of (by rw[<-l];exact r m);exact arQ I.fI ι (c.get m) k.at_ k.fn hn h
theorem adY{y:V}{u:aj}{Q:Unit->au->Prop}(I:Inv X aa J H s)(e:H a=ag (.ins C dx fs))(c:nR X.K C)(n:CV X.K C f)(hl:fs.length<1000)(i:RelV y u)
  (h:∀s',Inv X aa J (upd H a (.ins C dx (iS f y fs))) s'->Q () s'):wpAny (bb X.prog X.w) A (setAttr (.ref a) f u) Q E s:=by
 obtain⟨N,ι,r,B,_,U⟩:=QH I.aK e;have k:(fs.map (·.1)).length<=ay:=by rw[lJ,nD];omega
 refine ad0 I.fI ι c.sa c.po n.acG c.hd B k λh' j d=>h _ ?_;have hd:∃o,h'.get? dx=ag o:=let ⟨o,_,_,m,_⟩:=j.ns; ⟨o,m⟩;refine I.write (x:=a) (e:=dx) (by rw[e];exact True.intro) (.inr U) (λb q hb z=>(d.2 b hb).trans z) hd ?_;refine⟨by rw[bO ι.ne];exact U,?_,ι.ne,j.obj,_,j.ns,λg=>?_,λg l=>?_⟩
 ·have:=Qr f y fs;omega
 ·show lX ((iS f y fs).lookup g) (if g=f then ag u else N g);rw[Qg]
  by_cases q:g=f
  ·rw[a6 q,a6 q];exact i
  ·rw[a7 q,a7 q];exact r g
 ·by_cases q:g=f
  ·rw[q];exact(Be f y fs).1
  ·refine(Be f y fs).2 g (B g λz=>l ?_);show(if g=f then ag u else N g)=ao;rw[a7 q];exact z
theorem Inv.made(I:Inv X aa J H s):Inv X aa J (upd (upd H s.heap.objs.size (.own (s.heap.objs.size+1))) (s.heap.objs.size+1) (.ins C s.heap.objs.size []))
  {s with heap:=(s.heap.push dk).push (instObj C s.heap.objs.size)}:=by
 have j:(s.heap.push dk).get? s.heap.objs.size=ag dk:=fW s.heap rfl;have N:((s.heap.push dk).push (instObj C s.heap.objs.size)).get? (s.heap.objs.size+1)=ag (instObj C s.heap.objs.size):=by
  have:=fW (s.heap.push dk) (o:=instObj C s.heap.objs.size) rfl;rwa[HH]at this
 have B:(s.heap.push dk).Ns s.heap.objs.size (λ_=>ao):=⟨dk,#[],_,j,rfl,(λe he=>bp he (by simp)),λ_=>rfl⟩;have U:=I.laid (a:=s.heap.objs.size) (o:=.own (s.heap.objs.size+1)) (h':=s.heap.push dk) (t':=s.toks) (λb u q=>dQ _ q) cR ⟨_,j⟩;refine U.laid (a:=s.heap.objs.size+1) (o:=.ins C s.heap.objs.size []) (t':=s.toks) (λb u q=>dQ _ q) (Nat.le_of_eq (HH _ _)) ?_;have ne:s.heap.objs.size≠s.heap.objs.size+1:=gB (SW _);refine⟨by rw[bO ne,dZ],zK _,ne,N,λ_=>ao,(Heap.Ns1.of_empty B).at λo q=>dQ _ q,λ_=>True.intro,λy z=>bp rfl z⟩
theorem avZ{prog:a9}{w:bf}{env:Env}{e:bg}{f:az}{pos:cn}{s:au}{Q:aj->au->Prop}(hb:bu e f env (bt e env)=bt e env)
  (h:wpAny (bb prog w) A (bt e env) (λo s₁=>wpAny (bb prog w) A (getAttr o f av) Q E s₁) E s):wpAny (bb prog w) A (bt (.Attribute e f pos) env) Q E s :=
 Attribute_any_ h (by rw[arm_eval_Attribute,hb])
end
def IW(K:ba)(ta:TE)(f:az):TE:=λJ H Q=>ta J H λx H1=>∃a C dx fs v,x=.ref a/\H1 a=ag (.ins C dx fs)/\nR K C/\CV K C f/\fs.lookup f=ag v/\Q v H1
def afP(K:ba)(ta tv:TE)(f:az):TS:=λD J H=>tv J H λy H1=>ta J H1 λx H2=>∃a C dx fs,x=.ref a/\H2 a=ag (.ins C dx fs)/\nR K C/\CV K C f/\fs.length<1000 /\
 D.nx J (upd H2 a (.ins C dx (iS f y fs)))
section
variable{X:Cx}{o e value:bg}{f:az}{pos pos' ab0:cn}{ta tv:TE}
theorem JG(he:PE X e ta)(hb:bu e f X.env (bt e X.env)=bt e X.env):PE X (.Attribute e f pos) (IW X.K ta f):=by
 intro aa s J H Q I h;refine avZ hb (bI (he aa s J H _ I h) λu i zz=>?_);obtain⟨x,b,U,j,a,C,k,fs,v,ex,B,c,n,l,q⟩:=zz;subst ex;obtain rfl:u=Value.ref a:=j;exact arO U B c n l λd g N z=>⟨v,b,N,z,q⟩
theorem ahL(d:PE X o ta)(hv:PE X value tv)(b:dj value (ag (.Attribute o f pos')) pos.line X.env=pure ak):PS X (.Assign [.Attribute o f pos'] value pos) (afP X.K ta tv f):=by
 intro aa s J H D I h;refine plainObj_wpAny_Assign_Attribute (bI (hv aa s J H _ I h) λu j ⟨y,m,k,z,q⟩=>bI (d aa j J m _ k q) λU r zz=>?_) b;obtain⟨x,v,i,B,a,C,t,fs,ex,e,c,n,l,N⟩:=zz;subst ex;obtain rfl:U=Value.ref a:=B;exact adY i e c n l z λp g=>⟨J,_,g,N⟩
end
section
variable{X:Cx}{aa:ai (ar×cb)}{J:St}{H:Hp}{s:au}{A:bj}{E:aj->au->Prop}{Q:aj->au->Prop}{c:aj}{b:bc}
inductive pY(K:ba)(H:Hp):V->aj->Prop where
 | cV:pY K H .cV (.type "NoneType")
 | bl (x:bc):pY K H (.bl x) (.type "bool")
 | int (i:aw):pY K H (.int i) (.type "int")
 | str (x:az):pY K H (.str x) (.type "str")
 | CB (x:UInt64):pY K H (.CB x) (.type "float")
 | lst {a:ar} {xs:ai V} (e:H a=ag (.lst xs)):pY K H (.ref a) (.type "list")
 | eP {a:ar} {o:cb} {xs:ai V} (e:H a=ag (.eP o (.lst xs))):pY K H (.ref a) (.type "list")
 | tup {a:ar} {xs:ai V} (e:H a=ag (.tup xs)):pY K H (.ref a) (.type "tuple")
 | dK {a:ar} {kvs:ai (Key×V)} (e:H a=ag (.dK kvs)):pY K H (.ref a) (.type "dict")
 | dT {a:ar} {kvs:ai (ai Key×V)} (e:H a=ag (.dT kvs)):pY K H (.ref a) (.type "dict")
 | ins {a C dx:ar} {fs:ai (az×V)} (e:H a=ag (.ins C dx fs)) (cl:nR K C) (ha:c4 K (.ref C) "__class__" = ag (ag (.builtin "object.__class__")))
   (hn:specialIn K (.builtin "object.__class__") "__get__" = ag (ag (.builtin "getset_descriptor.__get__"))) (Rw:PySem.W.takesIn K (.builtin "object.__class__")=ag av)
   (hm:PySem.W.mroIn K C (.type "object")=ag av):pY K H (.ref a) (.ref C)
theorem am6{x:V}{u t:aj}(I:Inv X aa J H s)(j:RelV x u)(ty:pY X.K H x t)(e:kitOne X.K t c=ag b)(h:∀tk,Q (.bool b) {s with toks:=tk}) :
  wpAny (bb X.prog X.w) A (call (.builtin "isinstance") [u,c]) Q E s:=by
 cases ty with
 |cV=>cases(show u=Value.none from j);exact kia_one PySem.W.kitx_none I.fI True.intro e (λz=>nomatch z) h
 |bl y=>cases(show u=Value.bool y from j);exact kia_one PySem.W.kitx_bool I.fI True.intro e (λz=>nomatch z) h
 |int i=>obtain⟨t,q⟩:=(show ∃t,u=Value.int i t from j);cases q;exact kia_one PySem.W.kitx_int I.fI True.intro e (λz=>nomatch z) h
 |str y=>obtain⟨t,q⟩:=(show ∃t,u=Value.str y t from j);cases q;exact kia_one PySem.W.kitx_str I.fI True.intro e (λz=>nomatch z) h
 |CB y=>obtain⟨t,q⟩:=(show ∃t,u=Value.float y t from j);cases q;exact kia_one PySem.W.kitx_float I.fI True.intro e (λz=>nomatch z) h
 | @lst a U B =>
  cases(show u=Value.ref a from j);obtain⟨_,_,n,_,h1⟩:=(show iC X.prog X.w H s.heap a (.lst U)from I.aK a _ B);exact kia_one PySem.W.kitx_list I.fI ⟨_,h1,rfl⟩ e (λz=>nomatch z) h
 | @eP a d U B =>
  cases(show u=Value.ref a from j);obtain⟨_,_,_,n,_,h1⟩:=(show iC X.prog X.w H s.heap a (.eP d (.lst U))from I.aK a _ B);exact kia_one PySem.W.kitx_list I.fI ⟨_,h1,rfl⟩ e (λz=>nomatch z) h
 | @tup a U B =>
  cases(show u=Value.ref a from j);obtain⟨_,_,_,p⟩:=(show iC X.prog X.w H s.heap a (.tup U)from I.aK a _ B);obtain⟨o,h1,h2,_⟩:=p;exact kia_one PySem.W.kitx_tuple I.fI ⟨o,h1,h2⟩ e (λz=>nomatch z) h
 | @dK a N B =>
  cases(show u=Value.ref a from j);obtain⟨_,_,l,_,p⟩:=(show iC X.prog X.w H s.heap a (.dK N)from I.aK a _ B);obtain⟨o,es,g,h1,h2,_⟩:=p;exact kia_one PySem.W.kitx_dict I.fI ⟨o,h1,h2.1⟩ e (λz=>nomatch z) h
 | @dT a N B =>
  cases(show u=Value.ref a from j);obtain⟨_,_,U,_,o,es,g,h1,h2,_⟩:=(show iC X.prog X.w H s.heap a (.dT N)from I.aK a _ B);exact kia_one PySem.W.kitx_dict I.fI ⟨o,h1,h2.1⟩ e (λz=>nomatch z) h
 | @ins a C v fs B cl f hn k hm =>
  cases(show u=Value.ref a from j);obtain⟨r,ι,_⟩:=QH I.aK B;obtain⟨m,σ,_⟩:=ι.look;exact kia_one (PySem.W.kitx_own (cl.get _) cl.hd f hn k hm) I.fI σ e (λz=>nomatch z) h
end
structure cM(k:ax)(A:bj):Prop where
 hd:A.handled=ao
 dp:A.depth+3*k+5<recursionLimit
 un:A.units+16*k+200<dm
theorem cM.mono{j k:ax}{A:bj}(r:cM k A)(h:j<=k):cM j A:=⟨r.hd,by have:=r.dp;omega,by have:=r.un;omega⟩
theorem cM.deeper{k:ax}{A:bj}(r:cM (k+1) A)(env:Env):cM k (A.deeper env) :=
 ⟨r.hd,by have:=r.dp;show A.depth+1+3*k+5<_;omega,by have:=r.un;show A.units+3+16*k+200<_;omega⟩
theorem alM{A:bj}{C:ar}{us:ai aj}{j:ai (az×aj)}:(A.under (.builtin "type.__call__" ⟨.ref C::us,j⟩)).depth=A.depth+1:=by
 first|rfl|simp[Around.under,Code.weight,Code.isCreation,Code.isGuard,Code.isCaller,Code.frames,Code.isFrame,guardIds]
theorem alK{A:bj}{C:ar}{us:ai aj}{j:ai (az×aj)}:(A.under (.builtin "type.__call__" ⟨.ref C::us,j⟩)).units=A.units+1:=by
 first|rfl|simp[Around.under,Code.cUnits,Code.frames,Code.isFrame]
theorem cM.make{k:ax}{A:bj}(r:cM (k+1) A)(C:ar)(us:ai aj)(kw:ai (az×aj)):cM k (A.under (.builtin "type.__call__" ⟨.ref C::us,kw⟩)) :=
 ⟨r.hd,by have:=r.dp;rw[alM];omega,by have:=r.un;rw[alK];omega⟩
theorem cM.depth{k:ax}{A:bj}(r:cM k A):A.depth<recursionLimit:=by have:=r.dp;omega
theorem cM.units{k:ax}{A:bj}(r:cM k A):A.units+64<dm:=by have:=r.un;omega
def IV:TA:=λ_ H Q=>Q [] H
def IX(ta:TE)(j:TA):TA:=λJ H Q=>ta J H λx H1=>j J H1 λxs H2=>Q (x::xs) H2
section
variable{X:Cx}{e:bg}{es:ai bg}{te:TE}{t:TA}{pos:cn}
theorem EE:PA X [] IV:=λ_ _ _ _ H Q I h=>NU ⟨[],H,I,.nil,h⟩
theorem AN(b:PE X e te)(hr:PA X es t)(a:a5 (e::es) X.env=(ak,bt e X.env)::a5 es X.env:=by rfl):PA X (e::es) (IX te t):=by
 intro pos aa s J H Q I h;rw[a];show wpAny _ _ (spliced ((ak,bt e X.env)::b7 pos (a5 es X.env))) _ _ s;refine ID (bI (b aa s J H _ I h) λu q ⟨x,g,d,B,U⟩=>?_);exact bI (hr pos aa q J g _ d U) λi k ⟨j,f,c,z,N⟩=>⟨x::j,f,c,.cons B z,N⟩
def acL(t:TA):TE:=λJ H Q=>t J H λxs H1=>xs.length<=ay/\∀p,H1 p=ao->Q (.ref p) (upd H1 p (.tup xs))
def acW(t:TA):TE:=λJ H Q=>t J H λxs H1=>xs.length<=ay/\∀p,H1 p=ao->Q (.ref p) (upd H1 p (.lst xs))
theorem aiC{a}(h:PA X es t):PE X (.Tuple es a pos) (acL t):=by
 intro aa s J H Q I d;refine wpAny_Tuple_spliced (bI (h pos aa s J H _ I d) λc j ⟨U,N,B,r,z,q⟩=>⟨by rw[<-r.length];exact z,?_⟩);have f:N j.heap.objs.size=ao:=B.aK.fresh cR;refine⟨.ref j.heap.objs.size,upd N j.heap.objs.size (.tup U),B.laid (t':=j.toks) (λb u e=>dQ _ e) cR ?_,rfl,q _ f⟩;exact⟨z,c,r,⟨_,fW _ rfl,rfl,_,rfl⟩⟩
theorem aiK(h:PA X es t):PE X (.List es pos) (acW t):=by
 intro aa s J H Q I c;refine wpAny_List_spliced (bI (h pos aa s J H _ I c) λa j ⟨U,N,B,r,z,q⟩=>⟨by rw[<-r.length];exact z,?_⟩);have d:N j.heap.objs.size=ao:=B.aK.fresh cR;refine⟨.ref j.heap.objs.size,upd N j.heap.objs.size (.lst U),B.laid (t':=j.toks) (λb u e=>dQ _ e) cR ?_,rfl,q _ d⟩;exact⟨z,a,0,r,fW _ rfl⟩
end
abbrev Sp:=ai V->Hp->VK->XK->Prop
abbrev pM:=ai Env->Hp->au->XK->aj->au->Prop
structure xR(P:a9)(w:bf)(K:ba)(mg:az->aq aj)(base:bo)(A:bj)(outer:ai Env)(s:au)(H:Hp):Prop where
 frames:A.frames=ag outer
 mod:Mod K mg base
 bs:∀b o,base.get? b=ag o->s.heap.get? b=ag o/\H b=ao
 qU:base.objs.size<=s.heap.objs.size
 oC:s.heap.FunFrames base outer
 tP:∀b∈iI outer,H b=ao
 aK:fE P w H s.heap
 bare:AllBare s.gens
def CE(outer:ai Env)(P:a9)(w:bf)(H:Hp)(s:au)(Q:VK)(u:aj)(s':au):Prop :=
 ∃v H',s'.os=s.os/\AllBare s'.gens/\Un (iI outer) [] H H' s.heap s'.heap/\fE P w H' s'.heap/\RelV v u/\Q v H'
def CR(CX:pM)(outer:ai Env)(P:a9)(w:bf)(H:Hp)(s:au)(Q:VK)(E:XK)(r:Result)(s':au):Prop :=
 match r with
 |.ok (.ret u)=>CE outer P w H s Q u s'
 |.ok _=>bz
 |.error e=>CX outer H s E e s'
structure hJ(P:a9)(w:bf)(K:ba)(mg:az->aq aj)(base:bo)(CX:pM)(k:ax)(f:ar)(fd:b8)(ps:ai az)(sp:Sp):Prop where
 len:∀vs H Q E,sp vs H Q E->vs.length=ps.length
 run:∀(A:bj) (outer:ai Env) (s:au) (H:Hp) (args:Args) (us:ai aj) (vs:ai V) (Q:VK) (E:XK),cM k A->xR P w K mg base A outer s H->BindsTo s fd args (ps.zip us)->Vals vs us->sp vs H Q E ->
  codeAny (bb P w) A (.call (.ref f) args) (CR CX outer P w H s Q E) s
theorem hJ.mono{P:a9}{w:bf}{K:ba}{mg:az->aq aj}{base:bo}{CX:pM}{j k:ax}{f:ar}{fd:b8}{ps:ai az}{sp:Sp}(F:hJ P w K mg base CX j f fd ps sp)(h:j<=k) :
  hJ P w K mg base CX k f fd ps sp:=⟨F.len,λA outer s H args us q Q E hr=>F.run A outer s H args us q Q E (hr.mono h)⟩
theorem hJ.imp{P:a9}{w:bf}{K:ba}{mg:az->aq aj}{base:bo}{CX:pM}{k:ax}{f:ar}{fd:b8}{ps:ai az}{sp j:Sp}(F:hJ P w K mg base CX k f fd ps sp)
  (h:∀vs H Q E,j vs H Q E->sp vs H Q E):hJ P w K mg base CX k f fd ps j :=
 ⟨λvs H Q E q=>F.len vs H Q E (h _ _ _ _ q),λA outer s H args us vs Q E hr he hb hv z=>F.run A outer s H args us vs Q E hr he hb hv (h _ _ _ _ z)⟩
theorem xR.make{P:a9}{w:bf}{K:ba}{mg:az->aq aj}{base:bo}{A:bj}{outer:ai Env}{s:au}{H:Hp}(e:xR P w K mg base A outer s H)(C:ar)(us:ai aj)(kw:ai (az×aj)) :
  xR P w K mg base (A.under (.builtin "type.__call__" ⟨.ref C::us,kw⟩)) outer s H:=⟨by first|exact e.frames|(simpa[Around.under,Code.envs,Code.isFrame,pushEnvs]using e.frames),e.mod,e.bs,e.qU,e.oC,e.tP,e.aK,e.bare⟩
section
variable{X:Cx}{aa:ai (ar×cb)}{J:St}{H:Hp}{s s':au}
theorem Inv.CD(I:Inv X aa J H s):xR X.prog X.w X.K X.mg X.base X.A X.stack s H :=
 ⟨I.ok.frames,I.ok.mod,I.bs,pC I.ok.qU I.sz,I.stack,I.XH,I.aK,I.bare⟩
theorem Inv.after{Q:VK}{u:aj}(I:Inv X aa J H s)(h:CE X.stack X.prog X.w H s Q u s'):EP X aa J Q u s':=by
 obtain⟨v,j,os,bare,un,aK,r,q⟩:=h;obtain⟨hh,g,d,t,Ag⟩:=s';obtain rfl:Ag=s.os:=os;exact⟨v,j,I.call (h':=hh) (g':=g) (d':=d) (t':=t) (ch:=[]) un aK bare (λb z=>bp z (by simp)),r,q⟩
end
def Me(sp:Sp)(dvs:ai V)(E:XK)(t:TA):TE:=λJ H Q=>t J H λvs H1=>sp (vs++dvs) H1 Q E
def acV(C:ar)(sp:Sp)(dvs:ai V)(E:XK)(t:TA):TE:=λJ H Q=>t J H λvs H1=>∀x dx,H1 x=ao->H1 dx=ao->dx≠x ->
 sp (.ref x::(vs++dvs)) (upd (upd H1 dx (.own x)) x (.ins C dx [])) (λv H2=>v=.cV/\Q (.ref x) H2) E
def Binds(K:ba)(fd:b8)(ps:ai az)(ds:ai aj):Prop :=
 ∀(s:au) (us:ai aj),K.In s.heap->(us++ds).length=ps.length->BindsTo s fd ⟨us,[]⟩ (ps.zip (us++ds))
theorem Binds.all{K:ba}{fd:b8}{ps:ai az}(h:∀us:ai aj,us.length=ps.length->cq fd ⟨us,[]⟩=pure (ps.zip us)):Binds K fd ps []:=λs us _ hl=>by
 rw[uX]at hl ⊢;exact .of_eq (h us hl)
def Passes(CX:pM)(X:Cx)(E:XK):Prop:=∀(aa:ai (ar×cb)) (J:St) (H:Hp) (s:au) (e:aj) (s':au),Inv X aa J H s->CX X.stack H s E e s'->X.xe e s'
section
variable{X:Cx}{CX:pM}{k:ax}{f C:ar}{fd:b8}{ps:ai az}{sp:Sp}{dvs:ai V}{ds:ai aj}{E:XK}{x m:az}{p pos af:cn}{e o:bg}{es:ai bg}{ta:TE}{t:TA}
theorem afV{aa:ai (ar×cb)}{J:St}{H:Hp}{s:au}{Q:VK}{us:ai aj}{vs:ai V}(F:hJ X.prog X.w X.K X.mg X.base CX k f fd ps sp)(hr:cM k X.A)(hb:Binds X.K fd ps ds)(hd:Vals dvs ds)(z:Passes CX X E)
  (I:Inv X aa J H s) (r:Vals vs us) (h:sp (vs++dvs) H Q E):wpAny (bb X.prog X.w) X.A (call (.ref f) us) (EP X aa J Q) X.xe s:=by
 have q:Vals (vs++dvs) (us++ds):=r.append hd;have hl:(us++ds).length=ps.length:=by rw[<-q.length];exact F.len _ _ _ _ h
 refine zY (rZ (F.run X.A X.stack s H ⟨us,[]⟩ (us++ds) (vs++dvs) Q E hr I.CD (hb s us I.fI hl) q h) λr s' j=>?_);cases r with
 |error e=>exact z aa J H s e s' I j
 |ok fl =>
  cases fl with
  |ret u=>exact I.after j
  |next=>exact False.elim j
  |brk=>exact False.elim j
  |cont=>exact False.elim j
theorem ai3(F:hJ X.prog X.w X.K X.mg X.base CX k f fd ps sp)(hr:cM k X.A)(N:Gl X x)(hm:X.mg x=ag (.ref f))(B:dh X.K (.ref f)=av)(hb:Binds X.K fd ps ds)(hd:Vals dvs ds)(z:Passes CX X E)
  (U:PA X (e::es) t) (a:(x==("__debug__" : az))=ak:=by decide) (he:a5 (e::es) X.env=(ak,bt e X.env)::a5 es X.env:=by rfl) (b:(b7 pos (a5 es X.env)).any (·.1)=ak:=by rfl) :
  PE X (.Call (.Name x p) (e::es) [] pos) (Me sp dvs E t):=by
 intro aa s J H Q I h;refine uA (AZ I N hm ?_ a);refine callWith_K (h₀:=X.base) I.ok.mod.rS B (bI (U pos aa s J H _ I h) λd g ⟨c,i,j,r,q⟩=>⟨j.fI,?_⟩) he b;exact afV F hr hb hd z j r q
structure Mk(K:ba)(C f:ar):Prop where
 makes:makesIn K C=av
 init:c4 K (.ref C) "__init__" = ag (ag (.ref f))
 fn:isFn K (.ref f)=av
 kp:dh K (.ref C)=av
theorem afU{aa:ai (ar×cb)}{J:St}{H:Hp}{s:au}{Q:VK}{us:ai aj}{vs:ai V}(M:Mk X.K C f)(F:hJ X.prog X.w X.K X.mg X.base CX k f fd ps sp)(hr:cM (k+1) X.A)(hb:Binds X.K fd ps ds)(hd:Vals dvs ds)
  (a:Passes CX X E) (I:Inv X aa J H s) (r:Vals vs us)
  (h:∀x dx,H x=ao->H dx=ao->dx≠x->sp (.ref x::(vs++dvs)) (upd (upd H dx (.own x)) x (.ins C dx [])) (λv H2=>v=.cV/\Q (.ref x) H2) E) :
  wpAny (bb X.prog X.w) X.A (call (.ref C) us) (EP X aa J Q) X.xe s:=by
 have B:=h (s.heap.objs.size+1) s.heap.objs.size (I.aK.fresh (GQ _)) (I.aK.fresh cR) (gB (SW _));have q:=Inv.made (C:=C) I;have z:Vals (V.ref (s.heap.objs.size+1)::(vs++dvs)) (Value.ref (s.heap.objs.size+1)::(us++ds)):=.cons rfl (r.append hd);have hl:(Value.ref (s.heap.objs.size+1)::us++ds).length=ps.length:=by
  have e:=z.length;rw[F.len _ _ _ _ B]at e;exact e.symm
 refine zY (alL (f:=f) I.fI M.makes M.init (xF.mp M.fn) (rZ (F.run _ X.stack _ _ ⟨Value.ref (s.heap.objs.size+1)::us,[]⟩ (Value.ref (s.heap.objs.size+1)::(us++ds)) _ _ E (hr.make C us [])
  (q.CD.make C us []) (hb _ (Value.ref (s.heap.objs.size+1)::us) q.fI hl) z B) λr s' j=>?_))
 cases r with
 |error e=>exact a aa J _ _ e s' q j
 |ok fl =>
  cases fl with
  |ret u =>
   obtain⟨v,d,c,N,b,U⟩:=q.after j;subst b;exact⟨N,⟨V.ref (s.heap.objs.size+1),d,c,rfl,U⟩⟩
  |next=>exact False.elim j
  |brk=>exact False.elim j
  |cont=>exact False.elim j
theorem aiJ(M:Mk X.K C f)(F:hJ X.prog X.w X.K X.mg X.base CX k f fd ps sp)(hr:cM (k+1) X.A)(B:Gl X x)(hm:X.mg x=ag (.ref C))(hb:Binds X.K fd ps ds)(hd:Vals dvs ds)(z:Passes CX X E)
  (N:PA X (e::es) t) (U:(x==("__debug__" : az))=ak:=by decide) (he:a5 (e::es) X.env=(ak,bt e X.env)::a5 es X.env:=by rfl) (a:(b7 pos (a5 es X.env)).any (·.1)=ak:=by rfl) :
  PE X (.Call (.Name x p) (e::es) [] pos) (acV C sp dvs E t):=by
 intro aa s J H Q I h;refine uA (AZ I B hm ?_ U);refine callWith_K (h₀:=X.base) I.ok.mod.rS M.kp (bI (N pos aa s J H _ I h) λc d ⟨b,g,j,r,q⟩=>⟨j.fI,?_⟩) he a;exact afU M F hr hb hd z j r q
end
structure cO(N P:ai az)(sc:b0):Prop where
 kind:sc.kind=.function
 co:sc.isCoroutine=ak
 gen:sc.isGenerator=ak
 nd:N.Nodup
 pre:N.take P.length=P
 par:∀x∈P,sc.names.lookup x=ag .local\/sc.names.lookup x=ag .cell
 akO:∀y∈sc.names,y.2≠.free
theorem Wv{kindOf:az->aq cz}{x:az}:∀{binds:ai (az×aj)} {m:az->aq aj},(∀v,(x,v)∉binds)->bindL kindOf binds m x=m x
 |[],_,_=>rfl
 |(n,v)::r,m,h=>by
  unfold bindL;rw[Wv λw hw=>h w (fL _ hw)];split
  ·have:x≠n:=by rintro rfl;exact h v List.mem_cons_self
   simp[this]
  ·rfl
theorem Wx{kindOf:az->aq cz}{x:az}:∀{binds:ai (az×aj)} {m:az->aq aj},(∀v,(x,v)∉binds)->bindC kindOf binds m x=m x
 |[],_,_=>rfl
 |(n,v)::r,m,h=>by
  unfold bindC;rw[Wx λw hw=>h w (fL _ hw)];split
  ·rfl
  ·have:x≠n:=by rintro rfl;exact h v List.mem_cons_self
   simp[this]
theorem Ww{kindOf:az->aq cz}{x:az}{v:aj}:∀{P:ai az} {vs:ai aj} {i:ax} {m:az->aq aj},P.Nodup->P[i]?=ag x->vs[i]?=ag v->kindOf x=ag .local ->
  bindL kindOf (P.zip vs) m x=ag v
 |[],_,_,_,_,h,_,_=>by simp at h
 |_::_,[],_,_,_,_,h,_=>by simp at h
 |p::P,w::vs,0,m,nd,h1,h2,j=>by
  simp at h1 h2;subst h1;subst h2;show bindL kindOf ((p,w)::P.zip vs) m p=_;unfold bindL;rw[Wv λv hv=>(pE.mp nd).1 (Il hv).1,a6 j];simp
 |p::P,w::vs,i+1,m,nd,h1,h2,j=>by
  show bindL kindOf ((p,w)::P.zip vs) m x=_;unfold bindL;exact Ww (i:=i) (pE.mp nd).2 (by simpa using h1) (by simpa using h2) j
theorem Wy{kindOf:az->aq cz}{x:az}{v:aj}:∀{P:ai az} {vs:ai aj} {i:ax} {m:az->aq aj},P.Nodup->P[i]?=ag x->vs[i]?=ag v->kindOf x≠ag .local ->
  bindC kindOf (P.zip vs) m x=ag v
 |[],_,_,_,_,h,_,_=>by simp at h
 |_::_,[],_,_,_,_,h,_=>by simp at h
 |p::P,w::vs,0,m,nd,h1,h2,j=>by
  simp at h1 h2;subst h1;subst h2;show bindC kindOf ((p,w)::P.zip vs) m p=_;unfold bindC;rw[Wx λv hv=>(pE.mp nd).1 (Il hv).1,a7 j];simp
 |p::P,w::vs,i+1,m,nd,h1,h2,j=>by
  show bindC kindOf ((p,w)::P.zip vs) m x=_;unfold bindC;exact Wy (i:=i) (pE.mp nd).2 (by simpa using h1) (by simpa using h2) j
noncomputable def start(N:ai az)(vs:ai V):St:=vs.map ag++List.replicate (N.length-vs.length) ao
noncomputable def rY(CX:pM)(P:a9)(w:bf)(K:ba)(mg:az->aq aj)(base:bo)(N:ai az)(qual:az)(scope:b0)(f:ar)(j:aj)(A:bj)(outer:ai Env)(s:au)(H:Hp)(E:XK):Cx where
 prog:=P
 w:=w
 K:=K
 mg:=mg
 base:=base
 A:=A.deeper (cj qual scope s.heap.objs.size f j)
 N:=N
 s₀:=s
 H₀:=H
 env:=cj qual scope s.heap.objs.size f j
 outer:=outer
 stack:=cj qual scope s.heap.objs.size f j::outer
 ex:=[]
 calm:=av
 fn:=λ_=>av
 pn:=[]
 xe:=λe s'=>wpAny (bb P w) (A.deeper (cj qual scope s.heap.objs.size f j)) (leaving (cj qual scope s.heap.objs.size f j) e) (λ_ q=>CX outer H s E e q) (λz q=>CX outer H s E z q) s'
theorem Wj{sc:b0}{n:ax}{x:az}(h:sc.names.lookup x=ag .cell):∃c,(cellsFrom n sc.names []).lookup x=ag c:=by
 have q:=cellsFrom_some sc.names n [] (.inl h);exact Option.isSome_iff_exists.mp q
theorem Rb{CX:pM}{P:a9}{w:bf}{K:ba}{mg:az->aq aj}{base:bo}{N ps:ai az}{qual:az}{scope:b0}{f:ar}{d:aj}{A:bj}{outer:ai Env}{s l:au}{H:Hp}{E:XK}{us:ai aj}{vs:ai V}
  (S:cO N ps scope) (hd:A.handled=ao) (j:xR P w K mg base A outer s H) (hl:vs.length=ps.length) (r:Vals vs us)
  (x:InCallC s s.heap.objs.size (bindL (cj qual scope s.heap.objs.size f d).kindOf (ps.zip us) λ_=>ao) (cellsFrom (s.heap.objs.size+1) scope.names []) (bindC (cj qual scope s.heap.objs.size f d).kindOf (ps.zip us) λ_=>ao) l) :
  Inv (rY CX P w K mg base N qual scope f d A outer s H E) [] (start N vs) H l:=by
 have G:ps.length<=N.length:=by have:=cy List.length S.pre;rw[List.length_take]at this;omega
 obtain⟨h1,tk,rfl,o⟩:=x.done;have g:∀b:ar,b∉(rY CX P w K mg base N qual scope f d A outer s H E).ex:=λb z=>bp (show b∈([]:ai ar)from z) (by simp);refine⟨⟨j.mod,S.kind,rfl,rfl,tV _,λy z c h1 h2=>?_,λy B=>?_,λy c _ h=>?_,λ_=>hd,Around.frames_deeper j.frames,.inr ⟨rfl,rfl⟩,λb z=>bp z (g b),j.bs,j.qU,λb _ _=>g b,λb z=>bp z (g b),j.oC,j.tP⟩,
  rfl,j.bare,Un.kept o,⟨_,x.toInCall.ns,λi y v h1 h2 F=>?_⟩,λy c h=>⟨_,x.cell y c h⟩,j.aK.fresh cR,λy c h=>?_,λp U=>bp (show p∈([]:ai (ar×cb))from U) (by simp),j.aK.kept o,?_⟩
 ·exact name_of_addr x.apart (PySem.mem_of_lookup h1) (PySem.mem_of_lookup h2)
 ·have B:scope.names.lookup y=ag .cell\/scope.names.lookup y=ag .free:=B
  rcases B with B|B
  ·exact Wj B
  ·exact bp rfl (S.akO _ (PySem.mem_of_lookup B))
 ·exact Hx (x.above y c (PySem.mem_of_lookup h))
 ·have hi:i<vs.length:=by
   unfold start at h2
   by_cases hi:i<vs.length
   ·exact hi
   ·rw[GZ (by simpa using hi)]at h2;rw[List.getElem?_replicate]at h2;split at h2 <;> cases h2
  have D:vs[i]?=ag v:=by
   unfold start at h2;rw[kP (by simpa using hi),jV]at h2;cases e:vs[i]? with
   |none=>rw[e]at h2;cases h2
   |some a=>rw[e]at h2;cases h2;rfl
  obtain⟨u,m,C⟩:=r.get D;have U:ps[i]?=ag y:=by
   rw[<-S.pre,List.getElem?_take_of_lt (by omega)];exact h1
  have t:ps.Nodup:=by rw[<-S.pre];exact S.nd.sublist (List.take_sublist _ _)
  refine⟨u,C,?_⟩
  rcases S.par y (pF U)with k|k
  ·exact .inl ⟨k,Ww t U m k⟩
  ·obtain⟨c,e⟩:=Wj (n:=s.heap.objs.size+1) k;refine .inr ⟨.inl k,c,e,?_⟩;have q:=x.cell y c e;rw[Wy t U m (by show scope.names.lookup y≠_;rw[k];decide)]at q;exact q
 ·exact j.aK.fresh (Hx (x.above y c (PySem.mem_of_lookup h)))
 ·unfold start;show _=N.length;rw[sD,lJ,List.length_replicate];omega
theorem RA{CX:pM}{P:a9}{w:bf}{K:ba}{mg:az->aq aj}{base:bo}{k:ax}{f:ar}{name qual:az}{params:ck}{body:ai bq}{scope:b0}{h kV doc d z ct C:aj}{i p:aq ar}
  {T:bh (aq aj)} {N ps:ai az} {sp:Sp} (D:K.lookup f=ag ⟨C,p,.func (di name qual params body scope h kV doc d i z ct),T⟩) (R:codeIn K z qual=av) (S:cO N ps scope)
  (len:∀vs H Q E,sp vs H Q E->vs.length=ps.length)
  (F:∀(A:bj) (outer:ai Env) (s:au) (H:Hp) (vs:ai V) (Q:VK) (E:XK),cM k (A.deeper (cj qual scope s.heap.objs.size f z))->sp vs H Q E ->
   ∃t,qW (rY CX P w K mg base N qual scope f z A outer s H E) body t/\t {nx:=λ_ H'=>Q .cV H',rt:=Q} (start N vs) H) :
  hJ P w K mg base CX (k+1) f (di name qual params body scope h kV doc d i z ct) ps sp:=by
 refine⟨len,λA outer s H args m vs Q E hr U hb r g=>?_⟩;have hl:=len _ _ _ _ g;have l:K.In s.heap:=U.mod.rS.keeps λb o e=>(U.bs b o e).1;have lim:s.heap.NoLimit:=U.mod.nolimit.keeps λb o e=>(U.bs b o e).1;have X:∀y∈ps.zip m,scope.names.lookup y.1=ag .local\/(scope.names.lookup y.1=ag .cell/\((cellsFrom (s.heap.objs.size+1) scope.names []).lookup y.1).isSome=av):=λ⟨n,v⟩ G=>by
  rcases S.par n (Il G).1 with q|q
  ·exact .inl q
  ·exact .inr ⟨q,cellsFrom_some _ _ _ (.inl q)⟩
 refine codeAny_call_function hr.depth (l _ _ D) rfl S.co S.gen rfl (PySem.W.codeRec_of l R) (hb _ _ _ _ ?_);refine wpAny_newFunctionEnv_cells S.kind X λenv he c x=>?_;subst he;refine⟨lim.keeps x.toInCall.keep,codeAny_func ?_⟩;obtain⟨t,L,M⟩:=F A outer s H vs Q E (hr.deeper _) g;have I:Inv (rY CX P w K mg base N qual scope f z A outer s H E) [] (start N vs) H c:=Rb S hr.hd U hl r x;refine pN (L [] c (start N vs) H _ I M) (λfl s' B=>?_) λe s' B=>B;have fin:∀{j:St} {H':Hp} {v:V} {u:aj},Inv (rY CX P w K mg base N qual scope f z A outer s H E) [] j H' s'->RelV v u->Q v H'->CE outer P w H s Q u s' :=
  λ{j H' v u} σ a q=>⟨v,H',σ.os,σ.bare,σ.base,σ.aK,a,q⟩
 cases fl with
 |ret u =>
  obtain⟨v,j,H',σ,a,q⟩:=B;exact fin σ a q
 |next =>
  obtain⟨j,H',σ,q⟩:=B;exact fin (v:=V.cV) (u:=Value.none) σ rfl q
 |brk =>
  obtain⟨_,_,_,q⟩:=B;exact False.elim q
 |cont =>
  obtain⟨_,_,_,q⟩:=B;exact False.elim q
section
variable{X:Cx}{x:az}{p pos:cn}{e:bg}{es:ai bg}{t:TA}{id T:cc}{r:ai V->Hp->VK->Prop}
def XD(r:ai V->Hp->VK->Prop)(t:TA):TE:=λJ H Q=>t J H λvs H1=>r vs H1 Q
theorem Ae(a:rG X (.builtin id) r)(U:Gl X x)(hm:X.mg x=ao)(hv:cm x=ag (.builtin id))(b:PA X (e::es) t)(hn:x≠"__name__":=by decide)(c:(x==("__debug__" : az))=ak:=by decide)
  (he:a5 (e::es) X.env=(ak,bt e X.env)::a5 es X.env:=by rfl) (d:(b7 pos (a5 es X.env)).any (·.1)=ak:=by rfl):PE X (.Call (.Name x p) (e::es) [] pos) (XD r t):=by
 intro aa s J H Q I h;refine uA (BA I U hm hv ?_ hn c);exact PyProof.Rows.callWith_builtin1 (bI (b pos aa s J H _ I h) λq z ⟨j,g,f,B,N⟩=>a aa z J g j q Q f B N) he d
theorem Ov(a:rG X (.type T) r)(U:Gl X x)(hm:X.mg x=ao)(hv:cm x=ag (.type T))(b:PA X (e::es) t)(hn:x≠"__name__":=by decide)(c:(x==("__debug__" : az))=ak:=by decide)
  (he:a5 (e::es) X.env=(ak,bt e X.env)::a5 es X.env:=by rfl) (d:(b7 pos (a5 es X.env)).any (·.1)=ak:=by rfl):PE X (.Call (.Name x p) (e::es) [] pos) (XD r t):=by
 intro aa s J H Q I h;refine uA (BA I U hm hv ?_ hn c);exact SU (bI (b pos aa s J H _ I h) λq z ⟨j,g,f,B,N⟩=>a aa z J g j q Q f B N) he d
end
end L2
namespace HT
open PySem PyProof.Rows
section
variable{prog:a9}{w:bf}{A:bj}{E:aj->au->Prop}{s:au}
theorem au8{t b:ar}{vs j:ai aj}{Q:aj->au->Prop}(f:IsTup s.heap t vs.toArray)(hb:IsTup s.heap b j.toArray)(hv:vs≠[])
  (h1:j=[]->Q (.ref t) s) (h2:j≠[]->Q (.ref s.heap.objs.size) {s with heap:=s.heap.push {cls:=.type "tuple",data:=.seq (vs++j).toArray} })
  (hsz:vs.length+j.length<=ay):wpAny (bb prog w) A (b9 .Add (.ref t) (.ref b)) Q E s:=by
 obtain⟨⟨cls,a,data,sl⟩,z,U,n,hd⟩:=id f;obtain⟨⟨g,c,data2,d⟩,q,N,B,hd2⟩:=id hb;simp only at U hd N hd2;subst U hd N hd2;have e:vs.toArray++j.toArray=(vs++j).toArray:=by simp
 by_cases hw:j=[]
 ·exact concat_meets ⟨_,z,rfl⟩ ⟨_,q,rfl⟩ noFill_tuple_add seq_tuple_add PySem.F.slot_tuple_add PySem.F.entry_tuple_add (PySem.F.args_tuple_add_2 _ _)
   (tuple_addW1 t b vs.toArray j.toArray n B a c sl d (by simpa using hv) (by simp[hw])) ⟨z,q,h1 hw⟩
 ·refine concat_meets ⟨_,z,rfl⟩ ⟨_,q,rfl⟩ noFill_tuple_add seq_tuple_add PySem.F.slot_tuple_add PySem.F.entry_tuple_add (PySem.F.args_tuple_add_2 _ _)
   (tuple_addW2 t b vs.toArray j.toArray n B a c sl d (by simpa using hv) (by simpa using hw) (by rw[iZ,iZ];exact hsz)) ⟨z,q,?_⟩
  rw[e];exact h2 hw
noncomputable def cW(n d:ax):aq aw->ax
 |none=>d
 |some v=>if v<0 then(v+(n:aw)).toNat else min v.toNat n
theorem afM(n d:ax):cW n d ao=d:=rfl
theorem afN(n d k:ax):cW n d (ag (k:aw))=min k n:=by
 show(if(k:aw)<0 then((k:aw)+(n:aw)).toNat else min (k:aw).toNat n)=min k n;rw[a7 (by omega),DI]
theorem afO(n d:ax)(hd:d<=n)(o:aq aw):cW n d o<=n:=by
 cases o with
 |none=>exact hd
 |some v =>
  show(if v<0 then(v+(n:aw)).toNat else min v.toNat n)<=n
  by_cases hv:v<0
  ·rw[a6 hv];omega
  ·rw[a7 hv];exact Nat.min_le_right _ _
theorem Vx(v:aw)(n d:ax):(if v<0 then max (v+(n:aw)) 0 else min v (n:aw))=((cW n d (ag v):ax):aw):=by
 show(if v<0 then max (v+(n:aw)) 0 else min v (n:aw))=(((if v<0 then(v+(n:aw)).toNat else min v.toNat n):ax):aw)
 by_cases hv:v<0
 ·simp only[a6 hv];omega
 ·simp only[a7 hv];omega
theorem awC(lo hi:aq aw)(n:ax):Builtin.Slice.sliceAdjust lo hi 1 (n:aw)=(((cW n 0 lo:ax):aw),((cW n n hi:ax):aw)):=by
 have h1:¬((1:aw)<0):=by omega
 unfold Builtin.Slice.sliceAdjust;simp only[h1,pS];refine Prod.ext ?_ ?_
 ·cases lo with
  |none=>rfl
  |some v=>exact Vx v n 0
 ·cases hi with
  |none=>rfl
  |some v=>exact Vx v n n
theorem ahW(i j:ax):Builtin.Slice.slicePlaces (i:aw) (j:aw) 1=j-i:=by
 unfold Builtin.Slice.slicePlaces;have h1:(1:aw)>0:=by omega
 simp only[h1,kL,Int.ediv_one];split <;> omega
theorem Mv{v:aj}{o:aq aw}{Q:aq aw->au->Prop}(p:IsPart v o)(h:Q o s):wpAny (bb prog w) A (Builtin.Slice.slicePartIndex v) Q E s:=by
 cases p with
 |none=>exact slicePart_none h
 |int i t=>exact slicePart_int h
theorem adJ{sl:ar}{q j:aj}{lo hi:aq aw}{n:ax}{Q:aw×aw×ax->au->Prop}(U:s.heap.IsSliceOf sl q j .none)(pl:IsPart q lo)(N:IsPart j hi)
  (h:Q (((cW n 0 lo:ax):aw),1,cW n n hi-cW n 0 lo) s):wpAny (bb prog w) A (Builtin.Slice.sliceApplied (.ref sl) (pure (n:aw))) Q E s:=by
 obtain⟨os,B,a,z⟩:=id U;unfold Builtin.Slice.sliceApplied Builtin.Slice.sliceFields;refine aL (aL (zX B z (x:=q) rfl (aL (zX B z (x:=j) rfl (aL (zX B z (x:=.none) rfl (bH ?_)))))));refine aL (slicePart_none ?_);show wpAny _ _ (if((1:aw)==0)=av then _ else _) _ _ s;rw[a7 (by decide)];refine aL (Mv pl (aL (Mv N (aL (bH ?_)))));show wpAny _ _ (match Builtin.Slice.sliceAdjust lo hi 1 (n:aw)with|(lo,hi)=>pure (lo,(1:aw),Builtin.Slice.slicePlaces lo hi 1)) _ _ s;rw[awC lo hi n];show wpAny _ _ (pure (((cW n 0 lo:ax):aw),(1:aw),Builtin.Slice.slicePlaces ((cW n 0 lo:ax):aw) ((cW n n hi:ax):aw) 1)) _ _ s;rw[ahW];exact bH h
theorem ah2(xs:bh aj)(i k:ax):((List.range k).filterMap λ(m:ax)=>xs[((i:aw)+(m:aw)*1).toNat]?).toArray=((xs.toList.drop i).take k).toArray:=by
 have e:(λ(m:ax)=>xs[((i:aw)+(m:aw)*1).toNat]?)=λm=>xs[i+m]?:=by
  funext m;have:((i:aw)+(m:aw)*1).toNat=i+m:=by omega
  rw[this]
 rw[e];have:=pick_run xs i k;rw[List.filterMap_map]at this;have j:((λx=>xs[x]?) ∘ λx=>i+x)=λm=>xs[i+m]?:=rfl;rw[j]at this;rw[this]
theorem arS{t sl:ar}{items:bh aj}{N B:aj}{lo hi:aq aw}{Q:aj->au->Prop}(j:IsTup s.heap t items)(U:s.heap.IsSliceOf sl N B .none)(pl:IsPart N lo)(b:IsPart B hi)
  (hw:¬(cW items.size 0 lo=0/\cW items.size items.size hi=items.size))
  (h:Q (.ref s.heap.objs.size) {s with heap:=s.heap.push {cls:=.type "tuple",data:=.seq ((items.toList.drop (cW items.size 0 lo)).take (cW items.size items.size hi-cW items.size 0 lo)).toArray} })
  (hsz:items.size<=ay):wpAny (bb prog w) A (getItem (.ref t) (.ref sl)) Q E s:=by
 have z:sizeOk (.seq ((items.toList.drop (cW items.size 0 lo)).take (cW items.size items.size hi-cW items.size 0 lo)).toArray):=by
  show((items.toList.drop (cW items.size 0 lo)).take (cW items.size items.size hi-cW items.size 0 lo)).toArray.size<=ay;rw[iZ,List.length_take,List.length_drop,sI];omega
 have i:cW items.size items.size hi<=items.size:=afO _ _ cR hi;obtain⟨os,c,e,k⟩:=id U;have d:s.TypeIs (.ref sl) "slice":=⟨os,c,e⟩;unfold getItem
 try with_reducible refine DO ?_
 first|refine aL (bH ?_)|skip
 refine aL (wpAny_sequenceKey j.typeIs (by decide) ?_);refine aL (DP (name:=Str.ofString "__getitem__") j.typeIs Zd
  (sL Zd j.typeIs entry_tuple_getitem ?_ (args_tuple_getitem _ _)))
 show wpAny _ _ (Builtin.Tuple.tupleItemsOf (.ref t) >>= _) _ _ s;refine aL (tupleItemsOf_ j ?_);refine aL (wpAny_typeOf d ?_);rw[a6 (by decide)];refine aL (adJ U pl b ?_);have a:¬((((cW items.size 0 lo:ax):aw)==0&&(1:aw)==1&&(cW items.size items.size hi-cW items.size 0 lo)==items.size)=av):=by
  intro q;rw[mC,mC]at q;have g:((cW items.size 0 lo:ax):aw)=0:=eq_of_beq q.1.1;have f:cW items.size items.size hi-cW items.size 0 lo=items.size:=eq_of_beq q.2;exact hw ⟨by omega,by omega⟩
 show wpAny _ _ (if(((cW items.size 0 lo:ax):aw)==0&&(1:aw)==1&&(cW items.size items.size hi-cW items.size 0 lo)==items.size)=av then _ else _) _ _ s;rw[a7 a,ah2]
 first
  |exact aL (m:=Builtin.Tuple.tupleExact _) (oK (bH ⟨_,rfl,bH h⟩) z)
  |exact aL (m:=Builtin.Tuple.tupleExact _) (oK (aL (bH (bH ⟨_,rfl,bH h⟩))) z)
  |exact aL (aL (m:=Builtin.Tuple.tupleExact _) (oK (bH (bH ⟨_,rfl,bH h⟩)) z))
  |exact aL (aL (m:=Builtin.Tuple.tupleExact _) (oK (bH ⟨_,rfl,bH h⟩) z))
end
end HT
namespace L2
open PySem PySem.Spec PyProof.Rows
abbrev TO:=St->Hp->(aq aw->Hp->Prop)->Prop
def PO(X:Cx)(e:aq bg)(t:TO):Prop :=
 ∀(aa:ai (ar×cb)) (s:au) (J:St) (H:Hp) (Q:aq aw->Hp->Prop),Inv X aa J H s->t J H Q ->
  wpAny (bb X.prog X.w) X.A (evalPart e X.env) (λu s'=>∃o H',Inv X aa J H' s'/\IsPart u o/\Q o H') X.xe s
def acS:TO:=λ_ H Q=>Q ao H
def acO(t:TE):TO:=λJ H Q=>t J H λx H1=>∃i,x=.int i/\Q (ag i) H1
theorem intsAre_of{ns:ai aw}:∀{us:ai aj},Vals (ns.map V.int) us->cu us ns:=by
 induction ns with
 |nil=>intro us r;rw[pG]at r;cases r;exact .nil
 |cons n ns ih =>
  intro us r;rw[cK]at r;cases r with
  |cons q j =>
   obtain⟨t,e⟩:=q;subst e;exact .cons n t (ih j)
section
variable{X:Cx}{e:bg}{te:TE}{lo hi:aq bg}{tl th:TO}{pos p2:cn}
theorem ahT:PO X ao acS:=by
 intro aa s J H Q I h;rw[evalPart_none];exact bH ⟨ao,H,I,.none,h⟩
theorem ahS(h:PE X e te):PO X (ag e) (acO te):=by
 intro aa s J H Q I hw;rw[evalPart_some];refine bI (h aa s J H _ I hw) λu U ⟨x,N,B,j,z⟩=>?_;obtain⟨i,rfl,q⟩:=z;obtain⟨t,rfl⟩:=j;exact⟨ag i,N,B,.int i t,q⟩
def CS(X:Cx)(r:V->aq aw->aq aw->Hp->VK->Prop):Prop :=
 ∀(aa:ai (ar×cb)) (s:au) (J:St) (H:Hp) (x:V) (v q j:aj) (lo hi:aq aw) (sl:ar) (Q:VK),Inv X aa J H s->RelV x v->s.heap.IsSliceOf sl q j .none->IsPart q lo->IsPart j hi->r x lo hi H Q ->
  ∃T id,typeLookup (.type T) "__getitem__" = pure (ag (.builtin id))/\s.TypeIs v T/\wpAny (bb X.prog X.w) X.A (getItem v (.ref sl)) (EP X aa J Q) X.xe s
theorem CS.or{r N:V->aq aw->aq aw->Hp->VK->Prop}(h:CS X r)(h':CS X N):CS X (λx lo hi H Q=>r x lo hi H Q\/N x lo hi H Q):=by
 intro aa s J H x v z j lo hi sl Q I B U pl pu q
 rcases q with q|q
 ·exact h aa s J H x v z j lo hi sl Q I B U pl pu q
 ·exact h' aa s J H x v z j lo hi sl Q I B U pl pu q
def tSl(r:V->aq aw->aq aw->Hp->VK->Prop)(te:TE)(tl th:TO):TE:=λJ H Q=>te J H λx H1=>tl J H1 λl H2=>th J H2 λu j=>r x l u j Q
theorem aiD{r:V->aq aw->aq aw->Hp->VK->Prop}(hr:CS X r)(he:PE X e te)(hl:PO X lo tl)(k:PO X hi th):PE X (.Subscript e (.Slice lo hi ao p2) pos) (tSl r te tl th):=by
 intro aa s J H Q I h;refine Subscript_ (bI (he aa s J H _ I h) λv a ⟨x,D,y,c,g⟩=>?_);refine wpAny_Slice (bI (hl aa a J D _ y g) λB U ⟨l,C,t,pl,f⟩=>bI (k aa U J C _ t f) λz j ⟨u,N,p,i,d⟩=>?_);rw[evalPart_none];refine bH ?_;have o:Inv X aa J N {j with heap:=j.heap.push {cls:=.type "slice",data:=.fields #[B,z,.none]} }:=p.kept (t':=j.toks) λb E q=>dQ _ q;obtain⟨T,id,hT,m,n⟩:=hr aa {j with heap:=j.heap.push {cls:=.type "slice",data:=.fields #[B,z,.none]} } J N x v B z l u j.heap.objs.size Q o c (Heap.IsSliceOf.new ..) pl i d;show wpAny (bb X.prog X.w) X.A (subscriptTail e (.Slice lo hi ao p2) v (.ref j.heap.objs.size)) (EP X aa J Q) X.xe {j with heap:=j.heap.push {cls:=.type "slice",data:=.fields #[B,z,.none]} };exact tail_any (ops:=[.ref j.heap.objs.size,v]) m hT n (by with_unfolding_all rfl)
def zE(xs:ai V)(lo hi:aq aw):ai V:=(xs.drop (HT.cW xs.length 0 lo)).take (HT.cW xs.length xs.length hi-HT.cW xs.length 0 lo)
theorem Vt(xs:ai V)(lo hi:aq aw):(zE xs lo hi).length<=xs.length:=by
 unfold zE;rw[List.length_take,List.length_drop];omega
def af4(K:ba):V->aq aw->aq aw->Hp->VK->Prop:=λx lo hi H Q=>∃a xs,x=.ref a/\iL K H a xs /\
 ¬(HT.cW xs.length 0 lo=0/\HT.cW xs.length xs.length hi=xs.length)/\∀p,H p=ao->Q (.ref p) (upd H p (.tup (zE xs lo hi)))
theorem adN:CS X (af4 X.K):=by
 intro aa s J H x v g f lo hi sl Q I N d pl U h;obtain⟨a,j,rfl,c,hw,q⟩:=h;cases N;obtain⟨e,r,B,z⟩:=I.tuple c;have hlen:e.toArray.size=j.length:=by rw[iZ];exact r.length.symm
 refine⟨"tuple",_,Zd.lookup,B.typeIs,?_⟩;refine HT.arS B d pl U (by rw[hlen];exact hw) ?_ (by rw[hlen];exact z);rw[hlen];refine⟨.ref s.heap.objs.size,_,I.laid (t':=s.toks) (o:=.tup (zE j lo hi)) (λb i q=>dQ _ q) cR ?_,rfl,q _ (I.aK.fresh cR)⟩;exact⟨pC (Vt j lo hi) z,_,(r.drop (HT.cW j.length 0 lo)).take (HT.cW j.length j.length hi-HT.cW j.length 0 lo),IsTup.new _ _⟩
def af7(K:ba):R2:=λx y H Q=>∃a b xs ys,x=.ref a/\y=.ref b/\iL K H a xs/\iL K H b ys/\xs≠[]/\xs.length+ys.length<=ay /\
 (ys=[]->Q (.ref a) H)/\(ys≠[]->∀p,H p=ao->Q (.ref p) (upd H p (.tup (xs++ys))))
theorem Vals.Ap{xs:ai V}{us:ai aj}(r:Vals xs us):us=[]<->xs=[]:=by
 cases r with
 |nil=>simp
 |cons _ _=>simp
theorem ajU:fV X (b9 .Add) (af7 X.K):=by
 intro aa s J H x y v u Q I e d h;obtain⟨a,b,c,U,rfl,rfl,m,hb,l,N,g,f⟩:=h;cases e;cases d;obtain⟨r,B,k,_⟩:=I.tuple m;obtain⟨n,j,i,_⟩:=I.tuple hb;refine HT.au8 k i (λz=>l (B.Ap.mp z)) (λz=>⟨.ref a,H,I,rfl,g (j.Ap.mp z)⟩) (λz=>?_) (by rw[<-B.length,<-j.length];exact N);refine⟨.ref s.heap.objs.size,_,I.laid (t':=s.toks) (o:=.tup (c++U)) (λb p q=>dQ _ q) cR ?_,rfl,f (λw=>z (j.Ap.mpr w)) _ (I.aK.fresh cR)⟩;exact⟨by rw[sD];exact N,_,B.append j,IsTup.new _ _⟩
end
noncomputable def yR(n:ax)(i:aw):aq ax:=if 0<=i then(if i<n then ag i.toNat else ao)else if -(n:aw)<=i then ag (i+n).toNat else ao
def eM{α:Type}(xs:ai α)(i:aw):aq α:=(yR xs.length i).bind λj=>xs[j]?
theorem amX{n:ax}{i:aw}{j:ax}(h:yR n i=ag j):seqIndex? i n=ag j/\j<n/\-(n:aw)<=i/\i<n:=by
 unfold yR at h
 by_cases q:0<=i
 ·rw[a6 q]at h
  by_cases h1:i<n
  ·rw[a6 h1]at h;have e:i.toNat=j:=kE h;exact⟨by rw[seqIndex_of q h1,e],by omega,by omega,h1⟩
  ·rw[a7 h1]at h;cases h
 ·rw[a7 q]at h
  by_cases h1 : -(n:aw)<=i
  ·rw[a6 h1]at h;have e:(i+n).toNat=j:=kE h;exact⟨by rw[seqIndex_neg (by omega) h1,e],by omega,h1,by omega⟩
  ·rw[a7 h1]at h;cases h
theorem Gu{α:Type}{xs:ai α}{i:aw}{v:α}(h:eM xs i=ag v):∃j,seqIndex? i xs.length=ag j/\xs[j]?=ag v/\j<xs.length/\-(xs.length:aw)<=i/\i<xs.length:=by
 unfold eM at h;cases e:yR xs.length i with
 |none=>rw[e]at h;cases h
 |some j =>
  rw[e]at h;obtain⟨h1,h2,z,q⟩:=amX e;exact⟨j,h1,h,h2,z,q⟩
theorem av1{α:Type}(xs:ai α)(v:α):eM (xs++[v]) (-1)=ag v:=by
 have hl:(xs++[v]).length=xs.length+1:=by simp
 have e:yR (xs++[v]).length (-1)=ag xs.length:=by
  unfold yR;rw[hl,a7 (by decide),a6 (by omega)];congr 1;omega
 unfold eM;rw[e];show(xs++[v])[xs.length]?=ag v;simp
def Zf(b:bg):Prop:=∀o i,subscripted b ak o i=operate [o,i] (getItem o i)
def xM(X:Cx)(r:R2):Prop :=
 ∀(value slice:bg) (aa:ai (ar×cb)) (s:au) (J:St) (H:Hp) (x y:V) (v u:aj) (Q:VK),Inv X aa J H s->RelV x v->RelV y u->r x y H Q ->
  subscripted slice ak v u=operate [v,u] (getItem v u)->wpAny (bb X.prog X.w) X.A (subscriptTail value slice v u) (EP X aa J Q) X.xe s
def SY(X:Cx)(id:cc)(r:V->ai V->Hp->VK->Prop):Prop :=
 ∀(aa:ai (ar×cb)) (s:au) (J:St) (H:Hp) (x:V) (xs:ai V) (v:aj) (us:ai aj) (Q:VK),Inv X aa J H s->RelV x v->Vals xs us->r x xs H Q ->
  wpAny (bb X.prog X.w) X.A (call (.builtin id) (v::us)) (EP X aa J Q) X.xe s
section
variable{X:Cx}{a b:bg}{ta tb:TE}{pos:cn}
theorem xM.or{r B:R2}(h:xM X r)(h':xM X B):xM X (λx y H Q=>r x y H Q\/B x y H Q):=by
 intro value slice aa s J H x y v u Q I z j q N
 rcases q with q|q
 ·exact h value slice aa s J H x y v u Q I z j q N
 ·exact h' value slice aa s J H x y v u Q I z j q N
theorem aiP{r:R2}(hr:xM X r)(U:PE X a ta)(hb:PE X b tb)(N:Zf b):PE X (.Subscript a b pos) (IU r ta tb):=by
 intro aa s J H Q I h;exact Subscript_ (Eu U hb I h λv u j x y d c B z q=>hr a b aa j J d x y v u Q c B z q (N _ _))
def Nr(K:ba):R2:=λx y H Q=>∃p xs i v,x=.ref p/\y=.int i/\fB K H p xs/\eM xs i=ag v/\Q v H
def Np(K:ba):R2:=λx y H Q=>∃p xs i v,x=.ref p/\y=.int i/\iL K H p xs/\eM xs i=ag v/\Q v H
def Nq:R2:=λx y H Q=>∃z i c,x=.str z/\y=.int i/\z.length<=ay/\eM z.cps.toList i=ag c/\Q (.str ⟨#[c]⟩) H
theorem amW:xM X (Nr X.K):=by
 intro value slice aa s J H x y v u Q I c b h N;obtain⟨p,l,i,z,rfl,rfl,e,he,q⟩:=h;cases c;obtain⟨t,rfl⟩:=b;obtain⟨k,r,pl,m⟩:=I.list e;obtain⟨j,h1,h2,n,g,f⟩:=Gu he;obtain⟨w,a,d⟩:=r.get h2;have hl:=r.length;have hn:=QB;have fin:EP X aa J Q w s:=⟨z,H,I,d,q⟩
 by_cases U:0<=i
 ·have B:i.toNat=j:=by
   rw[seqIndex_of U f]at h1;exact kE h1
  exact item_listR pl.isList U (by omega) (by rw[B];simpa using a) fin N
 ·have B:(i+(k.toArray.size:aw)).toNat=j:=by
   rw[seqIndex_neg (by omega) g]at h1;rw[iZ,<-hl];exact kE h1
  exact subscriptTail_builtinR (x:=w) pl.isList.typeIs slot_list_getitem.lookup
   (wpAny_getItem_list_neg (Q:=λr s'=>r=w/\EP X aa J Q r s') pl.isList (by omega) (by rw[iZ] <;> omega) (by omega) (by rw[B];simpa using a) ⟨rfl,fin⟩) N
theorem amT:xM X (Np X.K):=by
 intro value slice aa s J H x y v u Q I N B h a;obtain⟨p,d,i,z,rfl,rfl,b,he,q⟩:=h;cases N;obtain⟨t,rfl⟩:=B;obtain⟨l,r,pl,e⟩:=I.tuple b;obtain⟨j,h1,h2,k,g,f⟩:=Gu he;obtain⟨w,c,U⟩:=r.get h2;have hl:=r.length;have hn:=QB;have fin:EP X aa J Q w s:=⟨z,H,I,U,q⟩;exact subscriptTail_builtinR (x:=w) pl.typeIs slot_tuple_getitem.lookup
  (getItem_tuple (j:=j) (Q:=λr s'=>r=w/\EP X aa J Q r s') pl (by omega) (by omega) (by rw[iZ,<-hl];exact h1) (by simpa using c) ⟨rfl,fin⟩) a
theorem amU:xM X Nq:=by
 intro value slice aa s J H x y v u Q I N B h U;obtain⟨z,i,c,rfl,rfl,g,he,q⟩:=h;obtain⟨t,rfl⟩:=N;obtain⟨f,rfl⟩:=B;obtain⟨j,h1,h2,k,b,a⟩:=Gu he;have hl:z.cps.toList.length=z.length:=by simp[Str.length]
 rw[hl]at h1 b a;have hn:=QB;exact tail_any (typeIs_str s z t) slot_str_getitem.lookup (getItem_str (c:=c) (by
  have e:decide (i < -(2 ^ 63:aw))=ak:=oF (by omega);have d:decide (i>=2 ^ 63)=ak:=oF (by omega);rw[e,d,Bool.or_false]) (by rw[h1];simpa using h2) ⟨.str ⟨#[c]⟩,H,I.tok _,⟨_,rfl⟩,q⟩) U
def rIx(K:ba):R2:=λx y H Q=>Nr K x y H Q\/Np K x y H Q\/Nq x y H Q
theorem amV:xM X (rIx X.K):=amW.or (amT.or amU)
theorem Inv.lst{aa:ai (ar×cb)}{J:St}{H:Hp}{s:au}{p:ar}{xs:ai V}(I:Inv X aa J H s)(h:H p=ag (.lst xs)) :
  ∃(j:ai aj) (n:ax),Vals xs j/\s.heap.get? p=ag {cls:=.type "list",data:=.seq j.toArray n}/\xs.length<=ay:=by
 obtain⟨z,j,n,r,e⟩:=I.aK p _ h;exact⟨j,n,r,e,z⟩
theorem adH(lo hi:aq aw)(n:ax):(dn lo hi ao n).1=((HT.cW n 0 lo:ax):aw)/\(dn lo hi ao n).2.1=((HT.cW n n hi:ax):aw)/\(dn lo hi ao n).2.2=1:=by
 refine⟨?_,?_,rfl⟩
 ·cases lo with
  |none=>simp[dn,HT.cW]
  |some i =>
   simp only[dn,HT.cW,Option.getD_none,show(1:aw)>0 by decide,kL]
   by_cases h:i<0
   ·simp only[h,kL] <;> omega
   ·simp only[h,pS] <;> omega
 ·cases hi with
  |none=>simp[dn,HT.cW]
  |some i =>
   simp only[dn,HT.cW,Option.getD_none,show(1:aw)>0 by decide,kL]
   by_cases h:i<0
   ·simp only[h,kL] <;> omega
   ·simp only[h,pS] <;> omega
theorem adI(j:ai aj)(lo hi:aq aw):slicePick j.toArray lo hi ao=((j.drop (HT.cW j.length 0 lo)).take (HT.cW j.length j.length hi-HT.cW j.length 0 lo)).toArray:=by
 obtain⟨h1,h2,q⟩:=adH lo hi j.toArray.size;unfold slicePick;rw[h1,h2,q];simp only[sliceRange_one,pick_run,iZ] <;> rfl
def af5(K:ba):V->aq aw->aq aw->Hp->VK->Prop:=λx lo hi H Q=>∃a xs,x=.ref a/\fB K H a xs/\∀p,H p=ao->Q (.ref p) (upd H p (.lst (zE xs lo hi)))
theorem adO:CS X (af5 X.K):=by
 intro aa s J H x v f e lo hi sl Q I B d pl N h;obtain⟨a,j,rfl,c,q⟩:=h;cases B;obtain⟨i,r,z,U⟩:=I.list c;have hlen:=r.length;refine⟨"list",_,slot_list_getitem.lookup,z.isList.typeIs,?_⟩;refine wpAny_getItem_list_slice z.isList d pl N .none (by simp) ?_ (by rw[iZ] <;> omega);rw[adI,<-hlen];refine⟨.ref s.heap.objs.size,_,I.laid (t':=s.toks) (o:=.lst (zE j lo hi)) (λb g q=>dQ _ q) cR ?_,rfl,q _ (I.aK.fresh cR)⟩;exact⟨pC (Vt j lo hi) U,_,0,(r.drop (HT.cW j.length 0 lo)).take (HT.cW j.length j.length hi-HT.cW j.length 0 lo),fW _ rfl⟩
theorem avH:rG X (.builtin "len") (λxs H Q=>∃p ys,xs=[.ref p]/\(fB X.K H p ys\/iL X.K H p ys)/\Q (.int ys.length) H):=by
 intro aa s J H xs a Q I r h;obtain⟨p,ys,rfl,j,q⟩:=h;obtain⟨u,rfl,B⟩:=vals1 r;cases B;have hn:=QB
 rcases j with j|j
 ·obtain⟨U,z,pl,N⟩:=I.list j;have hlen:=z.length;exact Calls.call_len_list pl.isList (by simp only[iZ] <;> omega) ⟨.int ys.length,H,I.tok _,⟨s.toks+1,by rw[iZ,hlen]⟩,q⟩
 ·obtain⟨U,z,pl,N⟩:=I.tuple j;have hlen:=z.length;exact len_tuple pl (by simp only[iZ] <;> omega) ⟨.int ys.length,H,I.tok _,⟨s.toks+1,by rw[iZ,hlen]⟩,q⟩
theorem avG:rG X (.type "list") (λxs H Q=>∃p ys,xs=[.ref p]/\(fB X.K H p ys\/iL X.K H p ys)/\∀l,H l=ao->Q (.ref l) (upd H l (.lst ys))):=by
 intro aa s J H xs g Q I r h;obtain⟨p,ys,rfl,U,q⟩:=h;obtain⟨u,rfl,f⟩:=vals1 r;cases f;have fin:∀(j:ai aj),Vals ys j->ys.length<=ay->∀(h':bo) (B:ax),(∀b d,s.heap.get? b=ag d->h'.get? b=ag d) ->
   h'.get? s.heap.objs.size=ag {cls:=.type "list",dict:=ao,data:=.seq j.toArray B,slots:=#[]}->EP X aa J Q (.ref s.heap.objs.size) {s with heap:=h' }:=λj z N h' B kp e =>
  ⟨.ref s.heap.objs.size,_,I.laid (t':=s.toks) kp cR (show iC X.prog X.w _ h' _ (.lst ys)from⟨N,j,B,z,e⟩),rfl,q _ (I.aK.fresh cR)⟩
 rcases U with U|U
 ·obtain⟨j,z,pl,N⟩:=I.list U;have hlen:=z.length;obtain⟨o,a,c,n,hd⟩:=pl.isList;exact call_list_seq p (.inl rfl) a c hd (λh' B kp e=>fin j z N h' B kp e) (by simp only[iZ] <;> omega)
 ·obtain⟨j,z,pl,N⟩:=I.tuple U;have hlen:=z.length;obtain⟨o,a,c,n,hd⟩:=pl;exact call_list_seq p (.inr rfl) a c hd (λh' B kp e=>fin j z N h' B kp e) (by simp only[iZ] <;> omega)
def OG(K:ba)(T:cc)(x:V)(H:Hp):Prop:=match x with
 |.str _=>T = "str"
 |.int _=>T = "int"
 | .ref p=>(T = "list"/\∃xs,fB K H p xs)\/(T = "tuple"/\∃o,K.lookup p=ag o/\o.cls=.type "tuple"/\o.dict=ao) \/
   (T = "dict"/\((∃kvs,H p=ag (.dK kvs))\/∃kvs,H p=ag (.dT kvs)))\/(T = "set"/\∃S n,H p=ag (.set S n))
 |_=>bz
theorem Lm{aa:ai (ar×cb)}{J:St}{H:Hp}{s:au}{T:cc}{x:V}{v:aj}(I:Inv X aa J H s)(r:RelV x v)(ty:OG X.K T x H) :
  s.TypeIs v T/\∀a,v=.ref a->∃N,s.heap.get? a=ag N/\N.dict=ao:=by
 cases x with
 |str z =>
  obtain⟨t,rfl⟩:=r;cases(show T = "str" from ty);exact⟨typeIs_str s z t,λ_ e=>nomatch e⟩
 |int i =>
  obtain⟨t,rfl⟩:=r;cases(show T = "int" from ty);exact⟨typeIs_int s i t,λ_ e=>nomatch e⟩
 |ref p =>
  cases r
  rcases ty with⟨rfl,d,U⟩|⟨rfl,o,j,b,hd⟩|⟨rfl,j⟩|⟨rfl,S,n,j⟩
  ·obtain⟨f,_,pl,_⟩:=I.list U;refine⟨pl.isList.typeIs,λa e=>?_⟩;cases e;obtain⟨o,n,e,c,hd,_⟩:=pl;exact⟨o,e,hd⟩
  ·refine⟨⟨o,I.fI p o j,b⟩,λa e=>?_⟩;cases e;exact⟨o,I.fI _ o j,hd⟩
  ·have z:∃o,s.heap.get? p=ag o/\o.ExactDict:=by
    rcases j with⟨q,j⟩|⟨q,j⟩
    ·obtain⟨_,_,_,_,o,_,_,e,ex,_⟩:=I.aK p _ j;exact⟨o,e,ex⟩
    ·obtain⟨_,_,_,_,o,_,_,e,ex,_⟩:=I.aK p _ j;exact⟨o,e,ex⟩
   obtain⟨o,e,ex⟩:=z;refine⟨⟨o,e,ex.1⟩,λa B=>?_⟩;cases B;exact⟨o,e,ex.2.1⟩
  ·obtain⟨o,_,_,_,e,ex,_⟩:=I.aK p _ j;refine⟨⟨o,e,ex.1⟩,λa B=>?_⟩;cases B;exact⟨o,e,ex.2.1⟩
 |_=>exact False.elim ty
def ac5(K:ba)(T:cc)(r:V->ai V->Hp->VK->Prop)(to:TE):TE:=λJ H Q=>to J H λx H1=>OG K T x H1/\r x [] H1 Q
def tBM(K:ba)(T:cc)(r:V->ai V->Hp->VK->Prop)(to:TE)(t:TA):TE:=λJ H Q=>to J H λx H1=>OG K T x H1/\t J H1 λxs H2=>r x xs H2 Q
variable{o e:bg}{es:ai bg}{to:TE}{t:TA}{name:az}{af jG:cn}{T id:cc}{r:V->ai V->Hp->VK->Prop}
theorem ai4(N:PlainAttrs T)(slot:Slot T name id)(d:typeOf (.builtin id)=pure (.type "method_descriptor"))(hm:SY X id r)(b:PE X o to)
  (U:bu o name X.env (bt o X.env)=bt o X.env:=by rfl) (a:(af.endLine==jG.line)=av:=by rfl):PE X (.Call (.Attribute o name af) [] [] jG) (ac5 X.K T r to):=by
 intro aa s J H Q I h;refine VF U a (bI (b aa s J H _ I h) λv z ⟨x,c,q,j,ty,B⟩=>?_);obtain⟨h1,h2⟩:=Lm q j ty;exact⟨T,id,N,slot,d,h1,h2,IE rfl (PySem.evalArgs_none (hm aa z J c x [] v [] Q q j .nil B))⟩
theorem ai5(f:PlainAttrs T)(slot:Slot T name id)(A:typeOf (.builtin id)=pure (.type "method_descriptor"))(hm:SY X id r)(l:PE X o to)(m:PA X (e::es) t)
  (g:bu o name X.env (bt o X.env)=bt o X.env:=by rfl)
  (w:((b7 jG (a5 (e::es) X.env)).all (λx=>!x.1)&&(backToKw jG (cv [] X.env)).all (λx=>x.1.isSome)
   && decide ((e::es).length+([]:ai Keyword).length+(if([]:ai Keyword).isEmpty then 0 else 1)<30))=av:=by rfl)
  (i:(af.endLine==jG.line)=av:=by rfl) (k:a5 (e::es) X.env=(ak,bt e X.env)::a5 es X.env:=by rfl) (y:(b7 jG (a5 es X.env)).any (·.1)=ak:=by rfl) :
  PE X (.Call (.Attribute o name af) (e::es) [] jG) (tBM X.K T r to t):=by
 intro aa s J H Q I h;refine wpAny_Call_method_late g w i rfl (bI (l aa s J H _ I h) λv a ⟨x,u,z,j,ty,d⟩=>?_);obtain⟨h1,h2⟩:=Lm z j ty;refine⟨T,id,f,slot,A,h1,h2,?_⟩;have q:=m jG aa a J u _ z d;rw[k]at q ⊢;refine IE (by show(ak||(b7 jG (a5 es X.env)).any (·.1))=ak;rw[y] <;> rfl) (aaB ?_);exact bI q λN U ⟨B,p,n,b,c⟩=>hm aa U J p x B v N Q n j b c
end
def Hz(X:Cx)(id:cc)(r:V->ai V->Hp->VK->Prop):Prop :=
 ∀(aa:ai (ar×cb)) (s:au) (J:St) (H:Hp) (x:V) (xs:ai V) (v:aj) (us:ai aj) (Q:VK),Inv X aa J H s->RelV x v->Vals xs us->r x xs H Q ->
  wpAny (bb X.prog X.w) X.A (call (.builtin id) (v::us)) (EP X aa J Q) X.xe s
theorem Vals.one:∀{x:V} {us:ai aj},Vals [x] us->∃u,us=[u]/\RelV x u
 |_,_,.cons r .nil=>⟨_,rfl,r⟩
theorem Vals.zero:∀{us:ai aj},Vals [] us->us=[]
 |_,.nil=>rfl
section
variable{X:Cx}{aa:ai (ar×cb)}{J:St}{H:Hp}{s:au}{l b:ar}{xs ys zs:ai V}
theorem Inv.PZ{j its':ai aj}{n:ax}{f:bh aj->bh aj}{t':ax}(I:Inv X aa J H s)(B:H l=ag (.lst xs))
  (e:s.heap.get? l=ag {cls:=.type "list",data:=.seq j.toArray n}) (hf:f j.toArray=its'.toArray) (hv:Vals ys its') (hz:ys.length<=ay) :
  Inv X aa J (upd H l (.lst ys)) {s with heap:=s.heap.update l (Obj.mapSeq f),toks:=t' }:=by
 have q:=PySem.IsL.update e f;rw[hf]at q;refine I.write (x:=l) (e:=l) (by rw[B];exact trivial) (.inl rfl) (λN u hb z=>(sE s.heap (Obj.mapSeq f) (dX hb)).trans z) ⟨_,q⟩ ?_;exact⟨hz,its',_,hv,q⟩
theorem Inv.alR{j:ai aj}{t':ax}(I:Inv X aa J H s)(hv:Vals ys j)(hz:ys.length<=ay) :
  Inv X aa J (upd H s.heap.objs.size (.lst ys)) {s with heap:=s.heap.push {cls:=.type "list",data:=.seq j.toArray},toks:=t' } :=
 I.laid (λ_ _ q=>dQ _ q) cR ⟨hz,j,0,hv,fW _ rfl⟩
theorem Inv.fresh(I:Inv X aa J H s):H s.heap.objs.size=ao:=I.aK.fresh cR
theorem Inv.AX(I:Inv X aa J H s)(q:H l=ag (.lst xs)):xs.length<=ay/\∃(j:ai aj) (n:ax),Vals xs j/\xs.length=j.length/\s.heap.get? l=ag {cls:=.type "list",data:=.seq j.toArray n}:=by
 obtain⟨z,j,n,r,e⟩:=I.aK l _ q;exact⟨z,j,n,r,r.length,e⟩
theorem akL{n:ax}(h:n<=ay):Builtin.List.listTooLong n=ak:=by
 unfold Builtin.List.listTooLong;exact oF (by omega)
end
section
variable{X:Cx}
def Nw:V->ai V->Hp->VK->Prop:=λx vs H Q=>∃l xs y,x=.ref l/\vs=[y]/\H l=ag (.lst xs)/\xs.length<ay/\Q .cV (upd H l (.lst (xs++[y])))
theorem uH:Hz X "list.append" Nw:=by
 intro aa s J H x c v d Q I N U h;obtain⟨l,b,y,rfl,rfl,j,f,q⟩:=h;cases N;obtain⟨u,rfl,a⟩:=U.one;obtain⟨z,B,n,r,hl,e⟩:=I.AX j;refine call_meets F.slot_list_append ⟨_,e,rfl⟩ F.entry_list_append (F.args_list_append_2 _ _) (PySem.list_append l B.toArray n u (by rw[iZ];omega)) ⟨e,?_⟩;refine⟨.cV,_,I.PZ (its':=B++[u]) j e (by simp) (r.append (.cons a .nil)) ?_,rfl,q⟩;rw[sD,List.length_singleton];omega
def Nt:V->ai V->Hp->VK->Prop:=λx vs H Q=>∃l b xs zs,x=.ref l/\vs=[.ref b]/\H l=ag (.lst xs)/\H b=ag (.lst zs)/\xs.length+zs.length<=ay/\Q .cV (upd H l (.lst (xs++zs)))
theorem ak5:Hz X "list.extend" Nt:=by
 intro aa s J H x w v y Q I c d h;obtain⟨l,b,t,o,rfl,rfl,a,k,C,q⟩:=h;cases c;obtain⟨u,rfl,f⟩:=d.one;cases f;obtain⟨z,j,n,r,hl,e⟩:=I.AX a;obtain⟨p,B,i,g,A,m⟩:=I.AX k;have N:j.toArray.size+B.toArray.size<=ay:=by rw[iZ,iZ];omega
 have U:¬(!j.toArray.isEmpty&&Builtin.List.listTooLong (j.toArray.size+B.toArray.size))=av:=by
  rw[akL N,Bool.and_false];exact Jw
 refine call_meets F.slot_list_extend ⟨_,e,rfl⟩ F.entry_list_extend (F.args_list_extend_2 _ _)
  (AutoSeq1.list_extend_list_list_0 l j.toArray n b B.toArray i U (by rw[iZ];omega) (by omega)) ⟨e,m,?_⟩
 refine⟨.cV,_,I.PZ (its':=j++B) a e (by simp) (r.append g) ?_,rfl,q⟩;rw[sD];omega
def Nu:V->ai V->Hp->VK->Prop:=λx vs H Q=>∃l xs,x=.ref l/\vs=[]/\H l=ag (.lst xs)/\Q .cV (upd H l (.lst []))
theorem ak6:Hz X "list.clear" Nu:=by
 intro aa s J H x c v d Q I N U h;obtain⟨l,b,rfl,rfl,B,q⟩:=h;cases N;have j:=U.zero;subst j;obtain⟨z,a,n,r,hl,e⟩:=I.AX B;refine call_meets F.slot_list_clear ⟨_,e,rfl⟩ F.entry_list_clear (F.args_list_clear_1 _) (AutoSeq1.list_clear_list_0 l a.toArray n (by rw[iZ];omega)) ⟨e,?_⟩;exact⟨.cV,_,I.PZ (its':=[]) (ys:=[]) B e rfl .nil AW,rfl,q⟩
def Nv:R2:=λx y H Q=>∃l b xs zs,x=.ref l/\y=.ref b/\H l=ag (.lst xs)/\H b=ag (.lst zs)/\xs.length+zs.length<=ay/\∀p,H p=ao->Q (.ref p) (upd H p (.lst (xs++zs)))
theorem ajV:fV X (b9 .Add) Nv:=by
 intro aa s J H x y v u Q I U N h;obtain⟨l,b,m,i,rfl,rfl,c,d,t,q⟩:=h;cases U;cases N;obtain⟨z,B,n,r,hl,e⟩:=I.AX c;obtain⟨k,j,o,a,p,g⟩:=I.AX d;refine PySem.P.add_list e g ?_ (by rw[iZ,iZ];omega);have f:B.toArray++j.toArray=(B++j).toArray:=by simp
 rw[f];exact⟨.ref _,_,I.alR (t':=s.toks) (r.append a) (by rw[sD];omega),rfl,q _ I.fresh⟩
end
section
variable{κ:Type} [DecidableEq κ]
noncomputable def kJ(kvs:ai (κ×V))(k:κ):aq V:=(kvs.find? λj=>decide (j.1=k)).map (·.2)
noncomputable def putK(kvs:ai (κ×V))(k:κ)(v:V):ai (κ×V) :=
 if(kvs.any λj=>decide (j.1=k))=av then kvs.map (λj=>if j.1=k then(j.1,v)else j)else kvs++[(k,v)]
noncomputable def qR(kvs:ai (κ×V))(k:κ):ai (κ×V):=kvs.filter λj=>decide (j.1≠k)
theorem VY{p:κ×V}{r:ai (κ×V)}{k:κ}(e:p.1=k):kJ (p::r) k=ag p.2:=by simp[kJ,DF,e]
theorem VZ{p:κ×V}{r:ai (κ×V)}{k:κ}(e:¬p.1=k):kJ (p::r) k=kJ r k:=by simp[kJ,DF,e]
theorem Ky(k:κ):∀kvs:ai (κ×V),(kvs.any λj=>decide (j.1=k))=(kJ kvs k).isSome
 |[]=>rfl
 |p::r=>by
  rw[NC]
  by_cases e:p.1=k
  ·simp only[VY e,xA e,Bool.true_or,Option.isSome_some]
  ·rw[VZ e,oF e,Bool.false_or];exact Ky k r
theorem Qq(kvs:ai (κ×V))(k:κ)(v:V):(putK kvs k v).length<=kvs.length+1:=by
 unfold putK;split
 ·rw[lJ];omega
 ·rw[sD,gZ,DE];omega
theorem lX.Bk{o:aq V}{u:aq aj}(r:lX o u):o.isSome=u.isSome:=by
 cases o with
 |none=>cases u with
  |none=>rfl
  |some _=>exact(show bz from r).elim
 |some _=>cases u with
  |none=>exact(show bz from r).elim
  |some _=>rfl
theorem lX.getD{o:aq V}{u:aq aj}{d:V}{d':aj}(r:lX o u)(j:RelV d d'):RelV (o.getD d) (u.getD d'):=by
 cases o with
 |none=>cases u with
  |none=>exact j
  |some _=>exact(show bz from r).elim
 |some _=>cases u with
  |none=>exact(show bz from r).elim
  |some _=>exact r
theorem KV.val{kvs:ai (κ×V)}{vs:ai (κ×aj)}(r:KV kvs vs)(k:κ):lX (kJ kvs k) (valueAt vs k):=by
 unfold KV at r
 induction r with
 |nil=>exact True.intro
 | @cons p q N j h t ih =>
  obtain⟨h1,h2⟩:=h
  by_cases e:p.1=k
  ·have B:q.1=k:=h1.symm.trans e;have b:valueAt (q::j) k=ag q.2:=by simp[valueAt,DF,B]
   rw[VY e,b];exact h2
  ·have B:¬q.1=k:=λz=>e (h1.trans z);have b:valueAt (q::j) k=valueAt j k:=by simp[valueAt,DF,B]
   rw[VZ e,b];exact ih
theorem KV.any{kvs:ai (κ×V)}{vs:ai (κ×aj)}(r:KV kvs vs)(k:κ):(kvs.any λj=>decide (j.1=k))=vs.any λj=>decide (j.1=k):=by
 unfold KV at r
 induction r with
 |nil=>rfl
 |cons h t ih=>rw[NC,NC,ih,h.1]
theorem KV.ZQ{kvs:ai (κ×V)}{vs:ai (κ×aj)}(r:KV kvs vs)(k:κ){y:V}{u:aj}(B:RelV y u) :
  KV (kvs.map λj=>if j.1=k then(j.1,y)else j) (vs.map λj=>if j.1=k then(j.1,u)else j):=by
 unfold KV at r ⊢
 induction r with
 |nil=>exact .nil
 | @cons p q U N h t ih =>
  rw[cK,cK];refine .cons ?_ ih;obtain⟨h1,h2⟩:=h
  by_cases e:p.1=k
  ·rw[a6 e,a6 (h1.symm.trans e)];exact⟨h1,B⟩
  ·rw[a7 e,a7 (λz=>e (h1.trans z))];exact⟨h1,h2⟩
theorem KV.put{kvs:ai (κ×V)}{vs:ai (κ×aj)}(r:KV kvs vs)(k:κ){y:V}{u:aj}(j:RelV y u):KV (putK kvs k y) (stored vs k u):=by
 unfold putK stored;rw[r.any k]
 by_cases e:(vs.any λq=>decide (q.1=k))=av
 ·rw[a6 e,a6 e];exact r.ZQ k j
 ·rw[a7 e,a7 e];exact Paired.snoc r ⟨rfl,j⟩
theorem KV.drop{kvs:ai (κ×V)}{vs:ai (κ×aj)}(r:KV kvs vs)(k:κ):KV (qR kvs k) (without vs k):=by
 unfold KV at r ⊢;unfold qR without
 induction r with
 |nil=>exact .nil
 | @cons p q N B h t ih =>
  obtain⟨h1,h2⟩:=h;rw[List.filter_cons,List.filter_cons]
  by_cases e:p.1=k
  ·have a:¬decide (p.1≠k)=av:=by simp[e]
   have b:¬decide (q.1≠k)=av:=by simp[h1.symm.trans e]
   rw[a7 a,a7 b];exact ih
  ·have j:¬q.1=k:=λz=>e (h1.trans z);have a:decide (p.1≠k)=av:=by simp[e]
   have b:decide (q.1≠k)=av:=by simp[j]
   rw[a6 a,a6 b];exact .cons ⟨h1,h2⟩ ih
theorem KV.keys{kvs:ai (κ×V)}{vs:ai (κ×aj)}(r:KV kvs vs):kvs.map (·.1)=vs.map (·.1):=by
 unfold KV at r
 induction r with
 |nil=>rfl
 |cons h t ih=>rw[cK,cK,ih,h.1]
theorem KV.length{kvs:ai (κ×V)}{vs:ai (κ×aj)}(r:KV kvs vs):kvs.length=vs.length:=Paired.length r
theorem asO(kvs:ai (κ×V))(k:κ):(qR kvs k).length<=kvs.length:=Zq _ _
end
theorem EO{P:a9}{w:bf}{k:Key}{u:aj}(r:RelV (kV k) u):(jD P w).is k u=av:=by
 cases k with
 |inl i=>obtain⟨t,e⟩:=(show ∃t,u=Value.int i t from r);subst e;exact alB P w i t
 |inr x=>obtain⟨t,e⟩:=(show ∃t,u=Value.str x t from r);subst e;exact alA P w x t
theorem Qz{P:a9}{w:bf}:∀{j:ai Key} {us:ai aj},Vals (j.map kV) us->ItemsAre (jD P w) j us
 |[],_,r=>by rw[pG]at r;cases r;exact .nil
 |k::j,_,r=>by
  rw[cK]at r;cases r with
  |cons h t=>exact .cons (EO h) (Qz t)
abbrev KT(H:Hp):ai (ai Key×V)->ai (ai Key×ar×aj)->Prop:=Paired λp q=>p.1=q.1/\H q.2.1=ag (.tup (p.1.map kV))/\RelV p.2 q.2.2
theorem KT.val{H:Hp}{kvs:ai (ai Key×V)}{xs:ai (ai Key×ar×aj)}(r:KT H kvs xs)(k:ai Key):lX (kJ kvs k) ((atKey xs k).map (·.2)):=by
 induction r with
 |nil=>exact True.intro
 | @cons p q N j h t ih =>
  obtain⟨h1,_,h2⟩:=h
  by_cases e:p.1=k
  ·have B:q.1=k:=h1.symm.trans e;have b:atKey (q::j) k=ag q.2:=by simp[atKey,DF,B]
   rw[VY e,b];exact h2
  ·have B:¬q.1=k:=λz=>e (h1.trans z);have b:atKey (q::j) k=atKey j k:=by simp[atKey,DF,B]
   rw[VZ e,b];exact ih
theorem KT.ZQ{H:Hp}{kvs:ai (ai Key×V)}{xs:ai (ai Key×ar×aj)}(r:KT H kvs xs)(k:ai Key){y:V}{u:aj}(B:RelV y u) :
  KT H (kvs.map λj=>if j.1=k then(j.1,y)else j) (xs.map (putAt k u)):=by
 induction r with
 |nil=>exact .nil
 | @cons p q a U h t ih =>
  rw[cK,cK];refine .cons ?_ ih;obtain⟨h1,h2,N⟩:=h;unfold putAt
  by_cases e:p.1=k
  ·rw[a6 e,a6 (h1.symm.trans e)];exact⟨h1,h2,B⟩
  ·rw[a7 e,a7 (λz=>e (h1.trans z))];exact⟨h1,h2,N⟩
theorem KT.put{H:Hp}{kvs:ai (ai Key×V)}{xs:ai (ai Key×ar×aj)}(r:KT H kvs xs)(k:ai Key){b:ar}{y:V}{u:aj}(hb:H b=ag (.tup (k.map kV)))(j:RelV y u) :
  KT H (putK kvs k y) (storedH xs k b u):=by
 have e:(kvs.any λz=>decide (z.1=k))=(atKey xs k).isSome:=by
  rw[Ky,(r.val k).Bk,Zh]
 unfold putK storedH;rw[e]
 by_cases q:(atKey xs k).isSome=av
 ·rw[a6 q,a6 q];exact r.ZQ k j
 ·rw[a7 q,a7 q];exact Paired.snoc r ⟨rfl,hb,j⟩
theorem KT.keeps{H H':Hp}{kvs:ai (ai Key×V)}{xs:ai (ai Key×ar×aj)}(r:KT H kvs xs)(j:∀b ys,H b=ag (.tup ys)->H' b=ag (.tup ys)):KT H' kvs xs :=
 Paired.Au r λ_ _ z=>⟨z.1,j _ _ z.2.1,z.2.2⟩
section
variable{P:a9}{w:bf}{H:Hp}{h:bo}{a:ar}
theorem Nm{u:HO}(ok:fE P w H h)(e:Rd H a u):iC P w H h a u:=e.ok ok
theorem CF{kvs:ai (Key×V)}(ok:fE P w H h)(e:Rd H a (.dK kvs)):kvs.length<=ay/\(a==c3)=ak/\∃vs,KV kvs vs/\h.DictOf (jD P w) a vs :=
 show iC P w H h a (.dK kvs)from Nm ok e
theorem FT{kvs:ai (Key×V)}(ok:fE P w H h)(e:H a=ag (.dK kvs)):kvs.length<=ay/\(a==c3)=ak/\∃vs,KV kvs vs/\h.DictOf (jD P w) a vs:=CF ok (.inl e)
theorem JV{j:ai Key}(ok:fE P w H h)(e:H a=ag (.tup (j.map kV))):(tupleKind (jD P w)).is h j a:=by
 obtain⟨_,z,r,o,h1,h2,n,q⟩:=(show iC P w H h a (.tup (j.map kV))from ok a _ e);exact⟨o,z.toArray,n,h1,h2,q,by simpa using Qz r⟩
theorem FR{kvs:ai (ai Key×V)}(ok:fE P w H h)(e:Rd H a (.dT kvs)):kvs.length<=ay/\(a==c3)=ak /\
  ∃xs,KT H kvs xs/\h.DictOfH (tupleKind (jD P w)) a xs:=by
 obtain⟨z,y,xs,r,o,es,c,h1,h2,b,U,N⟩:=(show iC P w H h a (.dT kvs)from Nm ok e);refine⟨z,y,xs,r,o,es,c,h1,h2,b,U,λx j=>?_,N⟩;have all:∀{l:ai (ai Key×V)} {m:ai (ai Key×ar×aj)},KT H l m->∀x∈m,(tupleKind (jD P w)).is h x.1 x.2.1:=by
  intro l m q
  induction q with
  |nil=>intro x j;exact nomatch j
  | @cons p q f d B t ih =>
   intro x j
   rcases dI.mp j with e|j
   ·subst e;exact JV ok (by rw[<-B.1];exact B.2.1)
   ·exact ih x j
 exact all r x j
theorem asN{kvs:ai (ai Key×V)}(ok:fE P w H h)(e:H a=ag (.dT kvs)):kvs.length<=ay/\(a==c3)=ak /\
  ∃xs,KT H kvs xs/\h.DictOfH (tupleKind (jD P w)) a xs:=FR ok (.inl e)
end
def pL(H:Hp)(a:ar)(y:V)(r:aq V):Prop :=
 (∃kvs k,Rd H a (.dK kvs)/\y=kV k/\r=kJ kvs k)\/∃kvs k b,Rd H a (.dT kvs)/\y=.ref b/\H b=ag (.tup (k.map kV))/\r=kJ kvs k
def NT(H:Hp)(a:ar)(y v:V)(H':Hp):Prop :=
 (∃kvs k,H a=ag (.dK kvs)/\y=kV k/\kvs.length<ay/\H'=upd H a (.dK (putK kvs k v))) \/
 ∃kvs k b,H a=ag (.dT kvs)/\y=.ref b/\H b=ag (.tup (k.map kV))/\kvs.length<ay/\H'=upd H a (.dT (putK kvs k v))
theorem pL.k{H:Hp}{a:ar}{kvs:ai (Key×V)}{k:Key}(e:H a=ag (.dK kvs)):pL H a (kV k) (kJ kvs k):=.inl ⟨kvs,k,.inl e,rfl,rfl⟩
theorem NT.k{H:Hp}{a:ar}{kvs:ai (Key×V)}{k:Key}{v:V}(e:H a=ag (.dK kvs))(hl:kvs.length<ay):NT H a (kV k) v (upd H a (.dK (putK kvs k v))):=.inl ⟨kvs,k,e,rfl,hl,rfl⟩
section
variable{X:Cx}{aa:ai (ar×cb)}{J:St}{H:Hp}{s:au}{a:ar}{y v:V}{u r:aj}{o:aq V}{A:bj}{E:aj->au->Prop}
theorem Inv.big(I:Inv X aa J H s):c3<s.heap.objs.size:=by
 have h:a8<s.heap.objs.size:=(I.mod.glob.keeps I.bk).lt;exact Nat.lt_trans (by decide) h
theorem atJ{Q:aj->au->Prop}(m:A.units+1<dm)(I:Inv X aa J H s)(g:pL H a y (ag v))(c:RelV y u)(h:∀j s',Inv X aa J H s'->RelV v j->Q j s') :
  wpAny (bb X.prog X.w) A (getItem (.ref a) u) Q E s:=by
 rcases g with⟨B,k,e,N,l⟩|⟨B,k,b,e,N,r,l⟩
 ·subst N;obtain⟨z,hd,f,rel,U⟩:=CF I.aK e;obtain⟨j,hw,q⟩:=lX.some_of (v:=v) (o:=valueAt f k) (by rw[l];exact rel.val k);exact wpAny_getItem_of (EO c) U.mapOf hw (h j _ (I.tok _) q)
 ·subst N;cases(show u=Value.ref b from c);obtain⟨z,hd,d,rel,U⟩:=FR I.aK e;obtain⟨j,hw,q⟩:=lX.some_of (v:=v) (o:=(atKey d k).map (·.2)) (by rw[l];exact rel.val k);obtain⟨p,n,i⟩:=CT.mp hw;refine wpAny_getItem_heap (WM m) (JV I.aK r) U n ?_;rw[i];exact h j _ (I.tok _) q
theorem atG{Q:aj->au->Prop}(c:A.units+1<dm)(I:Inv X aa J H s)(g:pL H a y o)(U:RelV y u)(h:∀s',Inv X aa J H s'->Q (.bool o.isSome) s') :
  wpAny (bb X.prog X.w) A (br .In u (.ref a)) Q E s:=by
 rcases g with⟨j,k,e,B,l⟩|⟨j,k,b,e,B,d,l⟩
 ·subst B;obtain⟨z,hd,i,rel,N⟩:=CF I.aK e;refine wpAny_in_of (EO U) hd N.mapOf ?_;rw[<-(rel.val k).Bk,<-l];exact h _ (I.tok _)
 ·subst B;cases(show u=Value.ref b from U);obtain⟨z,hd,f,rel,N⟩:=FR I.aK e;refine wpAny_in_heap (WM c) (JV I.aK d) hd N ?_;have q:=(rel.val k).Bk;rw[Zh]at q;rw[<-q,<-l];exact h _ (I.tok _)
theorem El{h':bo}{t':ax}{j:HO}(I:Inv X aa J H s)(B:MU (H a))(N:Heap.SameBut a s.heap h')(he:∃q,h'.get? a=ag q)(new:iC X.prog X.w (upd H a j) h' a j) :
  Inv X aa J (upd H a j) {s with heap:=h',toks:=t' } :=
 I.write (x:=a) (e:=a) B (.inl rfl) (λb q hb z=>(N.2 b hb).trans z) he new
theorem Vm{P:a9}{w:bf}{H':Hp}{h':bo}{kvs:ai (Key×V)}{vs:ai (Key×aj)}(z:kvs.length<=ay)(hd:(a==c3)=ak)(rel:KV kvs vs)(j:h'.DictOf (jD P w) a vs) :
  iC P w H' h' a (.dK kvs):=⟨z,hd,vs,rel,j⟩
theorem as0{H':Hp}{Q:Unit->au->Prop}(D:A.units+1<dm)(I:Inv X aa J H s)(g:NT H a y v H')(n:RelV y u)(o:RelV v r)(h:∀s',Inv X aa J H' s'->Q () s') :
  wpAny (bb X.prog X.w) A (setItem (.ref a) u r) Q E s:=by
 rcases g with⟨j,k,e,f,l,i⟩|⟨j,k,b,e,f,t,l,i⟩
 ·subst f i;obtain⟨z,hd,C,rel,m⟩:=FT I.aK e;have U:C.length<=ay:=by rw[<-rel.length];exact z
  have hl:(putK j k v).length<=ay:=by have:=Qq j k v;omega
  refine wpAny_setItem_pairs (hsz:=U) (EO n) m λh' N d=>h _ ?_;have he:∃q,h'.get? a=ag q:=let ⟨q,_,_,B,_⟩:=N; ⟨q,B⟩;exact El I (by rw[e];exact True.intro) d he (Vm hl hd (rel.put k o) N)
 ·subst f i;cases(show u=Value.ref b from n);obtain⟨z,hd,x,rel,m⟩:=asN I.aK e;have U:x.length<=ay:=by rw[<-Paired.length rel];exact z
  have hl:(putK j k v).length<=ay:=by have:=Qq j k v;omega
  refine wpAny_setItem_heap (hsz:=U) (WM D) (JV I.aK t) m λh' N d=>h _ ?_;obtain⟨q,es,L,B,h2,K,G,_,F⟩:=N;refine El I (by rw[e];exact True.intro) d ⟨q,B⟩ ⟨hl,hd,_,(rel.put k t o).keeps λc M p=>?_,q,es,L,B,h2,K,G,F⟩;rw[bO (JN p e (λz=>nomatch z))];exact p
end
section
variable{X:Cx}{aa:ai (ar×cb)}{J:St}{H:Hp}{s:au}{a:ar}{kvs:ai (Key×V)}{k:Key}{u:aj}{A:bj}{E:aj->au->Prop}
theorem as1{v:V}{more:ai aj}{Q:aj->au->Prop}(I:Inv X aa J H s)(e:H a=ag (.dK kvs))(B:RelV (kV k) u)(l:kJ kvs k=ag v)(hm:more=[]\/∃x,more=[x])
  (h:∀j s',Inv X aa J (upd H a (.dK (qR kvs k))) s'->RelV v j->Q j s'):wpAny (bb X.prog X.w) A (call (.builtin "dict.pop") (.ref a::u::more)) Q E s:=by
 obtain⟨z,hd,N,rel,U⟩:=FT I.aK e;obtain⟨j,hw,c⟩:=lX.some_of (v:=v) (o:=valueAt N k) (by rw[<-l];exact rel.val k);have g:(keyPart u).isSome=av:=by
  cases k with
  |inl i=>obtain⟨t,q⟩:=(show ∃t,u=Value.int i t from B);subst q;rfl
  |inr x=>obtain⟨t,q⟩:=(show ∃t,u=Value.str x t from B);subst q;rfl
 have m:argsOk "dict.pop" ⟨.ref a::u::more,[]⟩:=by
  rcases hm with q|⟨x,q⟩
  ·subst q;exact PySem.F.args_dict_pop_2 _ _
  ·subst q;exact PySem.F.args_dict_pop_3 _ _ _
 refine MH PySem.F.slot_dict_pop U.typeIs PySem.F.entry_dict_pop m (meets_dict_pop_there (jD X.prog X.w) a (EO B) more hm g)
  ⟨N,j,U,by rw[<-rel.length];exact z,hw,λh' b d=>h j _ ?_ c⟩
 have he:∃q,h'.get? a=ag q:=let ⟨q,_,_,f,_⟩:=b; ⟨q,f⟩;exact El I (by rw[e];exact True.intro) d he (Vm (pC (asO kvs k) z) hd (rel.drop k) b)
theorem atD{Q:aj->au->Prop}(I:Inv X aa J H s)(e:Rd H a (.dK kvs))(h:∀t s',Inv X aa J H s'->Q (.int kvs.length t) s'):wpAny (bb X.prog X.w) A (call (.builtin "len") [.ref a]) Q E s:=by
 obtain⟨z,hd,q,rel,j⟩:=CF I.aK e;refine call_len_dict hd j (by rw[<-rel.length];rw[nD]at z;omega) ?_;rw[<-rel.length];exact h _ _ (I.tok _)
end
def Ht(i:bg):Prop:=∀j q,subscripted i ak j q=operate [j,q] (getItem j q)
theorem adB{prog:a9}{w:bf}{A:bj}{E:aj->au->Prop}{s:au}{env:Env}{value slice:bg}{pos:cn}{T id:cc}{Q:aj->au->Prop}
  (hl:typeLookup (.type T) "__getitem__" = pure (ag (.builtin id))) (N:Ht slice)
  (h:wpAny (bb prog w) A (bt value env) (λo s₁=>wpAny (bb prog w) A (bt slice env) (λi s₂=>s₂.TypeIs o T/\wpAny (bb prog w) A (getItem o i) Q E s₂) E s₁) E s) :
  wpAny (bb prog w) A (bt (.Subscript value slice pos) env) Q E s:=by
 refine Subscript_ (pN h (λo s₁ B=>pN B (λi s₂ j=>?_) λ_ _ x=>x) λ_ _ x=>x);obtain⟨hT,j⟩:=j;unfold subscriptTail;refine aL ?_;rw[getitemInPython_of_ne hT.not_modules];refine aL (wpAny_specialOf hT hl ?_);have fin:wpAny (bb prog w) A (subscripted slice ak o i) (λr q=>wpAny (bb prog w) A (letTemporaryGo value o r >>= λ_=>pure r) Q E q) E s₂:=by
  rw[N o i];exact wpAny_operating (pN j (λr q z=>aL (wpAny_letTemporaryGo (bH z))) λ_ _ x=>x)
 first
  |exact bH (aL fin)
  |exact aL (bH (aL fin))
  |exact aL fin
theorem asT{X:Cx}{aa:ai (ar×cb)}{J:St}{H:Hp}{s:au}{a:ar}{y:V}{o:aq V}(I:Inv X aa J H s)(g:pL H a y o):s.TypeIs (.ref a) "dict":=by
 rcases g with⟨j,k,e,_,_⟩|⟨j,k,b,e,_,_,_⟩
 ·obtain⟨_,_,B,_,q⟩:=CF I.aK e;exact q.typeIs
 ·obtain⟨_,_,z,_,q⟩:=FR I.aK e;exact q.typeIs
def ac4(td ty:TE):TE:=λJ H Q=>td J H λx H1=>ty J H1 λy H2=>∃a v,x=.ref a/\pL H2 a y (ag v)/\Q v H2
def Mb(ty td:TE):TE:=λJ H Q=>ty J H λy H1=>td J H1 λx H2=>∃a o,x=.ref a/\pL H2 a y o/\Q (.bl o.isSome) H2
def ac1(ty td:TE):TE:=λJ H Q=>ty J H λy H1=>td J H1 λx H2=>∃a o,x=.ref a/\pL H2 a y o/\Q (.bl (!o.isSome)) H2
def afQ(td ty tv:TE):TS:=λD J H=>tv J H λv H1=>td J H1 λx H2=>ty J H2 λy q=>∃a j,x=.ref a/\NT q a y v j/\D.nx J j
section
variable{X:Cx}{o i e value:bg}{pos pos' ab0:cn}{td ty tv:TE}
theorem aiW(c:X.A.units+1<dm)(e:PE X o td)(hi:PE X i ty)(d:Ht i):PE X (.Subscript o i pos) (ac4 td ty):=by
 intro aa s J H Q I h;refine adB PySem.F.slot_dict_getitem.lookup d (bI (e aa s J H _ I h) λu q ⟨x,m,k,B,U⟩=>bI (hi aa q J m _ k U) λt r zz=>?_);obtain⟨y,l,j,z,a,v,ex,g,N⟩:=zz;subst ex;obtain rfl:u=Value.ref a:=B;exact⟨asT j g,atJ c j g z λn p f b=>⟨v,l,f,b,N⟩⟩
theorem ajA(b:X.A.units+1<dm)(hi:PE X i ty)(c:PE X o td):PC X .In i o (Mb ty td):=by
 intro aa s J H Q I h;refine bI (hi aa s J H _ I h) λp j ⟨y,l,f,q,N⟩=>bI (c aa j J l _ f N) λu n zz=>?_;obtain⟨x,k,e,z,a,U,ex,g,B⟩:=zz;subst ex;obtain rfl:u=Value.ref a:=z;exact atG b e g q λm d=>⟨.bl U.isSome,k,d,rfl,B⟩
theorem ahN(d:X.A.units+1<dm)(f:PE X o td)(hi:PE X i ty)(hv:PE X value tv)(e:dj value (ag (.Subscript o i pos')) pos.line X.env=pure ak) :
  PS X (.Assign [.Subscript o i pos'] value pos) (afQ td ty tv):=by
 intro aa s J H D I h;refine wpAny_Assign_Subscript (bI (hv aa s J H _ I h) λr q ⟨v,w,n,N,c⟩=>bI (f aa q J w _ n c) λu j ⟨x,t,m,B,b⟩=>bI (hi aa j J t _ m b) λF E zz=>?_) e;obtain⟨y,G,l,z,a,p,ex,g,U⟩:=zz;subst ex;obtain rfl:u=Value.ref a:=B;exact as0 d l g z N λC k=>⟨J,p,k,U⟩
end
theorem asR{P:a9}{w:bf}{H:Hp}(h:bo)(hb:c3<h.objs.size):iC P w H (h.push {cls:=.type "dict",data:=.dict #[]}) h.objs.size (.dK []) :=
 ⟨zK _,xG.mpr (dX (gB hb)),[],.nil,Heap.DictOf.new h⟩
def ac2:TE:=λ_ H Q=>∀p,H p=ao->Q (.ref p) (upd H p (.dK []))
section
variable{X:Cx}{pos:cn}
theorem aiU:PE X (.Dict [] [] pos) ac2:=λaa s J H Q I h =>
 wpAny_Dict_empty ⟨.ref s.heap.objs.size,_,I.laid (a:=s.heap.objs.size) (o:=.dK []) (t':=s.toks) (λ_ _ q=>dQ _ q) cR (asR s.heap I.big),rfl,h _ (I.aK.fresh cR)⟩
end
def alH(kvs more:ai (Key×V)):ai (Key×V):=more.foldl (λacc j=>putK acc j.1 j.2) kvs
theorem KV.merge:∀{more:ai (Key×V)} {rs:ai (Key×aj)} {kvs:ai (Key×V)} {vs:ai (Key×aj)},KV more rs->KV kvs vs->KV (alH kvs more) (merged vs rs):=by
 intro more rs kvs vs r;unfold KV at r
 induction r generalizing kvs vs with
 |nil=>intro q;exact q
 | @cons p q B z h t ih =>
  intro j;have e:KV (putK kvs p.1 p.2) (stored vs q.1 q.2):=by
   have:=j.put p.1 h.2;rw[<-h.1];exact this
  exact ih e
structure M1(X:Cx)(o:bg)(m:az)(af:cn)(e:bg)(jG:cn):Prop where
 base:bu o m X.env (bt o X.env)=bt o X.env
 Dy:((b7 jG (a5 [e] X.env)).all (λx=>!x.1)&&(backToKw jG (cv [] X.env)).all (λx=>x.1.isSome)
  && decide (([e]:ai bg).length+([]:ai Keyword).length+(if([]:ai Keyword).isEmpty then 0 else 1)<30))=av
 line:(af.endLine==jG.line)=av
 trees:b7 jG (a5 [e] X.env)=[(ak,bt e X.env)]
structure M2(X:Cx)(o:bg)(m:az)(af:cn)(e f:bg)(jG:cn):Prop where
 base:bu o m X.env (bt o X.env)=bt o X.env
 Dy:((b7 jG (a5 [e,f] X.env)).all (λx=>!x.1)&&(backToKw jG (cv [] X.env)).all (λx=>x.1.isSome)
  && decide (([e,f]:ai bg).length+([]:ai Keyword).length+(if([]:ai Keyword).isEmpty then 0 else 1)<30))=av
 line:(af.endLine==jG.line)=av
 trees:b7 jG (a5 [e,f] X.env)=[(ak,bt e X.env),(ak,bt f X.env)]
def Ja(H:Hp)(a:ar):Prop:=(∃kvs,Rd H a (.dK kvs))\/∃kvs,Rd H a (.dT kvs)
theorem KA{X:Cx}{aa:ai (ar×cb)}{J:St}{H:Hp}{s:au}{a:ar}(I:Inv X aa J H s)(d:Ja H a) :
  s.TypeIs (.ref a) "dict"/\(∀b,Value.ref a=.ref b->∃j,s.heap.get? b=ag j/\j.dict=ao)/\(a==c3)=ak:=by
 rcases d with⟨B,e⟩|⟨B,e⟩
 ·obtain⟨_,hd,U,_,z⟩:=CF I.aK e;refine⟨z.typeIs,λb q=>?_,hd⟩;cases q;obtain⟨j,_,_,h1,h2,_⟩:=z;exact⟨j,h1,h2.2.1⟩
 ·obtain⟨_,hd,N,_,z⟩:=FR I.aK e;refine⟨z.typeIs,λb q=>?_,hd⟩;cases q;obtain⟨j,_,_,h1,h2,_⟩:=z;exact⟨j,h1,h2.2.1⟩
section
variable{X:Cx}{aa:ai (ar×cb)}{J:St}{H:Hp}{s:au}{a:ar}{y d:V}{u r:aj}{o:aq V}{A:bj}{E:aj->au->Prop}
theorem atL{Q:aj->au->Prop}(i:A.units+1<dm)(I:Inv X aa J H s)(g:pL H a y o)(U:RelV y u)(c:RelV d r)(h:∀N s',Inv X aa J H s'->RelV (o.getD d) N->Q N s') :
  wpAny (bb X.prog X.w) A (call (.builtin "dict.get") [.ref a,u,r]) Q E s:=by
 rcases g with⟨q,k,e,B,l⟩|⟨q,k,b,e,B,m,l⟩
 ·subst B;obtain⟨z,hd,n,rel,j⟩:=CF I.aK e;refine MH PySem.F.slot_dict_get j.typeIs PySem.F.entry_dict_get (PySem.F.args_dict_get_3 _ _ _) (meets_dict_get_default (jD X.prog X.w) a (EO U) hd r) ⟨_,j.mapOf,h _ _ (I.tok _) ?_⟩;rw[l];exact(rel.val k).getD c
 ·subst B;cases(show u=Value.ref b from U);obtain⟨z,hd,f,rel,j⟩:=FR I.aK e;refine MH PySem.F.slot_dict_get j.typeIs PySem.F.entry_dict_get (PySem.F.args_dict_get_3 _ _ _) (meetsH_dict_get_default (tupleKind (jD X.prog X.w)) a b hd r) ⟨WM i,k,f,JV I.aK m,j,h _ _ (I.tok _) ?_⟩;rw[l];exact(rel.val k).getD c
end
def ac3(td ty tx:TE):TE:=λJ H Q=>td J H λx H1=>∃a,x=.ref a/\Ja H1 a/\ty J H1 λy H2=>tx J H2 λz j=>∃o,pL j a y o/\Q (o.getD z) j
def ac0(td ty:TE):TE:=λJ H Q=>td J H λx H1=>∃a,x=.ref a/\Ja H1 a/\ty J H1 λy H2=>∃kvs k v,H2 a=ag (.dK kvs)/\y=kV k/\kJ kvs k=ag v/\Q v (upd H2 a (.dK (qR kvs k)))
section
variable{X:Cx}{o e f:bg}{af jG:cn}{td ty tx:TE}
theorem aiV(r:X.A.units+1<dm)(t:PE X o td)(he:PE X e ty)(v:PE X f tx)(m:M2 X o "get" af e f jG):PE X (.Call (.Attribute o "get" af) [e,f] [] jG) (ac3 td ty tx):=by
 intro aa s J H Q I h;refine wpAny_Call_method m.base m.Dy m.line PySem.F.plainAttrs_dict PySem.F.slot_dict_get PySem.F.type_dict_get (bI (t aa s J H _ I h) λu U zz=>?_);obtain⟨x,K,j,i,a,ex,d,n⟩:=zz;subst ex;obtain rfl:u=Value.ref a:=i;obtain⟨B,q,_⟩:=KA j d;refine⟨B,q,?_⟩;rw[m.trees];refine IE rfl (aaB (ID (bI (he aa U J K _ j n) λS N ⟨y,G,D,c,l⟩ =>
  ID (bI (v aa N J G _ D l) λT P ⟨z,E,C,b,R,g,k⟩=>NU ?_))))
 exact atL r C g c b λL M w p=>⟨_,E,w,p,k⟩
theorem aiT(i:PE X o td)(he:PE X e ty)(m:M1 X o "pop" af e jG):PE X (.Call (.Attribute o "pop" af) [e] [] jG) (ac0 td ty):=by
 intro aa s J H Q I h;refine wpAny_Call_method m.base m.Dy m.line PySem.F.plainAttrs_dict PySem.F.slot_dict_pop PySem.F.type_dict_pop (bI (i aa s J H _ I h) λu B zz=>?_);obtain⟨x,w,j,U,a,ex,d,c⟩:=zz;subst ex;obtain rfl:u=Value.ref a:=U;obtain⟨z,q,_⟩:=KA j d;refine⟨z,q,?_⟩;rw[m.trees];refine IE rfl (aaB (ID (bI (he aa B J w _ j c) λE D ⟨y,G,t,N,g,k,v,p,n,l,b⟩=>NU ?_)));subst n;exact as1 t p N l (.inl rfl) λA C r f=>⟨v,_,r,f,b⟩
end
end L2
namespace Att
open PySem PySem.W PySem.Calls PyProof.Rows
theorem am8{P:Params}{h:bo}:∀(ns:ai aw) (vs:ai aj),WellAll P h vs (ns.map WData.int)->cu vs ns:=by
 intro ns
 induction ns with
 |nil =>
  intro vs w;rw[pG]at w;cases w;exact .nil
 |cons n ns ih =>
  intro vs w;rw[cK]at w;cases w with
  |cons a b =>
   cases a;exact .cons _ _ (ih _ b)
theorem ad4{l:OpenLaw}{n:ax}(hn:l.most=ag n){P:Params}{h:bo}{args:ai WData}{vals:ai aj}
  (U:l.row.toRowW.claim.pre args=av) (i:WellAll P h vals args) :
  ∃a vs ns,vals=[Value.ref a]/\args=[WData.list (ns.map WData.int)]/\h.get? a=ag {cls:=.type "list",data:=.seq vs.toArray}/\cu vs ns/\ns.length<=n:=by
 have B:WShape.hasAll [] args [.list .int]=av:=(pre_splitW U).1;have N:l.pre.holds [] {args:=args}=av:=(pre_splitW U).2;obtain⟨d,r,rfl,h1,h2⟩:=hasAllW_cons B;obtain rfl:=hasAllW_nil h2;obtain⟨k,rfl,g⟩:=hasW_list h1;obtain⟨ns,rfl⟩:=items_int g;have hlen:ns.length<=n:=by
  unfold OpenLaw.pre at N;have z:(WTm.not (.lt (.lit (.int (n:aw))) (.len (.arg 0)))).holds [] {args:=[.list (ns.map .int)]}=av:=by
   have z:=(holds_andW N).1;rw[hn]at z;exact z
  have j:=condW_of z (w_not (w_lt w_lit (w_len_list (w_arg rfl))));rw[lJ]at j;refine Hw λq=>?_;have e:(n:aw)<((ns.length:ax):aw):=by omega
  first
   |(rw[xA e]at j;exact bp j (by decide))
   |(simp at j;omega)
 cases i with
 |cons c b =>
  cases b;cases c with
  |list f hall=>exact⟨_,_,ns,rfl,rfl,f,am8 ns _ hall,hlen⟩
theorem ahQ(l:OpenLaw)(args:ai WData):l.row.toRowW.claim.post args (.bool av) args=av :=
 postW_of (r:=l.row.toRowW) (X:=(av==av))
  (show WShape.has [] (.bool av) .bool=av by first|rfl|decide|simp[WShape.has,WShape.arms,WShape.armsAll])
  (show(WTm.eq .res (.lit (.bool av))).value [] {args:=args,res:=ag (.bool av),after:=args}=ag (.bool (av==av))from w_eq_bool (w_res rfl) w_lit) rfl
theorem av0{l:OpenLaw}{n:ax}{q:a9}{loose:ai az}{XP:(az->aq aj)->bo->Prop}{YP:bf->bo->Prop}{d:DefRec}
  (hn:l.most=ag n) (s:d.params.defaults=[])
  (call:∀(w:bf) (s₀ s₁:au) (mg mb:az->aq aj) (fa:ar) (o:cb) (z j doc:aj) (a:ar) (vs:ai aj) (ns:ai aw),
   Ground q loose [] XP w s₀ mg mb s₁.heap->YP w s₁.heap ->
   s₁.heap.get? fa=ag o->o.data=.func (docDef d.name d.params d.body d.scope z j doc)->s₁.heap.CodeRec j d.name->mg d.name=ag (.ref fa) ->
   s₁.heap.get? a=ag {cls:=.type "list",data:=.seq vs.toArray}->cu vs ns->ns.length<=n->s₁.gens=#[] ->
   codeAny (bb l.prog w) callerA (.call (.ref fa) ⟨[.ref a],[]⟩) (λr s'=>r=.ok (.ret (.bool av))/\OldK s₁.heap s'.heap/\s'.os=s₁.os/\AllBare s'.gens) s₁) :
  WalkO q loose XP YP l.row.toRowW d [] (λf vs=>PySem.call f vs):=by
 intro w s₀ s₁ mg mb G ρ fa o z j doc k kV b hd g B t e args vals x p m N u c;obtain rfl:k=.none:=Dflts.none B s;obtain rfl:kV=.none:=Dflts.noKw B;obtain⟨a,vs,ns,rfl,rfl,v,hints,hlen⟩:=ad4 hn p u;refine enter_call (rZ (call w s₀ s₁ mg mb fa o z j doc a vs ns G ρ b (fd_plain hd) g t v hints hlen e) λr s' U=>?_);obtain⟨rfl,h2,i,h⟩:=U;exact⟨.inl ⟨.bool av,.bool av,[],rfl,λ_=>rfl,.bool av,ahQ l _,λ_=>⟨List.Pairwise.nil,λ_ hm=>(nomatch hm)⟩⟩,h2,i,h⟩
section
variable{prog:a9}{w:bf}{A:bj}{E:aj->au->Prop}{s:au}{K:ba}
noncomputable def ledger(h:bo)(L d:ar):ai (ar×cb):=(List.range h.objs.size).filterMap λa=>if a=L\/a=d then ao else(h.get? a).map λo=>(a,o)
end
end Att
namespace L2
open PySem PySem.Spec PyProof.Rows
theorem OD:∀{vs:ai aj} {ns:ai aw},cu vs ns->Vals (ns.map V.int) vs
 |_,_,.nil => .nil
 |_,_,.cons n t h => .cons ⟨t,rfl⟩ (OD h)
noncomputable def inClass(s:bq)(j:ax):bq:=match s with
 |.ClassDef _ _ _ body _ _ _ _ _ _ _=>body.getD j (.Pass ⟨0,0,0,0⟩)
 |_ => .Pass ⟨0,0,0,0⟩
noncomputable def iK(s:bq):ck:=match s with
 |.FunctionDef _ a _ _ _ _ _ _ _ _=>a
 |_=>{posonlyargs:=[],args:=[],vararg:=ao,kwonlyargs:=[],kw_defaults:=[],kwarg:=ao,defaults:=[]}
noncomputable def eL(s:bq):ai bq:=match s with
 |.FunctionDef _ _ b _ _ _ _ _ _ _=>b
 |_=>[]
noncomputable def aR(s:bq):b0:=match s with
 |.FunctionDef _ _ _ _ _ _ sc _ _ _=>sc
 |_=>{kind:=.function,names:=[],isGenerator:=ak,isCoroutine:=ak}
abbrev zU:pM:=λ_ _ _ _ _ _=>bz
abbrev E0:XK:=λ_ _ _=>bz
theorem Ow{X:Cx}:Passes zU X E0:=λ_ _ _ _ _ _ _ h=>h.elim
structure sF(K:ba)(x qual:az)(st:bq)(f:ar)(fd:b8):Prop where
 ex:∃(oc:aj) (od:aq ar) (kV doc pm:aj) (an:aq ar) (aU ct:aj) (gT:bh (aq aj)),
  fd=di x qual (iK st) (eL st) (aR st) .none kV doc pm an aU ct/\K.lookup f=ag ⟨oc,od,.func fd,gT⟩/\codeIn K aU qual=av
 kp:dh K (.ref f)=av
section
variable{P:a9}{w:bf}{K:ba}{mg:az->aq aj}{base:bo}
theorem sF.binds{x qual:az}{st:bq}{f:ar}{fd:b8}{ps:ai az}(F:sF K x qual st f fd)
  (h:∀(kV doc pm:aj) (an:aq ar) (j ct:aj) (us:ai aj),us.length=ps.length->cq (di x qual (iK st) (eL st) (aR st) .none kV doc pm an j ct) ⟨us,[]⟩=pure (ps.zip us)):Binds K fd ps []:=by
 obtain⟨z,q,kV,doc,pm,an,j,ct,U,rfl,B,N⟩:=F.ex;exact .all (h kV doc pm an j ct)
theorem LX{x qual:az}{st:bq}{f:ar}{N:aj}{B z:aq ar}{U:bh (aq aj)}{kV doc q j ct:aj}(l:K.lookup f=ag ⟨N,B,.func (di x qual (iK st) (eL st) (aR st) .none kV doc q z j ct),U⟩)
  (c:codeIn K j qual=av) (k:dh K (.ref f)=av):sF K x qual st f (di x qual (iK st) (eL st) (aR st) .none kV doc q z j ct):=⟨⟨N,B,kV,doc,q,z,j,ct,U,rfl,l,c⟩,k⟩
end
section
variable{X:Cx}
theorem avI:rG X (.builtin "len") (λxs H Q=>∃a kvs,xs=[V.ref a]/\H a=ag (.dK kvs)/\Q (.int kvs.length) H):=by
 intro aa s J H xs N Q I r h;obtain⟨a,kvs,rfl,z,q⟩:=h;obtain⟨u,rfl,j⟩:=vals1 r;cases j;exact atD I (.inl z) λt s' B=>⟨.int kvs.length,H,B,⟨t,rfl⟩,q⟩
end
def nP(H H':Hp):Prop:=∀b o,H b=ag o->H' b=ag o
theorem nP.refl(H:Hp):nP H H:=λ_ _ h=>h
theorem nP.trans{H H1 H2:Hp}(a:nP H H1)(b:nP H1 H2):nP H H2:=λc o h=>b c o (a c o h)
theorem nP.seq{K:ba}{H H':Hp}{a:ar}{xs:ai V}(e:nP H H')(h:fB K H a xs):fB K H' a xs:=by
 rcases h with(h|⟨o,h⟩)|h
 ·exact .inl (.inl (e _ _ h))
 ·exact .inl (.inr ⟨o,e _ _ h⟩)
 ·exact .inr h
theorem En(env:Env):∀(names:ai (az×cz)) (cs:ai (az×ar)),(∀y∈names,y.2=.free->∃c,env.cells.lookup y.1=ag c) ->
  ∃cl,(forIn names cs (λ(x:az×cz) (cs:ai (az×ar))=>(match x with|(name,kind)=>if(kind==NameKind.free)=av then(do let c<-cellOf env name;pure (ForInStep.yield ((name,c)::cs)))else pure (ForInStep.yield cs))):Sem (ai (az×ar)))=pure cl /\
   (∀x c,cl.lookup x=ag c->cs.lookup x=ag c\/env.cells.lookup x=ag c)/\(∀y∈names,y.2=.free->∃c,cl.lookup y.1=ag c)/\(∀x c,cs.lookup x=ag c->∃c',cl.lookup x=ag c')
 |[],cs,_=>⟨cs,rfl,λ_ _ h => .inl h,λ_ h=>(nomatch h),λ_ c h=>⟨c,h⟩⟩
 |(n,k)::r,cs,h=>by
  by_cases a:k=.free
  ·subst a;obtain⟨c,b⟩:=h (n,.free) kU rfl;obtain⟨cl,e,h1,h2,B⟩:=En env r ((n,c)::cs) λy j=>h y (fL _ j);refine⟨cl,?_,λx d hd=>?_,λy j U=>?_,λx d hd=>?_⟩
   ·rw[List.forIn_cons];simp only[beq_self_eq_true,kL,cellOf,b,pure_bind];exact e
   ·rcases h1 x d hd with q|q
    ·rw[GY]at q;split at q
     ·rename_i N;have f:x=n:=by simpa using N
      subst f;exact .inr (b.trans q)
     ·exact .inl q
    ·exact .inr q
   ·rcases dI.mp j with z|z
    ·subst z;exact B n c (by simp)
    ·exact h2 y z U
   ·by_cases N:x=n
    ·subst N;exact B x c (by simp)
    ·have hb:(x==n)=ak:=by simpa using N
     exact B x d (by rw[GY,hb];exact hd)
  ·obtain⟨cl,e,h1,h2,B⟩:=En env r cs λy j=>h y (fL _ j);have hb:(k==NameKind.free)=ak:=by simpa using a
   refine⟨cl,?_,h1,λy j U=>?_,B⟩
   ·rw[List.forIn_cons];simp only[hb,IG,pS,pure_bind];exact e
   ·rcases dI.mp j with z|z
    ·subst z;exact bp U a
    ·exact h2 y z U
theorem Vw{scope:b0}{env:Env}(h:∀y∈scope.names,y.2=.free->∃c,env.cells.lookup y.1=ag c) :
  ∃cl,closureFor scope env=pure cl/\(∀x c,cl.lookup x=ag c->env.cells.lookup x=ag c)/\∀y∈scope.names,y.2=.free->∃c,cl.lookup y.1=ag c:=by
 obtain⟨cl,e,h1,h2,_⟩:=En env scope.names [] h;refine⟨cl,?_,λx c j=>(h1 x c j).resolve_left (by simp),h2⟩;unfold closureFor;refine Eq.trans (cy (λm=>m >>= λcs=>pure cs) e) ?_;rfl
section
variable{prog:a9}{w:bf}{A:bj}{R:Result->au->Prop}{s:au}
theorem auV{elt target iter:bg}{ifs:ai bg}{scope:b0}{pos:cn}{e acc:aj}{env:Env}(I:ax->au->Prop)
  (turn:∀n s,I n s->wpAny (bb prog w) A (df e) (λr s₁=>match r with
   |none=>R (.ok .next) s₁
   | some v=>wpAny (bb prog w) A (letOwnedTupleGo target e v) (λ_ f=>wpAny (bb prog w) A (assign target env v) (λ_ s₂ =>
     wpAny (bb prog w) A (forIn ifs av λc r=>if r=av then do let ok<-isTrue c env (bt c env);pure (ForInStep.yield ok)else pure (ForInStep.yield r)) (λok j =>
      if ok=av then wpAny (bb prog w) A (bt elt env) (λx z =>
       wpAny (bb prog w) A (call (.builtin "list.append") [acc,x]) (λ_ q=>∃m,m<n/\I m q) (λ_ _=>bz) z) (λ_ _=>bz) j
      else ∃m,m<n/\I m j) (λ_ _=>bz) s₂) (λ_ _=>bz) f) (λ_ _=>bz) s₁) (λ_ _=>bz) s)
  (n:ax) (h:I n s) :
  codeAny (bb prog w) A (.compLoop (.ListComp elt [⟨target,iter,ifs,0⟩] scope pos) 0 e acc env) R s:=by
 refine codeAny_loop rfl I (λn s g=>?_) n h;show wpAny _ A ((compTurn (.ListComp elt [⟨target,iter,ifs,0⟩] scope pos) 0 e acc env).onRaise (λx=>do noteFrame x env;theTreesLotGoes x)) _ _ s;refine wpAny_noted ?_;rw[compTurn_list];refine aL (wpAny_standAt (aL (pN (turn n s g) (λr s₁ N=>?_) λ_ _ h'=>h'.elim)));cases r with
 |none=>exact bH N
 |some v =>
  refine aL (pN N (λ_ f U=>?_) λ_ _ h'=>h'.elim);refine aL (pN U (λ_ s₂ d=>aL (pN d (λok j B=>?_) λ_ _ h'=>h'.elim)) λ_ _ h'=>h'.elim);cases ok with
  |false=>exact bH ⟨rfl,B⟩
  |true =>
   exact aL (aL (pN B (λx z b=>aL (pN b (λ_ q a=>bH (bH ⟨rfl,a⟩)) λ_ _ h'=>h'.elim)) λ_ _ h'=>h'.elim))
end
def GN(X:Cx)(ifs:ai bg)(t:TT):Prop :=
 ∀(aa:ai (ar×cb)) (s:au) (J:St) (H:Hp) (Q:bc->Hp->Prop),Inv X aa J H s->t J H Q ->
  wpAny (bb X.prog X.w) X.A (forIn ifs av λc r=>if r=av then do let ok<-isTrue c X.env (bt c X.env);pure (ForInStep.yield ok)else pure (ForInStep.yield r)) (TP X aa J Q) X.xe s
def acJ:TT:=λ_ H Q=>Q av H
theorem ah1{X:Cx}:GN X [] acJ:=λ_ _ _ H _ I h=>wpAny_tests_nil ⟨H,I,h⟩
theorem ah0{X:Cx}{c:bg}{t:TT}(h:PT X c t):GN X [c] t:=λaa s J H Q I q=>wpAny_tests_one (h aa s J H Q I q)
noncomputable def jP(X:Cx)(scope:b0)(q:ai az)(js:ai ax)(cl:ai (az×ar))(C:ar)(s:au)(H:Hp)(fp:ai ar):Cx :=
 {X with N:=q++js.map (λj=>X.N.getD j Str.empty),s₀:=s,H₀:=H,env:=compEnvC scope cl C X.env,outer:=X.stack,ex:=fp,fn:=λ_=>ak,xe:=λ_ _=>bz}
noncomputable def yP(q:ai az)(js:ai ax)(J:St):St:=q.map (λ_=>ao)++js.map (λj=>(J[j]?).join)
noncomputable def gk(env:Env)(n:az)(k:cz):cz:=if(k==NameKind.free&&env.scope.kind == .function&&env.kindOf n==ag .cell)=av then .cell else k
theorem Nl(env:Env)(names:ai (az×cz)):(names.map λ(n,k)=>if(k==NameKind.free&&env.scope.kind == .function&&env.kindOf n==ag .cell)then(n,NameKind.cell)else(n,k))=names.map λp=>(p.1,gk env p.1 p.2):=by
 refine GX λp _=>?_;obtain⟨n,k⟩:=p;show(if(k==NameKind.free&&env.scope.kind == .function&&env.kindOf n==ag .cell)=av then(n,NameKind.cell)else(n,k))=(n,gk env n k);unfold gk;split <;> rfl
theorem Av(env:Env)(x:az):∀names:ai (az×cz),(names.map λp=>(p.1,gk env p.1 p.2)).lookup x=(names.lookup x).map (gk env x)
 |[]=>rfl
 |(n,k)::r=>by
  rw[cK];cases j:x==n with
  |true =>
   have e:x=n:=by simpa using j
   subst e;rw[GY,GY];simp
  |false =>
   rw[GY,GY];simp only[j];exact Av env x r
theorem lookup_mem{x:az}{k:cz}:∀{names:ai (az×cz)},names.lookup x=ag k->(x,k)∈names
 |[],h=>by simp at h
 |(n,q)::r,h=>by
  rw[GY]at h;cases j:x==n with
  |true =>
   have e:x=n:=by simpa using j
   subst e;simp only[beq_self_eq_true]at h;cases h;exact List.mem_cons_self ..
  |false =>
   simp only[j]at h;exact fL _ (lookup_mem h)
theorem Aw{env:Env}{names:ai (az×cz)}{x:az}(h:names.lookup x=ag .free) :
  (names.map λ(n,k)=>if(k==NameKind.free&&env.scope.kind == .function&&env.kindOf n==ag .cell)then(n,NameKind.cell)else(n,k)).lookup x=ag .cell \/
  (names.map λ(n,k)=>if(k==NameKind.free&&env.scope.kind == .function&&env.kindOf n==ag .cell)then(n,NameKind.cell)else(n,k)).lookup x=ag .free:=by
 rw[Nl,Av,h];show ag (gk env x .free)=ag .cell\/ag (gk env x .free)=ag .free;unfold gk;split
 ·exact .inl rfl
 ·exact .inr rfl
theorem ZR{env:Env}{names:ai (az×cz)}{x:az}(B:∀y∈names,y.2≠.cell)
  (h:(names.map λ(n,k)=>if(k==NameKind.free&&env.scope.kind == .function&&env.kindOf n==ag .cell)then(n,NameKind.cell)else(n,k)).lookup x=ag .cell \/
   (names.map λ(n,k)=>if(k==NameKind.free&&env.scope.kind == .function&&env.kindOf n==ag .cell)then(n,NameKind.cell)else(n,k)).lookup x=ag .free):(x,NameKind.free)∈names:=by
 rw[Nl,Av]at h;cases e:names.lookup x with
 |none=>rw[e]at h;rcases h with h|h <;> cases h
 |some k =>
  have hm:=lookup_mem e
  by_cases j:k=.free
  ·rw[j]at hm;exact hm
  ·rw[e]at h;have q:gk env x k=k:=by
    unfold gk;have hb:(k==NameKind.free)=ak:=by simpa using j
    rw[hb];rfl
   have h':gk env x k=.cell\/gk env x k=.free:=h.imp (λz=>kE z) λz=>kE z;rw[q]at h'
   rcases h' with z|z
   ·exact bp z (B _ hm)
   ·exact bp z j
structure HB(X:Cx)(scope:b0)(ls:ai az)(js:ai ax):Prop where
 kind:scope.kind=.function
 cell:∀y∈scope.names,y.2≠.cell
 names:∀y∈scope.names,y.2=.local->scope.names.lookup y.1=ag .local
 free:∀y∈scope.names,y.2=.free->X.env.kindOf y.1=ag .cell\/X.env.kindOf y.1=ag .free
 RI:∀j∈js,∃x,X.N[j]?=ag x/\scope.names.lookup x=ag .free
section
variable{X:Cx}{aa:ai (ar×cb)}{J:St}{H:Hp}{s:au}
theorem al5{scope:b0}{j:ai az}{js:ai ax}{cl:ai (az×ar)}{C:ar}{fp:ai ar}(L:HB X scope j js)(I:Inv X aa J H s)
  (h1:∀x c,cl.lookup x=ag c->X.env.cells.lookup x=ag c) (h2:∀y∈scope.names,y.2=.free->∃c,cl.lookup y.1=ag c)
  {s':au} {H':Hp} (B:s'.heap.objs.size<=C) (bs:∀b o,X.base.get? b=ag o->s'.heap.get? b=ag o/\H' b=ao) (qU:X.base.objs.size<=s'.heap.objs.size)
  (oC:s'.heap.FunFrames X.base X.stack) (tP:∀b∈iI X.stack,H' b=ao)
  (FK:∀b∈fp,b≠C/\∀x c,X.env.cells.lookup x=ag c->c≠b) (yM:∀b o,X.base.get? b=ag o->b∉fp) (CC:∀b∈fp,b∉iI X.stack) :
  (jP X scope j js cl C s' H' fp).Ok where
 mod:=I.ok.mod
 kind:=L.kind
 glob:=I.ok.glob
 blt:=I.ok.blt
 above:=B
 inj:=λx y c a b=>I.ok.inj x y c (h1 x c a) (h1 y c b)
 has:=λx q=>h2 (x,.free) (ZR (env:=X.env) L.cell q) rfl
 FW:=λx c z=>by cases z
 hd:=I.ok.hd
 frames:=I.ok.frames
 sX:=.inl rfl
 FK:=λb hb=>⟨(FK b hb).1,λx c e=>(FK b hb).2 x c (h1 x c e)⟩
 bs:=bs
 qU:=qU
 yM:=yM
 CC:=CC
 oC:=oC
 tP:=tP
theorem al3{z:ai az}{js:ai ax}{i:ax}{v:V}(h:(yP z js J)[i]?=ag (ag v)):∃k j,i=z.length+k/\js[k]?=ag j/\J[j]?=ag (ag v):=by
 unfold yP at h
 by_cases hi:i<z.length
 ·rw[kP (by simpa using hi),jV]at h;cases e:z[i]? with
  |none=>rw[e]at h;cases h
  |some y=>rw[e]at h;cases h
 ·rw[GZ (by simpa using Hw hi),jV,lJ]at h;cases e:js[i-z.length]? with
  |none=>rw[e]at h;cases h
  |some j =>
   rw[e]at h;refine⟨i-z.length,j,by omega,e,?_⟩;have h':(J[j]?).join=ag v:=kE h;cases q:J[j]? with
   |none=>rw[q]at h';cases h'
   |some o =>
    rw[q]at h';exact cy ag h'
def LcR(b:ai az)(js:ai ax)(g:TG)(tc:TT)(te:TE)(J:St)(Q:VK)(σ:It)(H1:Hp):Prop:=∀D,H1 D=ao ->
 ∃W:ax->ax->St->Hp->Prop,(∃m,W 0 m (yP b js J) (upd H1 D (.lst [])))/\∀i m z H',W i m z H' ->
  (σ.stop i H'/\Q (.ref D) H')\/(σ.go i H'/\∃N:St->Hp->Prop,(∀q H2,N q H2->∃B,B<m/\W (i+1) B q H2) /\
   ∀x H2,σ.zV i H' x H2->g x z H2 λj d=>tc j d λc a=>if c=av then te j a λy U=>∃ys,U D=ag (.lst ys)/\ys.length<ay/\N j (upd U D (.lst (ys++[y])))else N j a)
def WZ(q:ai az)(js:ai ax)(j:TI)(g:TG)(tc:TT)(te:TE):TE:=λJ H Q=>j J H (LcR q js g tc te J Q)
theorem al1{elt tg iter:bg}{ifs:ai bg}{scope:b0}{pos ahP:cn}{t:ai az}{js:ai ax}{wi:TI}{g:TG}{tc:TT}{te:TE}{use:aq (aj->Sem Unit)}{R:aj->au->Prop}{Q:V->Hp->Prop}(hc:X.calm=av)(L:HB X scope t js)(hi:PI X tg iter wi)
  (hb:∀cl C s H fp,PG (jP X scope t js cl C s H fp) tg g/\GN (jP X scope t js cl C s H fp) ifs tc/\PE (jP X scope t js cl C s H fp) elt te)
  (hs:∀x,cp iter X.env x=pure x) (I:Inv X aa J H s) (h:WZ t js wi g tc te J H Q)
  (fin:∀d C S s6 m,Inv X aa J S s6->pH X aa S C->s6.heap.Ns C m->Q (.ref d) S->compPost (bb X.prog X.w) X.A X.xe use R (.ref d) C (.ok .next) s6) :
  wpAny (bb X.prog X.w) X.A (comprehension (.ListComp elt [⟨tg,iter,ifs,0⟩] scope pos) scope X.env ahP (newList []) ak (bt iter X.env) use) R X.xe s:=by
 obtain⟨cl,fQ,kM,lD⟩:=Vw (scope:=scope) (env:=X.env) λy hy hf=>I.ok.has y.1 (L.free y hy hf);refine wpAny_comprehension_free rfl hs fQ L.kind L.names (bI (hi aa s J H _ I h) λv s1 h1=>bI h1 λBj B h2=>?_);obtain⟨it,fp,tn,σ,f,e,I2,T,uE,D,h2⟩:=h2;subst e;refine oK (wpAny_newFunctionEnv L.cell (by intro y hy;simp at hy) (λa Cb Bt=>?_) L.kind);dsimp only at Cb Bt ⊢;generalize Dd:B.heap.push {cls:=.type "list",dict:=ao,data:=.seq ([]:ai aj).toArray}=U at Cb Bt ⊢;have hCz:U.objs.size=B.heap.objs.size+1:=by rw[<-Dd,HH]
 have Ue:f B.heap.objs.size=ao:=I2.aK.fresh cR;have hC0:f U.objs.size=ao:=I2.aK.fresh (by omega);have hDC:B.heap.objs.size≠U.objs.size:=by omega
 have arB:U.get? B.heap.objs.size=ag {cls:=.type "list",dict:=ao,data:=.seq ([]:ai aj).toArray}:=by rw[<-Dd];exact fW _ rfl
 have Bg:∀b o,B.heap.get? b=ag o->U.get? b=ag o:=λb o e=>by rw[<-Dd];exact dQ _ e
 have E:Inv X aa J (upd f B.heap.objs.size (.lst [])) {B with heap:=U,toks:=B.toks} :=
  I2.laid (t':=B.toks) Bg cR (show iC X.prog X.w _ U _ (.lst [])from⟨by simp,[],0,.nil,arB⟩)
 have Bh:∀b o,U.get? b=ag o->a.get? b=ag o:=λb o e=>(Bt.2 b (gB (eB e))).trans (dQ _ e);have I4:Inv X aa J (upd f B.heap.objs.size (.lst [])) {B with heap:=a,toks:=B.toks+0}:=E.kept (h':=a) (t':=B.toks+0) Bh;generalize hT:(f,(⟨tg,iter,ifs,0⟩:Comprehension))=amS;clear hT amS;have Dv:∀b∈fp,b<B.heap.objs.size:=λb hb=>by
  obtain⟨o,e,_⟩:=T.obj 0 _ uE b hb;exact eB e
 have fpD:B.heap.objs.size∉fp:=λz=>Nat.lt_irrefl _ (Dv _ z);have Ut:∀b∈fp,b≠U.objs.size:=λb hb=>gB (by rw[hCz];exact Hu (Dv b hb));have okC:(jP X scope t js cl U.objs.size {B with heap:=U} (upd f B.heap.objs.size (.lst [])) fp).Ok:=by
  refine al5 L E kM lD cR E.bs (pC E.ok.qU E.sz) E.stack E.XH (λb hb=>⟨Ut b hb,(D b hb).2.2.2.2.1⟩) (λb o e hb=>?_) (λb hb z=>?_)
  ·rcases(D b hb).2.2.2.1 with q|q
   ·exact I2.ok.yM b o e q
   ·exact bp (lI (eB (I2.ok.bs b o e).1) q) (Nat.lt_irrefl _)
  ·rcases dI.mp (E.IY b z)with q|q
   ·exact(D b hb).2.1 q
   ·exact(D b hb).2.2.1 q
 have IC:Inv (jP X scope t js cl U.objs.size {B with heap:=U} (upd f B.heap.objs.size (.lst [])) fp) [] (yP t js J) (upd f B.heap.objs.size (.lst [])) {B with heap:=a,toks:=B.toks+0}:=by
  refine⟨okC,rfl,I4.bare,Un.kept Bh,⟨_,Cb,λi x v e1 e2 e3=>?_⟩,λx c e=>I4.cell x c (kM x c e),?_,λx c e=>I4.mR x c (kM x c e),λp hp=>?_,I4.aK,?_⟩
  ·obtain⟨k,j,LD,hj,hσ⟩:=al3 e2;obtain⟨y,hy,Bq⟩:=L.RI j (pF hj);have tK:x=y:=by
    have uP:(t++js.map (λj=>X.N.getD j Str.empty))[i]?=ag x:=e1;rw[LD,GZ (Nat.le_add_right ..),Nat.add_sub_cancel_left,jV,hj]at uP;have Eh:X.N.getD j Str.empty=x:=kE uP;rw[<-Eh,List.getD_eq_getElem?_getD,hy];rfl
   subst tK;have So:X.env.kindOf x=ag .cell\/X.env.kindOf x=ag .free:=by
    have hm:(x,NameKind.free)∈scope.names:=by
     have q:=ZR (env:=X.env) L.cell (Aw (env:=X.env) Bq);exact q
    exact L.free _ hm rfl
   obtain⟨m,hn,hl⟩:=I4.loc;obtain⟨u,r,l⟩:=hl j x v hy hσ (So.elim (λz => .inr (.inl z)) λz => .inr (.inr z));refine⟨u,r,.inr ⟨Aw (env:=X.env) Bq,?_⟩⟩
   rcases l with⟨kl,_⟩|⟨_,c,uM,z⟩
   ·rcases So with q|q
    ·rw[q]at kl;cases kl
    ·rw[q]at kl;cases kl
   ·have hm:(x,NameKind.free)∈scope.names:=ZR (env:=X.env) L.cell (Aw (env:=X.env) Bq);obtain⟨c',To⟩:=lD _ hm rfl;have:=kM _ _ To;rw[uM]at this;cases this;exact⟨c,To,z⟩
  ·show upd f B.heap.objs.size (.lst []) U.objs.size=ao;rw[bO (dX hDC)];exact hC0
  ·have yT:p∈X.pn:=by simpa[jP]using hp
   obtain⟨e,n,ne,nf,d⟩:=I4.pin p (TK _ yT);obtain⟨e3,_⟩:=E.pin p (TK _ yT);refine⟨e,n,?_,λz=>?_,d⟩
   ·exact gB (eB e3)
   ·rcases dI.mp (E.IY p.1 z)with q|q
    ·exact ne q
    ·exact nf q
  ·simp[yP,jP]
 obtain⟨Ct,hbI,hbE⟩:=hb cl U.objs.size {B with heap:=U} (upd f B.heap.objs.size (.lst [])) fp;obtain⟨W,⟨m0,w0⟩,turn⟩:=h2 B.heap.objs.size Ue;have Mq:tn 0 a:=T.keep _ _ _ uE λb hb o e=>Bh b o (Bg b o e);have eP:∀{M:Hp},(∀b∈fp,M b=ao)->∀b∈fp,pH (jP X scope t js cl U.objs.size {B with heap:=U} (upd f B.heap.objs.size (.lst [])) fp) [] M b:=λhn b hb=>by
  refine⟨hn b hb,Ut b hb,λz=>?_,.inl hb,λx c e=>(D b hb).2.2.2.2.1 x c (kM x c e),λp hp=>?_⟩
  ·rcases dI.mp (E.IY b z)with q|q
   ·exact(D b hb).2.1 q
   ·exact(D b hb).2.2.1 q
  ·have yT:p∈X.pn:=by simpa[jP]using hp
   exact(D b hb).2.2.2.2.2 p (TK _ yT)
 have fr0:∀b∈fp,(upd f B.heap.objs.size (.lst [])) b=ao:=λb hb=>by
  rw[bO (show b≠B.heap.objs.size from gB (Dv b hb))];exact(D b hb).1
 have loop:∀s4:au,s4={B with heap:=a,toks:=B.toks+0} ->
   codeAny (bb X.prog X.w) X.A (.compLoop (.ListComp elt [⟨tg,iter,ifs,0⟩] scope pos) 0 (.ref it) (.ref B.heap.objs.size) (compEnvC scope cl U.objs.size X.env))
    (compPost (bb X.prog X.w) X.A X.xe use R (.ref B.heap.objs.size) U.objs.size) s4:=by
  rintro s4 rfl;refine auV (λn s'=>∃i K M,Inv (jP X scope t js cl U.objs.size {B with heap:=U} (upd f B.heap.objs.size (.lst [])) fp) [] K M s'/\tn i s'.heap/\(∀b∈fp,M b=ao)/\W i n K M) ?_ m0 ⟨0,_,_,IC,Mq,fr0,w0⟩;rintro n s5 ⟨i,P,S,I5,DZ,QZ,w5⟩
  rcases turn i n P S w5 with⟨stop,qn⟩|⟨go,N,hN,step⟩
  ·refine bI (T.done (jP X scope t js cl U.objs.size {B with heap:=U} (upd f B.heap.objs.size (.lst [])) fp) rfl rfl rfl hc i [] s5 P S _ I5 (eP QZ) DZ stop) λr s6 ⟨hr,I6⟩=>?_;subst hr;obtain⟨m6,hn6,_⟩:=I6.loc;have un1:Un (iI X.stack) fp (upd f B.heap.objs.size (.lst [])) S U s6.heap:=I6.base;have un:=(Un.laid Bg cR Ue).trans un1;exact fin _ _ _ _ _ (I2.FV (s':=s6) (ch:=fp) I6.os un I6.aK I6.bare λb hb=>⟨(D b hb).2.2.2.1,(D b hb).2.1,(D b hb).2.2.2.2.1,(D b hb).2.2.2.2.2⟩) (E.uN cR I6.free) hn6 qn
  ·refine bI (T.item (jP X scope t js cl U.objs.size {B with heap:=U} (upd f B.heap.objs.size (.lst [])) fp) rfl rfl rfl hc i [] s5 P S _ I5 (eP QZ) DZ go) λr s6 ⟨u,hr,h6⟩=>?_;subst hr;refine bI h6 λ_ s7 zz=>?_;obtain⟨x,H7,I7,r7,y7,XJ,fr7⟩:=zz;have I7':=I7.pinned (eP fr7) (T.obj _ _ XJ);refine bI (Ct _ s7 P H7 x u _ I7' r7 (step x H7 y7)) λ_ s8 ⟨J8,H8,I8,q8⟩=>?_;refine bI (hbI _ s8 J8 H8 _ I8 q8) λok s9 ⟨H9,I9,q9⟩=>?_;have again:∀{G:St} {Ha:Hp} {sa:au},Inv (jP X scope t js cl U.objs.size {B with heap:=U} (upd f B.heap.objs.size (.lst [])) fp) ([]++JF fp s7.heap) G Ha sa->N G Ha ->
     ∃m,m<n/\∃i K M,Inv (jP X scope t js cl U.objs.size {B with heap:=U} (upd f B.heap.objs.size (.lst [])) fp) [] K M sa/\tn i sa.heap/\(∀b∈fp,M b=ao)/\W i m K M:=λ{G Ha sa} Ia na=>by
    obtain⟨m',hm,wa⟩:=hN G Ha na;refine⟨m',hm,i+1,G,Ha,Ia.OF,T.keep _ _ _ XJ λb hb o e=>(Ia.pin (b,o) (uW _ (uW _ (PV hb e)))).1,λb hb=>?_,wa⟩;obtain⟨o,e,d⟩:=T.obj _ _ XJ b hb;exact(Ia.pin (b,o) (uW _ (uW _ (PV hb e)))).2.1
   cases ok with
   |false=>exact again I9 q9
   |true =>
    refine bI (hbE _ s9 J8 H9 _ I9 q9) λy s10 zz=>?_;obtain⟨z,H10,Zv,r10,ys,hD,dW,nn⟩:=zz;obtain⟨zz,aQ,k,r,hl,e⟩:=Zv.AX hD;refine call_meets F.slot_list_append ⟨_,e,rfl⟩ F.entry_list_append (F.args_list_append_2 _ _) (PySem.list_append B.heap.objs.size aQ.toArray k y (by rw[iZ];omega)) ⟨e,?_⟩;refine again (Zv.PZ (its':=aQ++[y]) (t':=s10.toks) hD e ?_ (r.append (.cons r10 .nil)) ?_) nn
    ·simp
    ·simp;omega
 exact codeAny_compStart_list (loop _ rfl) (T.self _ 0 _ _ _ Mq (loop _ rfl))
theorem Inv.back{C:ar}{h':bo}(I:Inv X aa J H s)(f:pH X aa H C)(j:Heap.SameBut C s.heap h'):Inv X aa J H {s with heap:=h' }:=by
 have ne1:∀b,b∉[C]->b≠C:=λb hb z=>hb (by rw[z];exact List.mem_singleton_self _);have B:Un (iI X.stack) [C] H H s.heap h':=⟨λb o e n a x=>(j.2 b (ne1 b x)).trans e,λb o e n a x=>⟨o.slots,(j.2 b (ne1 b x)).trans e⟩,λ_ _ _ n _=>n,λb o e x=>⟨o,(j.2 b (ne1 b x)).trans e⟩,λ_ _ q=>q,λ_ _ _ q=>q,λ_ d q=>⟨#[],by rw[q];simp⟩⟩;have U:fE X.prog X.w H h':=λb o e=>by
  refine(I.aK b o e).nC (λc u N q=>(j.2 c ?_).trans q) (λ_ q=>q) λ_ _ q=>q;rintro rfl
  rcases N with z|z
  ·subst z;rw[f.1]at e;cases e
  ·rw[f.1]at z;cases z
 exact I.FV (s':={s with heap:=h' }) (ch:=[C]) rfl B U I.bare λb hb=>by
  rw[qA.mp hb];exact⟨f.2.2.2.1,f.2.1,f.2.2.2.2.1,f.2.2.2.2.2⟩
theorem aiN{elt tg iter:bg}{ifs:ai bg}{scope:b0}{pos:cn}{j:ai az}{js:ai ax}{z:TI}{g:TG}{tc:TT}{te:TE}(U:X.calm=av)(L:HB X scope j js)(hi:PI X tg iter z)
  (hb:∀cl C s H fp,PG (jP X scope j js cl C s H fp) tg g/\GN (jP X scope j js cl C s H fp) ifs tc/\PE (jP X scope j js cl C s H fp) elt te)
  (N:∀x,cp iter X.env x=pure x:=by intro _;rfl):PE X (.ListComp elt [⟨tg,iter,ifs,0⟩] scope pos) (WZ j js z g tc te):=by
 intro aa s J H Q I h;rw[eval_ListComp];exact al1 U L hi hb N I h λd C b c m a f hn q=>⟨m,hn,λh' B=>⟨.ref d,b,a.back f B,rfl,q⟩⟩
end
section
variable{X:Cx}
theorem au9(c:X.calm=av):rG X (.builtin "sum") (λxs H Q=>∃(a:ar) (ns:ai aw),xs=[.ref a]/\fB X.K H a (ns.map V.int)/\Q (.int ns.sum) H):=by
 intro aa s J H xs d Q I r h;obtain⟨a,ns,rfl,U,q⟩:=h;obtain⟨u,rfl,N⟩:=vals1 r;cases N;obtain⟨j,B,pl,f⟩:=I.list U;have hi:cu j ns:=intsAre_of B;obtain⟨xs,z⟩:=hi.allInts.items;have hl:s.heap.IsList a (intItems xs):=z ▸ pl.isList;refine sum_intListG (I.ok.hd c) hl λh' tk t' b=>?_;have e:preSum (numAt xs) xs.size=ns.sum:=by
  rw[preSum_eq,List.take_of_length_le (by simp),<-nums_intItems,<-z,show j.toArray.toList=j from rfl,hi.numsOf]
 exact⟨.int ns.sum,H,I.kept (t':=tk) b,⟨t',by rw[e]⟩,q⟩
theorem avJ:rG X (.builtin "isinstance") (λxs H Q=>∃x n t b,xs=[x,.ty n]/\pY X.K H x t/\kitOne X.K t (.type n)=ag b/\Q (.bl b) H):=by
 intro aa s J H xs B Q I r h;obtain⟨x,n,t,b,rfl,ty,e,q⟩:=h;obtain⟨u,v,rfl,z,j⟩:=vals2 r;cases j;exact am6 I z ty e λtk=>⟨.bl b,H,I.tok tk,rfl,q⟩
end
inductive Dt where
 |int (i:aw)|bl (b:bc)|str (x:az)|cV|tup (ds:ai Dt)|lst (ds:ai Dt)
def Den(K:ba)(H:Hp):ax->V->Dt->Prop
 |_,v,.int j=>v=.int j
 |_,v,.bl b=>v=.bl b
 |_,v,.str x=>v=.str x
 |_,v,.cV=>v=.cV
 |0,_,.tup _=>bz
 |0,_,.lst _=>bz
 |n+1,v,.tup ds=>∃a xs,v=.ref a/\iL K H a xs/\Paired (Den K H n) xs ds
 |n+1,v,.lst ds=>∃a xs,v=.ref a/\fB K H a xs/\Paired (Den K H n) xs ds
structure HasFn(K:ba)(mg:az->aq aj)(x:az)(st:bq):Prop where
 ex:∃f fd,mg x=ag (.ref f)/\sF K x x st f fd
theorem fU{K:ba}{h:bo}{mg:az->aq aj}{x:az}{st:bq}{f:ar}{B:aj}{z U:aq ar}{N:bh (aq aj)}{kV doc q j ct:aj}(X:K.In h)(G:h.Ns a8 mg)
  (a:nsIn K a8 x=ag (ag (.ref f))) (l:K.lookup f=ag ⟨B,z,.func (di x x (iK st) (eL st) (aR st) .none kV doc q U j ct),N⟩)
  (c:codeIn K j x=av) (k:dh K (.ref f)=av):HasFn K mg x st:=⟨⟨f,_,mg_of X G a,LX l c k⟩⟩
structure Def(P:a9)(w:bf)(K:ba)(mg:az->aq aj)(base:bo)(x:az)(k:ax)(ps:ai az)(sp:Sp):Prop where
 ex:∃f fd,hJ P w K mg base zU k f fd ps sp/\mg x=ag (.ref f)/\dh K (.ref f)=av/\Binds K fd ps []
theorem aiZ{X:Cx}{k:ax}{x:az}{ps:ai az}{sp:Sp}{e:bg}{es:ai bg}{t:TA}{p pos:cn}(D:Def X.prog X.w X.K X.mg X.base x k ps sp)(hr:cM k X.A)(q:Gl X x)(z:PA X (e::es) t)
  (B:(x==("__debug__" : az))=ak:=by decide) (he:a5 (e::es) X.env=(ak,bt e X.env)::a5 es X.env:=by rfl) (N:(b7 pos (a5 es X.env)).any (·.1)=ak:=by rfl) :
  PE X (.Call (.Name x p) (e::es) [] pos) (Me sp [] E0 t):=by
 obtain⟨f,U,F,hm,j,hb⟩:=D.ex;exact ai3 F hr q hm j hb .nil Ow z B he N
theorem nP.new{H:Hp}{p:ar}{o:HO}(h:H p=ao):nP H (upd H p o):=λb u e=>by rw[bO (iG e h)];exact e
def axL(K:ba)(H:Hp)(v:V)(ns:ai aw):Prop:=∃p,v=.ref p/\iL K H p (ns.map V.int)
def Rows(K:ba)(H:Hp)(xs:ai V)(rs:ai (ai aw)):Prop:=Paired (axL K H) xs rs
def awG(h₀ h:bo)(H:Hp)(x:ar)(vs:bh aj):Prop :=
 ∃T q j,vs[1]?=ag (.ref T)/\T≠x/\h₀.get? T=ao/\H T=ao/\h.get? T=ag q/\q.data=.fields j/\3<j.size
def nQ(h₀ h:bo)(H:Hp)(x:ar)(cls:aj)(dx:aq ar)(tb:bc):Prop :=
 h₀.get? x=ao/\H x=ao/\∃j vs,h.get? x=ag j/\j.cls=cls/\j.dict=dx/\j.data=.fields vs/\1<vs.size/\((tb=ak/\vs[1]?=ag .none)\/awG h₀ h H x vs)
theorem nQ.any{h₀ h:bo}{H:Hp}{x:ar}{cls:aj}{dx:aq ar}{tb:bc}(e:nQ h₀ h H x cls dx tb):nQ h₀ h H x cls dx ak:=by
 obtain⟨a,b,q,j,f,d,c,U,N,B⟩:=e;exact⟨a,b,q,j,f,d,c,U,N,B.imp (λz=>⟨rfl,z.2⟩) id⟩
structure uS(X:Cx):Prop where
 sX:X.stack=X.env::X.outer
 LY:X.env.frame=ag X.env.locals
 pn:X.pn=[]
theorem uS.mem{X:Cx}(t:uS X){b:ar}:b∈iI X.stack<->b=X.env.locals\/b∈X.fs:=by
 rw[t.sX];unfold iI;rw[TL,t.LY];exact dI
section
variable{X:Cx}{J:St}{H:Hp}{s:au}
theorem Inv.ZT{h':bo}{ch:ai ar}(I:Inv X [] J H s)(t:uS X)(g:∀b∈ch,X.s₀.heap.get? b=ao/\H b=ao/\∃o vs,s.heap.get? b=ag o/\o.data=.fields vs)
  (keep:∀b o,b∉iI X.stack->b∉ch->s.heap.get? b=ag o->h'.get? b=ag o) (slot:∀b o,b∈iI X.stack->s.heap.get? b=ag o->∃sl,h'.get? b=ag {o with slots:=sl}) :
  Inv X [] J H {s with heap:=h' }:=by
 have C:∀c v,s.heap.IsCell c v->c∉ch:=λc v ⟨o,B,hd⟩ j=>by
  obtain⟨_,_,h,vs,e,d⟩:=g c j;rw[B]at e;cases e;rw[hd]at d;cases d
 have any:∀b o,b∉ch->s.heap.get? b=ag o->∃sl,h'.get? b=ag {o with slots:=sl}:=λb o j e=>by
  by_cases hb:b∈iI X.stack
  ·exact slot b o hb e
  ·exact⟨o.slots,keep b o hb j e⟩
 have cellK:∀c v,s.heap.IsCell c v->h'.IsCell c v:=λc v z=>by
  obtain⟨o,B,hd⟩:=id z;obtain⟨sl,e⟩:=any c o (C c v z) B;exact⟨_,e,hd⟩
 have old:∀b o,X.s₀.heap.get? b=ag o->b≠X.env.locals/\b∉ch:=λb o e =>
  ⟨gB (lI (eB e) I.ok.above),λj=>by rw[(g b j).1]at e;cases e⟩
 have w:∀b,b≠X.env.locals->b∉X.fs->b∉iI X.stack:=λb h1 h2 z=>(t.mem.mp z).elim h1 h2;refine⟨I.ok,I.os,I.bare,⟨λb o e n hb N=>?_,λb o e n hb N=>?_,I.base.free,λb o e N=>?_,I.base.nA,I.base.lG,I.base.mK⟩,?_,λx c e=>?_,I.free,I.mR,λp D=>?_,λb u e=>?_,I.len⟩
 ·exact keep b o (w b (old b o e).1 hb) (old b o e).2 (I.base.keep b o e n hb N)
 ·obtain⟨sl,a⟩:=I.base.slot b o e n hb N;obtain⟨L,U⟩:=any b _ (old b o e).2 a;exact⟨L,U⟩
 ·obtain⟨h,a⟩:=I.base.there b o e N;obtain⟨sl,U⟩:=any b h (old b o e).2 a;exact⟨_,U⟩
 ·obtain⟨m,hn,hl⟩:=I.loc;obtain⟨o,es,F,B,hd,r⟩:=id hn;have A:X.env.locals∉ch:=λj=>by
   obtain⟨_,_,h,vs,e,d⟩:=g _ j;rw[B]at e;cases e;rw[hd]at d;cases d
  obtain⟨sl,e⟩:=any _ o A B;refine⟨m,⟨_,es,F,e,hd,r⟩,λi x v a U K=>?_⟩;obtain⟨u,E,l⟩:=hl i x v a U K;refine⟨u,E,?_⟩
  rcases l with l|⟨k,c,G,z⟩
  ·exact .inl l
  ·exact .inr ⟨k,c,G,cellK c _ z⟩
 ·obtain⟨v,z⟩:=I.cell x c e;exact⟨v,cellK c v z⟩
 ·rw[t.pn]at D;simp at D
 ·refine(I.aK b u e).nC (λc v j q=>keep c v ?_ ?_ q) (λ_ q=>q) λ_ _ q=>q
  ·intro z;have f:=I.XH c z
   rcases j with y|y
   ·rw[y,e]at f;cases f
   ·rw[y]at f;cases f
  ·intro z;have f:=(g c z).2.1
   rcases j with y|y
   ·rw[y,e]at f;cases f
   ·rw[y]at f;cases f
variable{M:Model}{E:aj->au->Prop}{x:ar}{cls:aj}{dx:aq ar}
theorem nQ.An(I:Inv X [] J H s){b:ar}{o:cb}{vs:bh aj}(e:s.heap.get? b=ag o)(d:o.data=.fields vs):b∉iI X.stack:=λhm=>by
 obtain⟨_,z,q,j⟩:=I.stack.mem hm;rw[e]at q;cases q;exact j vs d
theorem Vh(I:Inv X [] J H s)(t:uS X){j:cb}{vs:bh aj}{head:aj}{h:bc}{Q:Unit->au->Prop}(m:X.s₀.heap.get? x=ao)(n:H x=ao)(he:s.heap.get? x=ag j)(hd:j.data=.fields vs)(hsz:1<vs.size)
  (q:∀h',Inv X [] J H {s with heap:=h' }->nQ X.s₀.heap h' H x j.cls j.dict av->Q () {s with heap:=h' }) :
  wpAny M X.A (do let a<-frameOf X.env;let pl<-entryPlaceOf X.env.locals h;let b<-EntryCells.newEntry head a .none (bw X.env.locals) .none pl;setField (.ref x) 1 b) Q E s:=by
 have P:X.A.frames=ag (X.env::X.outer):=by rw[<-t.sX];exact I.ok.frames
 have hl:s.heap.FunFrames X.base (X.env::X.outer):=by rw[<-t.sX];exact I.stack
 have fO:x∉iI X.stack:=nQ.An I he hd;have k:(X.env::X.outer).filterMap (·.frame)=iI X.stack:=by rw[t.sX];rfl
 refine aL (wpAny_frameOf_fun P hl t.LY λh1 B=>aL (wpAny_entryPlaceOf λpl D=>?_));rw[k]at B;unfold EntryCells.newEntry;unfold newFields;refine aL (oK ?_ (D.sizeOk5 _ _ _ _ _));have p:h1.get? x=ag j:=(B.2.1 x fO).trans he;generalize u:({cls:=.type "traceback",dict:=ao,data:=.fields ([head,.ref X.env.locals,.none,bw X.env.locals,.none]++(if pl.isEmpty then List.replicate 6 Value.none else pl)).toArray}:cb)=to;have f:∃N,to.data=.fields N/\3<N.size:=⟨_,by rw[<-u],by simp only[iZ,sD,gZ,DE];omega⟩;have U:to.isFreed=ak:=by rw[<-u];rfl
 have r:(h1.push to).get? x=ag j:=dQ _ p;have l:h1.objs.size≠x:=GP (eB p);refine wpAny_setField r hd hsz ?_;have v:=Obj.data_mapFields hd (·.setIfInBounds 1 (Value.ref h1.objs.size));have g:=TZ (Obj.mapFields (·.setIfInBounds 1 (Value.ref h1.objs.size))) r (Obj.isFreed_of_fields v);have i:=(sE (h1.push to) (Obj.mapFields (·.setIfInBounds 1 (Value.ref h1.objs.size))) (dX l)).trans (fW h1 U);have kp:∀b o,b≠x->h1.get? b=ag o->((h1.push to).update x (Obj.mapFields (·.setIfInBounds 1 (Value.ref h1.objs.size)))).get? b=ag o:=λb o hb e =>
  (sE _ _ (dX hb)).trans (dQ _ e)
 have w:X.s₀.heap.get? h1.objs.size=ao:=by
  cases e:X.s₀.heap.get? h1.objs.size with
  |none=>rfl
  |some o =>
   have h2:=lI (eB e) I.sz;rw[B.1]at h2;exact bp h2 (Nat.lt_irrefl _)
 have y:H h1.objs.size=ao:=by rw[B.1];exact I.aK.fresh cR
 refine q _ (I.ZT t (ch:=[x]) (λb hb=>?_) (λb o hb C e=>?_) λb o hb e=>?_) ⟨m,n,_,_,g,Obj.cls_mapFields _ _,?_,v,by simpa using hsz,.inr ⟨h1.objs.size,to,?_⟩⟩
 ·rw[qA.mp hb];exact⟨m,n,j,vs,he,hd⟩
 ·exact kp b o (λz=>C (by rw[z];exact qA.mpr rfl)) ((B.2.1 b hb).trans e)
 ·obtain⟨sl,F⟩:=B.2.2 b o e;exact⟨sl,kp b _ (λz=>fO (z ▸ hb)) F⟩
 ·obtain⟨c,d,G,sl⟩:=j;cases G <;> rfl
 ·obtain⟨N,L,K⟩:=f;exact⟨N,by simp[hsz],l,w,y,i,L,K⟩
theorem Pm(I:Inv X [] J H s)(t:uS X){tb:bc}{Q:Unit->au->Prop}(e:nQ X.s₀.heap s.heap H x cls dx tb)
  (q:∀h',Inv X [] J H {s with heap:=h' }->nQ X.s₀.heap h' H x cls dx av->Q () {s with heap:=h' }):wpAny M X.A (noteFrame (.ref x) X.env) Q E s:=by
 obtain⟨U,a,n,m,he,rfl,rfl,hd,j,r⟩:=id e;unfold noteFrame;simp only[t.LY]
 rcases r with⟨_,h1⟩|⟨T,l,N,h1,k,h,i,hT,B,f⟩
 ·refine aL (zX he hd h1 ?_);rw[a7 (by decide)];exact Vh I t U a he hd j q
 ·refine aL (zX he hd h1 ?_);rw[a6 (show(Value.ref T != Value.none)=av from by simp)];obtain⟨c,d⟩:∃c,N[3]?=ag c:=⟨N[3],Jz f⟩;refine aL (zX hT B d ?_)
  by_cases hb:(c==bw X.env.locals)=av
  ·rw[a6 hb];exact bH (q s.heap I ⟨U,a,n,m,he,rfl,rfl,hd,j,.inr ⟨T,l,N,h1,k,h,i,hT,B,f⟩⟩)
  ·rw[a7 hb];refine aL (wpAny_setField hT B f ?_);have g:∀b,b≠T->(s.heap.update T (Obj.mapFields (·.setIfInBounds 3 Value.none))).get? b=s.heap.get? b:=λb hb=>sE _ _ (dX hb);have v:T∉iI X.stack:=nQ.An I hT B;have u:Inv X [] J H {s with heap:=s.heap.update T (Obj.mapFields (·.setIfInBounds 3 Value.none))}:=I.ZT t (ch:=[T]) (λb hb=>by
    rw[qA.mp hb];exact⟨h,i,l,N,hT,B⟩) (λb o _ p e=>(g b (λz=>p (by rw[z];exact qA.mpr rfl))).trans e) λb o hb e=>⟨o.slots,(g b (λz=>v (z ▸ hb))).trans e⟩
   exact Vh u t U a ((g x (dX k)).trans he) hd j q
theorem Uw{A:bj}(I:Inv X [] J H s)(t:uS X){fo:aq ar}{Q:Unit->au->Prop}(e:nQ X.s₀.heap s.heap H x cls dx av)
  (q:∀h',Inv X [] J H {s with heap:=h' }->nQ X.s₀.heap h' H x cls dx av->Q () {s with heap:=h' }):wpAny M A (setFlight (.ref x) fo) Q E s:=by
 obtain⟨i,k,n,l,he,rfl,rfl,hd,B,u⟩:=id e
 rcases u with⟨z,_⟩|⟨T,p,m,h1,c,U,a,hT,j,d⟩
 ·cases z
 unfold setFlight;refine aL (zX he hd h1 ?_);rw[a6 (show(Value.ref T != Value.none)=av from by simp)];refine wpAny_setField hT j d ?_;generalize (fo.elim Value.none λf=>bw f)=g;have N:∀b,b≠T->(s.heap.update T (Obj.mapFields (·.setIfInBounds 3 g))).get? b=s.heap.get? b:=λb hb=>sE _ _ (dX hb);have v:T∉iI X.stack:=nQ.An I hT j;have h:=Obj.data_mapFields j (·.setIfInBounds 3 g);refine q _ (I.ZT t (ch:=[T]) (λb hb=>?_) (λb o _ r e=>(N b (λz=>r (by rw[z];exact qA.mpr rfl))).trans e) λb o hb e=>⟨o.slots,(N b (λz=>v (z ▸ hb))).trans e⟩)
  ⟨i,k,n,l,(N x (dX c)).trans he,rfl,rfl,hd,B,.inr ⟨T,_,_,h1,c,U,a,TZ _ hT (Obj.isFreed_of_fields h),h,by simpa using d⟩⟩
 rw[qA.mp hb];exact⟨U,a,p,m,hT,j⟩
end
abbrev WX:=St->aj->aq ar->Hp->Prop
def XE(X:Cx)(W:WX):aj->au->Prop:=λe s'=>∃J H' x cls dx,e=.ref x/\Inv X [] J H' s'/\nQ X.s₀.heap s'.heap H' x cls dx ak/\W J cls dx H'
section
variable{X:Cx}
theorem ajB(t:uS X){W:WX}:PassesOwn (bb X.prog X.w) X.A X.env (XE X W):=by
 rintro e s' ⟨J,d,x,cls,U,rfl,I,ex,w⟩;unfold notedBy;refine Pm I t ex λh1 c j=>?_;unfold cameBackBy;obtain⟨i,k,o,l,he,r,u,hd,B,a⟩:=id j
 rcases a with⟨z,_⟩|⟨T,p,m,q,h,f,g,hT,n,s⟩
 ·cases z
 refine aL (zX he hd q ?_);rw[a7 (show ¬((Value.ref T==Value.none)=av)from by simp)];exact Uw c t j λh2 b N=>⟨J,d,x,cls,U,rfl,b,N.any,w⟩
def nS(P:a9)(w:bf):pM:=λouter H s E e s'=>∃x cls dx H',e=.ref x/\s'.os=s.os/\AllBare s'.gens/\Un (iI outer) [] H H' s.heap s'.heap/\fE P w H' s'.heap/\nQ s.heap s'.heap H' x cls dx av/\E cls dx H'
end
structure pB(X:Cx)(W:WX):Prop where
 top:uS X
 ex:X.ex=[]
 to:∀e s',XE X W e s'->X.xe e s'
 passes:PassesOwn (bb X.prog X.w) X.A X.env X.xe
theorem pB.of{X:Cx}(t:uS X)(j:X.ex=[])(W:WX):pB (X.sN (XE X W)) W where
 top:=⟨t.sX,t.LY,t.pn⟩
 ex:=j
 to:=λe s' ⟨J,z,x,cls,q,a,I,b,c⟩=>⟨J,z,x,cls,q,a,I.vP,b,c⟩
 passes:=ajB t
theorem Inv.Ab{X:Cx}{aa:ai (ar×cb)}{J:St}{H:Hp}{s:au}(I:Inv X aa J H s):Inv X [] J H s:=I.Aa λp j=>bp j (by simp)
theorem Inv.first{X:Cx}{aa:ai (ar×cb)}{J:St}{H:Hp}{s:au}(I:Inv X aa J H s)(q:X.ex=[]){b:ar}(h:s.heap.get? b=ao):X.s₀.heap.get? b=ao:=by
 cases e:X.s₀.heap.get? b with
 |none=>rfl
 |some o =>
  obtain⟨z,j⟩:=I.base.there b o e (by rw[q];simp);rw[h]at j;cases j
theorem nQ.first{X:Cx}{aa:ai (ar×cb)}{J:St}{H H':Hp}{s:au}{h':bo}{x:ar}{cls:aj}{dx:aq ar}{tb:bc}(I:Inv X aa J H s)(j:X.ex=[])(e:nQ s.heap h' H' x cls dx tb) :
  nQ X.s₀.heap h' H' x cls dx tb:=by
 obtain⟨a,b,B,q,p,o,n,m,l,k⟩:=e;refine⟨I.first j a,b,B,q,p,o,n,m,l,k.imp id λ⟨T,N,z,i,h,g,f,d,c,U⟩=>⟨T,N,z,i,h,I.first j g,f,d,c,U⟩⟩
section
variable{P:a9}{w:bf}{K:ba}{mg:az->aq aj}{base:bo}
abbrev mT(P:a9)(w:bf)(K:ba)(mg:az->aq aj)(base:bo)(N:ai az)(qual:az)(scope:b0)(f:ar)(j:aj)(A:bj)(outer:ai Env)(s:au)(H:Hp)(E:XK):Cx :=
 (rY (nS P w) P w K mg base N qual scope f j A outer s H E).sN (XE (rY (nS P w) P w K mg base N qual scope f j A outer s H E) λ_=>E)
theorem WQ{CX:pM}{N:ai az}{qual:az}{scope:b0}{f:ar}{j:aj}{A:bj}{outer:ai Env}{s:au}{H:Hp}{E:XK}:uS (rY CX P w K mg base N qual scope f j A outer s H E):=⟨rfl,rfl,rfl⟩
theorem aX{N:ai az}{qual:az}{scope:b0}{f:ar}{j:aj}{A:bj}{outer:ai Env}{s:au}{H:Hp}{E:XK}:pB (mT P w K mg base N qual scope f j A outer s H E) (λ_=>E):=pB.of WQ rfl _
theorem JU{N:ai az}{qual:az}{scope:b0}{f:ar}{z:aj}{A:bj}{outer:ai Env}{s:au}{H:Hp}{E:XK}{st:ai bq}{t:TS}(h:qW (mT P w K mg base N qual scope f z A outer s H E) st t) :
  qW (rY (nS P w) P w K mg base N qual scope f z A outer s H E) st t:=by
 intro aa U J l D I hw;refine pN (h aa U J l D (I.sN _) hw) (λ_ _ q=>q.vP) λe s' a=>?_;obtain⟨B,m,x,cls,g,rfl,k,ex,q⟩:=a;show wpAny _ _ (leaving _ _) _ _ _;unfold leaving;refine aL (Pm (E:=λd n=>nS P w outer H s E d n) k WQ ex λh1 i c=>?_);refine Uw i WQ c λh2 j b=>?_;exact⟨x,cls,g,m,rfl,j.os,j.bare,j.base,j.aK,b,q⟩
structure HV(P:a9)(w:bf)(K:ba)(mg:az->aq aj)(base:bo)(x:az)(k:ax)(ps:ai az)(sp:Sp):Prop where
 ex:∃f fd,hJ P w K mg base (nS P w) k f fd ps sp/\mg x=ag (.ref f)/\dh K (.ref f)=av/\Binds K fd ps []
end
section
variable{X:Cx}{W:WX}{x:az}{p pos np jG:cn}{e:bg}{es:ai bg}{t:TA}
def XC(sp:Sp)(W:WX)(t:TA):TE:=λJ H Q=>t J H λvs H1=>sp vs H1 Q λcls dx H'=>W J cls dx H'
theorem aiY{k:ax}{ps:ai az}{sp:Sp}(T:pB X W)(D:HV X.prog X.w X.K X.mg X.base x k ps sp)(hr:cM k X.A)(l:Gl X x)(m:PA X (e::es) t)
  (n:(x==("__debug__" : az))=ak:=by decide) (he:a5 (e::es) X.env=(ak,bt e X.env)::a5 es X.env:=by rfl) (o:(b7 pos (a5 es X.env)).any (·.1)=ak:=by rfl) :
  PE X (.Call (.Name x p) (e::es) [] pos) (XC sp W t):=by
 obtain⟨f,G,F,hm,i,hb⟩:=D.ex;intro aa s J H Q I h;refine uA (AZ I l hm ?_ n);refine callWith_K (h₀:=X.base) I.ok.mod.rS i (bI (m pos aa s J H _ I h) λN U ⟨d,C,j,r,q⟩=>⟨j.fI,?_⟩) he o;have hl:N.length=ps.length:=by rw[<-r.length];exact F.len _ _ _ _ q
 have c:=hb U N j.fI (by rw[uX];exact hl);rw[uX]at c;refine zY (rZ (F.run X.A X.stack U C ⟨N,[]⟩ N d Q _ hr j.CD c r q) λr s' B=>?_);cases r with
 |error L =>
  obtain⟨a,cls,v,E,rfl,os,bare,un,aK,ex,g⟩:=B;have y:=(j.FV os un aK bare (λb z=>bp z (by simp))).Ab;exact T.to _ _ ⟨J,E,a,cls,v,rfl,y,(ex.first j T.ex).any,g⟩
 |ok fl =>
  cases fl with
  |ret u=>exact j.after B
  |next=>exact False.elim B
  |brk=>exact False.elim B
  |cont=>exact False.elim B
end
abbrev TH:=ar->aj->aq ar->TS
noncomputable def Bc(scope sc:b0)(N:ai az)(js:ai ax):bc :=
 scope.kind == .function&&(scope.names.all λy=>y.2 != .cell&&(y.2 != .local||scope.names.lookup y.1==ag .local)&&(y.2 != .free||(sc.names.lookup y.1==ag .cell||sc.names.lookup y.1==ag .free))) &&
 js.all λj=>match N[j]? with
  |some x=>scope.names.lookup x==ag .free
  |none=>ak
theorem HB.of{X:Cx}{scope:b0}{ls:ai az}{js:ai ax}(sc:b0)(N:ai az)(c:X.env.scope=sc)(b:X.N=N)(ok:Bc scope sc N js=av):HB X scope ls js:=by
 unfold Bc at ok;rw[mC,mC]at ok;obtain⟨⟨h1,h2⟩,U⟩:=ok;rw[HA]at h2 U;refine⟨by simpa using h1,λy z=>?_,λy z hl=>?_,λy z hf=>?_,λj a=>?_⟩
 ·have q:=h2 y z;rw[mC,mC]at q;simpa using q.1.1
 ·have q:=h2 y z;rw[mC,mC]at q;simpa[hl]using q.1.2
 ·have q:=h2 y z;rw[mC,mC]at q;have B:=q.2;rw[hf]at B;unfold Env.kindOf;rw[c];simpa using B
 ·have q:=U j a;rw[b];cases e:N[j]? with
  |none=>rw[e]at q;cases q
  |some x=>rw[e]at q;exact⟨x,rfl,by simpa using q⟩
section
variable{X:Cx}
theorem avB(hc:X.calm=av):rG X (.builtin "sorted") (λxs H Q=>∃d kvs B,xs=[.ref d]/\H d=ag (.dK kvs)/\kvs.map (·.1)=B.map Sum.inl/\B.length<64 /\
  ∀(ms:ai aw) (l:ar),ms.Perm B->ms.Pairwise (· <= ·)->H l=ao->Q (.ref l) (upd H l (.lst (ms.map V.int)))):=by
 intro aa s J H xs N Q I r h;obtain⟨d,kvs,B,rfl,hd,D,Df,q⟩:=h;obtain⟨u,rfl,L⟩:=vals1 r;cases L;obtain⟨z,lo,o,rel,dd⟩:=FT I.aK hd;obtain⟨ep,M⟩:=dd.dictAt;have y:o.length=B.length:=by
  rw[<-rel.length,<-lJ (f:=(·.1)),D,lJ]
 have R:(64:ax)<=ay:=by decide
 refine Calls.call_function_entry kind_sorted plain_sorted entry_sorted (args_sorted1 _) ?_;unfold Builtin.«sorted»;refine aL (m:=checkCount "sorted" 1 1 _) (bH ?_);refine aL (PySem.W.kdu_collect (A:=X.A.in1) (PySem.W.kdl_dict (knd:=jD X.prog X.w) (kvs:=o) (ep:=ep) lo) (I.ok.hd hc) M (by omega) λh' tk acc Ce C=>?_);have hl:acc.toList.length=B.length:=by rw[sI,C.1,y]
 have hI:cu acc.toList B:=by
  refine intsAre_of (ns:=B) ?_;have key:∀(js:ai aw) (N:ai aj),N.length=js.length->(∀(i:ax) (v:aj),N[i]?=ag v->∃(j:aw) (t:Tok),js[i]?=ag j/\v=Value.int j t)->Vals (js.map V.int) N:=by
   intro js
   induction js with
   |nil=>intro N hl _;cases N with
    |nil=>exact .nil
    |cons _ _=>simp at hl
   |cons j js ih =>
    intro N hl hv;cases N with
    |nil=>simp at hl
    |cons v N =>
     obtain⟨j',t,a,U⟩:=hv 0 v rfl;cases a;exact .cons ⟨t,U⟩ (ih N (by simpa using hl) λi w hw=>hv (i+1) w (by simpa using hw))
  refine key B acc.toList hl λi v hv=>?_;obtain⟨k,x,a,U⟩:=C.2 i v (by rw[<-Jy];exact hv);have c:(o.map (·.1))[i]?=ag k:=by rw[jV,a];rfl
  rw[<-rel.keys,D,jV]at c;cases E:B[i]? with
  |none=>rw[E]at c;cases c
  |some j =>
   rw[E]at c;have e5:(Sum.inl j:Key)=k:=kE c;subst e5
   rcases tI (k:=Sum.inl j) (v:=v) U with⟨i',t,p,P⟩|⟨_,_,p,_⟩
   ·cases p;exact⟨j,t,rfl,P⟩
   ·cases p
 refine aL (wpAny_newList ?_ (by rw[hl];omega));have n:(h'.push (c5 "list" acc.toList.toArray 0)).get? h'.objs.size=ag (c5 "list" acc.toList.toArray 0):=fW _ rfl;refine aL (DO (sL slot_list_sort ⟨_,n,rfl⟩ entry_list_sort (list_sort_tree n hI (by omega) λab g a1 F a3=>⟨_,rfl,?_⟩) (args_list_sort _)));refine bH ⟨_,rfl,?_⟩;have G:Inv X aa J H {s with heap:=h',toks:=tk}:=I.kept Ce;have T:H h'.objs.size=ao:=G.aK.fresh cR;obtain⟨a,BF⟩:∃a,((h'.push (c5 "list" acc.toList.toArray 0)).update h'.objs.size (Obj.mapSeq λ_=>#[])).get? h'.objs.size=ag (c5 "list" #[] a):=⟨_,get?_update_seq n (λ_=>#[])⟩;have K:=dQ (c5 "list" #[] 0) (dQ (c5 "tuple" acc.toList.toArray 0) BF);obtain⟨U,Ca⟩:∃U,(sortedHeap (h'.push (c5 "list" acc.toList.toArray 0)) h'.objs.size acc.toList ab).get? h'.objs.size=ag (c5 "list" ab U):=⟨_,get?_update_seq K (λ_=>ab)⟩;have kp:∀b u,h'.get? b=ag u->(sortedHeap (h'.push (c5 "list" acc.toList.toArray 0)) h'.objs.size acc.toList ab).get? b=ag u:=λb u e=>by
  have hb:b≠h'.objs.size:=gB (eB e);unfold sortedHeap;exact(sE _ _ (dX hb)).trans (dQ _ (dQ _ ((sE _ _ (dX hb)).trans (dQ _ e))))
 have hv:Vals (g.map V.int) ab.toList:=OD a1;have S:g.length=B.length:=F.length_eq;refine⟨.ref h'.objs.size,upd H h'.objs.size (.lst (g.map V.int)),G.laid (t':=tk) kp cR ?_,rfl,q g _ F a3 T⟩;exact⟨by rw[lJ];omega,ab.toList,U,hv,Ca⟩
end
end L2
namespace V2
open PySem PySem.Spec PyProof.Rows L2
inductive A where
 |int (i:aw)|bl (b:bc)|str (x:az)|cV|ty (n:cc)|adr (p:ar)|RD (p d:ar) (f:az) (i:aw)|gl (x:az)|jM (ns:ai aw)
 |tup (ds:ai A)|lst (ds:ai A)|aG (k:ax)
inductive Fd where
 |val (a:A)|lst (ds:ai A)|bE (kvs:ai (Key×A))
@[simp] noncomputable def Fd.own:Fd->bc
 |.val _=>ak
 |_=>av
inductive Cell where
 |lst (ds:ai A)|bE (kvs:ai (Key×A))|ins (cls:az) (fs:ai (az×Fd))|tab (x:az) (pos:cn) (qual:az)|dead
@[simp] def Cell.noOwn:Cell->bc
 |.ins _ fs=>fs.all λp=>!p.2.own
 |_=>av
structure Exc where
 cls:az
 fs:ai (az×A)
inductive Rs(α:Type)where
 |ok (a:α)|exc (x:Exc)
abbrev aH:=ai Cell
abbrev Ev:=ai (aq A)
abbrev Mo(α:Type):=aH->aq (Rs α×aH)
@[simp] noncomputable def ret{α:Type}(a:α):Mo α:=λZ=>ag (.ok a,Z)
@[simp] noncomputable def mb{α β:Type}(m:Mo α)(k:α->Mo β):Mo β:=λZ =>
 match m Z with
 |some (.ok a,Z1)=>k a Z1
 |some (.exc x,Z1)=>ag (.exc x,Z1)
 |none=>ao
@[simp] noncomputable def stuck{α:Type}:Mo α:=λ_=>ao
@[simp] noncomputable def need{α:Type}(o:aq α):Mo α:=λZ=>o.map λa=>(.ok a,Z)
@[simp] noncomputable def oG(p:Prop) [c2 p]:Mo Unit:=λZ=>if p then ag (.ok (),Z)else ao
mutual
def Den(K:ba)(G:Hp)(O:ai ar):V->A->Prop
 |v,.int j=>v=.int j
 |v,.bl b=>v=.bl b
 |v,.str x=>v=.str x
 |v,.cV=>v=.cV
 |v,.ty n=>v=.ty n
 |v,.adr p=>v=.ref p
 |v,.RD p d f i=>v=.ref p/\G d=ag (.xd [(f,.int i)])
 |v,.gl x=>∃C,nsIn K a8 x=ag (ag (.ref C))/\v=.ref C
 |v,.jM ns=>∃a,v=.ref a/\fB K G a (ns.map V.int)
 |v,.tup ds=>∃a xs,v=.ref a/\G a=ag (.tup xs)/\aV K G O xs ds
 |v,.lst ds=>∃a xs,v=.ref a/\G a=ag (.lst xs)/\aV K G O xs ds
 |v,.aG k=>∃a,v=.ref a/\O[k]?=ag a
def aV(K:ba)(G:Hp)(O:ai ar):ai V->ai A->Prop
 |xs,[]=>xs=[]
 |xs,d::ds=>∃x r,xs=x::r/\Den K G O x d/\aV K G O r ds
end
structure Ext(G:Hp)(O:ai ar)(G':Hp)(O':ai ar):Prop where
 same:nP G G'
 pre:∀(k:ax) (a:ar),O[k]?=ag a->O'[k]?=ag a
theorem Ext.refl(G:Hp)(O:ai ar):Ext G O G O:=⟨nP.refl _,λ_ _ h=>h⟩
theorem Ext.trans{G B z:Hp}{O q j:ai ar}(a:Ext G O B q)(b:Ext B q z j):Ext G O z j:=⟨a.same.trans b.same,λk x h=>b.pre k x (a.pre k x h)⟩
section
variable{K:ba}{G G':Hp}{O O':ai ar}
mutual
theorem Den.ext(e:Ext G O G' O'):∀{v:V} {d:A},Den K G O v d->Den K G' O' v d
 |_,.int _,h=>by simpa only[Den]using h
 |_,.bl _,h=>by simpa only[Den]using h
 |_,.str _,h=>by simpa only[Den]using h
 |_,.cV,h=>by simpa only[Den]using h
 |_,.ty _,h=>by simpa only[Den]using h
 |_,.adr _,h=>by simpa only[Den]using h
 |_,.RD _ _ _ _,h=>by
  simp only[Den]at h ⊢;exact⟨h.1,e.same _ _ h.2⟩
 |_,.gl _,h=>by simpa only[Den]using h
 |_,.jM _,h=>by
  simp only[Den]at h ⊢;obtain⟨a,h1,h2⟩:=h;exact⟨a,h1,e.same.seq h2⟩
 |_,.tup ds,h=>by
  simp only[Den]at h ⊢;obtain⟨a,xs,h1,h2,j⟩:=h;exact⟨a,xs,h1,e.same _ _ h2,aV.ext e j⟩
 |_,.lst ds,h=>by
  simp only[Den]at h ⊢;obtain⟨a,xs,h1,h2,j⟩:=h;exact⟨a,xs,h1,e.same _ _ h2,aV.ext e j⟩
 |_,.aG k,h=>by
  simp only[Den]at h ⊢;obtain⟨a,h1,h2⟩:=h;exact⟨a,h1,e.pre _ _ h2⟩
theorem aV.ext(e:Ext G O G' O'):∀{xs:ai V} {ds:ai A},aV K G O xs ds->aV K G' O' xs ds
 |_,[],h=>by simpa only[aV]using h
 |_,d::ds,h=>by
  simp only[aV]at h ⊢;obtain⟨x,r,h1,h2,j⟩:=h;exact⟨x,r,h1,Den.ext e h2,aV.ext e j⟩
end
theorem qS{xs:ai V}:aV K G O xs []<->xs=[]:=by simp only[aV]
theorem aV.length:∀{xs:ai V} {ds:ai A},aV K G O xs ds->xs.length=ds.length
 |_,[],h=>by simp only[aV]at h;subst h;rfl
 |_,d::ds,h=>by
  simp only[aV]at h;obtain⟨x,r,rfl,h2,j⟩:=h;simp only[gZ,aV.length j]
theorem aV.nil:aV K G O [] []:=by simp only[aV]
theorem aV.cons{x:V}{xs:ai V}{d:A}{ds:ai A}(h:Den K G O x d)(t:aV K G O xs ds):aV K G O (x::xs) (d::ds):=by
 simp only[aV];exact⟨x,xs,rfl,h,t⟩
theorem aV.mJ{xs:ai V}{d:A}{ds:ai A}(h:aV K G O xs (d::ds)):∃x r,xs=x::r/\Den K G O x d/\aV K G O r ds:=by simpa only[aV]using h
theorem aV.get:∀{xs:ai V} {ds:ai A} {i:ax} {d:A},aV K G O xs ds->ds[i]?=ag d->∃x,xs[i]?=ag x/\Den K G O x d
 |_,[],_,_,_,e=>by simp at e
 |_,_::_,0,_,h,e=>by
  obtain⟨x,r,rfl,h2,j⟩:=h.mJ;simp at e;subst e;exact⟨x,rfl,h2⟩
 |_,_::_,i+1,_,h,e=>by
  obtain⟨x,r,rfl,h2,j⟩:=h.mJ;simp at e;obtain⟨y,z,q⟩:=aV.get j e;exact⟨y,by simpa using z,q⟩
theorem aV.append:∀{xs ys:ai V} {ds es:ai A},aV K G O xs ds->aV K G O ys es->aV K G O (xs++ys) (ds++es)
 |_,_,[],_,h,t=>by rw[qS]at h;subst h;exact t
 |_,_,d::ds,_,h,t=>by
  obtain⟨x,r,rfl,h2,j⟩:=h.mJ;exact .cons h2 (aV.append j t)
theorem aV.take:∀{xs:ai V} {ds:ai A} (n:ax),aV K G O xs ds->aV K G O (xs.take n) (ds.take n)
 |_,_,0,_=>by simpa using aV.nil
 |_,[],n+1,h=>by rw[qS]at h;subst h;exact aV.nil
 |_,d::ds,n+1,h=>by
  obtain⟨x,r,rfl,h2,j⟩:=h.mJ;exact .cons h2 (aV.take n j)
theorem aV.drop:∀{xs:ai V} {ds:ai A} (n:ax),aV K G O xs ds->aV K G O (xs.drop n) (ds.drop n)
 |_,_,0,h=>by simpa using h
 |_,[],n+1,h=>by rw[qS]at h;subst h;exact aV.nil
 |_,d::ds,n+1,h=>by
  obtain⟨x,r,rfl,h2,j⟩:=h.mJ;exact aV.drop n j
theorem aV.set{x:V}{d:A}(q:Den K G O x d):∀{xs:ai V} {ds:ai A} (n:ax),aV K G O xs ds->aV K G O (xs.set n x) (ds.set n d)
 |_,[],n,h=>by rw[qS]at h;subst h;exact aV.nil
 |_,e::ds,0,h=>by
  obtain⟨y,r,rfl,h2,j⟩:=h.mJ;exact .cons q j
 |_,e::ds,n+1,h=>by
  obtain⟨y,r,rfl,h2,j⟩:=h.mJ;exact .cons h2 (aV.set q n j)
theorem RG:∀(ns:ai aw),aV K G O (ns.map V.int) (ns.map A.int)
 |[] => .nil
 |n::ns => .cons (by simp only[Den]) (RG ns)
end
def awH(K:ba)(G H:Hp)(a:ar)(x:az)(pos:cn)(qual:az):Prop :=
 G a=ao/\(∃c,tabIn K x=ag (c,a))/\∃ps,H a=ag (.iN ps)/\TriplesOk ps.toList /\
  (codeAmong pos ps.toList=ao\/∃c' j vs t,codeAmong pos ps.toList=ag (.ref c')/\G c'=ag (.eP j (.own 0))/\j.data=.fields vs/\vs[1]?=ag (.str qual t))
def jI(K:ba)(G:Hp)(O:ai ar)(H:Hp)(v:V):Fd->Prop
 |.val a=>Den K G O v a
 |.lst ds=>∃b xs,v=.ref b/\G b=ao/\b∉O/\H b=ag (.lst xs)/\aV K G O xs ds
 |.bE kvs=>∃b,∃j:ai (Key×V),v=.ref b/\G b=ao/\b∉O/\H b=ag (.dK j)/\j.map (·.1)=kvs.map (·.1)/\aV K G O (j.map (·.2)) (kvs.map (·.2))
def jB(K:ba)(G:Hp)(O:ai ar)(H:Hp):ai (az×V)->ai (az×Fd)->Prop
 |[],[]=>True
 |(f,v)::j,(g,d)::fs=>f=g/\jI K G O H v d/\jB K G O H j fs
 |_,_=>bz
def rF(K:ba)(G:Hp)(O:ai ar)(H:Hp)(a:ar):Cell->Prop
 |.lst ds=>G a=ao/\∃xs,H a=ag (.lst xs)/\aV K G O xs ds
 |.bE kvs=>G a=ao/\∃j:ai (Key×V),H a=ag (.dK j)/\j.map (·.1)=kvs.map (·.1)/\aV K G O (j.map (·.2)) (kvs.map (·.2))
 |.ins cls fs=>G a=ao/\∃C dx,∃j:ai (az×V),nsIn K a8 cls=ag (ag (.ref C))/\H a=ag (.ins C dx j)/\jB K G O H j fs
 |.tab x pos qual=>awH K G H a x pos qual
 |.dead=>True
def iY(H:Hp)(O:ai ar)(Z:aH)(k i:ax)(b:ar):Prop:=∃a cls fs C dx j g h fd,O[k]?=ag a/\Z[k]?=ag (.ins cls fs)/\H a=ag (.ins C dx j)/\fs[i]?=ag (g,fd)/\fd.own=av/\j[i]?=ag (h,.ref b)
structure Wd(K:ba)(G:Hp)(O:ai ar)(Z:aH)(H:Hp):Prop where
 sub:nP G H
 inj:O.Nodup
 len:O.length=Z.length
 live:∀a∈O,∃o,H a=ag o
 aG:∀(k:ax) (c:Cell) (a:ar),Z[k]?=ag c->O[k]?=ag a->rF K G O H a c
 sep:∀(b:ar) (k i k' i':ax),iY H O Z k i b->iY H O Z k' i' b->k=k'/\i=i'
section
variable{K:ba}{G G' H H':Hp}{O O':ai ar}{Z:aH}{a p:ar}
theorem jI.mono{v:V}{fd:Fd}(h:jI K G O H v fd)(e:Ext G O G' O')(c:∀b o,b∉O->G b=ao->H b=ag o->b∉O'/\G' b=ao/\H' b=ag o):jI K G' O' H' v fd:=by
 cases fd with
 |val a=>exact Den.ext e h
 |lst ds =>
  obtain⟨b,xs,h1,h2,U,N,B⟩:=h;obtain⟨z,q,j⟩:=c b _ U h2 N;exact⟨b,xs,h1,q,z,j,B.ext e⟩
 |bE d =>
  obtain⟨b,ws,h1,h2,U,N,B,f⟩:=h;obtain⟨z,q,j⟩:=c b _ U h2 N;exact⟨b,ws,h1,q,z,j,B,f.ext e⟩
theorem jB.map{j:ba}{G' H':Hp}{O':ai ar}(f:∀v fd,jI K G O H v fd->jI j G' O' H' v fd):∀{ws:ai (az×V)} {fs:ai (az×Fd)},jB K G O H ws fs->jB j G' O' H' ws fs
 |[],[],_=>trivial
 |(_,_)::_,(_,_)::_,h=>⟨h.1,f _ _ h.2.1,jB.map f h.2.2⟩
 |[],_::_,h=>h.elim
 |_::_,[],h=>h.elim
theorem rF.mono{c:Cell}(h:rF K G O H a c)(e:Ext G O G' O')(j:G' a=G a)(hh:H' a=H a)(l:∀b o,b∉O->G b=ao->H b=ag o->b∉O'/\G' b=ao/\H' b=ag o):rF K G' O' H' a c:=by
 cases c with
 |lst ds=>obtain⟨g,xs,h1,h2⟩:=h;exact⟨j.trans g,xs,hh.trans h1,h2.ext e⟩
 |bE k=>obtain⟨g,ws,h1,h2,z⟩:=h;exact⟨j.trans g,ws,hh.trans h1,h2,z.ext e⟩
 |ins cls fs=>obtain⟨g,C,n,ws,h0,h1,h2⟩:=h;exact⟨j.trans g,C,n,ws,h0,hh.trans h1,h2.map λ_ _ q=>q.mono e l⟩
 |tab x pos qual =>
  obtain⟨g,m,f,h1,h2,z⟩:=h;exact⟨j.trans g,m,f,hh.trans h1,h2,z.imp id λ⟨p,i,B,t,d,U,N⟩=>⟨p,i,B,t,d,e.same _ _ U,N⟩⟩
 |dead=>trivial
theorem Wd.addr(w:Wd K G O Z H){k:ax}{c:Cell}(h:Z[k]?=ag c):∃a,O[k]?=ag a:=by
 have j:=(dO.mp h).1;exact⟨O[k]'(by rw[w.len];exact j),dP _⟩
theorem Wd.ne(w:Wd K G O Z H)(j:H p=ao)(z:a∈O):a≠p:=by
 obtain⟨o,q⟩:=w.live a z;exact iG q j
theorem Wd.nN(w:Wd K G O Z H)(j:H p=ao):G p=ao:=by
 cases e:G p with
 |none=>rfl
 |some o=>rw[w.sub _ _ e]at j;cases j
theorem iY.to{k i:ax}{b:ar}{O':ai ar}{Z Z':aH}(h:iY H O Z k i b)(h1:∀a,O[k]?=ag a->O'[k]?=ag a/\∀o,H a=ag o->H' a=ag o)(h2:∀cls fs,Z[k]?=ag (.ins cls fs)->Z'[k]?=ag (.ins cls fs)):iY H' O' Z' k i b:=by
 obtain⟨a,cls,fs,C,c,ws,g,h',fd,j,U,N,B,z,q⟩:=h;exact⟨a,cls,fs,C,c,ws,g,h',fd,(h1 a j).1,h2 _ _ U,(h1 a j).2 _ N,B,z,q⟩
theorem iY.no{k i:ax}{b:ar}{c:Cell}(h:iY H O Z k i b)(B:Z[k]?=ag c)(hn:c.noOwn=av):bz:=by
 obtain⟨a,cls,fs,C,e,ws,g,h',fd,d,j,U,z,q,N⟩:=h;rw[B]at j;cases j;simp only[Cell.noOwn,HA]at hn;have:=hn _ (pF z);simp only[]at this;rw[q]at this;cases this
theorem Wd.grow(w:Wd K G O Z H)(s:nP H H'):Wd K G O Z H' where
 sub:=w.sub.trans s
 inj:=w.inj
 len:=w.len
 live:=λa j=>let ⟨o,B⟩:=w.live a j; ⟨o,s _ _ B⟩
 aG:=λk c a h1 h2=>by
  have q:=w.aG k c a h1 h2;cases c with
  |lst ds=>obtain⟨g,xs,h1,h2⟩:=q;exact⟨g,xs,s _ _ h1,h2⟩
  |bE d=>obtain⟨g,ws,h1,h2,m⟩:=q;exact⟨g,ws,s _ _ h1,h2,m⟩
  |ins cls fs=>obtain⟨g,C,n,ws,h0,h1,h2⟩:=q;exact⟨g,C,n,ws,h0,s _ _ h1,h2.map λ_ _ q=>q.mono (Ext.refl _ _) λb o x y z=>⟨x,y,s _ _ z⟩⟩
  |tab x pos qual =>
   obtain⟨g,l,U,h1,h2⟩:=q;exact⟨g,l,U,s _ _ h1,h2⟩
  |dead=>trivial
 sep:=λb k i e f h1 h2=>by
  have back:∀{k i},iY H' O Z k i b->iY H O Z k i b:=λh=>h.to (λa j=>⟨j,λo B=>by
   obtain⟨p,N⟩:=w.live a (pF j);have:=s _ _ N;rw[B]at this;cases this;exact N⟩) λ_ _ q=>q
  exact w.sep b k i e f (back h1) (back h2)
theorem EI{α:Type}:∀{l:ai α} {i j:ax} {x:α},l.Nodup->l[i]?=ag x->l[j]?=ag x->i=j
 |[],_,_,_,_,h,_=>by simp at h
 |y::l,0,0,_,_,_,_=>rfl
 |y::l,0,j+1,x,n,h1,h2=>by
  simp at h1 h2;subst h1;exact bp (pF h2) (pE.mp n).1
 |y::l,i+1,0,x,n,h1,h2=>by
  simp at h1 h2;subst h2;exact bp (pF h1) (pE.mp n).1
 |y::l,i+1,j+1,x,n,h1,h2=>by
  simp at h1 h2;rw[EI (pE.mp n).2 h1 h2]
theorem EJ{α:Type}{l:ai α}{k:ax}{x:α}(h:l[k]?=ag x):x∈l:=pF h
theorem Ext.new(j:G p=ao)(o:HO):Ext G O (upd G p o) O:=⟨nP.new j,λ_ _ h=>h⟩
theorem Wd.new(w:Wd K G O Z H)(j:H p=ao)(o:HO):Wd K (upd G p o) O Z (upd H p o)where
 sub:=λb u h=>by
  by_cases e:b=p
  ·subst e;rw[dZ]at h ⊢;exact h
  ·rw[bO e]at h ⊢;exact w.sub _ _ h
 inj:=w.inj
 len:=w.len
 live:=λa B=>by rw[bO (w.ne j B)];exact w.live a B
 aG:=λk c a h1 h2=>by
  have n:=w.ne j (EJ h2);exact(w.aG k c a h1 h2).mono (Ext.new (w.nN j) o) (bO n) (bO n) λb u x y z=>by
   have nb:b≠p:=iG z j;exact⟨x,by rw[bO nb];exact y,by rw[bO nb];exact z⟩
 sep:=λb k i N U h1 h2=>by
  have back:∀{k i},iY (upd H p o) O Z k i b->iY H O Z k i b:=λh=>h.to (λa B=>⟨B,λu d=>by rwa[bO (w.ne j (pF B))]at d⟩) λ_ _ q=>q;exact w.sep b k i N U (back h1) (back h2)
theorem Ext.cell(x:ar):Ext G O G (O++[x]):=⟨nP.refl _,λk a h=>by
 rw[kP (dO.mp h).1];exact h⟩
theorem Wd.cell(w:Wd K G O Z H)(j:H p=ao){o:HO}{c:Cell}(v:rF K G (O++[p]) (upd H p o) p c)(l:c.noOwn=av:=by rfl):Wd K G (O++[p]) (Z++[c]) (upd H p o)where
 sub:=λb u h=>by
  have e:b≠p:=λe=>by subst e;rw[w.sub _ _ h]at j;cases j
  rw[bO e];exact w.sub _ _ h
 inj:=by
  rw[MY];exact⟨w.inj,by simp,λa d b hb=>by simp at hb;subst hb;exact w.ne j d⟩
 len:=by simp[w.len]
 live:=λa d=>by
  rcases DC.mp d with h|h
  ·rw[bO (w.ne j h)];exact w.live a h
  ·simp at h;subst h;exact⟨o,dZ⟩
 aG:=λk D a h1 h2=>by
  by_cases q:k<O.length
  ·rw[kP q]at h2;rw[kP (by rw[<-w.len];exact q)]at h1;exact(w.aG k D a h1 h2).mono (Ext.cell p) rfl (bO (w.ne j (EJ h2))) λb u x y z=>by
    have nb:b≠p:=iG z j;exact⟨by simp[x,nb],y,by rw[bO nb];exact z⟩
  ·have U:k=O.length:=by
    have:=(dO.mp h2).1;simp at this;omega
   subst U;simp at h2;subst h2;rw[w.len]at h1;simp at h1;subst h1;exact v
 sep:=λb k i s t h1 h2=>by
  have back:∀{k i},iY (upd H p o) (O++[p]) (Z++[c]) k i b->iY H O Z k i b:=λ{k i} h=>by
   have h0:=h;obtain⟨a,cls,fs,C,A,ws,g,h',fd,N,B,f,r,n,m⟩:=h
   by_cases q:k<Z.length
   ·rw[kP q]at B;rw[kP (by rw[w.len];exact q)]at N;rw[bO (w.ne j (EJ N))]at f;exact⟨a,cls,fs,C,A,ws,g,h',fd,N,B,f,r,n,m⟩
   ·have U:k=Z.length:=by
     have:=(dO.mp B).1;simp at this;omega
    subst U;exact(h0.no (by simp) l).elim
  exact w.sep b k i s t (back h1) (back h2)
theorem Wd.put(w:Wd K G O Z H){k:ax}{c:Cell}{o:HO}(B:O[k]?=ag a)(t:G a=ao)(v:rF K G O (upd H a o) a c)(l:c.noOwn=av:=by rfl):Wd K G O (Z.set k c) (upd H a o)where
 sub:=λb u h=>by
  have e:b≠a:=λe=>by subst e;rw[t]at h;cases h
  rw[bO e];exact w.sub _ _ h
 inj:=w.inj
 len:=by rw[MZ];exact w.len
 live:=λb hb=>by
  by_cases e:b=a
  ·subst e;exact⟨o,dZ⟩
  ·rw[bO e];exact w.live b hb
 aG:=λj D b h1 h2=>by
  by_cases q:j=k
  ·subst q;rw[B]at h2;cases h2;have hl:j<Z.length:=by rw[<-w.len];exact(dO.mp B).1
   rw[iD hl]at h1;cases h1;exact v
  ·rw[kG (dX q)]at h1;have fO:b≠a:=λe=>by
    subst e;exact q (EI w.inj h2 B)
   exact(w.aG j D b h1 h2).mono (Ext.refl _ _) rfl (bO fO) λb u x y z=>by
    have nb:b≠a:=λe=>by subst e;exact x (EJ B)
    exact⟨x,y,by rw[bO nb];exact z⟩
 sep:=λb j i r s h1 h2=>by
  have back:∀{j i},iY (upd H a o) O (Z.set k c) j i b->iY H O Z j i b:=λ{j i} h=>by
   have h0:=h;obtain⟨f,cls,fs,C,A,ws,g,h',fd,d,U,N,p,n,m⟩:=h
   by_cases q:j=k
   ·subst q;have hl:j<Z.length:=by rw[<-w.len];exact(dO.mp B).1
    exact(h0.no (by rw[iD hl]) l).elim
   ·rw[kG (dX q)]at U;have fO:f≠a:=λe=>by subst e;exact q (EI w.inj d B)
    rw[bO fO]at N;exact⟨f,cls,fs,C,A,ws,g,h',fd,d,U,N,p,n,m⟩
  exact w.sep b j i r s (back h1) (back h2)
theorem Wd.freeze(w:Wd K G O Z H){k:ax}{o:HO}(B:O[k]?=ag a)(r:G a=ao)(p:H a=ag o):Wd K (upd G a o) O (Z.set k .dead) H where
 sub:=λb u h=>by
  by_cases e:b=a
  ·subst e;rw[dZ]at h;cases h;exact p
  ·rw[bO e]at h;exact w.sub _ _ h
 inj:=w.inj
 len:=by rw[MZ];exact w.len
 live:=w.live
 aG:=λj t b h1 h2=>by
  by_cases q:j=k
  ·subst q;have hl:j<Z.length:=by rw[<-w.len];exact(dO.mp B).1
   rw[iD hl]at h1;cases h1;trivial
  ·rw[kG (dX q)]at h1;have fO:b≠a:=λe=>by
    subst e;exact q (EI w.inj h2 B)
   exact(w.aG j t b h1 h2).mono (Ext.new r o) (bO fO) rfl λb u x y z=>by
    have nb:b≠a:=λe=>by subst e;exact x (EJ B)
    exact⟨x,by rw[bO nb];exact y,z⟩
 sep:=λb j i m n h1 h2=>by
  have back:∀{j i},iY H O (Z.set k .dead) j i b->iY H O Z j i b:=λ{j i} h=>by
   have h0:=h;obtain⟨v,cls,fs,C,s,ws,g,h',fd,l,N,f,d,c,U⟩:=h
   by_cases q:j=k
   ·subst q;have hl:j<Z.length:=by rw[<-w.len];exact(dO.mp B).1
    exact(h0.no (by rw[iD hl]) rfl).elim
   ·rw[kG (dX q)]at N;exact⟨v,cls,fs,C,s,ws,g,h',fd,l,N,f,d,c,U⟩
  exact w.sep b j i m n (back h1) (back h2)
end
def hW(K:ba)(G:Hp)(O:ai ar)(J:L2.St)(Y:Ev):Prop:=J.length=Y.length/\∀(i:ax) (d:A),Y[i]?=ag (ag d)->∃v,J[i]?=ag (ag v)/\Den K G O v d
theorem hW.ext{K:ba}{G G':Hp}{O O':ai ar}{J:L2.St}{Y:Ev}(r:hW K G O J Y)(e:Ext G O G' O'):hW K G' O' J Y:=⟨r.1,λi d h=>let ⟨v,h1,h2⟩:=r.2 i d h; ⟨v,h1,h2.ext e⟩⟩
theorem hW.set{K:ba}{G:Hp}{O:ai ar}{J:L2.St}{Y:Ev}(r:hW K G O J Y)(j:ax){v:V}{d:A}(h:Den K G O v d):hW K G O (J.set j (ag v)) (Y.set j (ag d)):=by
 refine⟨by rw[MZ,MZ];exact r.1,λi e he=>?_⟩
 by_cases q:i=j
 ·subst q;have hl:i<Y.length:=by
   have:=(dO.mp he).1;rwa[MZ]at this
  rw[iD hl]at he;cases he;exact⟨v,iD (by rw[r.1];exact hl),h⟩
 ·rw[kG (dX q)]at he ⊢;exact r.2 i e he
def Zy(K:ba)(G:Hp)(O:ai ar)(H:Hp)(x:Exc)(cls:aj)(dx:aq ar):Prop :=
 (∃C,nsIn K a8 x.cls=ag (ag (.ref C))/\cls=.ref C)/\((x.fs=[]/\dx=ao)\/∃d f i,dx=ag d/\x.fs=[(f,.int i)]/\G d=ag (.xd [(f,.int i)]))
abbrev Rl(α β:Type):=Hp->ai ar->β->α->Prop
def bP{α β:Type}(K:ba)(rel:Rl α β)(W:WX)(G:Hp)(O:ai ar)(J:L2.St)(Q:β->Hp->Prop):aq (Rs α×aH)->Prop
 |some (.ok a,Z')=>∀v H' G' O',Ext G O G' O'->Wd K G' O' Z' H'->rel G' O' v a->Q v H'
 |some (.exc x,Z')=>∀cls dx H' G' O',Ext G O G' O'->Wd K G' O' Z' H'->Zy K G' O' H' x cls dx->W J cls dx H'
 |none=>bz
theorem bP.ext{α β:Type}{K:ba}{rel:Rl α β}{W:WX}{G U:Hp}{O q:ai ar}{J:L2.St}{Q:β->Hp->Prop}{r:aq (Rs α×aH)}(h:bP K rel W G O J Q r)(e:Ext G O U q):bP K rel W U q J Q r:=by
 match r,h with
 |some (.ok a,z),h=>exact λv B N j x w d=>h v B N j (e.trans x) w d
 |some (.exc x,z),h=>exact λcls b B N j x w d=>h cls b B N j (e.trans x) w d
theorem bP.mb{α β B z:Type}{K:ba}{rel:Rl α β}{N:Rl B z}{W:WX}{G:Hp}{O:ai ar}{J:L2.St}{Q:z->Hp->Prop}{Q1:β->Hp->Prop}{m:Mo α}{k:α->Mo B}{Z:aH}(h:bP K N W G O J Q (mb m k Z))
  (U:∀a Z1 v H1 q j,Ext G O q j->Wd K q j Z1 H1->rel q j v a->bP K N W q j J Q (k a Z1)->Q1 v H1):bP K rel W G O J Q1 (m Z):=by
 unfold V2.mb at h
 revert h
 generalize m Z=r;intro h
 match r,h with
 |some (.ok a,Z1),h=>exact λv H1 q j x w d=>U a Z1 v H1 q j x w d (bP.ext h x)
 |some (.exc x,Z1),h=>exact h
theorem bP.need{α β j:Type}{K:ba}{q:Rl α β}{W:WX}{G:Hp}{O:ai ar}{J:L2.St}{Q:β->Hp->Prop}{o:aq j}{k:j->Mo α}{Z:aH}(h:bP K q W G O J Q (V2.mb (need o) k Z)):∃a,o=ag a/\bP K q W G O J Q (k a Z):=by
 cases o with
 |none=>exact False.elim h
 |some a=>exact⟨a,rfl,h⟩
theorem bP.oG{α β:Type}{K:ba}{q:Rl α β}{W:WX}{G:Hp}{O:ai ar}{J:L2.St}{Q:β->Hp->Prop}{p:Prop} [c2 p]{k:Unit->Mo α}{Z:aH}(h:bP K q W G O J Q (V2.mb (oG p) k Z)):p/\bP K q W G O J Q (k () Z):=by
 unfold V2.mb V2.oG at h
 by_cases j:p
 ·rw[a6 j]at h;exact⟨j,h⟩
 ·rw[a7 j]at h;exact False.elim h
def eQ{α β:Type}(K:ba)(rel:Rl α β)(W:WX)(t:L2.St->Hp->(β->Hp->Prop)->Prop)(f:Ev->Mo α):Prop :=
 ∀G O Z H J Y Q,Wd K G O Z H->hW K G O J Y->bP K rel W G O J Q (f Y Z)->t J H Q
def AL:Rl bc bc:=λ_ _ b c=>b=c
def VE(X:Cx)(W:WX)(e:bg)(f:Ev->Mo A):Prop:=∃t,PE X e t/\eQ X.K (Den X.K) W t f
def VT(X:Cx)(W:WX)(e:bg)(f:Ev->Mo bc):Prop:=∃t,PT X e t/\eQ X.K AL W t f
def VW(X:Cx)(W:WX)(e:bg)(f:Ev->Mo bc):Prop:=∃t,PW X e t/\eQ X.K AL W t f
def VA(X:Cx)(W:WX)(es:ai bg)(f:Ev->Mo (ai A)):Prop:=∃t,PA X es t/\eQ X.K (aV X.K) W t f
end V2
namespace V2
open PySem PySem.Spec PyProof.Rows L2
section
variable{K:ba}{G H:Hp}{O:ai ar}{Z:aH}{v:V}{a:A}
noncomputable def eV(Z:aH):A->aq (ai A)
 |.lst ds=>ag ds
 |.jM ns=>ag (ns.map A.int)
 |.aG k=>match Z[k]? with
  |some (.lst ds)=>ag ds
  |_=>ao
 |_=>ao
def eG(Z:aH):A->aq (ai A)
 |.tup ds=>ag ds
 |a=>eV Z a
theorem wJ(w:Wd K G O Z H)(d:Den K G O v a){ds:ai A}(h:eV Z a=ag ds):∃p xs,v=.ref p/\fB K H p xs/\aV K G O xs ds:=by
 cases a with
 |lst es =>
  simp only[eV,kO]at h;subst h;simp only[Den]at d;obtain⟨p,xs,h1,h2,j⟩:=d;exact⟨p,xs,h1,fB.of (w.sub _ _ h2),j⟩
 |jM ns =>
  simp only[eV,kO]at h;subst h;simp only[Den]at d;obtain⟨p,h1,h2⟩:=d;exact⟨p,_,h1,w.sub.seq h2,RG ns⟩
 |aG k =>
  simp only[eV]at h;cases e:Z[k]? with
  |none=>rw[e]at h;cases h
  |some c =>
   rw[e]at h;cases c with
   |lst es =>
    simp only[kO]at h;subst h;simp only[Den]at d;obtain⟨p,h1,h2⟩:=d;obtain⟨g,xs,j,q⟩:=w.aG k _ p e h2;exact⟨p,xs,h1,fB.of j,q⟩
   |_=>cases h
 |_=>simp[eV]at h
theorem OQ(w:Wd K G O Z H)(d:Den K G O v a){ds:ai A}(h:eG Z a=ag ds):∃p xs,v=.ref p/\(fB K H p xs\/iL K H p xs)/\aV K G O xs ds:=by
 cases a with
 |tup es =>
  simp only[eG,kO]at h;subst h;simp only[Den]at d;obtain⟨p,xs,h1,h2,j⟩:=d;exact⟨p,xs,h1,.inr (iL.of (w.sub _ _ h2)),j⟩
 |_ =>
  obtain⟨p,xs,h1,h2,j⟩:=wJ w d h;exact⟨p,xs,h1,.inl h2,j⟩
theorem Og(w:Wd K G O Z H)(d:Den K G O v a){ds:ai A}(h:eV Z a=ag ds)(q:∀ns,a≠.jM ns):∃p xs,v=.ref p/\H p=ag (.lst xs)/\aV K G O xs ds:=by
 cases a with
 |lst es =>
  simp only[eV,kO]at h;subst h;simp only[Den]at d;obtain⟨p,xs,h1,h2,j⟩:=d;exact⟨p,xs,h1,w.sub _ _ h2,j⟩
 |jM ns=>exact bp rfl (q ns)
 |aG k =>
  simp only[eV]at h;cases e:Z[k]? with
  |none=>rw[e]at h;cases h
  |some c =>
   rw[e]at h;cases c with
   |lst es =>
    simp only[kO]at h;subst h;simp only[Den]at d;obtain⟨p,h1,h2⟩:=d;obtain⟨g,xs,j,z⟩:=w.aG k _ p e h2;exact⟨p,xs,h1,j,z⟩
   |_=>cases h
 |_=>simp[eV]at h
end
@[simp] noncomputable def nG(c:bc)(ds:ai A):Mo A:=λZ=>if c then ag (.ok (.aG Z.length),Z++[.lst ds])else ag (.ok (.lst ds),Z)
section
variable{K:ba}{G H:Hp}{O:ai ar}{Z:aH}{W:WX}{J:L2.St}{Q:VK}
theorem yN{c:bc}{ds:ai A}{xs:ai V}{p:ar}(w:Wd K G O Z H)(j:H p=ao)(d:aV K G O xs ds)(h:bP K (Den K) W G O J Q (nG c ds Z)):Q (.ref p) (upd H p (.lst xs)):=by
 cases c with
 |true =>
  refine h _ _ G (O++[p]) (Ext.cell p) (w.cell j ⟨w.nN j,xs,dZ,d.ext (Ext.cell p)⟩) ?_;simp only[Den];exact⟨p,rfl,by rw[<-w.len];simp⟩
 |false =>
  refine h _ _ _ _ (Ext.new (w.nN j) (.lst xs)) (w.new j _) ?_;simp only[Den];exact⟨p,xs,rfl,dZ,d.ext (Ext.new (w.nN j) _)⟩
@[simp] def As(ds:ai A):Mo A:=ret (.tup ds)
theorem Ar{ds:ai A}{xs:ai V}{p:ar}(w:Wd K G O Z H)(j:H p=ao)(d:aV K G O xs ds)(h:bP K (Den K) W G O J Q (As ds Z)):Q (.ref p) (upd H p (.tup xs)):=by
 refine h _ _ _ _ (Ext.new (w.nN j) (.tup xs)) (w.new j _) ?_;simp only[Den];exact⟨p,xs,rfl,dZ,d.ext (Ext.new (w.nN j) _)⟩
theorem jY{α β:Type}{rel:Rl α β}{Q:β->Hp->Prop}{a:α}{b:β}(w:Wd K G O Z H)(d:rel G O b a)(h:bP K rel W G O J Q (ret a Z)):Q b H:=h b H G O (Ext.refl _ _) w d
end
section
variable{X:Cx}{W:WX}{e a b:bg}{es:ai bg}{pos:cn}{fa fb:Ev->Mo A}{fs:Ev->Mo (ai A)}
@[simp] def dY(i:ax):Ev->Mo A:=λY=>need (Y[i]?).join
theorem join_some{α:Type}{o:aq (aq α)}{x:α}(h:o.join=ag x):o=ag (ag x):=by
 cases o with
 |none=>cases h
 |some y=>cases y with
  |none=>cases h
  |some z=>cases h;rfl
theorem adQ{K:ba}{i:ax}:eQ K (Den K) W (WU i) (dY i):=by
 intro G q z H J j Q w r h;unfold dY need at h;cases e:(j[i]?).join with
 |none=>rw[e]at h;exact False.elim h
 |some d =>
  rw[e]at h;obtain⟨v,h1,h2⟩:=r.2 i d (join_some e);exact⟨v,h1,h v H G q (Ext.refl _ _) w h2⟩
theorem vv(i:ax){x:az}(q:X.N[i]?=ag x:=by rfl)(hv:MO X.env.scope x:=by first|exact Or.inl rfl|exact Or.inr (Or.inl rfl)|exact Or.inr (Or.inr rfl))(hd:(x==("__debug__" : az))=ak:=by decide)
  (j:(x==("__classdict__" : az))=ak:=by decide):VE X W (.Name x pos) (dY i):=⟨_,Ad q hv hd j,adQ⟩
@[simp] noncomputable def vM(i:ax):Ev->Mo A:=λY Z=>match (Y[i]?).join with
 |some (.aG k)=>match Z[k]? with
  |some (.lst ds)=>ag (.ok (.lst ds),Z.set k .dead)
  |_=>ao
 |_=>ao
theorem adT{K:ba}{i:ax}:eQ K (Den K) W (WU i) (vM i):=by
 intro G N U H J B Q w r h;unfold vM at h;cases e:(B[i]?).join with
 |none=>rw[e]at h;exact False.elim h
 |some d =>
  rw[e]at h;cases d with
  |aG k =>
   simp only at h;cases j:U[k]? with
   |none=>rw[j]at h;exact False.elim h
   |some c =>
    rw[j]at h;cases c with
    |lst ds =>
     obtain⟨v,h1,h2⟩:=r.2 i _ (join_some e);simp only[Den]at h2;obtain⟨p,rfl,z⟩:=h2;obtain⟨g,q,b,a⟩:=w.aG k _ p j z;refine⟨_,h1,h _ H (upd G p (.lst q)) N (Ext.new g _) (w.freeze z g b) ?_⟩;simp only[Den];exact⟨p,q,rfl,dZ,a.ext (Ext.new g _)⟩
    |_=>exact False.elim h
  |_=>exact False.elim h
theorem vf(i:ax){x:az}(q:X.N[i]?=ag x:=by rfl)(hv:MO X.env.scope x:=by first|exact Or.inl rfl|exact Or.inr (Or.inl rfl)|exact Or.inr (Or.inr rfl))(hd:(x==("__debug__" : az))=ak:=by decide)
  (j:(x==("__classdict__" : az))=ak:=by decide):VE X W (.Name x pos) (vM i):=⟨_,Ad q hv hd j,adT⟩
theorem OU{K:ba}{v:V}{d:A}(h:∀G O,Den K G O v d):eQ K (Den K) W (tC v) (λ_=>ret d):=λG O _ _ _ _ _ w _ q=>jY w (h G O) q
theorem aJ{i:aw}{j}:VE X W (.Constant (.int i) j pos) (λ_=>ret (.int i)):=⟨_,aiQ,OU λ_ _=>by simp only[Den]⟩
theorem mY{i:bc}{j}:VE X W (.Constant (.bool i) j pos) (λ_=>ret (.bl i)):=⟨_,ai7,OU λ_ _=>by simp only[Den]⟩
theorem Kq{x:az}{i:aw}(j:Gl X x)(hm:∃t,X.mg x=ag (.int i t))(hd:(x==("__debug__" : az))=ak:=by decide):VE X W (.Name x pos) (λ_=>ret (.int i)):=by
 obtain⟨t,hm⟩:=hm;exact⟨_,aiS (v:=.int i) j hm ⟨t,rfl⟩ hd,OU λ_ _=>by simp only[Den]⟩
theorem vK{x:az}{n:cc}(j:Gl X x)(hm:X.mg x=ao)(hv:cm x=ag (.type n))(hn:x≠"__name__":=by decide)(hd:(x==("__debug__" : az))=ak:=by decide):VE X W (.Name x pos) (λ_=>ret (.ty n)) :=
 ⟨_,ai6 (v:=.ty n) j hm hv rfl hn hd,OU λ_ _=>by simp only[Den]⟩
theorem aM:VA X W [] (λ_=>ret []):=⟨_,EE,λ_ _ _ _ _ _ _ w _ q=>jY w .nil q⟩
@[simp] def aA(f:Ev->Mo A)(g:Ev->Mo (ai A)):Ev->Mo (ai A):=λY=>mb (f Y) λx=>mb (g Y) λxs=>ret (x::xs)
theorem aD(h1:VE X W e fa)(h2:VA X W es fs)(m:a5 (e::es) X.env=(ak,bt e X.env)::a5 es X.env:=by rfl):VA X W (e::es) (aA fa fs):=by
 obtain⟨t,l,i⟩:=h1;obtain⟨u,k,g⟩:=h2;refine⟨_,AN l k m,λG N a H J z Q w r h=>?_⟩;refine i G N a H J z _ w r (bP.mb h λx q v p s j c f o h1=>?_);refine g s j q p J z _ f (r.ext c) (bP.mb h1 λy U A C D B b d n h2=>?_);exact jY d (.cons (o.ext b) n) h2
@[simp] def iR(g:Ev->Mo (ai A)):Ev->Mo A:=λY=>mb (g Y) λxs=>mb (oG (xs.length<=ay)) λ_=>As xs
theorem mH{k}(h:VA X W es fs):VE X W (.Tuple es k pos) (iR fs):=by
 obtain⟨t,p,s⟩:=h;refine⟨_,aiC p,λG B U H J q Q w r h=>?_⟩;refine s G B U H J q _ w r (bP.mb h λc N e f g z d a j h1=>?_);obtain⟨hl,h2⟩:=bP.oG h1;exact⟨by rw[j.length];exact hl,λp b=>Ar a b j h2⟩
@[simp] def kR(c:bc)(g:Ev->Mo (ai A)):Ev->Mo A:=λY=>mb (g Y) λxs=>mb (oG (xs.length<=ay)) λ_=>nG c xs
theorem nW(c:bc)(h:VA X W es fs):VE X W (.List es pos) (kR c fs):=by
 obtain⟨t,p,s⟩:=h;refine⟨_,aiK p,λG B U H J q Q w r h=>?_⟩;refine s G B U H J q _ w r (bP.mb h λd N f g i z e a j h1=>?_);obtain⟨hl,h2⟩:=bP.oG h1;exact⟨by rw[j.length];exact hl,λp b=>yN a b j h2⟩
def sC(K:ba)(W:WX)(r:R2)(g:A->A->Mo A):Prop :=
 ∀G O Z H J x y a b Q,Wd K G O Z H->Den K G O x a->Den K G O y b->bP K (Den K) W G O J Q (g a b Z)->r x y H Q
def kF(X:Cx)(W:WX)(f:aj->aj->Sem aj)(g:A->A->Mo A):Prop:=∃r,fV X f r/\sC X.K W r g
@[simp] def aC(g:A->A->Mo A)(f h:Ev->Mo A):Ev->Mo A:=λY=>mb (f Y) λx=>mb (h Y) λy=>g x y
theorem OT{K:ba}{r:R2}{g:A->A->Mo A}{ta tb:TE}(i:sC K W r g)(h1:eQ K (Den K) W ta fa)(h2:eQ K (Den K) W tb fb):eQ K (Den K) W (IU r ta tb) (aC g fa fb):=by
 intro G a b H J U Q w q h;refine h1 G a b H J U _ w q (bP.mb h λx N v n p z d f l h1=>?_);refine h2 p z N n J U _ f (q.ext d) (bP.mb h1 λy B u m o j c e k h2=>?_);exact i o j B m J v u x y Q e (l.ext c) k h2
theorem aZ{j:Operator}{g:A->A->Mo A}(d:kF X W (b9 j) g)(e:VE X W a fa)(hb:VE X W b fb):VE X W (.BinOp a j b pos) (aC g fa fb):=by
 obtain⟨r,c,U⟩:=d;obtain⟨t,N,z⟩:=e;obtain⟨u,B,q⟩:=hb;exact⟨_,aiF c N B,OT U z q⟩
@[simp] def gI(C:aw->aw->Prop) [∀i j,c2 (C i j)](g:aw->aw->A):A->A->Mo A
 |.int i,.int j=>mb (oG (C i j)) λ_=>ret (g i j)
 |_,_=>stuck
theorem PH{K:ba}{C:aw->aw->Prop} [∀i j,c2 (C i j)]{g:aw->aw->V}{g':aw->aw->A}(B:∀G O i j,Den K G O (g i j) (g' i j)):sC K W (rI C g) (gI C g'):=by
 intro G O U H J x y a b Q w z q h;cases a with
 |int i =>
  cases b with
  |int j =>
   simp only[Den]at z q;obtain⟨N,h2⟩:=bP.oG h;exact⟨i,j,z,q,N,jY w (B _ _ _ _) h2⟩
  |_=>exact False.elim h
 |_=>exact False.elim h
@[simp] def FG(g:aw->aw->A):A->A->Mo A
 |.int i,.int j=>ret (g i j)
 |_,_=>stuck
theorem JI{K:ba}{g:aw->aw->V}{g':aw->aw->A}(B:∀G O i j,Den K G O (g i j) (g' i j)):sC K W (vU g) (FG g'):=by
 intro G O N H J x y a b Q w z q h;cases a with
 |int i =>
  cases b with
  |int j =>
   simp only[Den]at z q;exact⟨i,j,z,q,jY w (B _ _ _ _) h⟩
  |_=>exact False.elim h
 |_=>exact False.elim h
instance:∀i j,c2 (kI i j):=λi j=>by unfold kI;infer_instance
instance:∀i j,c2 (oJ i j):=λi j=>by unfold oJ;infer_instance
instance:∀i j,c2 (IF i j):=λi j=>by unfold IF;infer_instance
@[simp] def lE:=FG λi j => .int (i-j)
@[simp] def kB:=gI kI λi j => .int (i*j)
@[simp] def mQ:=gI oJ λi j => .int (i/j)
@[simp] def iX:=gI (λ_ j=>0<j) λi j => .int (i%j)
@[simp] def LV:=gI IF λi j => .int (i ^ j.toNat)
theorem pP:kF X W (b9 .Sub) lE:=⟨_,ajI,JI λ_ _ _ _=>by simp only[Den]⟩
theorem pQ:kF X W (b9 .Mult) kB:=⟨_,ajM,PH λ_ _ _ _=>by simp only[Den]⟩
theorem tF:kF X W (b9 .FloorDiv) mQ:=⟨_,ajS,PH λ_ _ _ _=>by simp only[Den]⟩
theorem lO:kF X W (b9 .Mod) iX:=⟨_,ajN,PH λ_ _ _ _=>by simp only[Den]⟩
theorem PL:kF X W (b9 .Pow) LV:=⟨_,ajJ,PH λ_ _ _ _=>by simp only[Den]⟩
@[simp] noncomputable def JY:A->bc
 |.jM _=>av
 |_=>ak
theorem Pn{a:A}(h:JY a=ak):∀ns,a≠.jM ns:=λns e=>by subst e;cases h
@[simp] def Ds(c:bc)(a b:A):Mo A:=λZ=>match eV Z a,eV Z b with
  |some xs,ag ys=>if JY a||JY b||decide (ay<xs.length+ys.length)then ao else nG c (xs++ys) Z
  |_,_=>ao
@[simp] def QY(c:bc):A->A->Mo A
 |.int i,.int j=>ret (.int (i+j))
 |.tup xs,.tup ys=>mb (oG (0<xs.length/\xs.length+ys.length<=ay)) λ_=>As (xs++ys)
 |a,b=>Ds c a b
theorem ajH{K:ba}{c:bc}:sC K W Nv (Ds c):=by
 intro G m B H J x y a b Q w l k h;unfold Ds at h
 match j:eV B a,z:eV B b with
 |none,_=>rw[j]at h;exact False.elim h
 |some N,ao=>rw[j,z]at h;exact False.elim h
 |some N,ag e =>
  rw[j,z]at h;simp only at h
  by_cases hb:(JY a||JY b||decide (ay<N.length+e.length))=av
  ·rw[a6 hb]at h;exact False.elim h
  ·rw[a7 hb]at h;simp only[Bool.or_eq_true,RH,not_or,Bool.not_eq_true]at hb;obtain⟨p,g,rfl,h2,d⟩:=Og w l j (Pn hb.1.1);obtain⟨q,f,rfl,i,U⟩:=Og w k z (Pn hb.1.2);exact⟨p,q,g,f,rfl,rfl,h2,i,by rw[d.length,U.length];omega,λr hr=>yN w hr (d.append U) h⟩
theorem dS(c:bc):kF X W (b9 .Add) (QY c):=by
 refine⟨_,ajW.or (ajV.or ajU),?_⟩;intro G d f H J x y a b Q w z j h;unfold QY at h;split at h
 ·simp only[Den]at z j;exact .inl ⟨_,_,z,j,jY w (by simp only[Den]) h⟩
 ·rename_i m l;simp only[Den]at z j;obtain⟨p,U,rfl,h2,B⟩:=z;obtain⟨q,g,rfl,i,N⟩:=j;obtain⟨⟨n,k⟩,h⟩:=bP.oG h;refine .inr (.inr ⟨p,q,U,g,rfl,rfl,iL.of (w.sub _ _ h2),iL.of (w.sub _ _ i),?_,by rw[B.length,N.length];exact k,λe=>?_,λ_ r hr=>Ar w hr (B.append N) h⟩)
  ·intro e;subst e;have:=B.length;simp at this;omega
  ·subst e;refine jY w ?_ h;simp only[Den];exact⟨p,U,rfl,h2,by simpa using B.append N⟩
 ·exact .inr (.inl (ajH G d f H J x y _ _ Q w z j h))
end
noncomputable def cJ:ax->A->bc
 |_,.int _=>av
 |_,.bl _=>av
 |_,.cV=>av
 |_,.str x=>PyData.canLay0 (.str x)
 |n+1,.tup ds=>ds.all (cJ n)
 |n+1,.lst ds=>ds.all (cJ n)
 |_,_=>ak
noncomputable def zC(f:A->A->bc):ai A->ai A->bc
 |[],[]=>av
 |x::xs,y::ys=>f x y&&zC f xs ys
 |_,_=>ak
def gA:ax->A->A->bc
 |_,.int i,.int j=>i==j
 |_,.bl i,.bl j=>i==j
 |_,.bl i,.int j=>(if i then 1 else 0)==j
 |_,.int i,.bl j=>i==(if j then 1 else 0)
 |_,.cV,.cV=>av
 |_,.str x,.str y=>x==y
 |n+1,.tup xs,.tup ys=>zC (gA n) xs ys
 |n+1,.lst xs,.lst ys=>zC (gA n) xs ys
 |_,_,_=>ak
noncomputable def toPy:ax->A->PyData
 |_,.int i => .int i
 |_,.bl i => .bool i
 |_,.str x => .str x
 |n+1,.tup ds => .tuple (ds.map (toPy n))
 |n+1,.lst ds => .list (ds.map (toPy n))
 |_,_ => .none
theorem RJ:∀(ds:ai A) (n:ax),(∀d∈ds,cJ n d=av->PyData.canLay0 (toPy n d)=av)->ds.all (cJ n)=av->PyData.canLayAll0 (ds.map (toPy n))=av
 |[],_,_,_=>rfl
 |d::ds,n,ih,h=>by
  simp only[Iq,mC]at h;simp only[cK,PyData.canLayAll0,mC];exact⟨ih d kU h.1,RJ ds n (λe he=>ih e (fL _ he)) h.2⟩
theorem DX:∀(n:ax) (a:A),cJ n a=av->PyData.canLay0 (toPy n a)=av:=by
 intro n
 induction n with
 |zero=>intro a h;cases a <;> first|rfl|exact h|cases h
 |succ n ih =>
  intro a h;cases a with
  |tup ds=>exact RJ ds n (λd _=>ih d) h
  |lst ds=>exact RJ ds n (λd _=>ih d) h
  |str x=>exact h
  |int i=>rfl
  |bl b=>rfl
  |cV=>rfl
  |_=>cases h
theorem Ei:∀(ds:ai A) (n:ax),(∀d∈ds,(toPy n d).depth<=n)->PyData.depthAll (ds.map (toPy n))<=n
 |[],_,_=>zK _
 |d::ds,n,ih=>by
  simp only[cK,PyData.depthAll];exact Nat.max_le.mpr ⟨ih d kU,Ei ds n λe he=>ih e (fL _ he)⟩
theorem WS:∀(n:ax) (a:A),(toPy n a).depth<=n:=by
 intro n
 induction n with
 |zero=>intro a;cases a <;> exact tV _
 |succ n ih =>
  intro a;cases a with
  |tup ds=>exact Nat.succ_le_succ (Ei ds n λd _=>ih d)
  |lst ds=>exact Nat.succ_le_succ (Ei ds n λd _=>ih d)
  |_=>exact zK _
theorem Vd:∀(xs ys:ai A) (n:ax),(∀x∈xs,∀y∈ys,PyData.eqv (toPy n x) (toPy n y)=gA n x y)->PyData.eqvAll (xs.map (toPy n)) (ys.map (toPy n))=zC (gA n) xs ys
 |[],[],_,_=>rfl
 |[],_::_,_,_=>rfl
 |_::_,[],_,_=>rfl
 |x::xs,y::ys,n,ih=>by
  simp only[cK,PyData.eqvAll,zC];rw[ih x kU y kU,Vd xs ys n λa j b hb=>ih a (fL _ j) b (fL _ hb)]
theorem WR:∀(n:ax) (a b:A),cJ n a=av->cJ n b=av->PyData.eqv (toPy n a) (toPy n b)=gA n a b:=by
 intro n
 induction n with
 |zero=>intro a b z hb;cases a <;> cases b <;> first|rfl|(simp[cJ]at z;done)|(simp[cJ]at hb;done)
 |succ n ih =>
  intro a b z hb;have lst:∀q j:ai A,q.all (cJ n)=av->j.all (cJ n)=av->PyData.eqvAll (q.map (toPy n)) (j.map (toPy n))=zC (gA n) q j:=λq j h1 h2 =>
   Vd q j n λx N y B=>ih x y (HA.mp h1 x N) (HA.mp h2 y B)
  cases a <;> cases b <;> first|rfl|(simp[cJ]at z;done)|(simp[cJ]at hb;done)|exact lst _ _ z hb
section
variable{X:Cx}{aa:ai (ar×cb)}{J:L2.St}{H:Hp}{s:au}{O:ai ar}
theorem readsAll(n:ax)(ih:∀(v:V) (u:aj) (a:A),cJ n a=av->Den X.K H O v a->RelV v u->∃as,Reads s.heap u (toPy n a) as) :
  ∀(ds:ai A) (xs:ai V) (us:ai aj),ds.all (cJ n)=av->aV X.K H O xs ds->Vals xs us->∃as,ReadsAll s.heap us (ds.map (toPy n)) as
 |[],xs,us,_,d,r=>by
  rw[qS]at d;subst d;cases r;exact⟨_,.nil⟩
 |a::ds,xs,us,h,d,r=>by
  obtain⟨x,t,rfl,U,N⟩:=d.mJ;simp only[Iq,mC]at h;cases r with
  |cons q j =>
   obtain⟨as,B⟩:=ih _ _ _ h.1 U q;obtain⟨bs,z⟩:=readsAll n ih ds _ _ h.2 N j;exact⟨_,.cons B z⟩
theorem EC(I:Inv X aa J H s):∀(n:ax) (v:V) (u:aj) (a:A),cJ n a=av->Den X.K H O v a->RelV v u->∃as,Reads s.heap u (toPy n a) as:=by
 intro n
 induction n with
 |zero =>
  intro v u a h d r;cases a with
  |int i=>simp only[Den]at d;subst d;obtain⟨t,rfl⟩:=r;exact⟨_,.int i t⟩
  |bl b=>simp only[Den]at d;subst d;cases r;exact⟨_,.bool b⟩
  |str x=>simp only[Den]at d;subst d;obtain⟨t,rfl⟩:=r;exact⟨_,.str x t⟩
  |cV=>simp only[Den]at d;subst d;cases r;exact⟨_,.none⟩
  |_=>cases h
 |succ n ih =>
  intro v u a h d r;cases a with
  |int i=>simp only[Den]at d;subst d;obtain⟨t,rfl⟩:=r;exact⟨_,.int i t⟩
  |bl b=>simp only[Den]at d;subst d;cases r;exact⟨_,.bool b⟩
  |str x=>simp only[Den]at d;subst d;obtain⟨t,rfl⟩:=r;exact⟨_,.str x t⟩
  |cV=>simp only[Den]at d;subst d;cases r;exact⟨_,.none⟩
  |tup ds =>
   simp only[Den]at d;obtain⟨p,z,rfl,h2,c⟩:=d;cases r;obtain⟨j,B,pl,e⟩:=I.tuple (iL.of h2);obtain⟨as,q⟩:=readsAll n ih ds z j h c B;obtain⟨o,N,U,m,hd⟩:=(show s.heap.IsTuple p j.toArray from pl);exact⟨_,.tuple N U hd (by simpa using q)⟩
  |lst ds =>
   simp only[Den]at d;obtain⟨p,z,rfl,h2,c⟩:=d;cases r;obtain⟨j,B,pl,e⟩:=I.list (fB.of h2);obtain⟨as,q⟩:=readsAll n ih ds z j h c B;obtain⟨o,N,U,m,hd⟩:=pl.isList;exact⟨_,.list N U hd (by simpa using q)⟩
  |_=>cases h
end
def ZU(K:ba)(neg:bc):R2:=λx y H Q=>∃O a b,cJ 8 a=av/\cJ 8 b=av/\Den K H O x a/\Den K H O y b/\Q (.bl (if neg then !gA 8 a b else gA 8 a b)) H
theorem ajT{X:Cx}(e:X.A.units+64<dm):fV X (br .Eq) (ZU X.K ak):=by
 intro aa s J H x y v u Q I z j h;obtain⟨d,a,b,h1,h2,c,U,q⟩:=h;obtain⟨g,N⟩:=EC I 8 x v a h1 c z;obtain⟨bs,B⟩:=EC I 8 y u b h2 U j;have f:=WS 8 a;refine SeqAt.compareEq_reads N B (DX 8 a h1) (DX 8 b h2) (by omega) ?_;rw[WR 8 a b h1 h2];exact⟨.bl (gA 8 a b),H,I,rfl,q⟩
theorem ajL{X:Cx}(e:X.A.units+64<dm):fV X (br .NotEq) (ZU X.K av):=by
 intro aa s J H x y v u Q I z j h;obtain⟨d,a,b,h1,h2,c,U,q⟩:=h;obtain⟨g,N⟩:=EC I 8 x v a h1 c z;obtain⟨bs,B⟩:=EC I 8 y u b h2 U j;have f:=WS 8 a;refine SeqAt.compareNe_reads N B (DX 8 a h1) (DX 8 b h2) (by omega) ?_;rw[WR 8 a b h1 h2];exact⟨.bl (!gA 8 a b),H,I,rfl,q⟩
noncomputable def rR(f:A->aq A):ai A->aq (ai A)
 |[]=>ag []
 |x::xs=>match f x,rR f xs with
  |some y,ag ys=>ag (y::ys)
  |_,_=>ao
def res(Z:aH):ax->A->aq A
 |0,a=>if cJ 8 a=av then ag a else ao
 |n+1,a=>if cJ 8 a=av then ag a else match a with
  |.tup ds=>(rR (res Z n) ds).map .tup
  |.lst ds=>(rR (res Z n) ds).map .lst
  |.aG k=>match Z[k]? with
   |some (.lst ds)=>(rR (res Z n) ds).map .lst
   |_=>ao
  |_=>ao
section
variable{K:ba}{G H:Hp}{O:ai ar}{Z:aH}
theorem Wd.Vb(w:Wd K G O Z H):Ext G O H O:=⟨w.sub,λ_ _ h=>h⟩
theorem PY{f:A->aq A}(ih:∀v a b,Den K G O v a->f a=ag b->Den K H O v b):∀(ds es:ai A) (xs:ai V),aV K G O xs ds->rR f ds=ag es->aV K H O xs es
 |[],es,xs,d,h=>by
  simp only[rR,kO]at h;subst h;rw[qS]at d ⊢;exact d
 |a::ds,es,xs,d,h=>by
  obtain⟨x,t,rfl,N,B⟩:=d.mJ;simp only[rR]at h;split at h
  ·rename_i y j z q;cases h;exact .cons (ih _ _ _ N z) (PY ih ds j t B q)
  ·cases h
theorem OY(w:Wd K G O Z H):∀(n:ax) (v:V) (a b:A),Den K G O v a->res Z n a=ag b->Den K H O v b:=by
 intro n
 induction n with
 |zero =>
  intro v a b d h;simp only[res]at h;split at h
  ·cases h;exact d.ext w.Vb
  ·cases h
 |succ n ih =>
  intro v a b d h;simp only[res]at h;split at h
  ·cases h;exact d.ext w.Vb
  ·split at h
   ·rename_i ds _;simp only[CT]at h;obtain⟨es,h1,rfl⟩:=h;simp only[Den]at d ⊢;obtain⟨p,j,B,z,q⟩:=d;exact⟨p,j,B,w.sub _ _ z,PY ih ds es j q h1⟩
   ·rename_i ds _;simp only[CT]at h;obtain⟨es,h1,rfl⟩:=h;simp only[Den]at d ⊢;obtain⟨p,j,B,z,q⟩:=d;exact⟨p,j,B,w.sub _ _ z,PY ih ds es j q h1⟩
   ·rename_i k _;split at h
    ·rename_i ds e;simp only[CT]at h;obtain⟨es,h1,rfl⟩:=h;simp only[Den]at d ⊢;obtain⟨p,B,z⟩:=d;obtain⟨g,j,q,N⟩:=w.aG k _ p e z;exact⟨p,j,B,q,PY ih ds es j N h1⟩
    ·cases h
   ·cases h
end
def wY(neg:bc)(a b:A):Mo A:=λZ=>match res Z 6 a,res Z 6 b with
 |some x,ag y=>if(cJ 8 x&&cJ 8 y)=av then ag (.ok (.bl (if neg then !gA 8 x y else gA 8 x y)),Z)else ao
 |_,_=>ao
def gK:=wY ak
def iP:=wY av
section
variable{X:Cx}{W:WX}{e a b c:bg}{pos:cn}{fa fb fc:Ev->Mo A}{ta tb:Ev->Mo bc}
theorem Pc{K:ba}{neg:bc}:sC K W (ZU K neg) (wY neg):=by
 intro G q e H J x y a b Q w d c h;unfold wY at h;split at h
 ·rename_i B z U N;split at h
  ·rename_i j;rw[mC]at j;exact⟨q,B,z,j.1,j.2,OY w 6 x a B d U,OY w 6 y b z c N,h _ H G q (Ext.refl _ _) w (by simp only[Den])⟩
  ·exact False.elim h
 ·exact False.elim h
theorem nE(j:X.A.units+64<dm):kF X W (br .Eq) gK:=⟨_,ajT j,Pc⟩
theorem rP(j:X.A.units+64<dm):kF X W (br .NotEq) iP:=⟨_,ajL j,Pc⟩
@[simp] def oB:=FG λi j => .bl (decide (i<j))
@[simp] def pV:=FG λi j => .bl (decide (i<=j))
@[simp] def zA:=FG λi j => .bl (decide (j<i))
@[simp] def Um:=FG λi j => .bl (decide (j<=i))
theorem qI:kF X W (br .Lt) oB:=⟨_,ajO,JI λ_ _ _ _=>by simp only[Den]⟩
theorem tE:kF X W (br .LtE) pV:=⟨_,ajP,JI λ_ _ _ _=>by simp only[Den]⟩
theorem EH:kF X W (br .Gt) zA:=⟨_,ajQ,JI λ_ _ _ _=>by simp only[Den]⟩
theorem akF:kF X W (br .GtE) Um:=⟨_,ajR,JI λ_ _ _ _=>by simp only[Den]⟩
noncomputable def JZ:A->aq bc
 |.cV=>ag av
 |_=>ag ak
@[simp] def FI:A->Mo bc
 |.bl b=>ret b
 |_=>stuck
@[simp] def bD(f:Ev->Mo A):Ev->Mo bc:=λY=>mb (f Y) FI
theorem OR{K:ba}{t:TE}(h:eQ K (Den K) W t fa):eQ K AL W (WV t) (bD fa):=by
 intro G N a H J z Q w r q;refine h G N a H J z _ w r (bP.mb q λx U v e f B d c j h1=>?_);cases x with
 |bl b=>simp only[Den]at j;exact⟨b,j,jY c rfl h1⟩
 |_=>exact False.elim h1
theorem sS{j:CmpOp}{g:A->A->Mo A}(d:kF X W (br j) g)(e:VE X W a fa)(hb:VE X W b fb)(hm:cw j b=ak):VE X W (.Compare a [j] [b] pos) (aC g fa fb):=by
 obtain⟨r,c,U⟩:=d;obtain⟨t,N,z⟩:=e;obtain⟨u,B,q⟩:=hb;exact⟨_,ai0 c N B hm,OT U z q⟩
theorem eN{j:CmpOp}{g:A->A->Mo A}(d:kF X W (br j) g)(e:VE X W a fa)(hb:VE X W b fb)(hm:cw j b=ak):VT X W (.Compare a [j] [b] pos) (bD (aC g fa fb)):=by
 obtain⟨r,c,U⟩:=d;obtain⟨t,N,z⟩:=e;obtain⟨u,B,q⟩:=hb;exact⟨_,ag9 c N B hm,OR (OT U z q)⟩
@[simp] def xZ(g g':A->A->Mo A)(q f2 j:Ev->Mo A):Ev->Mo A:=λY=>mb (q Y) λx=>mb (f2 Y) λy=>mb (g x y) λz=>mb (FI z) λk=>if k then mb (j Y) λu=>g' y u else ret (.bl ak)
theorem Mz{K:ba}{r C:R2}{g g':A->A->Mo A}{t s p:TE}(V:sC K W r g)(T:sC K W C g')(h1:eQ K (Den K) W t fa)(h2:eQ K (Den K) W s fb)(h3:eQ K (Den K) W p fc):eQ K (Den K) W (XA r C t s p) (xZ g g' fa fb fc):=by
 intro G F I H J j Q w q h;refine h1 G F I H J j _ w q (bP.mb h λx e v H1 G1 a n R d1 h1=>?_);refine h2 G1 a e H1 J j _ R (q.ext n) (bP.mb h1 λy d u H2 G2 U l P E h2=>?_);refine V G2 U d H2 J v u x y _ P (d1.ext l) E (bP.mb h2 λz c z' H3 G3 N i o D f=>?_);cases z with
 |bl k =>
  simp only[Den]at D;refine⟨k,D,?_⟩;cases k with
  |true=>exact h3 G3 N c H3 J j _ o (q.ext ((n.trans l).trans i)) (bP.mb f λm b S H4 G4 B L M d4 X=>T G4 B b H4 J u S y m Q M (E.ext (i.trans L)) d4 X)
  |false=>exact jY o (by simp only[Den]) f
 |_=>exact False.elim f
theorem abD{j q:CmpOp}{g g':A->A->Mo A}(k:kF X W (br j) g)(i:kF X W (br q) g')(m:VE X W a fa)(hb:VE X W b fb)(l:VE X W c fc)
  (hm:lastMarks [j,q] [b,c]=ak:=by with_unfolding_all rfl):VE X W (.Compare a [j,q] [b,c] pos) (xZ g g' fa fb fc):=by
 obtain⟨r,h,f⟩:=k;obtain⟨s,n,o⟩:=i;obtain⟨t,e,N⟩:=m;obtain⟨u,d,B⟩:=hb;obtain⟨p,U,z⟩:=l;exact⟨_,ai2 h n e d U hm,Mz f o N B z⟩
theorem aaV{j q:CmpOp}{g g':A->A->Mo A}(k:kF X W (br j) g)(i:kF X W (br q) g')(m:VE X W a fa)(hb:VE X W b fb)(l:VE X W c fc)
  (hm:lastMarks [j,q] [b,c]=ak:=by with_unfolding_all rfl):VT X W (.Compare a [j,q] [b,c] pos) (bD (xZ g g' fa fb fc)):=by
 obtain⟨r,h,f⟩:=k;obtain⟨s,n,o⟩:=i;obtain⟨t,e,N⟩:=m;obtain⟨u,d,B⟩:=hb;obtain⟨p,U,z⟩:=l;exact⟨_,ahB h n e d U hm,OR (Mz f o N B z)⟩
theorem jW(h:VE X W e fa)(he:∀whole,isTrue e X.env whole=(do let v<-whole;standAt e.pos;holding [v] (truthy v)):=by intro _;rfl):VT X W e (bD fa):=by
 obtain⟨t,p,s⟩:=h;exact⟨_,ag7 p he,OR s⟩
@[simp] def rL(f g:Ev->Mo bc):Ev->Mo bc:=λY=>mb (f Y) λc=>if c then g Y else ret ak
@[simp] def fG(f g:Ev->Mo bc):Ev->Mo bc:=λY=>mb (f Y) λc=>if c then ret av else g Y
@[simp] def fY(f:Ev->Mo bc):Ev->Mo bc:=λY=>mb (f Y) λc=>ret (!c)
variable{ae:ai bg}
theorem NY(h:VT X W a ta):VW X W (.BoolOp .And [a] pos) ta:=let ⟨t,p,s⟩:=h; ⟨t,pw_and1 p,s⟩
theorem nU(h:VT X W a ta):VW X W (.BoolOp .Or [a] pos) ta:=let ⟨t,p,s⟩:=h; ⟨t,pw_or1 p,s⟩
theorem NZ(h1:VT X W a ta)(h2:VW X W (.BoolOp .And (b::ae) pos) tb):VW X W (.BoolOp .And (a::b::ae) pos) (rL ta tb):=by
 obtain⟨t,i,f⟩:=h1;obtain⟨u,g,e⟩:=h2;refine⟨_,pw_and i g,λG N U H J z Q w r h=>?_⟩;refine f G N U H J z _ w r (bP.mb h λc q l m n j d B k h1=>?_);cases(show l=c from k);cases c with
 |true=>exact e n j q m J z Q B (r.ext d) h1
 |false=>exact jY B rfl h1
theorem kZ(h1:VT X W a ta)(h2:VW X W (.BoolOp .Or (b::ae) pos) tb):VW X W (.BoolOp .Or (a::b::ae) pos) (fG ta tb):=by
 obtain⟨t,i,f⟩:=h1;obtain⟨u,g,e⟩:=h2;refine⟨_,pw_or i g,λG N U H J z Q w r h=>?_⟩;refine f G N U H J z _ w r (bP.mb h λc q l m n j d B k h1=>?_);cases(show l=c from k);cases c with
 |false=>exact e n j q m J z Q B (r.ext d) h1
 |true=>exact jY B rfl h1
theorem VW.vt(h:VW X W e ta):VT X W e ta:=let ⟨t,p,s⟩:=h; ⟨t,p.pt,s⟩
theorem mX(h:VT X W a ta):VT X W (.UnaryOp .Not a pos) (fY ta):=by
 obtain⟨t,p,s⟩:=h;refine⟨_,ag8 p,λG z N H J j Q w r h=>?_⟩;refine s G z N H J j _ w r (bP.mb h λc B d f g q e U b h1=>?_);cases(show d=c from b);exact jY U rfl h1
@[simp] def yA(f g:Ev->Mo A):Ev->Mo A:=λY=>mb (f Y) λx=>mb (FI x) λc=>if c then g Y else ret (.bl ak)
@[simp] def WB(f g:Ev->Mo A):Ev->Mo A:=λY=>mb (f Y) λx=>mb (FI x) λc=>if c then ret (.bl av)else g Y
theorem OC{j}(h:VE X W a fa):VE X W (.BoolOp j [a] pos) fa:=let ⟨t,p,s⟩:=h; ⟨t,aiG p,s⟩
theorem VX(h1:VE X W a fa)(h2:VE X W (.BoolOp .And (b::ae) pos) fb):VE X W (.BoolOp .And (a::b::ae) pos) (yA fa fb):=by
 obtain⟨t,k,g⟩:=h1;obtain⟨u,i,f⟩:=h2;refine⟨_,ai9 k i,λG U d H J z Q w r h=>?_⟩;refine g G U d H J z _ w r (bP.mb h λx q v l m j e B N h1=>?_);cases x with
 |bl c =>
  simp only[Den]at N;refine⟨c,N,?_⟩;cases c with
  |true=>exact f m j q l J z Q B (r.ext e) h1
  |false=>exact jY B (by simp only[Den]) h1
 |_=>exact False.elim h1
theorem Kn(h1:VE X W a fa)(h2:VE X W (.BoolOp .Or (b::ae) pos) fb):VE X W (.BoolOp .Or (a::b::ae) pos) (WB fa fb):=by
 obtain⟨t,k,g⟩:=h1;obtain⟨u,i,f⟩:=h2;refine⟨_,aiE k i,λG U d H J z Q w r h=>?_⟩;refine g G U d H J z _ w r (bP.mb h λx q v l m j e B N h1=>?_);cases x with
 |bl c =>
  simp only[Den]at N;refine⟨c,N,?_⟩;cases c with
  |false=>exact f m j q l J z Q B (r.ext e) h1
  |true=>exact jY B (by simp only[Den]) h1
 |_=>exact False.elim h1
@[simp] def WE(t:Ev->Mo bc)(f g:Ev->Mo A):Ev->Mo A:=λY=>mb (t Y) λc=>if c then f Y else g Y
theorem Kp(n:VT X W c ta)(h1:VE X W a fa)(h2:VE X W b fb):VE X W (.IfExp c a b pos) (WE ta fa fb):=by
 obtain⟨s,m,s0⟩:=n;obtain⟨t,l,i⟩:=h1;obtain⟨u,k,g⟩:=h2;refine⟨_,aiR m l k,λG e f H J z Q w r h=>?_⟩;refine s0 G e f H J z _ w r (bP.mb h λc q p U d j B N o h1=>?_);cases(show p=c from o);cases c with
 |true=>exact i d j q U J z Q N (r.ext B) h1
 |false=>exact g d j q U J z Q N (r.ext B) h1
@[simp] def WC(f:Ev->Mo A):Ev->Mo A:=λY=>mb (f Y) λx=>match x with
 |.int i=>ret (.int (-i))
 |_=>stuck
theorem Ko(h:VE X W a fa):VE X W (.UnaryOp .USub a pos) (WC fa):=by
 obtain⟨t,p,s⟩:=h;refine⟨_,aiB abL p,λG B U H J q Q w r h=>?_⟩;refine s G B U H J q _ w r (bP.mb h λx N v e f z d b j h1=>?_);cases x with
 |int c =>
  simp only[Den]at j;exact⟨c,j,jY b (by simp only[Den]) h1⟩
 |_=>exact False.elim h1
end
inductive Out where
 |nx|bk|ct|ret (a:A)|exc (x:Exc)
abbrev OS:=aq (Out×Ev×aH)
abbrev MS:=Ev->aH->OS
def awM(K:ba)(W:WX)(G:Hp)(O:ai ar)(D:Ends)(J:L2.St)(H:Hp):Out->Prop
 |.nx=>D.nx J H
 |.bk=>D.bk J H
 |.ct=>D.ct J H
 |.ret a=>∀v,Den K G O v a->D.rt v H
 |.exc x=>∀cls dx,Zy K G O H x cls dx->W J cls dx H
def fK(K:ba)(W:WX)(G:Hp)(O:ai ar)(D:Ends):OS->Prop
 |some (o,Y',Z')=>∀j H' G' O',Ext G O G' O'->Wd K G' O' Z' H'->hW K G' O' j Y'->awM K W G' O' D j H' o
 |none=>bz
@[simp] noncomputable def sM{α:Type}(m:Mo α)(Y:Ev)(k:α->aH->OS):aH->OS:=λZ=>match m Z with
 |some (.ok a,Z1)=>k a Z1
 |some (.exc x,Z1)=>ag (.exc x,Y,Z1)
 |none=>ao
section
variable{K:ba}{W:WX}{G:Hp}{O:ai ar}{Z:aH}{J:L2.St}{Y:Ev}{D:Ends}
theorem fK.ext{B:Hp}{j:ai ar}{r:OS}(h:fK K W G O D r)(e:Ext G O B j):fK K W B j D r:=by
 match r,h with
 |some (o,N,U),h=>exact λq a b z x w d=>h q a b z (e.trans x) w d
theorem fK.sM{α β:Type}{rel:Rl α β}{m:Mo α}{k:α->aH->OS}{Q1:β->Hp->Prop}(h:fK K W G O D (V2.sM m Y k Z))(r:hW K G O J Y)
  (N:∀a Z1 v H1 z j,Ext G O z j->Wd K z j Z1 H1->rel z j v a->fK K W z j D (k a Z1)->Q1 v H1):bP K rel W G O J Q1 (m Z):=by
 unfold V2.sM at h
 revert h
 generalize m Z=q;intro h
 match q,h with
 |some (.ok a,Z1),h=>exact λv H1 z j x w d=>N a Z1 v H1 z j x w d (fK.ext h x)
 |some (.exc x,Z1),h=>exact λcls U b c B e w d=>h J b c B e w (r.ext e) cls U d
end
def tS(K:ba)(W:WX)(t:TS)(f:MS):Prop:=∀G O Z H J Y D,Wd K G O Z H->hW K G O J Y->fK K W G O D (f Y Z)->t D J H
def VS(X:Cx)(W:WX)(st:bq)(f:MS):Prop:=∃t,PS X st t/\tS X.K W t f
def jU(X:Cx)(W:WX)(st:ai bq)(f:MS):Prop:=∃t,qW X st t/\tS X.K W t f
def MR(K:ba)(W:WX)(t:TG)(g:A->MS):Prop:=∀G O Z H J Y v a D,Wd K G O Z H->hW K G O J Y->Den K G O v a->fK K W G O D (g a Y Z)->t v J H D.nx
def awJ(K:ba)(W:WX)(t:zJ)(g:ai A->MS):Prop:=∀G O Z H J Y vs as D,Wd K G O Z H->hW K G O J Y->aV K G O vs as->fK K W G O D (g as Y Z)->t vs J H D.nx
def VG(X:Cx)(W:WX)(tg:bg)(g:A->MS):Prop:=∃t,PG X tg t/\MR X.K W t g
def SM(X:Cx)(W:WX)(j:ai bg)(g:ai A->MS):Prop:=∃t,MT X j t/\awJ X.K W t g
@[simp] noncomputable def fH:MS:=λY Z=>ag (.nx,Y,Z)
@[simp] noncomputable def aO(f g:MS):MS:=λY Z=>match f Y Z with
 |some (.nx,Y1,Z1)=>g Y1 Z1
 |r=>r
section
variable{X:Cx}{W:WX}{st:bq}{ae:ai bq}{f g:MS}{e:bg}{fe:Ev->Mo A}{pos:cn}
theorem wD{K:ba}{G H:Hp}{O:ai ar}{Z:aH}{J:L2.St}{Y:Ev}{D:Ends}(w:Wd K G O Z H)(r:hW K G O J Y)(h:fK K W G O D (ag (.nx,Y,Z))):D.nx J H:=h J H G O (Ext.refl _ _) w r
theorem fX:jU X W [] fH:=⟨_,ahD,λ_ _ _ _ _ _ _ w r h=>wD w r h⟩
theorem adR{K:ba}{t u:TS}(h1:tS K W t f)(h2:tS K W u g):tS K W (Lz t u) (aO f g):=by
 intro G c b H J U D w r h;refine h1 G c b H J U _ w r ?_;unfold aO at h
 revert h
 generalize f U b=q;intro h
 match q,h with
 |some (.nx,j,z),h=>exact λB i k N x d e=>h2 k N z i B j D d e (fK.ext h x)
 |some (.bk,j,z),h=>exact h
 |some (.ct,j,z),h=>exact h
 |some (.ret a,j,z),h=>exact h
 |some (.exc a,j,z),h=>exact h
theorem aT(h1:VS X W st f)(h2:jU X W ae g):jU X W (st::ae) (aO f g):=by
 obtain⟨t,B,q⟩:=h1;obtain⟨u,z,j⟩:=h2;exact⟨_,ahE B z,adR q j⟩
theorem bB(h1:VS X W st f):jU X W [st] f:=let ⟨t,p,s⟩:=h1; ⟨t,ahC p,s⟩
@[simp] def jC(fe:Ev->Mo A):MS:=λY=>sM (fe Y) Y λ_ Z=>ag (.nx,Y,Z)
theorem mE(h:VE X W e fe)(c:dj e ao pos.line X.env=pure ak:=by rfl):VS X W (.Expr e pos) (jC fe):=by
 obtain⟨t,p,s⟩:=h;refine⟨_,ahM p c,λG z N H J j D w r h=>?_⟩;exact s G z N H J j _ w r (fK.sM h r λa B v f g q U b d h1=>wD b (r.ext U) h1)
@[simp] def bT(fe:Ev->Mo A):MS:=λY=>sM (fe Y) Y λa Z=>ag (.ret a,Y,Z)
theorem cN(h:VE X W e fe):VS X W (.Return (ag e) pos) (bT fe):=by
 obtain⟨t,p,s⟩:=h;refine⟨_,ahH p,λG z N H J q D w r h=>?_⟩;exact s G z N H J q _ w r (fK.sM h r λa B v d f j U b c h1=>h1 J d f j (Ext.refl _ _) b (r.ext U) v c)
@[simp] def eI(c:Ev->Mo bc)(f g:MS):MS:=λY=>sM (c Y) Y λb Z=>if b then f Y Z else g Y Z
theorem fF{c:bg}{a b:ai bq}{fc:Ev->Mo bc}(p:VT X W c fc)(h1:jU X W a f)(h2:jU X W b g):VS X W (.If c a b pos) (eI fc f g):=by
 obtain⟨x,o,s0⟩:=p;obtain⟨t,n,l⟩:=h1;obtain⟨u,m,k⟩:=h2;refine⟨_,ahJ o n m,λG e i H J z D w r h=>?_⟩;refine s0 G e i H J z _ w r (fK.sM h r λc q v U d j B N s h1=>?_);cases(show v=c from s);cases c with
 |true=>exact l d j q U J z D N (r.ext B) h1
 |false=>exact k d j q U J z D N (r.ext B) h1
@[simp] noncomputable def gN(i:ax):A->MS:=λa Y Z=>ag (.nx,Y.set i (ag a),Z)
theorem aa1{i:ax}{x:az}(z:X.N.Nodup)(hi:X.N[i]?=ag x)(j:Loc X.env.scope x)(q:X.fn x=av\/X.env.scope.names.lookup x=ag .local:=by first|exact .inl rfl|exact .inr rfl|assumption):VG X W (.Name x pos) (gN i) :=
 ⟨_,aiA z hi j q,λ_ _ _ _ _ _ _ _ _ w r d h=>wD w (r.set i d) h⟩
@[simp] noncomputable def mP:ai A->MS:=λas Y Z=>match as with
 |[]=>ag (.nx,Y,Z)
 |_=>ao
@[simp] def fJ(g:A->MS)(gs:ai A->MS):ai A->MS:=λas=>match as with
 |a::r=>aO (g a) (gs r)
 |[]=>λ_ _=>ao
theorem vI:SM X W [] mP:=⟨_,ah7,λG z B H J q N j D w r d h=>by
 cases j with
 |nil=>rw[qS]at d;exact⟨d,wD w r h⟩
 | cons=>exact False.elim h⟩
theorem mG{es:ai bg}{g:A->MS}{gs:ai A->MS}(h1:VG X W e g)(h2:SM X W es gs)
  (v:(cx (e::es) X.env).map (·.2)=assign e X.env::(cx es X.env).map (·.2):=by rfl):SM X W (e::es) (fJ g gs):=by
 obtain⟨t,s,n⟩:=h1;obtain⟨u,p,m⟩:=h2;refine⟨_,ah8 s p v,λG k i H J f F b D w r d h=>?_⟩;cases b with
 |nil=>exact False.elim h
 |cons a b =>
  obtain⟨x,U,rfl,C,y⟩:=d.mJ;refine⟨x,U,rfl,n G k i H J f x a {D with nx:=λB c=>u U B c D.nx} w r C ?_⟩;simp only[fJ,aO]at h
  revert h
  generalize g a f i=q;intro h
  match q,h with
  |some (.nx,j,z),h=>exact λB c E N x l o=>m E N z c B j U b D l o (y.ext x) (fK.ext h x)
  |some (.bk,j,z),h=>exact h
  |some (.ct,j,z),h=>exact h
  |some (.ret a,j,z),h=>exact h
  |some (.exc a,j,z),h=>exact h
@[simp] noncomputable def lV(n:ax)(gs:ai A->MS):A->MS:=λa Y Z=>match a with
 |.tup ds=>if ds.length=n then gs ds Y Z else ao
 |_=>ao
theorem vJ{es:ai bg}{k:ax}{n:ax}{gs:ai A->MS}(b:X.calm=av)(h:SM X W es gs)
  (hn:(cx es X.env).length=n:=by rfl) (U:(cx es X.env).findIdx? (·.1)=ao:=by rfl):VG X W (.Tuple es k pos) (lV n gs):=by
 obtain⟨t,p,s⟩:=h;refine⟨_,ah9 b p hn U,λG B N H J z v a D w r d h=>?_⟩;unfold lV at h;cases a with
 |tup ds =>
  simp only at h
  by_cases hl:ds.length=n
  ·rw[a6 hl]at h;simp only[Den]at d;obtain⟨p,j,rfl,h2,q⟩:=d;exact⟨p,j,rfl,iL.of (w.sub _ _ h2),by rw[q.length];exact hl,s G B N H J z j ds D w r q h⟩
  ·rw[a7 hl]at h;exact False.elim h
 |_=>exact False.elim h
@[simp] def bS(fe:Ev->Mo A)(g:A->MS):MS:=λY=>sM (fe Y) Y λa Z=>g a Y Z
theorem Nb{K:ba}{te:TE}{t:TG}{g:A->MS}(h1:eQ K (Den K) W te fe)(h2:MR K W t g):tS K W (XF te t) (bS fe g):=by
 intro G B N H J z D w r h;exact h1 G B N H J z _ w r (fK.sM h r λa q v d e j U b c h1=>h2 e j q d J z v a D b (r.ext U) c h1)
theorem aaY{tg:bg}{g:A->MS}(he:VE X W e fe)(U:VG X W tg g)(N:swapsWithSole [tg] e pos.line X.env=pure ak:=by rfl)(hw:swappedStores [tg] e X.env=pure ao:=by rfl)
  (h1:(cx [tg] X.env).map (·.2)=[assign tg X.env]:=by rfl):VS X W (.Assign [tg] e pos) (bS fe g):=by
 obtain⟨t,B,q⟩:=he;obtain⟨u,z,j⟩:=U;exact⟨_,ahO B z N hw h1,Nb q j⟩
theorem aaW{i:ax}{x:az}{pos':cn}(a:X.N.Nodup)(hi:X.N[i]?=ag x)(z:Loc X.env.scope x)(he:VE X W e fe)(B:dj e (ag (.Name x pos')) pos.line X.env=pure ak:=by rfl)(U:X.fn x=av\/X.env.scope.names.lookup x=ag .local:=by first|exact .inl rfl|exact .inr rfl|assumption) :
  VS X W (.Assign [.Name x pos'] e pos) (bS fe (gN i)):=by
 obtain⟨t,q,j⟩:=he;exact⟨_,ahG a hi z q B U,Nb j λ_ _ _ _ _ _ _ _ _ w r d h=>wD w (r.set i d) h⟩
structure Src where
 ds:ai A
 ok:aH->Prop
structure HE(K:ba)(G:Hp)(O:ai ar)(σ:It)(S:Src):Prop where
 go:∀G' O' Z' H',Ext G O G' O'->Wd K G' O' Z' H'->S.ok Z'->∀i,i<S.ds.length->σ.go i H'
 stop:∀G' O' Z' H',Ext G O G' O'->Wd K G' O' Z' H'->S.ok Z'->∀i,S.ds.length<=i->σ.stop i H'
 zV:∀G' O' Z' H',Ext G O G' O'->Wd K G' O' Z' H'->S.ok Z'->∀i x H2 d,S.ds[i]?=ag d->σ.zV i H' x H2->∃G2,Ext G' O' G2 O'/\Wd K G2 O' Z' H2/\Den K G2 O' x d
def ZS(K:ba):Rl Src It:=λG O σ S=>HE K G O σ S
def VI(X:Cx)(W:WX)(tg iter:bg)(f:Ev->Mo Src):Prop:=∃t,PI X tg iter t/\eQ X.K (ZS X.K) W t f
open Classical in
noncomputable def eY(ok:aH->Prop)(g:A->MS)(b:MS):ai A->MS
 |[],Y,Z=>if ok Z then ag (.nx,Y,Z)else ao
 | x::xs,Y,Z=>if ok Z then(match g x Y Z with
  | some (.nx,Y0,Z0)=>(match b Y0 Z0 with
   |some (.nx,Y1,Z1)=>eY ok g b xs Y1 Z1
   |some (.ct,Y1,Z1)=>eY ok g b xs Y1 Z1
   |some (.bk,Y1,Z1)=>ag (.nx,Y1,Z1)
   | r=>r)
  |some (.exc e,Y0,Z0)=>ag (.exc e,Y0,Z0)
  | _=>ao)else ao
@[simp] noncomputable def jX(fi:Ev->Mo Src)(g:A->MS)(b:MS):MS:=λY=>sM (fi Y) Y λS Z=>eY S.ok g b S.ds Y Z
theorem ar8{K:ba}{G:Hp}{O:ai ar}{D:Ends}{ok:aH->Prop}{g:A->MS}{b:MS}{xs:ai A}{Y:Ev}{Z:aH}(h:fK K W G O D (eY ok g b xs Y Z)):ok Z:=by
 cases xs with
 |nil =>
  unfold eY at h
  by_cases j:ok Z
  ·exact j
  ·rw[a7 j]at h;exact False.elim h
 |cons =>
  unfold eY at h
  by_cases j:ok Z
  ·exact j
  ·rw[a7 j]at h;exact False.elim h
theorem adU{K:ba}{wi:TI}{tg:TG}{tb:TS}{fi:Ev->Mo Src}{g:A->MS}{b:MS}(hi:eQ K (ZS K) W wi fi)(hg:MR K W tg g)(hb:tS K W tb b):tS K W (Ma wi tg tb) (jX fi g b):=by
 intro G O Z H J Y D w r h;refine hi G O Z H J Y _ w r (fK.sM h r λS Z1 σ H1 G1 E x1 w1 j1 h1=>?_);refine⟨λi m v V=>m=S.ds.length-i/\i<=S.ds.length/\∃t B N e,Ext G1 E t B/\Wd K t B N V/\hW K t B v e/\fK K W t B D (eY S.ok g b (S.ds.drop i) e N),
  ⟨_,rfl,zK _,G1,E,Z1,Y,Ext.refl _ _,w1,r.ext x1,by simpa using h1⟩,?_⟩
 rintro i m v V ⟨rfl,hil,t,B,N,e,R,X,r',h'⟩;have aK:=ar8 h'
 by_cases dW:i<S.ds.length
 ·right
  refine⟨j1.go t B N V R X aK i dW,λM T=>∃L o Q P,Ext G1 E L o/\Wd K L o Q T/\hW K L o M P/\fK K W L o D (eY S.ok g b (S.ds.drop (i+1)) P Q),λM T n=>?_,λx T y=>?_⟩
  ·exact⟨S.ds.length-(i+1),by omega,rfl,dW,n⟩
  ·obtain⟨L,p,w2,d2⟩:=j1.zV t B N V R X aK i x T S.ds[i] (dP dW) y;rw[qY dW]at h';unfold eY at h';rw[a6 aK]at h';refine hg L B N T v e x S.ds[i] {D with nx:=λu H3=>tb _ u H3} w2 (r'.ext p) d2 ?_
   revert h'
   generalize g S.ds[i] e N=q;intro h'
   match q,h' with
   |some (.nx,C,F),h' =>
    intro u H3 G3 O3 I w3 r3;refine hb G3 O3 F H3 u C _ w3 r3 ?_;simp only at h'
    revert h'
    generalize b C F=q2;intro h'
    match q2,h' with
    |some (.nx,U,c),h'=>exact λz s l j d f k=>⟨l,j,c,U,(R.trans (p.trans I)).trans d,f,k,fK.ext h' ((p.trans I).trans d)⟩
    |some (.ct,U,c),h'=>exact λz s l j d f k=>⟨l,j,c,U,(R.trans (p.trans I)).trans d,f,k,fK.ext h' ((p.trans I).trans d)⟩
    |some (.bk,U,c),h'=>exact λz s l j d f k=>h' z s l j ((p.trans I).trans d) f k
    |some (.ret a,U,c),h'=>exact λz s l j d f k=>h' z s l j ((p.trans I).trans d) f k
    |some (.exc a,U,c),h'=>exact λz s l j d f k=>h' z s l j ((p.trans I).trans d) f k
   |some (.exc a,C,F),h'=>exact λz s l j d f k=>h' z s l j (p.trans d) f k
 ·have oR:i=S.ds.length:=by omega
  subst oR
  left
  rw[xK]at h';unfold eY at h';rw[a6 aK]at h';exact⟨j1.stop t B N V R X aK _ cR,wD X r' h'⟩
theorem rJ{tg iter:bg}{body:ai bq}{fi:Ev->Mo Src}{g:A->MS}{b:MS}(c:PassesOwn (bb X.prog X.w) X.A X.env X.xe)(e:X.calm=av)(hi:VI X W tg iter fi)(d:VG X W tg g)(hb:jU X W body b)
  (a:∀x,cp iter X.env x=pure x:=by intro _;rfl):VS X W (.For tg iter body [] pos) (jX fi g b):=by
 obtain⟨i,U,z⟩:=hi;obtain⟨h,N,q⟩:=d;obtain⟨f,B,j⟩:=hb;exact⟨_,ahK c e U N B a,adU z q j⟩
def kC(c:Ev->Mo bc)(b:MS):ax->MS
 |0,_,_=>ao
 | n+1,Y,Z=>sM (c Y) Y (λk Z1=>if k then(match b Y Z1 with
   |some (.nx,Y1,Z2)=>kC c b n Y1 Z2
   |some (.ct,Y1,Z2)=>kC c b n Y1 Z2
   |some (.bk,Y1,Z2)=>ag (.nx,Y1,Z2)
   | r=>r)else ag (.nx,Y,Z1)) Z
theorem adP{K:ba}{tc:TT}{tb:TS}{c:Ev->Mo bc}{b:MS}(n:Ev->aH->ax)(T:eQ K AL W tc c)(hb:tS K W tb b):tS K W (Ly tc tb) (λY Z=>kC c b (n Y Z) Y Z):=by
 intro G I Z H J Y D w r h;refine⟨λm f L=>∃t U i N,Ext G I t U/\Wd K t U i L/\hW K t U f N/\fK K W t U D (kC c b m N i),⟨_,G,I,Z,Y,Ext.refl _ _,w,r,h⟩,?_⟩;rintro m f L ⟨t,U,i,N,P,R,C,h'⟩;cases m with
 |zero=>exact False.elim h'
 |succ m =>
  unfold kC at h';refine T t U i L f N _ R C (fK.sM h' C λk y S X G1 F A M V h1=>?_);cases(show S=k from V);cases k with
  |false=>exact wD M (C.ext A) h1
  |true =>
   refine⟨λu Q=>∃E g x v,Ext G I E g/\Wd K E g x Q/\hW K E g u v/\fK K W E g D (kC c b m v x),λu Q q=>⟨m,SW _,q⟩,?_⟩;refine hb G1 F y X f N _ M (C.ext A) ?_;simp only[kL]at h1
   revert h1
   generalize b N y=q;intro h1
   match q,h1 with
   |some (.nx,B,d),h1=>exact λz s p j e l o=>⟨p,j,d,B,(P.trans A).trans e,l,o,fK.ext h1 e⟩
   |some (.ct,B,d),h1=>exact λz s p j e l o=>⟨p,j,d,B,(P.trans A).trans e,l,o,fK.ext h1 e⟩
   |some (.bk,B,d),h1=>exact λz s p j e l o=>h1 z s p j e l o
   |some (.ret a,B,d),h1=>exact λz s p j e l o=>h1 z s p j e l o
   |some (.exc a,B,d),h1=>exact λz s p j e l o=>h1 z s p j e l o
theorem IL{j:bg}{body:ai bq}{c:Ev->Mo bc}{b:MS}(n:Ev->aH->ax)(U:PassesOwn (bb X.prog X.w) X.A X.env X.xe)(a:VT X W j c)(hb:jU X W body b):VS X W (.While j body [] pos) (λY Z=>kC c b (n Y Z) Y Z):=by
 obtain⟨e,N,z⟩:=a;obtain⟨d,B,q⟩:=hb;exact⟨_,ahF U N B,adP n z q⟩
@[simp] def srcOf(a:A)(ds:ai A):Src:=⟨ds,λZ=>eG Z a=ag ds⟩
theorem oM{Z:aH}{a:A}{ds:ai A}(h:eV Z a=ag ds):eG Z a=ag ds:=by
 cases a with
 |tup es=>simp[eV]at h
 |_=>exact h
theorem Qn{Z:aH}{a:A}{ds:ai A}(h:eG Z a=ag ds)(j:∀es,a≠.tup es):eV Z a=ag ds:=by
 cases a with
 |tup es=>exact bp rfl (j es)
 |_=>exact h
theorem ah3{tg l:bg}{tl:TE}(hl:PE X l tl):PI X tg l (λJ H R=>tl J H λx H1=>∃a,x=.ref a/\(((∃xs,fB X.K H1 a xs)/\R (Iy X.K a) H1)\/((∃xs,iL X.K H1 a xs)/\R (Iw X.K a) H1))):=by
 intro aa s J H R I h;refine bI (hl aa s J H _ I h) λv j ⟨x,H1,z,c,d⟩=>?_;obtain⟨a,e,q⟩:=d;subst e;cases c
 rcases q with⟨⟨xs,B⟩,q⟩|⟨⟨xs,B⟩,q⟩
 ·obtain⟨N,U,p,f⟩:=z.list B;refine wpAny_pyIter_list p.isList ?_;refine⟨j.heap.objs.size,[j.heap.objs.size],_,_,H1,rfl,z.kept (t':=j.toks) λb o e=>dQ _ e,abT a _,⟨_,fW _ rfl,rfl,rfl⟩,λb hb=>?_,q⟩;have e:b=j.heap.objs.size:=by simpa using hb
  subst e;exact z.uN cR (z.aK.fresh cR)
 ·obtain⟨N,U,p,f⟩:=z.tuple B;refine wpAny_pyIter_tuple (show j.heap.IsTuple a N.toArray from p) ?_;refine⟨j.heap.objs.size,[j.heap.objs.size],_,_,H1,rfl,z.kept (t':=j.toks) λb o e=>dQ _ e,abR a _,⟨_,fW _ rfl,rfl,rfl⟩,λb hb=>?_,q⟩;have e:b=j.heap.objs.size:=by simpa using hb
  subst e;exact z.uN cR (z.aK.fresh cR)
@[simp] def fD(f:Ev->Mo A):Ev->Mo Src:=λY=>mb (f Y) λa Z=>match eG Z a with
 |some ds=>ag (.ok (srcOf a ds),Z)
 |none=>ao
theorem amZ{K:ba}{G:Hp}{O:ai ar}{p:ar}{a:A}{ds:ai A}(d:Den K G O (.ref p) a)(l:∀es,a≠.tup es):HE K G O (Iy K p) (srcOf a ds):=by
 have key:∀U j B b,Ext G O U j->Wd K U j B b->eG B a=ag ds->∃N,fB K b p N/\aV K U j N ds:=λU j B b e w h=>by
  obtain⟨q,N,h1,h2,c⟩:=wJ w (d.ext e) (Qn h l);cases h1;exact⟨N,h2,c⟩
 refine⟨λU j B b e w h i hi=>?_,λU j B b e w h i hi=>?_,λU j B b e w h i x o y k hd=>?_⟩
 ·obtain⟨N,h2,c⟩:=key U j B b e w h;have hl:i<N.length:=by rw[c.length];exact hi
  exact⟨N,N[i],h2,dP hl⟩
 ·obtain⟨N,h2,c⟩:=key U j B b e w h;exact⟨N,h2,by rw[c.length];exact hi⟩
 ·obtain⟨N,h2,c⟩:=key U j B b e w h;obtain⟨n,m⟩:=hd;subst n;obtain⟨z,f,g⟩:=c.get k;rw[m N h2]at f;cases f;exact⟨U,Ext.refl _ _,w,g⟩
theorem amY{K:ba}{G:Hp}{O:ai ar}{p:ar}{ds es:ai A}(d:Den K G O (.ref p) (.tup es)):HE K G O (Iw K p) (srcOf (.tup es) ds):=by
 have key:∀U j B a,Ext G O U j->Wd K U j B a->eG B (.tup es)=ag ds->∃N,iL K a p N/\aV K U j N ds:=λU j B a e w h=>by
  simp only[eG,kO]at h;subst h;have d':=d.ext e;simp only[Den]at d';obtain⟨q,N,h1,h2,b⟩:=d';cases h1;exact⟨N,iL.of (w.sub _ _ h2),b⟩
 refine⟨λU j B a e w h i hi=>?_,λU j B a e w h i hi=>?_,λU j B a e w h i x m y g hd=>?_⟩
 ·obtain⟨N,h2,b⟩:=key U j B a e w h;have hl:i<N.length:=by rw[b.length];exact hi
  exact⟨N,N[i],h2,dP hl⟩
 ·obtain⟨N,h2,b⟩:=key U j B a e w h;exact⟨N,h2,by rw[b.length];exact hi⟩
 ·obtain⟨N,h2,b⟩:=key U j B a e w h;obtain⟨l,k⟩:=hd;subst l;obtain⟨z,c,f⟩:=b.get g;rw[k N h2]at c;cases c;exact⟨U,Ext.refl _ _,w,f⟩
theorem mF{tg l:bg}{fe:Ev->Mo A}(h:VE X W l fe):VI X W tg l (fD fe):=by
 obtain⟨t,p,s⟩:=h;refine⟨_,ah3 p,λG k m H J i R w r h=>?_⟩;refine s G k m H J i _ w r (bP.mb h λa U v f g B x N j h1=>?_);cases e:eG U a with
 |none=>simp only[e]at h1;exact False.elim h1
 |some ds =>
  simp only[e]at h1;obtain⟨q,u,h2,C,y⟩:=OQ N j e;subst h2;refine⟨q,rfl,?_⟩;cases a with
  |tup es =>
   right
   simp only[Den]at j;obtain⟨n,b,d,c,o⟩:=id j;cases d;exact⟨⟨_,iL.of (N.sub _ _ c)⟩,h1 _ f g B (Ext.refl _ _) N (amY (by simpa only[Den]using j))⟩
  |_ =>
   left
   obtain⟨n,b,d,c,o⟩:=wJ N j (Qn e (by intro _ z;cases z));cases d;exact⟨⟨_,c⟩,h1 _ f g B (Ext.refl _ _) N (amZ j (by intro _ z;cases z))⟩
@[simp] noncomputable def yI(lo:aw)(n:ax):Src:=⟨(List.range n).map λ(i:ax)=>A.int (lo+(i:aw)),λ_=>True⟩
def AH(i:aw):Prop:=-(2 ^ 62)<=i/\i<2 ^ 62
instance (i:aw):c2 (AH i):=by unfold AH;infer_instance
theorem am0{K:ba}{G:Hp}{O:ai ar}{lo:aw}{n:ax}:HE K G O (TQ lo n) (yI lo n):=by
 refine⟨λ_ _ _ _ _ _ _ i hi=>show i<n by simpa[yI]using hi,λ_ _ _ _ _ _ _ i hi=>show n<=i by simpa[yI]using hi,λa z B c e w h i x b y q hd=>?_⟩;obtain⟨U,N⟩:=hd;subst U N;refine⟨a,Ext.refl _ _,w,?_⟩;simp only[yI,jV]at q;cases e:(List.range n)[i]? with
 |none=>rw[e]at q;cases q
 |some j =>
  rw[e]at q;cases q;have:=(dO.mp e).2;simp at this;subst this;simp only[Den]
@[simp] def IQ(f:Ev->Mo (ai A)):Ev->Mo Src:=λY=>mb (f Y) λas=>match as with
 |[.int j]=>mb (oG (AH j)) λ_=>ret (yI 0 j.toNat)
 |_=>stuck
theorem Kk{tg a:bg}{fs:Ev->Mo (ai A)}{p:cn}(g:Gl X "range")(hm:X.mg "range" = ao)(i:VA X W [a] fs)(f:a5 [a] X.env=[(ak,bt a X.env)]:=by rfl):VI X W tg (.Call (.Name "range" p) [a] [] pos) (IQ fs):=by
 obtain⟨t,p,s⟩:=i;refine⟨_,ah4 g hm p f,λG b d H J N R w r h=>?_⟩;refine s G b d H J N _ w r (bP.mb h λn c m o u U l e k h1=>?_);split at h1
 ·rename_i j;obtain⟨v,t,rfl,z,q⟩:=k.mJ;rw[qS]at q;subst q;simp only[Den]at z;subst z;obtain⟨B,h2⟩:=bP.oG h1;exact⟨j,rfl,B.1,B.2,jY e am0 h2⟩
 ·exact False.elim h1
end
section
variable{X:Cx}{W:WX}{e a b:bg}{es:ai bg}{pos:cn}{fa fb:Ev->Mo A}{fs:Ev->Mo (ai A)}
@[simp] def aY(a i:A):Mo A:=λZ=>match eG Z a,i with
 |some ds,.int n=>match eM ds n with
  |some d=>ag (.ok d,Z)
  |none=>ao
 |_,_=>ao
theorem av2{K:ba}{G:Hp}{O:ai ar}{xs:ai V}{ds:ai A}{n:aw}{d:A}(h:aV K G O xs ds)(e:eM ds n=ag d):∃x,eM xs n=ag x/\Den K G O x d:=by
 unfold eM at e ⊢;rw[h.length];cases q:yR ds.length n with
 |none=>rw[q]at e;cases e
 |some j=>rw[q]at e;exact h.get e
theorem bL(m:VE X W a fa)(hb:VE X W b fb)(l:Zf b):VE X W (.Subscript a b pos) (aC aY fa fb):=by
 obtain⟨t,k,f⟩:=m;obtain⟨u,g,c⟩:=hb;refine⟨_,aiP amV k g l,OT ?_ f c⟩;intro G z s H J x y a i Q w r q h;unfold aY at h;split at h
 ·rename_i ds n o;split at h
  ·rename_i d e;simp only[Den]at q;have fin:∀v,Den X.K G z v d->Q v H:=λv hv=>h v H G z (Ext.refl _ _) w hv;obtain⟨p,B,rfl,j,hd⟩:=OQ w r o;obtain⟨v,U,N⟩:=av2 hd e
   rcases j with j|j
   ·exact .inl ⟨p,B,n,v,rfl,q,j,U,fin v N⟩
   ·exact .inr (.inl ⟨p,B,n,v,rfl,q,j,U,fin v N⟩)
  ·exact False.elim h
 ·exact False.elim h
def VO(X:Cx)(W:WX)(e:aq bg)(f:Ev->Mo (aq aw)):Prop:=∃t,PO X e t/\eQ X.K (λ_ _ o o'=>o=o') W t f
theorem VU:VO X W ao (λ_=>ret ao):=⟨_,ahT,λ_ _ _ _ _ _ _ w _ q=>jY w rfl q⟩
@[simp] def vL(f:Ev->Mo A):Ev->Mo (aq aw):=λY=>mb (f Y) λx=>match x with
 |.int i=>ret (ag i)
 |_=>stuck
theorem VR(h:VE X W e fa):VO X W (ag e) (vL fa):=by
 obtain⟨t,p,s⟩:=h;refine⟨_,ahS p,λG B U H J q Q w r h=>?_⟩;refine s G B U H J q _ w r (bP.mb h λx N v c d z b a j h1=>?_);cases x with
 |int i=>simp only[Den]at j;exact⟨i,j,jY a rfl h1⟩
 |_=>exact False.elim h1
def xB(ds:ai A)(lo hi:aq aw):ai A:=(ds.drop (HT.cW ds.length 0 lo)).take (HT.cW ds.length ds.length hi-HT.cW ds.length 0 lo)
theorem Vs{K:ba}{G:Hp}{O:ai ar}{xs:ai V}{ds:ai A}(h:aV K G O xs ds)(lo hi:aq aw):aV K G O (zE xs lo hi) (xB ds lo hi):=by
 unfold zE xB;rw[h.length];exact(h.drop _).take _
@[simp] def Uj(c:bc)(a:A)(lo hi:aq aw):Mo A:=λZ=>match a with
 |.tup ds=>if HT.cW ds.length 0 lo=0/\HT.cW ds.length ds.length hi=ds.length then ao else ag (.ok (.tup (xB ds lo hi)),Z)
 |a=>match eV Z a with
  |some ds=>nG c (xB ds lo hi) Z
  |none=>ao
@[simp] def rK(c:bc)(f:Ev->Mo A)(l h:Ev->Mo (aq aw)):Ev->Mo A:=λY=>mb (f Y) λa=>mb (l Y) λlo=>mb (h Y) λhi=>Uj c a lo hi
theorem VV(c:bc){lo hi:aq bg}{fl n:Ev->Mo (aq aw)}{p2:cn}(he:VE X W e fa)(hl:VO X W lo fl)(hh:VO X W hi n):VE X W (.Subscript e (.Slice lo hi ao p2) pos) (rK c fa fl n):=by
 obtain⟨t,P,L⟩:=he;obtain⟨u,p2,K⟩:=hl;obtain⟨u',M,I⟩:=hh;refine⟨_,aiD (adO.or adN) P p2 M,λG y C H J B Q w r h=>?_⟩;refine L G y C H J B _ w r (bP.mb h λx b v H1 G1 U m F d1 h1=>?_);refine K G1 U b H1 J B _ F (r.ext m) (bP.mb h1 λo a R H2 G2 N i E V h2=>?_);cases(show R=o from V);refine I G2 N a H2 J B _ E ((r.ext m).ext i) (bP.mb h2 λk A S H3 G3 s D q T j=>?_);cases(show S=k from T);have d:=d1.ext (i.trans D);unfold Uj at j;cases x with
 |tup ds =>
  simp only at j;split at j
  ·exact False.elim j
  ·rename_i hn;simp only[Den]at d;obtain⟨p,f,rfl,g,z⟩:=d;exact .inr ⟨p,f,rfl,iL.of (q.sub _ _ g),by rw[z.length];exact hn,λl hl=>Ar q hl (Vs z o k) j⟩
 |_ =>
  simp only at j;split at j
  ·rename_i ds e;obtain⟨p,f,rfl,g,z⟩:=wJ q d e;exact .inl ⟨p,f,rfl,g,λl hl=>yN q hl (Vs z o k) j⟩
  ·exact False.elim j
def aaC(K:ba)(W:WX)(r:ai V->Hp->VK->Prop)(g:ai A->Mo A):Prop :=
 ∀G O Z H J xs as Q,Wd K G O Z H->aV K G O xs as->bP K (Den K) W G O J Q (g as Z)->r xs H Q
def xV(X:Cx)(W:WX)(f:aj)(g:ai A->Mo A):Prop:=∃r,rG X f r/\aaC X.K W r g
@[simp] def aN(g:ai A->Mo A)(f:Ev->Mo (ai A)):Ev->Mo A:=λY=>mb (f Y) g
theorem My{K:ba}{r:ai V->Hp->VK->Prop}{g:ai A->Mo A}{t:TA}(c:aaC K W r g)(h:eQ K (aV K) W t fs):eQ K (Den K) W (XD r t) (aN g fs):=by
 intro G N U H J B Q w q h2;exact h G N U H J B _ w q (bP.mb h2 λe z b f i j k a d h1=>c i j z f J b e Q a d h1)
theorem fA{id:cc}{x:az}{g:ai A->Mo A}{p:cn}(B:xV X W (.builtin id) g)(z:Gl X x)(hm:X.mg x=ao)(hv:cm x=ag (.builtin id))(N:VA X W (e::es) fs)(hn:x≠"__name__":=by decide)(U:(x==("__debug__" : az))=ak:=by decide)
  (he:a5 (e::es) X.env=(ak,bt e X.env)::a5 es X.env:=by rfl) (a:(b7 pos (a5 es X.env)).any (·.1)=ak:=by rfl):VE X W (.Call (.Name x p) (e::es) [] pos) (aN g fs):=by
 obtain⟨r,c,b⟩:=B;obtain⟨t,q,j⟩:=N;exact⟨_,Ae c z hm hv q hn U he a,My b j⟩
theorem Ku{T:cc}{x:az}{g:ai A->Mo A}{p:cn}(B:xV X W (.type T) g)(z:Gl X x)(hm:X.mg x=ao)(hv:cm x=ag (.type T))(N:VA X W (e::es) fs)(hn:x≠"__name__":=by decide)(U:(x==("__debug__" : az))=ak:=by decide)
  (he:a5 (e::es) X.env=(ak,bt e X.env)::a5 es X.env:=by rfl) (a:(b7 pos (a5 es X.env)).any (·.1)=ak:=by rfl):VE X W (.Call (.Name x p) (e::es) [] pos) (aN g fs):=by
 obtain⟨r,c,b⟩:=B;obtain⟨t,q,j⟩:=N;exact⟨_,Ov c z hm hv q hn U he a,My b j⟩
theorem CG{K:ba}{G:Hp}{O:ai ar}{xs:ai V}{d:A}(h:aV K G O xs [d]):∃x,xs=[x]/\Den K G O x d:=by
 obtain⟨x,r,rfl,h1,h2⟩:=h.mJ;rw[qS]at h2;subst h2;exact⟨x,rfl,h1⟩
theorem Ej{K:ba}{G:Hp}{O:ai ar}{xs:ai V}{d d':A}(h:aV K G O xs [d,d']):∃x y,xs=[x,y]/\Den K G O x d/\Den K G O y d':=by
 obtain⟨x,r,rfl,h1,h2⟩:=h.mJ;obtain⟨y,rfl,j⟩:=CG h2;exact⟨x,y,rfl,h1,j⟩
@[simp] def lW(as:ai A):Mo A:=λZ=>match as with
 | [a]=>(match eG Z a with
  |some ds=>ag (.ok (.int ds.length),Z)
  | none=>ao)
 |_=>ao
theorem oY:xV X W (.builtin "len") lW:=by
 refine⟨_,avH,?_⟩;intro G j N H J U b Q w d h;unfold lW at h;split at h
 ·rename_i a;split at h
  ·rename_i ds e;obtain⟨x,rfl,B⟩:=CG d;obtain⟨p,q,rfl,h2,z⟩:=OQ w B e;exact⟨p,q,rfl,h2,h _ H G j (Ext.refl _ _) w (by simp only[Den,z.length])⟩
  ·exact False.elim h
 ·exact False.elim h
@[simp] def pU(as:ai A):Mo A:=match as with
 |[.int i,.int j]=>ret (.int (max i j))
 |_=>stuck
@[simp] def Dl(as:ai A):Mo A:=match as with
 |[.int i,.int j]=>ret (.int (min i j))
 |_=>stuck
theorem zG(B:X.calm=av):xV X W (.builtin "max") pU:=by
 refine⟨_,avF B,?_⟩;intro G N U H J a b Q w d h;unfold pU at h;split at h
 ·rename_i i j;obtain⟨x,y,rfl,z,q⟩:=Ej d;simp only[Den]at z q;subst z q;refine⟨i,j,rfl,?_⟩;have e:(if j>i then j else i)=max i j:=by split <;> omega
  rw[e];exact jY w (by simp only[Den]) h
 ·exact False.elim h
theorem avL(B:X.calm=av):xV X W (.builtin "min") Dl:=by
 refine⟨_,avE B,?_⟩;intro G N U H J a b Q w d h;unfold Dl at h;split at h
 ·rename_i i j;obtain⟨x,y,rfl,z,q⟩:=Ej d;simp only[Den]at z q;subst z q;refine⟨i,j,rfl,?_⟩;have e:(if j<i then j else i)=min i j:=by split <;> omega
  rw[e];exact jY w (by simp only[Den]) h
 ·exact False.elim h
noncomputable def intsOf:ai A->aq (ai aw)
 |[]=>ag []
 |.int i::r=>(intsOf r).map (i :: ·)
 |_=>ao
theorem Bm{K:ba}{G:Hp}{O:ai ar}:∀{ds:ai A} {xs:ai V} {ns:ai aw},intsOf ds=ag ns->aV K G O xs ds->xs=ns.map V.int
 |[],xs,ns,h,d=>by
  simp only[intsOf,kO]at h;subst h;rw[qS]at d;subst d;rfl
 |a::ds,xs,ns,h,d=>by
  obtain⟨x,t,rfl,j,q⟩:=d.mJ;cases a with
  |int i =>
   simp only[intsOf,CT]at h;obtain⟨ms,h1,rfl⟩:=h;simp only[Den]at j;subst j;rw[Bm h1 q];rfl
  |_=>simp[intsOf]at h
theorem QG(ns:ai aw):intsOf (ns.map A.int)=ag ns:=by
 induction ns with
 |nil=>rfl
 |cons n ns ih=>simp[intsOf,ih]
@[simp] def wX(as:ai A):Mo A:=λZ=>match as with
 | [a]=>(match (eV Z a).bind intsOf with
  |some ns=>ag (.ok (.int ns.sum),Z)
  | none=>ao)
 |_=>ao
theorem RL(q:X.calm=av):xV X W (.builtin "sum") wX:=by
 refine⟨_,au9 q,?_⟩;intro G j b H J f g Q w d h;unfold wX at h;split at h
 ·rename_i a;split at h
  ·rename_i ns e;obtain⟨x,rfl,U⟩:=CG d;rw[Hr]at e;obtain⟨ds,N,B⟩:=e;obtain⟨p,c,rfl,h2,z⟩:=wJ w U N;rw[Bm B z]at h2;exact⟨p,ns,rfl,h2,h _ H G j (Ext.refl _ _) w (by simp only[Den])⟩
  ·exact False.elim h
 ·exact False.elim h
@[simp] def BY(c:bc)(as:ai A):Mo A:=λZ=>match as with
 | [a]=>(match eG Z a with
  |some ds=>nG c ds Z
  | none=>ao)
 |_=>ao
theorem Wo(c:bc):xV X W (.type "list") (BY c):=by
 refine⟨_,avG,?_⟩;intro G B N H J U b Q w d h;unfold BY at h;split at h
 ·rename_i a;split at h
  ·rename_i ds e;obtain⟨x,rfl,z⟩:=CG d;obtain⟨p,j,rfl,h2,q⟩:=OQ w z e;exact⟨p,j,rfl,h2,λl hl=>yN w hl q h⟩
  ·exact False.elim h
 ·exact False.elim h
noncomputable def mZ(Z:aH):A->aq cc
 |.int _=>ag "int"
 |.bl _=>ag "bool"
 |.str _=>ag "str"
 |.cV=>ag "NoneType"
 |.tup _=>ag "tuple"
 |.lst _=>ag "list"
 |.aG k=>match Z[k]? with
  |some (.lst _)=>ag "list"
  |some (.bE _)=>ag "dict"
  |_=>ao
 |_=>ao
theorem abP{K:ba}{G H:Hp}{O:ai ar}{Z:aH}{v:V}{a:A}{t:cc}(w:Wd K G O Z H)(d:Den K G O v a)(h:mZ Z a=ag t):pY K H v (.type t):=by
 cases a with
 |int i=>simp only[mZ,kO]at h;subst h;simp only[Den]at d;subst d;exact .int i
 |bl i=>simp only[mZ,kO]at h;subst h;simp only[Den]at d;subst d;exact .bl i
 |str i=>simp only[mZ,kO]at h;subst h;simp only[Den]at d;subst d;exact .str i
 |cV=>simp only[mZ,kO]at h;subst h;simp only[Den]at d;subst d;exact .cV
 |tup ds=>simp only[mZ,kO]at h;subst h;simp only[Den]at d;obtain⟨p,j,rfl,h2,_⟩:=d;exact .tup (w.sub _ _ h2)
 |lst ds=>simp only[mZ,kO]at h;subst h;simp only[Den]at d;obtain⟨p,j,rfl,h2,_⟩:=d;exact .lst (w.sub _ _ h2)
 |aG k =>
  simp only[Den]at d;obtain⟨p,rfl,z⟩:=d;simp only[mZ]at h;split at h
  ·rename_i ds e;cases h;obtain⟨g,j,q,_⟩:=w.aG k _ p e z;exact .lst q
  ·rename_i ds e;cases h;obtain⟨g,j,q,_⟩:=w.aG k _ p e z;exact .dK q
  ·cases h
 |_=>simp[mZ]at h
noncomputable def tJ(t n:cc):aq bc:=if(["int", "bool", "str", "NoneType", "tuple", "list"].elem t&&["int", "bool", "tuple", "list", "str"].elem n)=av then ag (t==n||(t == "bool" && n == "int"))else ao
theorem am7(K:ba){t n:cc}{b:bc}(h:tJ t n=ag b):kitOne K (.type t) (.type n)=ag b:=by
 unfold tJ at h;split at h
 ·rename_i e;cases h;simp only[List.elem_eq_mem,mC,RH,dI,xI,vW]at e;obtain⟨rfl|rfl|rfl|rfl|rfl|rfl,rfl|rfl|rfl|rfl|rfl⟩:=e <;> first|kernel_rfl|(unfold kitOne;rw[a6 (beq_self_eq_true _)];rfl)
 ·cases h
@[simp] def oU(as:ai A):Mo A:=λZ=>match as with
 | [a,.ty n]=>(match (mZ Z a).bind λt=>tJ t n with
  |some b=>ag (.ok (.bl b),Z)
  | none=>ao)
 |_=>ao
theorem xE:xV X W (.builtin "isinstance") oU:=by
 refine⟨_,avJ,?_⟩;intro G q U H J c f Q w d h;unfold oU at h;split at h
 ·rename_i a n;split at h
  ·rename_i b e;rw[Hr]at e;obtain⟨t,B,z⟩:=e;obtain⟨x,y,rfl,N,j⟩:=Ej d;simp only[Den]at j;subst j;exact⟨x,n,_,b,rfl,abP w N B,am7 _ z,h _ H G q (Ext.refl _ _) w (by simp only[Den])⟩
  ·exact False.elim h
 ·exact False.elim h
def MW(K:ba)(W:WX)(r:V->ai V->Hp->VK->Prop)(g:A->ai A->Mo A):Prop :=
 ∀G O Z H J x xs a as Q,Wd K G O Z H->Den K G O x a->aV K G O xs as->bP K (Den K) W G O J Q (g a as Z)->r x xs H Q
def uJ(Z:aH)(a:A):Prop:=∃ds,eV Z a=ag ds
open Classical in
@[simp] noncomputable def lA(g:A->ai A->Mo A)(fo:Ev->Mo A)(f:Ev->Mo (ai A)):Ev->Mo A:=λY=>mb (fo Y) λo Z=>if uJ Z o then mb (f Y) (λas=>g o as) Z else ao
theorem Ll{K:ba}{G H:Hp}{O:ai ar}{Z:aH}{v:V}{a:A}(w:Wd K G O Z H)(d:Den K G O v a)(h:uJ Z a):OG K "list" v H:=by
 obtain⟨ds,e⟩:=h;obtain⟨p,j,rfl,q,_⟩:=wJ w d e;exact .inl ⟨rfl,j,q⟩
theorem abE{name:az}{af:cn}{id:cc}{r:V->ai V->Hp->VK->Prop}{g:A->ai A->Mo A}(d:PlainAttrs "list")(slot:Slot "list" name id)(n:typeOf (.builtin id)=pure (.type "method_descriptor"))(hm:SY X id r)(hv:MW X.K W r g)(k:VE X W a fa)
  (f:bu a name X.env (bt a X.env)=bt a X.env:=by rfl) (i:(af.endLine==pos.line)=av:=by rfl):VE X W (.Call (.Attribute a name af) [] [] pos) (lA g fa λ_=>ret []):=by
 obtain⟨t,e,c⟩:=k;refine⟨_,ai4 d slot n hm e f i,λG U b H J N Q w r h=>?_⟩;refine c G U b H J N _ w r (bP.mb h λx q v l m j o z B h1=>?_);split at h1
 ·rename_i hl;exact⟨Ll z B hl,hv m j q l J v [] x [] Q z B .nil h1⟩
 ·exact False.elim h1
theorem sT{name:az}{af:cn}{id:cc}{r:V->ai V->Hp->VK->Prop}{g:A->ai A->Mo A}(o:PlainAttrs "list")(slot:Slot "list" name id)(BD:typeOf (.builtin id)=pure (.type "method_descriptor"))(hm:SY X id r)(hv:MW X.K W r g)(E:VE X W a fa)(F:VA X W (e::es) fs)
  (y:bu a name X.env (bt a X.env)=bt a X.env:=by rfl)
  (T:((b7 pos (a5 (e::es) X.env)).all (λx=>!x.1)&&(backToKw pos (cv [] X.env)).all (λx=>x.1.isSome)
   && decide ((e::es).length+([]:ai Keyword).length+(if([]:ai Keyword).isEmpty then 0 else 1)<30))=av:=by rfl)
  (C:(af.endLine==pos.line)=av:=by rfl) (D:a5 (e::es) X.env=(ak,bt e X.env)::a5 es X.env:=by rfl) (Bx:(b7 pos (a5 es X.env)).any (·.1)=ak:=by rfl) :
  VE X W (.Call (.Attribute a name af) (e::es) [] pos) (lA g fa fs):=by
 obtain⟨t,s,n⟩:=E;obtain⟨u,p,m⟩:=F;refine⟨_,ai5 o slot BD hm s p y T C D Bx,λG c d H J N Q w r h=>?_⟩;refine n G c d H J N _ w r (bP.mb h λx B v P S q i U b h1=>?_);split at h1
 ·rename_i hl;refine⟨Ll U b hl,m S q B P J N _ U (r.ext i) (bP.mb h1 λL z l M R j f k I h2=>?_)⟩;exact hv R j z M J v l x L Q k (b.ext f) I h2
 ·exact False.elim h1
noncomputable def oH(Z:aH):A->aq (ax×ai A)
 |.aG k=>match Z[k]? with
  |some (.lst ds)=>ag (k,ds)
  |_=>ao
 |_=>ao
theorem Es{K:ba}{G H:Hp}{O:ai ar}{Z:aH}{v:V}{a:A}{k:ax}{ds:ai A}(w:Wd K G O Z H)(d:Den K G O v a)(h:oH Z a=ag (k,ds)):∃p xs,v=.ref p/\O[k]?=ag p/\G p=ao/\H p=ag (.lst xs)/\aV K G O xs ds:=by
 cases a with
 |aG j =>
  simp only[oH]at h;split at h
  ·rename_i es e;cases h;simp only[Den]at d;obtain⟨p,rfl,q⟩:=d;obtain⟨g,xs,B,z⟩:=w.aG k _ p e q;exact⟨p,xs,rfl,q,g,B,z⟩
  ·cases h
 |_=>simp[oH]at h
@[simp] def pW(o:A)(as:ai A):Mo A:=λZ=>match oH Z o,as with
 |some (k,ds),[y]=>if ds.length<ay then ag (.ok .cV,Z.set k (.lst (ds++[y])))else ao
 |_,_=>ao
theorem uI:MW X.K W Nw pW:=by
 intro G q f H J x i a l Q w d b h;unfold pW at h;split at h
 ·rename_i k ds y e;split at h
  ·rename_i hl;obtain⟨p,z,rfl,B,g,N,j⟩:=Es w d e;obtain⟨u,rfl,U⟩:=CG b;refine⟨p,z,u,rfl,rfl,N,by rw[j.length];exact hl,?_⟩;exact h _ _ G q (Ext.refl _ _) (w.put (c:=.lst (ds++[y])) B g ⟨g,_,dZ,j.append (.cons U .nil)⟩) (by simp only[Den])
  ·exact False.elim h
 ·exact False.elim h
@[simp] def QX(o:A)(as:ai A):Mo A:=λZ=>match oH Z o,as with
 |some (k,ds),[]=>ag (.ok .cV,Z.set k (.lst []))
 |_,_=>ao
theorem alO:MW X.K W Nu QX:=by
 intro G q b H J x d a i Q w U j h;unfold QX at h;split at h
 ·rename_i k ds e;obtain⟨p,z,rfl,B,g,N,f⟩:=Es w U e;rw[qS]at j;subst j;refine⟨p,z,rfl,rfl,N,?_⟩;exact h _ _ G q (Ext.refl _ _) (w.put (c:=.lst []) B g ⟨g,_,dZ,.nil⟩) (by simp only[Den])
 ·exact False.elim h
end
mutual
def Cl(n:ax):A->Prop
 |.aG k=>k<n
 |.tup ds=>eX n ds
 |.lst ds=>eX n ds
 |_=>True
def eX(n:ax):ai A->Prop
 |[]=>True
 |d::ds=>Cl n d/\eX n ds
end
section
variable{K:ba}{G:Hp}{O:ai ar}
mutual
theorem Den.cl:∀{v:V} {d:A},Den K G O v d->Cl O.length d
 |_,.int _,_=>by simp only[Cl]
 |_,.bl _,_=>by simp only[Cl]
 |_,.str _,_=>by simp only[Cl]
 |_,.cV,_=>by simp only[Cl]
 |_,.ty _,_=>by simp only[Cl]
 |_,.adr _,_=>by simp only[Cl]
 |_,.RD _ _ _ _,_=>by simp only[Cl]
 |_,.gl _,_=>by simp only[Cl]
 |_,.jM _,_=>by simp only[Cl]
 |_,.tup ds,h=>by
  simp only[Den]at h;simp only[Cl];obtain⟨a,xs,_,_,j⟩:=h;exact aV.cl j
 |_,.lst ds,h=>by
  simp only[Den]at h;simp only[Cl];obtain⟨a,xs,_,_,j⟩:=h;exact aV.cl j
 |_,.aG k,h=>by
  simp only[Den]at h;simp only[Cl];obtain⟨a,_,h2⟩:=h;exact(dO.mp h2).1
theorem aV.cl:∀{xs:ai V} {ds:ai A},aV K G O xs ds->eX O.length ds
 |_,[],_=>by simp only[eX]
 |_,d::ds,h=>by
  simp only[aV]at h;simp only[eX];obtain⟨x,r,_,h2,j⟩:=h;exact⟨Den.cl h2,aV.cl j⟩
end
mutual
theorem Den.cut{O':ai ar}{n:ax}(e:∀k,k<n->O[k]?=O'[k]?):∀{v:V} {d:A},Den K G O' v d->Cl n d->Den K G O v d
 |_,.int _,h,_=>by simpa only[Den]using h
 |_,.bl _,h,_=>by simpa only[Den]using h
 |_,.str _,h,_=>by simpa only[Den]using h
 |_,.cV,h,_=>by simpa only[Den]using h
 |_,.ty _,h,_=>by simpa only[Den]using h
 |_,.adr _,h,_=>by simpa only[Den]using h
 |_,.RD _ _ _ _,h,_=>by simpa only[Den]using h
 |_,.gl _,h,_=>by simpa only[Den]using h
 |_,.jM _,h,_=>by simpa only[Den]using h
 |_,.tup ds,h,c=>by
  simp only[Den]at h ⊢;simp only[Cl]at c;obtain⟨a,xs,h1,h2,j⟩:=h;exact⟨a,xs,h1,h2,aV.cut e j c⟩
 |_,.lst ds,h,c=>by
  simp only[Den]at h ⊢;simp only[Cl]at c;obtain⟨a,xs,h1,h2,j⟩:=h;exact⟨a,xs,h1,h2,aV.cut e j c⟩
 |_,.aG k,h,c=>by
  simp only[Den]at h ⊢;simp only[Cl]at c;obtain⟨a,h1,h2⟩:=h;exact⟨a,h1,(e k c).trans h2⟩
theorem aV.cut{O':ai ar}{n:ax}(e:∀k,k<n->O[k]?=O'[k]?):∀{xs:ai V} {ds:ai A},aV K G O' xs ds->eX n ds->aV K G O xs ds
 |_,[],h,_=>by simpa only[aV]using h
 |_,d::ds,h,c=>by
  simp only[aV]at h ⊢;simp only[eX]at c;obtain⟨x,r,h1,h2,j⟩:=h;exact⟨x,r,h1,Den.cut e h2 c.1,aV.cut e j c.2⟩
end
def rE(n:ax):Fd->Prop
 |.val a=>Cl n a
 |.lst ds=>eX n ds
 |.bE kvs=>eX n (kvs.map (·.2))
def qD(n:ax):ai (az×Fd)->Prop
 |[]=>True
 |p::r=>rE n p.2/\qD n r
def IB(n:ax):Cell->Prop
 |.lst ds=>eX n ds
 |.bE kvs=>eX n (kvs.map (·.2))
 |.ins _ fs=>qD n fs
 |_=>True
theorem jI.cl{H:Hp}{v:V}{fd:Fd}(h:jI K G O H v fd):rE O.length fd:=by
 cases fd with
 |val a=>exact Den.cl h
 |lst ds=>obtain⟨_,_,_,_,_,_,q⟩:=h;exact q.cl
 |bE j=>obtain⟨_,_,_,_,_,_,_,q⟩:=h;exact q.cl
theorem jB.cl{H:Hp}:∀{ws:ai (az×V)} {fs:ai (az×Fd)},jB K G O H ws fs->qD O.length fs
 |[],[],_=>trivial
 |(_,_)::_,(_,_)::_,h=>⟨h.2.1.cl,h.2.2.cl⟩
 |[],_::_,h=>h.elim
 |_::_,[],h=>h.elim
theorem rF.cl{H:Hp}{a:ar}{c:Cell}(h:rF K G O H a c):IB O.length c:=by
 cases c with
 |lst ds=>obtain⟨_,_,_,q⟩:=h;exact q.cl
 |bE j=>obtain⟨_,_,_,_,q⟩:=h;exact q.cl
 |ins cls fs=>obtain⟨_,_,_,_,_,_,q⟩:=h;exact q.cl
 |tab x pos qual=>trivial
 |dead=>trivial
theorem jI.cut{H:Hp}{O':ai ar}{n:ax}{v:V}{fd:Fd}(h:jI K G O' H v fd)(e:∀k,k<n->O[k]?=O'[k]?)(hi:∀b,b∉O'->b∉O)(c:rE n fd):jI K G O H v fd:=by
 cases fd with
 |val a=>exact Den.cut e h c
 |lst ds=>obtain⟨b,xs,h1,h2,z,q,j⟩:=h;exact⟨b,xs,h1,h2,hi b z,q,j.cut e c⟩
 |bE B=>obtain⟨b,ws,h1,h2,z,q,j,N⟩:=h;exact⟨b,ws,h1,h2,hi b z,q,j,N.cut e c⟩
theorem jB.cut{H:Hp}{O':ai ar}{n:ax}(e:∀k,k<n->O[k]?=O'[k]?)(hi:∀b,b∉O'->b∉O):∀{ws:ai (az×V)} {fs:ai (az×Fd)},jB K G O' H ws fs->qD n fs->jB K G O H ws fs
 |[],[],_,_=>trivial
 |(_,_)::_,(_,_)::_,h,c=>⟨h.1,h.2.1.cut e hi c.1,jB.cut e hi h.2.2 c.2⟩
 |[],_::_,h,_=>h.elim
 |_::_,[],h,_=>h.elim
theorem rF.cut{H:Hp}{O':ai ar}{n:ax}{a:ar}{c:Cell}(h:rF K G O' H a c)(e:∀k,k<n->O[k]?=O'[k]?)(hi:∀b,b∉O'->b∉O)(j:IB n c):rF K G O H a c:=by
 cases c with
 |lst ds=>obtain⟨g,xs,h1,h2⟩:=h;exact⟨g,xs,h1,h2.cut e j⟩
 |bE q=>obtain⟨g,ws,h1,h2,z⟩:=h;exact⟨g,ws,h1,h2,z.cut e j⟩
 |ins cls fs=>obtain⟨g,C,B,ws,h0,h1,h2⟩:=h;exact⟨g,C,B,ws,h0,h1,h2.cut e hi j⟩
 |tab x pos qual=>exact h
 |dead=>trivial
theorem Ext.cut{G':Hp}{O':ai ar}(e:Ext G O G' O'):∀k,k<O.length->O[k]?=O'[k]?:=λk j=>by
 rw[dP j,e.pre k _ (dP j)]
theorem Wd.cut{G' H H':Hp}{O':ai ar}{Z Z':aH}(w:Wd K G O Z H)(U:Wd K G' O' Z' H')(e:Ext G O G' O')(p:Z'.take Z.length=Z):Wd K G' O Z H' where
 sub:=U.sub
 inj:=w.inj
 len:=w.len
 live:=λa f=>by
  obtain⟨k,j,o⟩:=List.getElem_of_mem f;exact U.live a (pF (e.pre k a (by rw[<-o];exact dP j)))
 aG:=λk c a h1 h2=>by
  have j:k<Z.length:=(dO.mp h1).1;have s:Z'[k]?=ag c:=by
   rw[<-p,NA]at h1;rw[a6 j]at h1;exact h1
  have q:=U.aG k c a s (e.pre k a h2);have d:=w.aG k c a h1 h2;cases c with
  |lst ds =>
   obtain⟨g,xs,N,B⟩:=q;obtain⟨_,_,_,m⟩:=d;exact⟨g,xs,N,B.cut e.cut m.cl⟩
  |bE r =>
   obtain⟨g,ws,N,B,m⟩:=q;obtain⟨_,_,_,_,l⟩:=d;exact⟨g,ws,N,B,m.cut e.cut l.cl⟩
  |ins cls fs =>
   obtain⟨g,C,v,ws,h0,N,B⟩:=q;obtain⟨_,_,_,_,_,_,l⟩:=d;exact⟨g,C,v,ws,h0,N,B.cut (n:=O.length) e.cut (λb hb z=>hb (by
    obtain⟨k,j,o⟩:=List.getElem_of_mem z;exact pF (e.pre k b (by rw[<-o];exact dP j)))) l.cl⟩
  |tab x pos qual=>exact q
  |dead=>trivial
 sep:=λb k i t u h1 h2=>by
  have back:∀{k i},iY H' O Z k i b->iY H' O' Z' k i b:=λ{k i} h=>h.to (λa f=>⟨e.pre k a f,λ_ z=>z⟩) λcls fs q=>by
   have j:k<Z.length:=(dO.mp q).1;rw[<-p,NA,a6 j]at q;exact q
  exact U.sep b k i t u (back h1) (back h2)
end
open Classical in
noncomputable def trim(Z:aH):aq (Rs A×aH)->aq (Rs A×aH)
 |some (.ok a,Z')=>if Z'.take Z.length=Z/\Cl Z.length a then ag (.ok a,Z)else ag (.ok a,Z')
 |some (.exc x,Z')=>if Z'.take Z.length=Z/\eX Z.length (x.fs.map (·.2))then ag (.exc x,Z)else ag (.exc x,Z')
 |none=>ao
theorem abZ{K:ba}{W:WX}{G H:Hp}{O:ai ar}{Z:aH}{J:L2.St}{Q:VK}{r:aq (Rs A×aH)}(w:Wd K G O Z H)(h:bP K (Den K) W G O J Q (trim Z r)):bP K (Den K) W G O J Q r:=by
 match r,h with
 |some (.ok a,B),h =>
  simp only[trim]at h;split at h
  ·rename_i j;exact λv U b z e N d=>h v U b O ⟨e.same,λ_ _ q=>q⟩ (w.cut N e j.1) (d.cut e.cut (by rw[w.len];exact j.2))
  ·exact h
 |some (.exc x,B),h =>
  simp only[trim]at h;split at h
  ·rename_i j;intro cls c U b z e N d;refine h cls c U b O ⟨e.same,λ_ _ q=>q⟩ (w.cut N e j.1) d
  ·exact h
@[simp] def eS:OS->aq (Rs A×aH)
 |some (.nx,_,Z)=>ag (.ok .cV,Z)
 |some (.ret a,_,Z)=>ag (.ok a,Z)
 |some (.exc x,_,Z)=>ag (.exc x,Z)
 |_=>ao
@[simp] noncomputable def LZ(n:ax)(ds:ai A):Ev:=ds.map ag++List.replicate (n-ds.length) ao
@[simp] noncomputable def cP(n:ax)(b:MS):ai A->Mo A:=λds Z=>trim Z (eS (b (LZ n ds) Z))
def qH(K:ba)(n:ax)(F:ai A->Mo A):Sp:=λvs H Q E=>vs.length=n/\∃G O Z ds,Wd K G O Z H/\aV K G O vs ds/\bP K (Den K) (λ_=>E) G O [] Q (F ds Z)
abbrev cC(P:a9)(w:bf)(K:ba)(mg:az->aq aj)(base:bo)(x:az)(k:ax)(ps:ai az)(F:ai A->Mo A):Prop:=HV P w K mg base x k ps (qH K ps.length F)
theorem asE{K:ba}{G:Hp}{O:ai ar}{N:ai az}{vs:ai V}{ds:ai A}(d:aV K G O vs ds):hW K G O (L2.start N vs) (LZ N.length ds):=by
 unfold L2.start LZ;have hl:=d.length;refine⟨by simp[hl],λi a h=>?_⟩
 by_cases hi:i<ds.length
 ·rw[kP (by simpa using hi)]at h;rw[jV]at h;cases e:ds[i]? with
  |none=>rw[e]at h;cases h
  |some z =>
   rw[e]at h;cases h;obtain⟨v,q,j⟩:=d.get e;refine⟨v,?_,j⟩;rw[kP (by simp;omega),jV,q];rfl
 ·rw[GZ (by simpa using hi)]at h;have:=pF h;simp at this
theorem MI{K:ba}{N:ai az}{t:TS}{b:MS}{H:Hp}{vs:ai V}{Q:VK}{E:XK}{n:ax}(s:tS K (λ_=>E) t b)(h:qH K n (cP N.length b) vs H Q E):t {nx:=λ_ H'=>Q .cV H',rt:=Q} (L2.start N vs) H:=by
 obtain⟨hl,G,l,i,ds,w,d,q⟩:=h;refine s G l i H _ (LZ N.length ds) _ w (asE d) ?_;have j:=abZ w q
 revert j
 generalize b (LZ N.length ds) i=r;intro j
 match r,j with
 |some (.nx,B,U),j=>exact λc H' g z e f k=>j .cV H' g z e f (by simp only[Den])
 |some (.ret a,B,U),j=>exact λc H' g z e f k v d'=>j v H' g z e f d'
 |some (.exc x,B,U),j=>exact λc H' g z e f k cls m d'=>j cls m H' g z e f d'
 |some (.bk,B,U),j=>exact False.elim j
 |some (.ct,B,U),j=>exact False.elim j
section
variable{P:a9}{w:bf}{K:ba}{mg:az->aq aj}{base:bo}
theorem Uv{x:az}{st:bq}{N ps:ai az}{k:ax}{b:MS}{f:ar}{fd:b8}(F:sF K x x st f fd)(S:cO N ps (aR st))
  (a:∀(f:ar) (j:aj) (A:bj) (outer:ai Env) (s:au) (H:Hp) (E:XK),cM k (A.deeper (cj x (aR st) s.heap.objs.size f j)) ->
   jU (mT P w K mg base N x (aR st) f j A outer s H E) (λ_=>E) (eL st) b):hJ P w K mg base (nS P w) (k+1) f fd ps (qH K ps.length (cP N.length b)):=by
 obtain⟨g,e,kV,doc,d,l,j,ct,i,rfl,B,c⟩:=F.ex;refine RA B c S (λz H Q E h=>h.1) λA outer s H z Q E hr U=>?_;obtain⟨t,p,q⟩:=a f j A outer s H E hr;exact⟨t,JU p,MI q U⟩
theorem cC.of{x:az}{st:bq}{N ps:ai az}{k:ax}{b:MS}(h:HasFn K mg x st)(S:cO N ps (aR st))
  (bind:∀(kV doc pm:aj) (an:aq ar) (j ct:aj) (us:ai aj),us.length=ps.length->cq (di x x (iK st) (eL st) (aR st) .none kV doc pm an j ct) ⟨us,[]⟩=pure (ps.zip us))
  (q:∀(f:ar) (j:aj) (A:bj) (outer:ai Env) (s:au) (H:Hp) (E:XK),cM k (A.deeper (cj x (aR st) s.heap.objs.size f j)) ->
   jU (mT P w K mg base N x (aR st) f j A outer s H E) (λ_=>E) (eL st) b):cC P w K mg base x (k+1) ps (cP N.length b):=by
 obtain⟨f,fd,hm,F⟩:=h.ex;exact⟨f,fd,Uv F S q,hm,F.kp,F.binds bind⟩
abbrev Zz(P:a9)(w:bf)(K:ba)(mg:az->aq aj)(base:bo)(x:az)(k:ax)(ps:ai az)(F:ai A->Mo A):Prop:=Def P w K mg base x k ps (λvs H Q _=>qH K ps.length F vs H Q λ_ _ _=>bz)
theorem Et{k:ax}{f:ar}{fd:b8}{ps:ai az}{sp:Sp}(F:hJ P w K mg base (nS P w) k f fd ps sp):hJ P w K mg base zU k f fd ps (λvs H Q _=>sp vs H Q λ_ _ _=>bz) :=
 ⟨λvs H Q E h=>F.len _ _ _ _ h,λA outer s H args z vs Q E hr N hb r B=>rZ (F.run A outer s H args z vs Q _ hr N hb r B) λr s' j=>by
  cases r with
  |error U=>obtain⟨x,cls,a,b,_,_,_,_,_,_,q⟩:=j;exact q.elim
  | ok fl=>cases fl <;> exact j⟩
theorem cC.calm{x:az}{k:ax}{ps:ai az}{F:ai A->Mo A}(D:cC P w K mg base x k ps F):Zz P w K mg base x k ps F:=by
 obtain⟨f,fd,h1,h2,q,j⟩:=D.ex;exact⟨f,fd,Et h1,h2,q,j⟩
end
section
variable{X:Cx}{W:WX}{x:az}{p pos:cn}{e:bg}{es:ai bg}{fs:Ev->Mo (ai A)}
@[simp] def bA(n:ax)(F:ai A->Mo A):ai A->Mo A:=λas=>if as.length=n then F as else stuck
theorem RK{K:ba}{G d:Hp}{O q:ai ar}{J:L2.St}{Q:VK}{r:aq (Rs A×aH)}{W:WX}(h:bP K (Den K) W G O J Q r)(c:Ext G O d q):bP K (Den K) (λ_=>λcls dx H'=>W J cls dx H') d q [] Q r:=by
 match r,h with
 |some (.ok a,z),h=>exact λv H' b j B N U=>h v H' b j (c.trans B) N U
 |some (.exc a,z),h=>exact λcls dx H' b j B N U=>h cls dx H' b j (c.trans B) N U
theorem dD{k:ax}{ps:ai az}{F:ai A->Mo A}(T:pB X W)(D:cC X.prog X.w X.K X.mg X.base x k ps F)(hr:cM k X.A)(d:Gl X x)(f:VA X W (e::es) fs)
  (g:(x==("__debug__" : az))=ak:=by decide) (he:a5 (e::es) X.env=(ak,bt e X.env)::a5 es X.env:=by rfl) (i:(b7 pos (a5 es X.env)).any (·.1)=ak:=by rfl):VE X W (.Call (.Name x p) (e::es) [] pos) (aN (bA ps.length F) fs):=by
 obtain⟨t,c,b⟩:=f;refine⟨_,aiY T D hr d c g he i,λG N U H J B Q w r h=>?_⟩;refine b G N U H J B _ w r (bP.mb h λl q o s m j n a z h1=>?_);unfold bA at h1;split at h1
 ·rename_i hl;exact⟨by rw[z.length];exact hl,m,j,q,l,a,z,RK h1 (Ext.refl _ _)⟩
 ·exact False.elim h1
@[simp] noncomputable def PN(F:ai A->Mo A):ai A->Mo A:=λas Z=>match F as Z with
 |some (.exc _,_)=>ao
 |r=>r
theorem Kt{k:ax}{ps:ai az}{F:ai A->Mo A}(D:Zz X.prog X.w X.K X.mg X.base x k ps F)(hr:cM k X.A)(l:Gl X x)(m:VA X W (e::es) fs)
  (n:(x==("__debug__" : az))=ak:=by decide) (he:a5 (e::es) X.env=(ak,bt e X.env)::a5 es X.env:=by rfl) (o:(b7 pos (a5 es X.env)).any (·.1)=ak:=by rfl):VE X W (.Call (.Name x p) (e::es) [] pos) (aN (PN (bA ps.length F)) fs):=by
 obtain⟨t,i,f⟩:=m;refine⟨_,aiZ D hr l i n he o,λG U c H J N Q w r h=>?_⟩;refine f G U c H J N _ w r (bP.mb h λz j v y s q u d B h1=>?_);unfold PN bA at h1;rw[uX]
 by_cases hl:z.length=ps.length
 ·rw[a6 hl]at h1;refine⟨by rw[B.length];exact hl,s,q,j,z,d,B,?_⟩
  revert h1
  generalize F z j=g;intro h1
  match g,h1 with
  |some (.ok a,b),h1=>exact h1
 ·rw[a7 hl]at h1;exact False.elim h1
theorem aiX{k:ax}{ps:ai az}{sp:Sp}(T:pB X W)(D:HV X.prog X.w X.K X.mg X.base x k ps sp)(hr:cM k X.A)(d:Gl X x)(e:(x==("__debug__" : az))=ak:=by decide) :
  PE X (.Call (.Name x p) [] [] pos) (XC sp W IV):=by
 obtain⟨f,i,F,hm,c,hb⟩:=D.ex;intro aa s J H Q I h;refine uA (AZ I d hm ?_ e);refine PySem.W.callWith_K0 I.fI c ?_;have h':sp [] H Q λcls q B=>W J cls q B:=h;have hl:=F.len _ _ _ _ h';have N:=hb s [] I.fI (by rw[uX];exact hl);rw[uX]at N;refine zY (rZ (F.run X.A X.stack s H ⟨[],[]⟩ [] [] Q _ hr I.CD N .nil h') λr s' j=>?_);cases r with
 |error l =>
  obtain⟨a,cls,q,B,rfl,os,bare,un,aK,ex,U⟩:=j;have g:=(I.FV os un aK bare (λb z=>bp z (by simp))).Ab;exact T.to _ _ ⟨J,B,a,cls,q,rfl,g,(ex.first I T.ex).any,U⟩
 |ok fl =>
  cases fl with
  |ret u=>exact I.after j
  |next=>exact False.elim j
  |brk=>exact False.elim j
  |cont=>exact False.elim j
theorem abB{k:ax}{ps:ai az}{F:ai A->Mo A}(T:pB X W)(D:cC X.prog X.w X.K X.mg X.base x k ps F)(hr:cM k X.A)(b:Gl X x)(c:(x==("__debug__" : az))=ak:=by decide):VE X W (.Call (.Name x p) [] [] pos) (aN (bA ps.length F) λ_=>ret []):=by
 refine⟨_,aiX T D hr b c,λG U l H J i Q w r h=>?_⟩;refine bP.mb (rel:=aV X.K) (Q1:=λz N=>qH X.K ps.length F z N Q λcls d f=>W J cls d f) h (λe q z N g j m a B h1=>?_) [] H G U (Ext.refl _ _) w .nil;unfold bA at h1;split at h1
 ·rename_i hl;exact⟨by rw[B.length];exact hl,g,j,q,e,a,B,RK h1 (Ext.refl _ _)⟩
 ·exact False.elim h1
abbrev cI(i:aw):Ev->Mo A:=λ_=>ret (.int i)
abbrev cB(i:bc):Ev->Mo A:=λ_=>ret (.bl i)
abbrev cT(n:cc):Ev->Mo A:=λ_=>ret (.ty n)
abbrev a0:Ev->Mo (ai A):=λ_=>ret []
abbrev yF:Ev->Mo (aq aw):=λ_=>ret ao
end
end V2
namespace V2
open PySem L2
section
variable{α β:Type}{Z Z':aH}{a:A}
@[simp] theorem ayZ(x:α)(k:α->Mo β):mb (ret x) k=k x:=rfl
theorem dC{m:Mo α}{k:α->Mo β}{x:α}(h:m Z=ag (.ok x,Z')):mb m k Z=k x Z':=by unfold mb;rw[h]
@[simp] theorem ay0(x:α)(k:α->Mo β):mb (need (ag x)) k=k x:=rfl
theorem alJ{p:Prop} [c2 p](k:Unit->Mo β)(h:p):mb (oG p) k=k ():=by funext j;simp[mb,oG,h]
@[simp] theorem ayP(x:α):(ret x:Mo α) Z=ag (.ok x,Z):=rfl
@[simp] theorem abY:trim Z (ag (.ok a,Z))=ag (.ok a,Z):=by simp only[trim];split <;> rfl
theorem rM{j:aH}(h:Cl Z.length a):trim Z (ag (.ok a,Z++j))=ag (.ok a,Z):=by
 simp only[trim];rw[a6 ⟨by simp,h⟩]
@[simp] theorem ayO(x:α)(Y:Ev)(k:α->aH->OS):sM (ret x) Y k=k x:=rfl
theorem fN{m:Mo α}{Y:Ev}{k:α->aH->OS}{x:α}(h:m Z=ag (.ok x,Z')):sM m Y k Z=k x Z':=by unfold sM;rw[h]
@[simp] theorem uG(Y:Ev):eS (ag (.ret a,Y,Z))=ag (.ok a,Z):=rfl
@[simp] theorem EF(Y:Ev):eS (ag (.nx,Y,Z))=ag (.ok .cV,Z):=rfl
theorem cA{f g:MS}{Y Y1:Ev}(h:f Y Z=ag (.nx,Y1,Z')):aO f g Y Z=g Y1 Z':=by unfold aO;rw[h]
theorem Ng{f g:MS}{Y Y1:Ev}(h:f Y Z=ag (.ret a,Y1,Z')):aO f g Y Z=ag (.ret a,Y1,Z'):=by unfold aO;rw[h]
theorem sA{α:Type}(xs:ai α)(n:ax):eM xs (n:aw)=xs[n]?:=by
 unfold eM yR;rw[a6 (by omega)]
 by_cases h:(n:aw)<xs.length
 ·rw[a6 h];simp
 ·rw[a7 h];simp;omega
theorem GI{α:Type}(xs:ai α)(n:ax):eM xs (OfNat.ofNat n:aw)=xs[n]?:=sA xs n
theorem SI{α:Type}(xs:ai α):eM xs 0=xs[0]?:=sA xs 0
theorem Gs{α:Type}(xs:ai α):eM xs 1=xs[1]?:=sA xs 1
end
@[simp] theorem ayC:tJ "int" "int" = ag av:=by simp[tJ]
@[simp] theorem ayD:tJ "int" "bool" = ag ak:=by simp[tJ]
@[simp] theorem ayA:tJ "tuple" "tuple" = ag av:=by simp[tJ]
@[simp] theorem ayB:tJ "list" "list" = ag av:=by simp[tJ]
@[simp] theorem ay3(Z:aH)(ds:ai A):eV Z (.lst ds)=ag ds:=rfl
@[simp] theorem ay2(Z:aH)(ns:ai aw):eV Z (.jM ns)=ag (ns.map A.int):=rfl
@[simp] theorem ay1(Z:aH)(ds:ai A):eV Z (.tup ds)=ao:=rfl
@[simp] theorem ay4(Z:aH)(i:aw):eV Z (.int i)=ao:=rfl
@[simp] theorem ayM(Z:aH)(ds:ai A):eG Z (.lst ds)=ag ds:=rfl
@[simp] theorem ayL(Z:aH)(ns:ai aw):eG Z (.jM ns)=ag (ns.map A.int):=rfl
@[simp] theorem ayK(Z:aH)(ds:ai A):eG Z (.tup ds)=ag ds:=rfl
@[simp] theorem ayN(Z:aH)(k:ax):eG Z (.aG k)=eV Z (.aG k):=rfl
@[simp] theorem ayI(Z:aH)(i:aw):mZ Z (.int i)=ag "int":=rfl
@[simp] theorem ayJ(Z:aH)(i:bc):mZ Z (.bl i)=ag "bool":=rfl
@[simp] theorem ayF(Z:aH)(i:az):mZ Z (.str i)=ag "str":=rfl
@[simp] theorem ayG(Z:aH):mZ Z .cV=ag "NoneType":=rfl
@[simp] theorem ayE(Z:aH)(ds:ai A):mZ Z (.tup ds)=ag "tuple":=rfl
@[simp] theorem ayH(Z:aH)(ds:ai A):mZ Z (.lst ds)=ag "list":=rfl
@[simp] theorem ay7:JZ .cV=ag av:=rfl
@[simp] theorem ay9(i:aw):JZ (.int i)=ag ak:=rfl
@[simp] theorem ay6(ds:ai A):JZ (.tup ds)=ag ak:=rfl
@[simp] theorem ay8(ds:ai A):JZ (.lst ds)=ag ak:=rfl
@[simp] theorem azA(b:bc):JZ (.bl b)=ag ak:=rfl
theorem iV{Z:aH}{k:ax}{ds:ai A}(h:Z[k]?=ag (.lst ds)):eV Z (.aG k)=ag ds:=by simp[eV,h]
theorem uR{Z:aH}{k:ax}{ds:ai A}(h:Z[k]?=ag (.lst ds)):oH Z (.aG k)=ag (k,ds):=by simp[oH,h]
theorem wK{Z:aH}{a:A}{ds:ai A}(h:eV Z a=ag ds):uJ Z a:=⟨ds,h⟩
@[simp] theorem arR(Z:aH)(c:Cell):(Z++[c])[Z.length]?=ag c:=by simp
section
variable{ok:aH->Prop}{g:A->MS}{b:MS}{x:A}{xs:ai A}{Y Y0 Y1:Ev}{Z Z0 Z1:aH}{a:A}
theorem zB(h:ok Z):eY ok g b [] Y Z=ag (.nx,Y,Z):=by simp[eY,h]
theorem pX(h:ok Z)(j:g x Y Z=ag (.nx,Y0,Z0))(hb:b Y0 Z0=ag (.nx,Y1,Z1)):eY ok g b (x::xs) Y Z=eY ok g b xs Y1 Z1:=by simp[eY,h,j,hb]
theorem ar9(h:ok Z)(j:g x Y Z=ag (.nx,Y0,Z0))(hb:b Y0 Z0=ag (.ct,Y1,Z1)):eY ok g b (x::xs) Y Z=eY ok g b xs Y1 Z1:=by simp[eY,h,j,hb]
theorem Ea(I:ax->Ev->aH->Prop)(aK:∀i Y Z,I i Y Z->ok Z):∀(xs:ai A) (j:ax) (Y:Ev) (Z:aH),I j Y Z ->
  (∀i x Y Z,xs[i]?=ag x->I (j+i) Y Z->∃Y0 Z0 Y1 Z1,g x Y Z=ag (.nx,Y0,Z0)/\(b Y0 Z0=ag (.nx,Y1,Z1)\/b Y0 Z0=ag (.ct,Y1,Z1))/\I (j+i+1) Y1 Z1) ->
  ∃Y' Z',eY ok g b xs Y Z=ag (.nx,Y',Z')/\I (j+xs.length) Y' Z'
 |[],j,Y,Z,q,_=>⟨Y,Z,zB (aK _ _ _ q),q⟩
 |x::xs,j,Y,Z,q,turn=>by
  obtain⟨Y0,Z0,Y1,Z1,N,z,d⟩:=turn 0 x Y Z rfl q;obtain⟨Y',Z',B,U⟩:=Ea I aK xs (j+1) Y1 Z1 d λi y Y Z a c=>by
   have:=turn (i+1) y Y Z (by simpa using a) (by rw[show j+(i+1)=j+1+i by omega];exact c);rwa[show j+(i+1)+1=j+1+i+1 by omega]at this
  refine⟨Y',Z',?_,by rw[gZ,show j+(xs.length+1)=j+1+xs.length by omega];exact U⟩
  rcases z with z|z
  ·rw[pX (aK _ _ _ q) N z,B]
  ·rw[ar9 (aK _ _ _ q) N z,B]
end
section
variable{c:Ev->Mo bc}{b:MS}{n:ax}{Y Y1:Ev}{Z Z1 Z2:aH}{a:A}
theorem rW(j:c Y Z=ag (.ok av,Z1))(hb:b Y Z1=ag (.nx,Y1,Z2)):kC c b (n+1) Y Z=kC c b n Y1 Z2:=by simp[kC,j,hb]
theorem FJ(j:c Y Z=ag (.ok ak,Z1)):kC c b (n+1) Y Z=ag (.nx,Y,Z1):=by simp[kC,j]
end
open PySem PySem.Spec PyProof.Rows L2
def TR(K:ba)(a:ar):It :=
 ⟨λi H=>∃xs x,fB K H a xs/\xs[i]?=ag x,λi H x H'=>∃p y,H p=ao/\H'=upd H p (.tup [.int (i:aw),y])/\x=.ref p/\∀xs,fB K H a xs->xs[i]?=ag y,λi H=>∃xs,fB K H a xs/\xs.length<=i⟩
section
variable{X:Cx}{aa:ai (ar×cb)}{J:L2.St}{H:Hp}{s:au}{h':bo}
theorem Inv.abQ{t':ax}{e it:ar}(I:Inv X aa J H s)(k:∀b o,b≠e->b≠it->s.heap.get? b=ag o->h'.get? b=ag o)(fe:pH X aa H e)(d:pH X aa H it):Inv X aa J H {s with heap:=h',toks:=t' }:=by
 obtain⟨a0,a1,a2,w,t,p⟩:=fe;obtain⟨l,B,y,i,h,g⟩:=d;have ne:∀b u,H b=ag u->b≠e:=λb u q z=>by rw[z,a0]at q;cases q
 have N:∀b u,H b=ag u->b≠it:=λb u q z=>by rw[z,l]at q;cases q
 refine I.step (g':=s.gens) (d':=s.drawn) (ch:=[e,it]) (λb hb=>?_) (λb o _ _ j q _=>k b o (λz=>j (by simp[z])) (λz=>j (by simp[z])) q) (λb o _ _ j q _=>⟨o.slots,k b o (λz=>j (by simp[z])) (λz=>j (by simp[z])) q⟩) (λ_ _ _ _ n=>n)
  (λb o j q=>⟨o,k b o (λz=>j (by simp[z])) (λz=>j (by simp[z])) q⟩) (λ_ _ q=>q) (λ_ _ _ q=>q) (λb x q=>⟨#[],by rw[q];simp⟩) (λm hm=>?_) (λb u q=>?_) I.bare
 ·rcases dI.mp hb with z|z
  ·subst z;exact⟨w,a1,t,p⟩
  ·have z:b=it:=by simpa using z
   subst z;exact⟨i,B,h,g⟩
 ·obtain⟨o,es,f,a,r⟩:=hm;exact⟨o,es,f,k _ o (dX a1) (dX B) a,r⟩
 ·refine(I.aK b u q).nC (λc v j U=>k c v ?_ ?_ U) (λ_ q=>q) λ_ _ q=>q
  ·rcases j with z|z
   ·rw[z];exact ne b u q
   ·exact ne c _ z
  ·rcases j with z|z
   ·rw[z];exact N b u q
   ·exact N c _ z
end
theorem Inv.WN{X:Cx}{aa:ai (ar×cb)}{J:L2.St}{H:Hp}{s:au}{p:ar}{o:HO}(I:Inv X aa J H s)(B:H p=ao)(h0:X.s₀.heap.get? p=ao)(hL:p≠X.env.locals)(f:∀x c,X.env.cells.lookup x=ag c->c≠p)(e:∀q∈X.pn++aa,q.1≠p)
  (aK:fE X.prog X.w (upd H p o) s.heap):Inv X aa J (upd H p o) s where
 ok:=I.ok
 os:=I.os
 bare:=I.bare
 base:={
  keep:=I.base.keep
  slot:=I.base.slot
  free:=λb j q n d=>by
   have hb:b≠p:=λz=>by subst z;rw[h0]at q;cases q
   rw[bO hb];exact I.base.free b j q n d
  there:=I.base.there
  nA:=λb xs q=>by have z:=I.base.nA b xs q;rw[bO (iG z B)];exact z
  lG:=λb j u q=>by have z:=I.base.lG b j u q;rw[bO (iG z B)];exact z
  mK:=λb U q=>by obtain⟨more,z⟩:=I.base.mK b U q;exact⟨more,by rw[bO (iG z B)];exact z⟩}
 loc:=I.loc
 cell:=I.cell
 free:=by rw[bO (dX hL)];exact I.free
 mR:=λx c q=>by rw[bO (f x c q)];exact I.mR x c q
 pin:=λq N=>by
  obtain⟨a,b,c⟩:=I.pin q N;exact⟨a,by rw[bO (e q N)];exact b,c⟩
 aK:=aK
 len:=I.len
theorem abU{P:a9}{w:bf}{K:ba}{elts:ai bg}{S:ax}{T:cn}(a e j:ar)(fO:e≠j):Turn P w K (.Tuple elts S T) (TR K a) [e,j] e (λi h=>(∃old,IsEnum h e j (i:aw) old)/\h.IsListIter j a i)where
 mem:=by simp
 obj:=λi h st b hb=>by
  obtain⟨⟨old,B⟩,o,q,c,d⟩:=st
  rcases dI.mp hb with z|z
  ·subst z;exact⟨_,B,λv z=>by cases z⟩
  ·have z:b=j:=by simpa using z
   subst z;exact⟨o,q,λv z=>by rw[d]at z;cases z⟩
 keep:=λi h h' st k=>⟨let ⟨old,q⟩:=st.1; ⟨old,k e (by simp) _ q⟩,st.2.at λo q=>k j (by simp) o q⟩
 item:=by
  intro X y hw A G i aa s J H E I f st t;subst y hw A;obtain⟨⟨old,B⟩,uE⟩:=st;obtain⟨D,x,U,n⟩:=t;obtain⟨aQ,m,p,hz⟩:=I.list U;obtain⟨u,hu,ru⟩:=m.get n;have M:=f e (by simp);have L:=f j (by simp);have Q:e<s.heap.objs.size:=eB B;have r:j<s.heap.objs.size:=let ⟨_,q,_⟩:=uE;eB q;refine wpAny_pyNext_enum_item B uE p.isList (x:=u) (by simpa using hu) fO λh1 e1 i1 W z1 k1=>?_;refine⟨_,rfl,wpAny_letOwnedTupleGo_enum (s:={s with heap:=h1,toks:=s.toks+1}) e1 λh2 e2 l=>?_⟩;have N:H s.heap.objs.size=ao:=I.aK.fresh cR;have k2:∀b o,b≠e->b≠j->s.heap.get? b=ag o->h2.get? b=ag o:=λb o F n2 q=>l.extBut b o F (k1 b o F n2 q);have V:h2.get? s.heap.objs.size=ag {cls:=.type "tuple",data:=.seq #[.int (i:aw) s.toks,u]}:=l.extBut _ _ (GP Q) W;have R:Inv X aa J H {s with heap:=h2,toks:=s.toks+1}:=Inv.abQ (t':=s.toks+1) I k2 M L;have i2:h2.IsListIter j a (i+1):=i1.extBut l.extBut (dX fO);have aK:fE X.prog X.w (upd H s.heap.objs.size (.tup [.int (i:aw),x])) h2:=by
   refine λb o q=>?_
   by_cases g:b=s.heap.objs.size
   ·subst g;rw[dZ]at q;cases q;exact⟨by show 2<=ay;decide,[.int (i:aw) s.toks,u],.cons ⟨_,rfl⟩ (.cons ru .nil),⟨_,V,rfl,_,rfl⟩⟩
   ·rw[bO g]at q;exact(R.aK b o q).nC (λc v _ z=>z) (λc z=>by rw[bO (iG z N)];exact z) λc D z=>by rw[bO (iG z N)];exact z
  have C:pH X aa H s.heap.objs.size:=I.uN cR N;have h0:X.s₀.heap.get? s.heap.objs.size=ao:=by
   cases q:X.s₀.heap.get? s.heap.objs.size with
   |none=>rfl
   |some ob=>exact bp (lI (eB q) I.sz) (Nat.lt_irrefl _)
  have I2:Inv X aa J (upd H s.heap.objs.size (.tup [.int (i:aw),x])) {s with heap:=h2,toks:=s.toks+1}:=Inv.WN R N h0 C.2.1 C.2.2.2.2.1 C.2.2.2.2.2 aK;refine⟨.ref s.heap.objs.size,_,I2,rfl,⟨_,x,N,rfl,rfl,λys hy=>by rw[I.Qo hy U];exact n⟩,⟨⟨_,e2⟩,i2⟩,λb hb=>?_⟩
  rcases dI.mp hb with z|z
  ·subst z;rw[bO (gB Q)];exact M.1
  ·have z:b=j:=by simpa using z
   subst z;rw[bO (gB r)];exact L.1
 done:=by
  intro X y hw A G i aa s J H E I f st t;subst y hw A;obtain⟨⟨old,B⟩,uE⟩:=st;obtain⟨D,U,n⟩:=t;obtain⟨aQ,m,p,hz⟩:=I.list U;obtain⟨f0,f1,f2,f3,f4,f5⟩:=f j (by simp);have hl:=m.length;exact wpAny_pyNext_enum_end (I.ok.hd G) B uE p.isList (by simp;omega) λh' g=>⟨rfl,I.turned (t':=s.toks) (λb o hb e=>g b o hb e) f0 f1 f3 f4 f5⟩
 self:=λ_ _ _ _ _ st h=>let ⟨_,q⟩:=st.1;wpAny_pyIter_enum q h
section
variable{X:Cx}{W:WX}{pos:cn}
theorem ah5{elts:ai bg}{e:ax}{f p:cn}{l:bg}{tl:TE}(o:Gl X "enumerate")(hm:X.mg "enumerate" = ao)(hl:PE X l tl)(c:a5 [l] X.env=[(ak,bt l X.env)]:=by rfl) :
  PI X (.Tuple elts e f) (.Call (.Name "enumerate" p) [l] [] pos) (λJ H R=>tl J H λx H1=>∃a,x=.ref a/\(∃xs,fB X.K H1 a xs)/\R (TR X.K a) H1):=by
 intro aa s J H R I h;refine uA (BA I o hm boot_enumerate ?_);refine SU (bI (AN hl EE c pos aa s J H (λN H1=>match N with
  |[x]=>∃a,x=V.ref a/\(∃xs,fB X.K H1 a xs)/\R (TR X.K a) H1
  | _=>bz) I h) λw j ⟨N,H1,B,i,U⟩=>?_) c rfl
 match N,U with
 |[x],U =>
 obtain⟨a,t,⟨xs,m⟩,q⟩:=U;obtain⟨u,rfl,g⟩:=vals1 i;subst t;cases g;obtain⟨C,y,pl,A⟩:=B.list m;refine call_enumerate_list pl.isList λh' d r k n=>?_;refine wpAny_pyIter_enum (s:={j with heap:=h' }) d ?_;have v:Inv X aa J H1 {j with heap:=h' }:=B.kept (t':=j.toks) n;refine⟨_,[j.heap.objs.size+1,j.heap.objs.size],_,_,H1,rfl,v,abU a _ _ (Nat.succ_ne_self _),⟨⟨.none,d⟩,r⟩,λb hb=>?_,q⟩
 rcases dI.mp hb with z|z
 ·subst z;exact B.uN (GQ _) (B.aK.fresh (GQ _))
 ·have z:b=j.heap.objs.size:=by simpa using z
  subst z;exact B.uN cR (B.aK.fresh cR)
noncomputable def oE:ax->ai A->ai A
 |_,[]=>[]
 |n,x::xs => .tup [.int (n:aw),x]::oE (n+1) xs
theorem Ed:∀(n:ax) (xs:ai A),(oE n xs).length=xs.length
 |_,[]=>rfl
 |n,x::xs=>by simp only[oE,gZ,Ed (n+1) xs]
theorem Vg:∀(n i:ax) (xs:ai A),(oE n xs)[i]?=xs[i]?.map λx => .tup [.int ((n+i:ax):aw),x]
 |_,_,[]=>by simp[oE]
 |n,0,x::xs=>by simp[oE]
 |n,i+1,x::xs=>by
  simp only[oE,Zr];rw[Vg (n+1) i xs];have e:n+1+i=n+(i+1):=by omega
  rw[e]
def enumSrc(a:A)(ds:ai A):Src:=⟨oE 0 ds,λZ=>eV Z a=ag ds⟩
@[simp] def WG(f:Ev->Mo A):Ev->Mo Src:=λY=>mb (f Y) λa Z=>match eV Z a with
 |some ds=>ag (.ok (enumSrc a ds),Z)
 |none=>ao
theorem am1{K:ba}{G:Hp}{O:ai ar}{p:ar}{a:A}{ds:ai A}(d:Den K G O (.ref p) a):HE K G O (TR K p) (enumSrc a ds):=by
 have key:∀U j B b,Ext G O U j->Wd K U j B b->eV B a=ag ds->∃N,fB K b p N/\aV K U j N ds:=λU j B b e w h=>by
  obtain⟨q,N,h1,h2,c⟩:=wJ w (d.ext e) h;cases h1;exact⟨N,h2,c⟩
 refine⟨λU j B b e w h i hi=>?_,λU j B b e w h i hi=>?_,λU j B b e w h i x t y m hd=>?_⟩
 ·obtain⟨N,h2,c⟩:=key U j B b e w h;have hl:i<N.length:=by rw[c.length,<-Ed 0 ds];exact hi
  exact⟨N,N[i],h2,dP hl⟩
 ·obtain⟨N,h2,c⟩:=key U j B b e w h;exact⟨N,h2,by rw[c.length,<-Ed 0 ds];exact hi⟩
 ·obtain⟨N,h2,c⟩:=key U j B b e w h;obtain⟨q,z,g,r,o,n⟩:=hd;subst r o;have f:(oE 0 ds)[i]?=ag y:=m;rw[Vg]at f;cases ed:ds[i]? with
  |none=>rw[ed]at f;cases f
  |some d' =>
   rw[ed]at f;cases f;obtain⟨s,k,l⟩:=c.get ed;rw[n N h2]at k;cases k;refine⟨upd U q (.tup [.int (i:aw),z]),Ext.new (w.nN g) _,w.new g _,?_⟩;simp only[Den];exact⟨q,_,rfl,dZ,.cons (by simp only[Den,CW]) (.cons (l.ext (Ext.new (w.nN g) _)) .nil)⟩
theorem Kl{elts:ai bg}{B:ax}{g p:cn}{l:bg}{fe:Ev->Mo A}(k:Gl X "enumerate")(hm:X.mg "enumerate" = ao)(h:VE X W l fe)(i:a5 [l] X.env=[(ak,bt l X.env)]:=by rfl) :
  VI X W (.Tuple elts B g) (.Call (.Name "enumerate" p) [l] [] pos) (WG fe):=by
 obtain⟨t,p,s⟩:=h;refine⟨_,ah5 k hm p i,λG c d H J b R w r h=>?_⟩;refine s G c d H J b _ w r (bP.mb h λa z v n o j B N U h1=>?_);cases e:eV z a with
 |none=>simp only[e]at h1;exact False.elim h1
 |some ds =>
  simp only[e]at h1;obtain⟨q,f,h2,m,u⟩:=wJ N U e;subst h2;exact⟨q,rfl,⟨f,m⟩,h1 _ n o j (Ext.refl _ _) N (am1 U)⟩
theorem VM{st:bq}:VS X W st (λ_ _=>ao):=⟨_,ahI,λ_ _ _ _ _ _ _ _ _ h=>h.elim⟩
end
noncomputable def tH(n:ax)(js:ai ax)(Y:Ev):Ev:=List.replicate n ao++js.map (λj=>(Y[j]?).join)
def GK(X:Cx)(W:WX)(ifs:ai bg)(f:Ev->Mo bc):Prop:=∃t,GN X ifs t/\eQ X.K AL W t f
abbrev mV:Ev->Mo bc:=λ_=>ret av
theorem uB{X:Cx}{W:WX}:GK X W [] mV:=⟨_,ah1,λ_ _ _ _ _ _ _ w _ q=>jY w rfl q⟩
theorem aaZ{X:Cx}{W:WX}{c:bg}{f:Ev->Mo bc}(h:VT X W c f):GK X W [c] f:=let ⟨t,p,s⟩:=h; ⟨t,ah0 p,s⟩
open Classical in
noncomputable def oW(ok:aH->Prop)(g:A->MS)(c:Ev->Mo bc)(e:Ev->Mo A)(n:ax):ai A->Ev->aH->aq (Ev×aH)
 |[],Y,Z=>if ok Z then ag (Y,Z)else ao
 | x::xs,Y,Z=>if ok Z then(match g x Y Z with
  | some (.nx,Y1,Z1)=>(match c Y1 Z1 with
   | some (.ok av,Z2)=>(match e Y1 Z2 with
    | some (.ok y,Z3)=>(match Z3[n]? with
     |some (.lst ys)=>if ys.length<ay then oW ok g c e n xs Y1 (Z3.set n (.lst (ys++[y])))else ao
     | _=>ao)
    | _=>ao)
   |some (.ok ak,Z2)=>oW ok g c e n xs Y1 Z2
   | _=>ao)
  | _=>ao)else ao
open Classical in
noncomputable def Bb(cf:bc)(Z1:aH)(r:aq (Ev×aH)):aq (Rs A×aH):=match r with
 | some (_,Z')=>(match Z'[Z1.length]? with
  |some (.lst ys)=>if cf then ag (.ok (.aG Z1.length),Z')else if Z'.take Z1.length=Z1/\eX Z1.length ys then ag (.ok (.lst ys),Z1)else ag (.ok (.lst ys),Z'.set Z1.length .dead)
  | _=>ao)
 |none=>ao
noncomputable def mI(j:bc)(n:ax)(js:ai ax)(fi:Ev->Mo Src)(g:A->MS)(c:Ev->Mo bc)(e:Ev->Mo A):Ev->Mo A:=λY=>mb (fi Y) λS Z1=>Bb j Z1 (oW S.ok g c e Z1.length S.ds (tH n js Y) (Z1++[.lst []]))
theorem ar7{ok:aH->Prop}{g:A->MS}{c:Ev->Mo bc}{e:Ev->Mo A}{n:ax}{xs:ai A}{Y:Ev}{Z:aH}{r:Ev×aH}(h:oW ok g c e n xs Y Z=ag r):ok Z:=by
 cases xs with
 |nil=>unfold oW at h;by_cases j:ok Z;exact j;rw[a7 j]at h;cases h
 |cons=>unfold oW at h;by_cases j:ok Z;exact j;rw[a7 j]at h;cases h
theorem al4{K:ba}{G:Hp}{O:ai ar}{J:L2.St}{Y:Ev}(q:ai az)(js:ai ax)(r:hW K G O J Y):hW K G O (yP q js J) (tH q.length js Y):=by
 unfold yP tH;refine⟨by simp,λi d h=>?_⟩
 by_cases hi:i<q.length
 ·rw[kP (by simpa using hi)]at h;rw[List.getElem?_replicate,a6 hi]at h;cases h
 ·rw[GZ (by simpa using Hw hi),List.length_replicate,jV]at h;cases e:js[i-q.length]? with
  |none=>rw[e]at h;cases h
  |some j =>
   rw[e]at h;have h':(Y[j]?).join=ag d:=kE h;obtain⟨v,B,z⟩:=r.2 j d (join_some h');refine⟨v,?_,z⟩;rw[GZ (by simpa using Hw hi),lJ,jV,e];show ag (J[j]?).join=_;rw[B];rfl
section
variable{K:ba}{W:WX}
theorem adS{I:ai az}{js:ai ax}{wi:TI}{tg:TG}{tc:TT}{te:TE}{fi:Ev->Mo Src}{g:A->MS}{c:Ev->Mo bc}{e:Ev->Mo A}{cf:bc}(W0:WX)(hi:eQ K (ZS K) W wi fi)(hg:MR K W0 tg g)(hc:eQ K AL W0 tc c)(he:eQ K (Den K) W0 te e) :
  eQ K (Den K) W (WZ I js wi tg tc te) (mI cf I.length js fi g c e):=by
 intro G O Z H J Y Q w r h;refine hi G O Z H J Y _ w r (bP.mb h λS a σ H1 u B x1 w1 j1 h1=>?_);intro D hD;unfold Bb at h1;cases er:oW S.ok g c e a.length S.ds (tH I.length js Y) (a++[.lst []])with
 |none=>rw[er]at h1;exact False.elim h1
 |some rr =>
 obtain⟨T,X⟩:=rr;rw[er]at h1;simp only at h1;have hw0:Wd K u (B++[D]) (a++[.lst []]) (upd H1 D (.lst [])):=w1.cell hD ⟨w1.nN hD,[],dZ,.nil⟩;have r0:hW K u (B++[D]) (yP I js J) (tH I.length js Y):=al4 I js (r.ext (x1.trans (Ext.cell D)));have Ud:(B++[D])[a.length]?=ag D:=by rw[<-w1.len];simp
 refine⟨λi m p o=>m=S.ds.length-i/\i<=S.ds.length/\∃f j N d,Ext u (B++[D]) f j/\Wd K f j N o/\hW K f j p d/\oW S.ok g c e a.length (S.ds.drop i) d N=ag (T,X),
  ⟨_,rfl,zK _,u,_,_,_,Ext.refl _ _,hw0,r0,by simpa using er⟩,?_⟩
 rintro i m p o ⟨rfl,hil,f,j,N,d,e',E,r',h'⟩;have aK:=ar7 h';have M:Ext u B f j:=(Ext.cell D).trans e'
 by_cases dW:i<S.ds.length
 ·right
  refine⟨j1.go f j N o M E aK i dW,λR H2=>∃G2 t Z2 V,Ext u (B++[D]) G2 t/\Wd K G2 t Z2 H2/\hW K G2 t R V/\oW S.ok g c e a.length (S.ds.drop (i+1)) V Z2=ag (T,X),λR H2 n=>?_,λx H2 y=>?_⟩
  ·exact⟨S.ds.length-(i+1),by omega,rfl,dW,n⟩
  ·obtain⟨G2,e2,w2,d2⟩:=j1.zV f j N o M E aK i x H2 S.ds[i] (dP dW) y;rw[qY dW]at h';unfold oW at h';rw[a6 aK]at h';refine hg G2 j N H2 p d x S.ds[i] ⟨_,λ_ _=>bz,λ_ _=>bz,λ_ _=>bz⟩ w2 (r'.ext e2) d2 ?_
   revert h'
   generalize g S.ds[i] d N=q;intro h';split at h'
   ·rename_i U Z3;intro P H3 G3 O3 x3 w3 r3;refine hc G3 O3 Z3 H3 P U _ w3 r3 ?_
    revert h'
    generalize c U Z3=F;intro h';split at h'
    ·rename_i k;intro b H4 G4 s C w4 hb;cases(show b=av from hb);rw[a6 rfl];refine he G4 s k H4 P U _ w4 (r3.ext C) ?_
     revert h'
     generalize e U k=q3;intro h';split at h'
     ·rename_i z Z5;intro v H5 G5 O5 x5 w5 d5;split at h'
      ·rename_i ys ey;split at h'
       ·rename_i hl;have eD:=(((e'.trans e2).trans x3).trans C).trans x5;have L:=eD.pre _ _ Ud;obtain⟨l,xs,q1,F⟩:=w5.aG _ _ D ey L;refine⟨xs,q1,by rw[F.length];exact hl,G5,O5,_,U,eD,w5.put (c:=.lst (ys++[z])) L l ⟨l,_,dZ,F.append (.cons d5 .nil)⟩,(r3.ext C).ext x5,h'⟩
       ·cases h'
      ·cases h'
     ·cases h'
    ·rename_i k;intro b H4 G4 s C w4 hb;cases(show b=ak from hb);rw[a7 (by simp)];exact⟨G4,s,k,U,((e'.trans e2).trans x3).trans C,w4,r3.ext C,h'⟩
    ·cases h'
   ·cases h'
 ·have oR:i=S.ds.length:=by omega
  subst oR
  left
  refine⟨j1.stop f j N o M E aK _ cR,?_⟩;rw[xK]at h';unfold oW at h';rw[a6 aK]at h';cases h';split at h1
  ·rename_i ys ey;have L:=e'.pre _ _ Ud;obtain⟨l,xs,q1,F⟩:=E.aG _ _ D ey L;split at h1
   ·exact h1 _ o f j M E (by simp only[Den];exact⟨D,rfl,L⟩)
   ·have wf:=E.freeze L l q1;split at h1
    ·rename_i Te;have eC:Ext u B (upd f D (.lst xs)) j:=M.trans (Ext.new l _);have wc:=w1.cut wf eC (by rw[List.take_set_of_le cR];exact Te.1);refine h1 _ o _ B ⟨eC.same,λ_ _ q=>q⟩ wc ?_;simp only[Den];exact⟨D,xs,rfl,dZ,(F.ext (Ext.new l _)).cut eC.cut (by rw[w1.len];exact Te.2)⟩
    ·refine h1 _ o _ j (M.trans (Ext.new l _)) wf ?_;simp only[Den];exact⟨D,xs,rfl,dZ,F.ext (Ext.new l _)⟩
  ·exact False.elim h1
end
def XB{α β:Type}(K:ba)(rel:Rl α β)(W:WX)(f:Ev->Mo α):L2.St->Hp->(β->Hp->Prop)->Prop:=λJ H Q=>∃G O Z Y,Wd K G O Z H/\hW K G O J Y/\bP K rel W G O J Q (f Y Z)
def Md(K:ba)(W:WX)(g:A->MS):TG:=λv J H Q=>∃G O Z Y a D,Wd K G O Z H/\hW K G O J Y/\Den K G O v a/\fK K W G O D (g a Y Z)/\D.nx=Q
theorem Na{α β:Type}{K:ba}{rel:Rl α β}{W:WX}{f:Ev->Mo α}:eQ K rel W (XB K rel W f) f:=λG q z H J j Q w r h=>⟨G,q,z,j,w,r,h⟩
theorem adX{K:ba}{W:WX}{g:A->MS}:MR K W (Md K W g) g:=λG q z H J j v a D w r d h=>⟨G,q,z,j,a,D,w,r,d,h,rfl⟩
theorem VE.MG{X:Cx}{W:WX}{e:bg}{f:Ev->Mo A}(h:VE X W e f):PE X e (XB X.K (Den X.K) W f):=by
 obtain⟨t,p,s⟩:=h;exact λaa N J H Q I ⟨G,z,B,j,w,r,q⟩=>p aa N J H Q I (s G z B H J j Q w r q)
theorem GK.MG{X:Cx}{W:WX}{ifs:ai bg}{f:Ev->Mo bc}(h:GK X W ifs f):GN X ifs (XB X.K AL W f):=by
 obtain⟨t,p,s⟩:=h;exact λaa N J H Q I ⟨G,z,B,j,w,r,q⟩=>p aa N J H Q I (s G z B H J j Q w r q)
theorem VG.MG{X:Cx}{W:WX}{tg:bg}{g:A->MS}(h:VG X W tg g):PG X tg (Md X.K W g):=by
 obtain⟨t,p,s⟩:=h;intro aa N J H v u Q I U h;obtain⟨G,z,B,j,a,D,w,r,d,q,e⟩:=h;exact p aa N J H v u Q I U (e ▸ s G z B H J j v a D w r d q)
abbrev AU:WX:=λ_ _ _ _=>bz
theorem aa3{X:Cx}{W:WX}{elt tg iter:bg}{ifs:ai bg}{scope:b0}{pos:cn}{fi:Ev->Mo Src}{g:A->MS}{c:Ev->Mo bc}{e:Ev->Mo A}(U:bc)(j:ai az)(js:ai ax)(N:X.calm=av)(L:HB X scope j js)(hi:VI X W tg iter fi)
  (hb:∀cl C s H fp,VG (jP X scope j js cl C s H fp) AU tg g/\GK (jP X scope j js cl C s H fp) AU ifs c/\VE (jP X scope j js cl C s H fp) AU elt e)
  (B:∀x,cp iter X.env x=pure x:=by intro _;rfl):VE X W (.ListComp elt [⟨tg,iter,ifs,0⟩] scope pos) (mI U j.length js fi g c e):=by
 obtain⟨a,z,q⟩:=hi;exact⟨_,aiN N L z (λcl C s H fp=>⟨(hb cl C s H fp).1.MG,(hb cl C s H fp).2.1.MG,(hb cl C s H fp).2.2.MG⟩) B,adS _ q adX Na Na⟩
end V2
namespace PyProof.Rows
open PySem
noncomputable abbrev sl(p:ax×ax×ax):ax×ax:=(p.1,p.2.1)
end PyProof.Rows
namespace V2
open PySem PySem.Spec PyProof.Rows L2
noncomputable def sortI(ns:ai aw):ai aw:=ns.mergeSort λa b=>decide (a<=b)
theorem sortI_perm(ns:ai aw):(sortI ns).Perm ns:=List.mergeSort_perm ns _
theorem XN(ns:ai aw):(sortI ns).Pairwise (· <= ·):=by
 have h:=List.pairwise_mergeSort (le:=λa b:aw=>decide (a<=b)) (λa b c h1 h2=>by simp at h1 h2 ⊢;omega) (λa b=>by simp;omega) ns;exact h.imp λh=>Pg h
theorem XM{ns ms:ai aw}(p:ms.Perm ns)(h:ms.Pairwise (· <= ·)):ms=sortI ns :=
 List.Perm.eq_of_pairwise (le:=(· <= ·)) (λa b _ _ h1 h2=>Int.le_antisymm h1 h2) h (XN ns) (p.trans (sortI_perm ns).symm)
theorem AG(ns:ai aw):(sortI ns).length=ns.length:=(sortI_perm ns).length_eq
end V2
namespace M
open PySem V2
@[simp] abbrev aI:=V2.dY 0
@[simp] abbrev aW:=V2.dY 1
@[simp] abbrev bX:=V2.dY 2
@[simp] abbrev dA:=V2.dY 3
@[simp] abbrev bW:=V2.dY 4
@[simp] abbrev fM:=V2.dY 5
@[simp] abbrev mW:=V2.dY 6
@[simp] abbrev vH:=V2.dY 7
@[simp] abbrev mD:=V2.dY 8
@[simp] abbrev sO:=V2.dY 9
@[simp] abbrev sP:=V2.dY 10
@[simp] abbrev xX:=V2.dY 11
@[simp] abbrev bR:=V2.cI 0
@[simp] abbrev cL:=V2.cI 1
@[simp] abbrev gD:=V2.cI 2
@[simp] abbrev fC:=V2.cI 3
@[simp] abbrev DQ:=V2.cI 4
@[simp] abbrev IK:=V2.cI 5
@[simp] abbrev VJ:=V2.cI 6
@[simp] abbrev VH:=V2.cI 7
@[simp] abbrev wC8:=V2.cI 8
@[simp] abbrev wC9:=V2.cI 9
@[simp] abbrev NX:=V2.cI 10
@[simp] abbrev cY:=V2.QY ak
@[simp] noncomputable abbrev aE{α:Type}(a:α)(Z:V2.aH):aq (V2.Rs α×V2.aH):=ag (.ok a,Z)
@[simp] noncomputable abbrev eR(Y:V2.Ev)(Z:V2.aH):aq (V2.Out×V2.Ev×V2.aH):=ag (.nx,Y,Z)
@[simp] noncomputable abbrev aB(i:aw):aq V2.A:=ag (.int i)
@[simp] noncomputable abbrev aF(i:ax):aq V2.A:=ag (.aG i)
@[simp] noncomputable abbrev dB(i:ai V2.A):aq V2.A:=ag (.lst i)
noncomputable section
def Xn:MS :=
 (aO (bS (aC (iX) (aC (kB) (aC cY aI cL) (aC cY (cI 48271) (aC (kB) (cI 118) aW))) (cI 2147483629)) (gN 2))
  (bT (aC (iX) (aC cY (aC cY (aC (kB) (aC (mQ) bX (cI 977)) (cI 16807)) (aC (kB) bX (aC cY (aC (kB) aW aW) VH))) aW) (cI 2147483587))))
def xQ:ai A->Mo A:=cP 3 Xn
def GG:MS :=
 (aO (eI (bD (aC gK aW bR))
   (bT (aC (iX) aI VH))
   fH)
  (aO (eI (bD (aC gK aW cL))
   (bT (aC (lE) (aC (iX) aI (cI 61)) (cI 30)))
   fH)
  (aO (eI (bD (aC gK aW gD))
   (bT (aC (lE) (aC (iX) (aC (kB) aI (cI 982451653)) (aC cY (aC (kB) gD (aC (LV) NX (cI 18))) cL)) (aC (LV) NX (cI 18))))
   fH)
  (aO (eI (bD (aC gK aW fC))
   (bT IK)
   fH)
  (bT (aC aY (kR ak (aA (aC cY (aC (kB) aI (aC (LV) NX (cI 50))) VH) (aA (aC (lE) bR (aC (kB) aI (aC (LV) NX (cI 50)))) (aA aI (aA (aC (lE) bR aI) a0))))) (aC (iX) aI DQ)))))))
def xP:ai A->Mo A:=cP 2 GG
def Xl:MS :=
 (bT (aC aY (kR ak (aA cL (aA cL (aA (aC cY cL (aC (iX) (aC (mQ) aI DQ) wC9)) (aA (aC cY cL (aC (iX) (aC (mQ) aI DQ) (cI 1000000))) a0))))) (aC (iX) aI DQ)))
def UH:ai A->Mo A:=cP 1 Xl
def Fv:MS :=
 (aO (bS bR (gN 2))
  (aO (eI (bD (aC oB aW (aN lW (aA aI a0))))
   (bS (aC (iX) (aC aY aI aW) (cI 2147483647)) (gN 2))
   fH)
  (bT (aN (bA 2 xQ) (aA bX (aA (aC cY aW (cI 101)) a0))))))
def DL:ai A->Mo A:=cP 3 Fv
def CP:MS :=
 (aO (eI (bD (aC gK aW (aN lW (aA aI a0))))
   (bT (cB ak))
   fH)
  (bT (WB (aC gK dA (aN lW (aA bX a0))) (aC pV (aC aY (aC aY aI aW) bR) (aC aY (aC aY bX dA) bR)))))
def tW:ai A->Mo A:=cP 4 CP
def xH:MS :=
 (aO (bS (aC aY aI fC) (gN 2))
  (aO (bS (WE (bD (aC zA aW bR)) (aC aY (aC aY bX (aC (lE) aW cL)) cL) bR) (gN 3))
  (aO (bS (WE (bD (aC oB aW (aN lW (aA bX a0)))) (aC (lE) (aC aY (aC aY bX aW) gD) cL) (aC aY aI bR)) (gN 4))
  (bT (iR (aA dA (aA bW a0)))))))
def qC:ai A->Mo A:=cP 5 xH
def Fe:MS :=
 (aO (bS (aN (bA 2 qC) (aA aW (aA bX a0))) (gN 3))
  (bT (iR (aA (aC aY aI bR) (aA (aC cY (aC aY aI cL) (aC aY dA bR)) (aA (aC cY (aC aY aI gD) (aC aY dA cL)) a0))))))
def xO:ai A->Mo A:=cP 4 Fe
def FZ:MS :=
 (eI (bD (aN (bA 4 tW) (aA (aC aY aI fC) (aA dA (aA (aC aY aW fC) (aA bW a0))))))
    (aO (jC (lA pW bX (aA (aN (bA 3 xO) (aA (aC aY (aC aY aI fC) dA) (aA aW (aA bW a0)))) a0)))
    (bS (aC cY dA cL) (gN 3)))
    (aO (jC (lA pW bX (aA (aN (bA 3 xO) (aA (aC aY (aC aY aW fC) bW) (aA aI (aA dA a0)))) a0)))
    (bS (aC cY bW cL) (gN 4))))
def CN:Ev->Mo bc :=
 (fG (bD (aC oB dA (aN lW (aA (aC aY aI fC) a0)))) (bD (aC oB bW (aN lW (aA (aC aY aW fC) a0)))))
def Xg:MS :=
 (aO (bS (kR av a0) (gN 2))
  (aO (bS bR (gN 3))
  (aO (bS bR (gN 4))
  (aO (λY Z=>kC CN FZ ((λ_ _=>1000000) Y Z) Y Z)
  (bT (vM 2))))))
def UD:ai A->Mo A:=cP 5 Xg
def Xi:MS :=
 (aO (bS (aC cY (aC aY aI bR) (aC aY aW bR)) (gN 2))
  (aO (bS (aC cY (aC aY aI cL) (aC aY aW cL)) (gN 3))
  (aO (bS (aN pU (aA (aC aY aI gD) (aA (aC aY aW gD) a0))) (gN 4))
  (bT (iR (aA bX (aA dA (aA bW (aA (aN (bA 2 UD) (aA aI (aA aW a0))) a0)))))))))
def HJ:ai A->Mo A:=cP 5 Xi
def Fc:MS :=
 (bT (WB (aC gK (aC aY aW bR) (aC aY aI bR)) (aC pV (aC aY aW gD) (aC cY (aC cY (aC aY aI cL) bX) cL))))
def NN:ai A->Mo A:=cP 3 Fc
def zI:MS :=
 (eI (fG (bD (aC gK bW bR)) (fG (bD (aC gK bW dA)) (fY (bD (aN (bA 3 NN) (aA (aC aY bX (WC cL)) (aA (aC aY aI (aC cY bW cL)) (aA aW a0))))))))
    (jC (lA pW bX (aA fM a0)))
    fH)
def Fh:MS :=
 (aO (bS (kR av a0) (gN 2))
  (aO (bS (aC (lE) (aN lW (aA aI a0)) cL) (gN 3))
  (aO (jX (WG aI) (lV 2 (fJ (gN 4) (fJ (gN 5) mP))) zI)
  (bT (vM 2)))))
def NP:ai A->Mo A:=cP 6 Fh
def Xb:MS :=
 (aO (bS (aC aY aI bR) (gN 2))
  (aO (bS (aC cY (aC aY aI cL) (aC (mQ) bX aW)) (gN 3))
  (bT (iR (aA bX (aA dA (aA (aC cY (aC aY aI gD) cL) (aA (aN (bA 2 NP) (aA (aC aY aI fC) (aA dA a0))) a0))))))))
def NJ:ai A->Mo A:=cP 4 Xb
end
end M
namespace V2
open PySem PySem.Spec PyProof.Rows L2
noncomputable def gM(kvs:ai (Key×A))(k:Key):aq A:=(kvs.find? λj=>decide (j.1=k)).map (·.2)
noncomputable def kT(kvs:ai (Key×A))(k:Key)(a:A):ai (Key×A) :=
 if kvs.any λj=>decide (j.1=k)then kvs.map (λj=>if j.1=k then(j.1,a)else j)else kvs++[(k,a)]
noncomputable def lC:A->aq Key
 |.int i=>ag (.inl i)
 |.str x=>ag (.inr x)
 |_=>ao
section
variable{K:ba}{G:Hp}{O:ai ar}
theorem JW{v:V}{a:A}{k:Key}(d:Den K G O v a)(h:lC a=ag k):v=kV k:=by
 cases a with
 |int i=>simp only[lC,kO]at h;subst h;simp only[Den]at d;exact d
 |str i=>simp only[lC,kO]at h;subst h;simp only[Den]at d;exact d
 |_=>simp[lC]at h
theorem IP{k:Key}:∀{j:ai (Key×V)} {kvs:ai (Key×A)},j.map (·.1)=kvs.map (·.1)->aV K G O (j.map (·.2)) (kvs.map (·.2))->(∀a,gM kvs k=ag a->∃v,kJ j k=ag v/\Den K G O v a)/\(gM kvs k=ao->kJ j k=ao)
 |[],[],_,_=>⟨λa h=>(by cases h),λ_=>rfl⟩
 |[],_::_,h,_=>by simp at h
 |_::_,[],h,_=>by simp at h
 |p::j,q::kvs,h,d=>by
  simp only[cK,qZ]at h;obtain⟨x,r,e,n,m⟩:=d.mJ;simp only[cK,qZ]at e;obtain⟨l,i⟩:=e;obtain⟨c,b⟩:=IP (k:=k) h.2 (i ▸ m)
  by_cases B:q.1=k
  ·have N:p.1=k:=h.1.trans B;refine⟨λa U=>?_,λhn=>?_⟩
   ·simp only[gM,DF,B,decide_true,GO,kO]at U;exact⟨p.2,by simp[kJ,N],by rw[<-U,l];exact n⟩
   ·simp[gM,B]at hn
  ·have N:¬p.1=k:=λz=>B (h.1.symm.trans z);have f:kJ (p::j) k=kJ j k:=by simp[kJ,N]
   have g:gM (q::kvs) k=gM kvs k:=by simp[gM,B]
   rw[f,g];exact⟨c,b⟩
theorem Xv{k:Key}{q:ai (Key×V)}{kvs:ai (Key×A)}(h:q.map (·.1)=kvs.map (·.1)):(q.any λj=>decide (j.1=k))=(kvs.any λj=>decide (j.1=k)):=by
 have B:(q.any λj=>decide (j.1=k))=(q.map (·.1)).any λx=>decide (x=k):=by rw[List.any_map];rfl
 have z:(kvs.any λj=>decide (j.1=k))=(kvs.map (·.1)).any λx=>decide (x=k):=by rw[List.any_map];rfl
 rw[B,z,h]
theorem agX{k:Key}{v:V}{a:A}{q:ai (Key×V)}{kvs:ai (Key×A)}(h:q.map (·.1)=kvs.map (·.1)):(putK q k v).map (·.1)=(kT kvs k a).map (·.1):=by
 unfold putK kT;rw[Xv h];split
 ·rw[xJ,xJ];have B:q.map ((·.1) ∘ λj:Key×V=>if j.1=k then(j.1,v)else j)=q.map (·.1):=GX λx _=>by simp only[Function.comp];split <;> rfl
  have z:kvs.map ((·.1) ∘ λj:Key×A=>if j.1=k then(j.1,a)else j)=kvs.map (·.1):=GX λx _=>by simp only[Function.comp];split <;> rfl
  rw[B,z,h]
 ·rw[DD,DD,h];rfl
theorem Ny{k:Key}{v:V}{a:A}(B:Den K G O v a):∀{z:ai (Key×V)} {kvs:ai (Key×A)},z.map (·.1)=kvs.map (·.1)->aV K G O (z.map (·.2)) (kvs.map (·.2))->aV K G O ((z.map λj=>if j.1=k then(j.1,v)else j).map (·.2)) ((kvs.map λj=>if j.1=k then(j.1,a)else j).map (·.2))
 |[],[],_,_ => .nil
 |[],_::_,h,_=>by simp at h
 |_::_,[],h,_=>by simp at h
 |p::z,q::kvs,h,d=>by
  simp only[cK,qZ]at h;obtain⟨x,r,e,c,b⟩:=d.mJ;simp only[cK,qZ]at e;obtain⟨U,N⟩:=e;have ih:=Ny (k:=k) B h.2 (N ▸ b);simp only[cK];refine .cons ?_ ih;rw[h.1];split
  ·exact B
  ·rw[U];exact c
theorem agY{k:Key}{v:V}{a:A}{j:ai (Key×V)}{kvs:ai (Key×A)}(h:j.map (·.1)=kvs.map (·.1))(d:aV K G O (j.map (·.2)) (kvs.map (·.2)))(q:Den K G O v a):aV K G O ((putK j k v).map (·.2)) ((kT kvs k a).map (·.2)):=by
 unfold putK kT;rw[Xv h];split
 ·exact Ny q h d
 ·rw[DD,DD];exact d.append (.cons q .nil)
noncomputable def kX(Z:aH):A->aq (ax×ai (Key×A))
 |.aG k=>match Z[k]? with
  |some (.bE kvs)=>ag (k,kvs)
  |_=>ao
 |_=>ao
theorem zF{H:Hp}{Z:aH}{v:V}{a:A}{k:ax}{kvs:ai (Key×A)}(w:Wd K G O Z H)(d:Den K G O v a)(h:kX Z a=ag (k,kvs)):∃p q,v=.ref p/\O[k]?=ag p/\G p=ao/\H p=ag (.dK q)/\q.map (·.1)=kvs.map (·.1)/\aV K G O (q.map (·.2)) (kvs.map (·.2)):=by
 cases a with
 |aG j =>
  simp only[kX]at h;split at h
  ·rename_i es e;cases h;simp only[Den]at d;obtain⟨p,rfl,z⟩:=d;obtain⟨g,q,U,N,B⟩:=w.aG k _ p e z;exact⟨p,q,rfl,z,g,U,N,B⟩
  ·cases h
 |_=>simp[kX]at h
theorem CK{Z:aH}{k:ax}{kvs:ai (Key×A)}(h:Z[k]?=ag (.bE kvs)):kX Z (.aG k)=ag (k,kvs):=by simp[kX,h]
end
section
variable{X:Cx}{W:WX}{o i e:bg}{pos:cn}{fo fi fe:Ev->Mo A}
@[simp] noncomputable def uC:Ev->Mo A:=λ_ Z=>ag (.ok (.aG Z.length),Z++[.bE []])
theorem IM:VE X W (.Dict [] [] pos) uC:=by
 refine⟨_,aiU,λG q B H J z Q w r h=>?_⟩;intro p j;refine h _ _ G (q++[p]) (Ext.cell p) (w.cell j ⟨w.nN j,[],dZ,rfl,.nil⟩) ?_;simp only[Den];exact⟨p,rfl,by rw[<-w.len];simp⟩
@[simp] def Dr(o i:A):Mo A:=λZ=>match kX Z o,lC i with
 |some (_,kvs),ag k=>match gM kvs k with
  |some a=>ag (.ok a,Z)
  |none=>ao
 |_,_=>ao
theorem abA(M:X.A.units+1<dm)(R:VE X W o fo)(hi:VE X W i fi)(P:Ht i):VE X W (.Subscript o i pos) (aC Dr fo fi):=by
 obtain⟨t,K,C⟩:=R;obtain⟨u,I,s⟩:=hi;refine⟨_,aiW M K I P,λG b d H J B Q w r h=>?_⟩;refine C G b d H J B _ w r (bP.mb h λx z v H1 G1 q f l d1 h1=>?_);refine s G1 q z H1 J B _ l (r.ext f) (bP.mb h1 λy c u H2 G2 j e N d2 h2=>?_);unfold Dr at h2;split at h2
 ·rename_i k0 L k V T;split at h2
  ·rename_i a S;obtain⟨p,ws,rfl,hk,g,F,E,D⟩:=zF N (d1.ext e) V;obtain⟨U,n,m⟩:=(IP E D).1 a S;rw[JW d2 T];exact⟨p,U,rfl,by rw[<-n];exact pL.k F,h2 U H2 G2 j (Ext.refl _ _) N m⟩
  ·exact False.elim h2
 ·exact False.elim h2
@[simp] def Dq(o i z:A):Mo A:=λZ=>match kX Z o,lC i with
 |some (_,kvs),ag k=>ag (.ok ((gM kvs k).getD z),Z)
 |_,_=>ao
def Bl(Z:aH)(a:A):Prop:=∃k kvs,kX Z a=ag (k,kvs)
open Classical in
@[simp] noncomputable def AB(fo fi fe:Ev->Mo A):Ev->Mo A:=λY=>mb (fo Y) λo Z=>if Bl Z o then mb (fi Y) (λi=>mb (fe Y) λz=>Dq o i z) Z else ao
theorem Ks{af:cn}(hu:X.A.units+1<dm)(ho:VE X W o fo)(hi:VE X W i fi)(he:VE X W e fe)(m:M2 X o "get" af i e pos):VE X W (.Call (.Attribute o "get" af) [i,e] [] pos) (AB fo fi fe):=by
 obtain⟨t,p1,s1⟩:=ho;obtain⟨u,p2,s2⟩:=hi;obtain⟨u',p3,s3⟩:=he;refine⟨_,aiV hu p1 p2 p3 m,λG K M H J N Q w r h=>?_⟩;refine s1 G K M H J N _ w r (bP.mb h λx d v H1 G1 b C D E h1=>?_);split at h1
 ·rename_i hd;obtain⟨k0,amC,e0⟩:=hd;obtain⟨p,R,rfl,hk,g,q1,q2,q3⟩:=zF D E e0;refine⟨p,rfl,.inl ⟨R,.inl q1⟩,?_⟩;refine s2 G1 b d H1 J N _ D (r.ext C) (bP.mb h1 λy c u H2 G2 U s S d2 h2=>?_);refine s3 G2 U c H2 J N _ S ((r.ext C).ext s) (bP.mb h2 λz L u3 F I q n f d3 j=>?_);unfold Dq at j;split at j
  ·rename_i k1 l k e1 e2;obtain⟨p',lL,P,QS,g',r1,r2,r3⟩:=zF f (E.ext (s.trans n)) e1;cases P;rw[JW (d2.ext n) e2];refine⟨kJ lL k,pL.k r1,?_⟩;obtain⟨i1,i2⟩:=IP (k:=k) r2 r3;cases B:gM l k with
   |none =>
    rw[B]at j;rw[i2 B];exact j _ F I q (Ext.refl _ _) f d3
   |some a =>
    rw[B]at j;obtain⟨v',V,T⟩:=i1 a B;rw[V];exact j _ F I q (Ext.refl _ _) f T
  ·exact False.elim j
 ·exact False.elim h1
@[simp] def OW(o i v:A)(Z:aH):aq aH:=match kX Z o,lC i with
 |some (k,kvs),ag key=>if kvs.length<ay then ag (Z.set k (.bE (kT kvs key v)))else ao
 |_,_=>ao
@[simp] def vT(fe fo fi:Ev->Mo A):MS:=λY=>sM (fe Y) Y λa=>sM (fo Y) Y λo=>sM (fi Y) Y λi Z=>match OW o i a Z with
 |some Z'=>ag (.nx,Y,Z')
 |none=>ao
theorem OA{pos':cn}(hu:X.A.units+1<dm)(ho:VE X W o fo)(hi:VE X W i fi)(he:VE X W e fe)(hs:dj e (ag (.Subscript o i pos')) pos.line X.env=pure ak:=by rfl):VS X W (.Assign [.Subscript o i pos'] e pos) (vT fe fo fi):=by
 obtain⟨t,p1,S⟩:=ho;obtain⟨u,p2,R⟩:=hi;obtain⟨u',p3,Q⟩:=he;refine⟨_,ahN hu p1 p2 p3 hs,λG E K H J a D w r h=>?_⟩;refine Q G E K H J a _ w r (fK.sM h r λz l v H1 G1 d j P d1 h1=>?_);refine S G1 d l H1 J a _ P (r.ext j) (fK.sM h1 (r.ext j) λx f vo H2 G2 b N M d2 h2=>?_);refine R G2 b f H2 J a _ M ((r.ext j).ext N) (fK.sM h2 ((r.ext j).ext N) λy F vi H3 G3 C m s d3 U=>?_);unfold OW at U;split at U
 ·rename_i I B;split at B
  ·rename_i k q key e1 e2;split at B
   ·rename_i hl;cases B;obtain⟨p,L,rfl,hk,g,V,n,T⟩:=zF s (d2.ext m) e1;rw[JW d3 e2];have KC:L.length=q.length:=by have:=cy List.length n;simpa using this
    refine⟨p,_,rfl,NT.k V (by rw[KC];exact hl),?_⟩;exact wD (s.put (c:=.bE (kT q key z)) hk g ⟨g,_,dZ,agX n,agY n T (d1.ext (N.trans m))⟩) (((r.ext j).ext N).ext m) U
   ·cases B
  ·cases B
 ·exact False.elim U
noncomputable def intKeys:ai (Key×A)->aq (ai aw)
 |[]=>ag []
 |(.inl i,_)::r=>(intKeys r).map (i :: ·)
 |_=>ao
theorem Rc:∀{kvs:ai (Key×A)} {ns:ai aw},intKeys kvs=ag ns->kvs.map (·.1)=ns.map Sum.inl
 |[],ns,h=>by simp only[intKeys,kO]at h;subst h;rfl
 |(.inl i,_)::r,ns,h=>by
  simp only[intKeys,CT]at h;obtain⟨ms,h1,rfl⟩:=h;simp[Rc h1]
 |(.inr i,_)::r,ns,h=>by simp[intKeys]at h
@[simp] def Dk(c:bc)(as:ai A):Mo A:=λZ=>match as with
 | [a]=>(match kX Z a with
  | some (_,kvs)=>(match intKeys kvs with
   |some ns=>if ns.length<64 then nG c ((sortI ns).map A.int) Z else ao
   | none=>ao)
  | none=>ao)
 |_=>ao
theorem avK(b:X.calm=av)(c:bc):xV X W (.builtin "sorted") (Dk c):=by
 refine⟨_,avB b,?_⟩;intro G n o H J r u Q w d h;unfold Dk at h;split at h
 ·rename_i a;split at h
  ·rename_i k B e;split at h
   ·rename_i ns f;split at h
    ·rename_i m;obtain⟨x,rfl,i⟩:=CG d;obtain⟨p,j,rfl,t,g,z,q,s⟩:=zF w i e;refine⟨p,j,ns,rfl,z,by rw[q];exact Rc f,m,λms l U N hl=>?_⟩;rw[XM U N];exact yN w hl (RG _) h
    ·exact False.elim h
   ·exact False.elim h
  ·exact False.elim h
 ·exact False.elim h
end
end V2
namespace L2
open PySem PySem.Spec PyProof.Rows
theorem cM.yC{k:ax}{A:bj}(r:cM k A):A.units+1<dm:=by have:=r.units;omega
end L2
namespace M
open PySem V2
noncomputable section
def RP:MS :=
 (vT (aC cY (AB aW bX bR) dA) aW bX)
def Xe:Ev->Mo A :=
 (mI ak 1 [1] (fD (aN (Dk ak) (aA aW a0))) (gN 0) mV (iR (aA aI (aA (aC Dr aW aI) a0))))
def RQ:MS :=
 (aO (bS uC (gN 1))
  (aO (jX (fD aI) (lV 2 (fJ (gN 2) (fJ (gN 3) mP))) RP)
  (bT Xe)))
def NL:ai A->Mo A:=cP 4 RQ
end
end M
namespace L2
open PySem PySem.Spec PyProof.Rows
def Hs(j:ai ar)(H:Hp):Prop:=∀b,H b=ao\/(∃o xs,H b=ag (.eP o (.lst xs)))\/(b∈j/\H b=ag (.iN #[]))
def vE(h:bo)(mg:az->aq aj):Prop:=∃j o,mg "__builtins__" = ag (.ref j)/\j≠builtinsNs/\h.get? j=ag o/\o.cls=.type "module"/\o.dict=ag builtinsNs/\o.data=.plain
theorem al9{P:a9}{w:bf}{K:ba}{mg mb:az->aq aj}{CX:pM}{k:ax}{fa a:ar}{fd:b8}{x:az}{sp:Sp}{s₁:au}{vs:ai aj}{ns:ai aw}{j:ai ar}
  (T:K.In s₁.heap) (KR:s₁.heap.Ns a8 mg) (hb:s₁.heap.Ns builtinsNs mb) (C:∀x:az,x≠"__name__"->mb x=cm x) (R:s₁.heap.NoLimit) (hg:s₁.gens=#[])
  (hT:∀P∈j,s₁.heap.get? P=ag (tabObj #[])) (LQ:noTabs K=av) (Cw:∀P∈j,isCodeTable s₁.heap P)
  (U:s₁.heap.get? a=ag {cls:=.type "list",data:=.seq vs.toArray}) (hi:cu vs ns) (hl:ns.length<=ay) (hr:cM k callerA)
  (E:vE s₁.heap mg) (F:∀base:bo,K.In base->base.Ns a8 mg->vE base mg->hJ P w K mg base CX k fa fd [x] sp) (BO:∀(s:au) (u:aj),BindsTo s fd ⟨[u],[]⟩ [(x,u)])
  (kW:∀H:Hp,Hs j H->(∀P∈j,H P=ag (.iN #[]))->fB K H a (ns.map V.int)->sp [.ref a] H (λv _=>v=.bl av) λ_ _ _=>bz)
  (De:∀H e s',CX [] H s₁ (λ_ _ _=>bz) e s'->bz) :
  codeAny (bb P w) callerA (.call (.ref fa) ⟨[.ref a],[]⟩) (λr s'=>r=.ok (.ret (.bool av))/\OldK s₁.heap s'.heap/\s'.os=s₁.os/\AllBare s'.gens) s₁:=by
 have rv:=OD hi;have S:=hi.length;have D:∀b∈j,K.lookup b=ao:=λb L=>by
  cases q:K.lookup b with
  |none=>rfl
  |some o =>
   have e:=T b o q;rw[hT b L]at e;cases e;exact bp (show ak=av from HA.mp LQ (b,_) (PySem.W.mem_of_lookupK q)) Jw
 have Tt:a∉j:=λz=>by
  have e:=hT a z;rw[U]at e;cases e
 have core:∀H:Hp,Hs j H->(∀P∈j,H P=ag (.iN #[]))->fB K H a (ns.map V.int)->fE P w H s₁.heap->(∀b,H b≠ao->b=a\/b∈j)->(H a≠ao->K.lookup a=ao) ->
   codeAny (bb P w) callerA (.call (.ref fa) ⟨[.ref a],[]⟩) (λr s'=>r=.ok (.ret (.bool av))/\OldK s₁.heap s'.heap/\s'.os=s₁.os/\AllBare s'.gens) s₁:=by
  intro H hO LO hS aK I hK;have X:∀{b:ar} {o:cb},s₁.heap.get? b=ag o->H b=ao->(uL s₁.heap H).get? b=ag o:=λe n=>ao8 e n;have wG:∀{b:ar} {o:cb} {es:bh DictEntry} {c:ax},s₁.heap.get? b=ag o->o.data=.dict es c->H b=ao:=λ{b o es c} e d=>by
   cases q:H b with
   |none=>rfl
   |some u =>
    rcases I b (by rw[q];simp)with B|B
    ·subst B;rw[U]at e;cases e;have d':Data.seq vs.toArray _=Data.dict es c:=d;cases d'
    ·rw[hT b B]at e;cases e;have d':Data.fields #[]=Data.dict es c:=d;cases d'
  have t:∀{b:ar} {m:az->aq aj},s₁.heap.Ns b m->(uL s₁.heap H).Ns b m:=λ{b m} ⟨o,es,c,e,d,r⟩=>⟨o,es,c,X e (wG e d),d,r⟩
  have Uc:K.In (uL s₁.heap H):=λb o e=>X (T b o e) (by
   cases q:H b with
   |none=>rfl
   |some u =>
    rcases I b (by rw[q];simp)with B|B
    ·subst B;rw[hK (by rw[q];simp)]at e;cases e
    ·rw[D b B]at e;cases e)
  have hM:Mod K mg (uL s₁.heap H):=⟨Uc,t KR,⟨mb,t hb,C⟩,let ⟨mc,h1,h2⟩:=R; ⟨mc,t h1,h2⟩⟩;have e0:xR P w K mg (uL s₁.heap H) callerA [] s₁ H:=⟨rfl,hM,λb o e=>aj2 e,Nat.le_of_eq (ao7 _ _),trivial,λb hb=>bp (show b∈([]:ai ar)from hb) (by simp),aK,.of_eq hg⟩;have G:vE (uL s₁.heap H) mg:=by
   obtain⟨p,o,b1,b2,i,Q,b5,b6⟩:=E;refine⟨p,o,b1,b2,X i ?_,Q,b5,b6⟩;cases q:H p with
   |none=>rfl
   |some u =>
    rcases I p (by rw[q];simp)with B|B
    ·subst B;rw[U]at i;cases i;exact bp (show Value.type "list" = Value.type "module" from Q) (by decide)
    ·rw[hT p B]at i;cases i;cases Q
  refine rZ ((F _ Uc (t KR) G).run callerA [] s₁ H ⟨[.ref a],[]⟩ [.ref a] [.ref a] _ _ hr e0 (BO s₁ (.ref a)) (.cons rfl .nil) (kW H hO LO hS)) λr s' h=>?_;cases r with
  |error e=>exact(De H e s' h).elim
  |ok fl =>
   cases fl with
   |next=>exact False.elim h
   |brk=>exact False.elim h
   |cont=>exact False.elim h
   |ret u =>
    obtain⟨v,H',os,bare,un,QM,r',q⟩:=h;have q':v=.bl av:=q;subst q';obtain rfl:u=Value.bool av:=r';have key:∀b o,s₁.heap.get? b=ag o->s'.heap.get? b=ag o\/(b∈j/\∃more,s'.heap.get? b=ag {o with data:=.fields (#[]++more)}):=λb o e=>by
     cases q:H b with
     |none=>exact .inl (un.keep b o e q (by intro z;exact bp (show b∈([]:ai ar)from z) (by simp)) (by simp))
     |some u =>
      rcases hO b with z|⟨ob,xs,z⟩|⟨f,z⟩
      ·rw[q]at z;cases z
      ·have y:=un.lG b ob _ z;obtain⟨e1,_⟩:=aK b _ z;obtain⟨M,_⟩:=QM b _ y;rw[e]at e1;cases e1;exact .inl M
      ·obtain⟨more,y⟩:=un.mK b _ z;have M:=QM b _ y;have e3:s'.heap.get? b=ag {cls:=.none,data:=.fields (#[]++more)}:=M;have g:=hT b f;rw[e]at g;cases g;exact .inr ⟨f,more,e3⟩
    refine⟨rfl,⟨λb o e=>?_,λb o e=>?_⟩,os,bare⟩
    ·rcases key b o e with z|⟨f,more,z⟩
     ·exact .inl z
     ·have g:=hT b f;rw[e]at g;cases g;exact .inr (.inl ⟨Cw b f,rfl,#[],more,rfl,z⟩)
    ·rcases key b o e with z|⟨f,more,z⟩
     ·exact⟨_,z⟩
     ·exact⟨_,z⟩
 have tk:∀b∈j,iC P w (λb=>if b=a then ag (.eP {cls:=.type "list",data:=.seq vs.toArray} (.lst (ns.map V.int)))else if b∈j then ag (.iN #[])else ao) s₁.heap b (.iN #[]):=λb L=>hT b L;cases A:K.lookup a with
 |some o =>
  have e:=T a o A;rw[U]at e;cases e;refine core (λb=>if b∈j then ag (.iN #[])else ao) (λb=>?_) (λP l=>a6 l) (.inr ⟨_,vs.toArray,_,A,rfl,rfl,rfl,by rw[iZ,S];exact hl,by simpa using rv⟩) (λb u z=>?_) (λb z=>?_) λz=>?_
  ·by_cases hb:b∈j
   ·exact .inr (.inr ⟨hb,a6 hb⟩)
   ·exact .inl (a7 hb)
  ·by_cases hb:b∈j
   ·have N:=(a6 hb).symm.trans z;cases N;exact hT b hb
   ·have N:=(a7 hb).symm.trans z;cases N
  ·by_cases hb:b∈j
   ·exact .inr hb
   ·exact bp (a7 hb) z
  ·exact bp (a7 Tt) z
 |none =>
  refine core (λb=>if b=a then ag (.eP {cls:=.type "list",data:=.seq vs.toArray} (.lst (ns.map V.int)))else if b∈j then ag (.iN #[])else ao) (λb=>?_) (λP l=>?_) (.inl (.inr ⟨{cls:=.type "list",data:=.seq vs.toArray},a6 rfl⟩)) (λb u z=>?_) (λb z=>?_) λ_=>A
  ·by_cases hb:b=a
   ·exact .inr (.inl ⟨_,_,a6 hb⟩)
   ·by_cases jS:b∈j
    ·exact .inr (.inr ⟨jS,(a7 hb).trans (a6 jS)⟩)
    ·exact .inl ((a7 hb).trans (a7 jS))
  ·have fO:P≠a:=λz=>Tt (z ▸ l);exact(a7 fO).trans (a6 l)
  ·by_cases hb:b=a
   ·have N:=(a6 hb).symm.trans z;cases N;subst hb;exact⟨U,by rw[lJ];exact hl,vs,_,rv,U⟩
   ·by_cases jS:b∈j
    ·have N:=((a7 hb).trans (a6 jS)).symm.trans z;cases N;exact hT b jS
    ·have N:=((a7 hb).trans (a7 jS)).symm.trans z;cases N
  ·by_cases hb:b=a
   ·exact .inl hb
   ·by_cases jS:b∈j
    ·exact .inr jS
    ·exact bp ((a7 hb).trans (a7 jS)) z
theorem aaQ{l:OpenLaw}{n k:ax}{q:a9}{loose:ai az}{XP:(az->aq aj)->bo->Prop}{YP:bf->bo->Prop}{d:DefRec}{K:Params->ba}{CX:bf->pM}{sp:bf->Sp}{x:az}{j:ai ar}
  (hn:l.most=ag n) (BG:n<=ay) (R:d.params.defaults=[]) (hr:cM k callerA)
  (p:∀(w:bf) (h:bo),YP w h->(K w.params).In h/\∀P∈j,h.get? P=ag (tabObj #[]))
  (M:∀w:bf,noTabs (K w.params)=av)
  (F:∀(w:bf) (mg:az->aq aj) (fa:ar) (h:bo),(K w.params).In h->h.Ns a8 mg->mg d.name=ag (.ref fa) ->
   ∃fd:b8,(∀(s:au) (u:aj),BindsTo s fd ⟨[u],[]⟩ [(x,u)])/\(∀P∈j,∃c,codeHdIn (K w.params) c P=av) /\
    ∀base:bo,(K w.params).In base->base.Ns a8 mg->vE base mg->hJ l.prog w (K w.params) mg base (CX w) k fa fd [x] (sp w))
  (U:∀(w:bf) (H:Hp) (a:ar) (ns:ai aw),ns.length<=n->Hs j H->(∀P∈j,H P=ag (.iN #[]))->fB (K w.params) H a (ns.map V.int)->sp w [.ref a] H (λv _=>v=.bl av) λ_ _ _=>bz)
  (X:∀(w:bf) (H:Hp) (s:au) (e:aj) (s':au),CX w [] H s (λ_ _ _=>bz) e s'->bz) :
  PySem.W.WalkO q loose XP YP l.row.toRowW d [] (λf vs=>PySem.call f vs):=by
 refine Att.av0 hn R λw s₀ s₁ mg mb fa o pm cd doc a vs ns G ρ ho hd hZ S By hints hlen i=>?_;obtain⟨z,hT⟩:=p w _ ρ;obtain⟨fd,hb,Cw,t⟩:=F w mg fa _ z G.T.g S;refine al9 z G.T.g G.T.b G.T.builtins G.T.nolimit i hT (M w) (λP B=>?_) By hints (pC hlen BG) hr (let ⟨y,N,L,I,E,D,C,A⟩:=G.T.bmain; ⟨y,N,L,I,E,D,C,A⟩) t hb (λH r Q hS=>U w H a ns hlen r Q hS) λH e s'=>X w H s₁ e s';obtain⟨c,m⟩:=Cw P B;exact((PySem.W.codeHd_of_K z m).tab (hT P B)).isCodeTable
structure uY(h:bo)(H:Hp)(f:ar)(qual:az)(params:ck)(body:bg)(scope:b0)(cX:ai (az×aw)):Prop where
 ex:∃(cl:ai (az×ar)) (pm fR:aj) (c':ar) (oc:cb) (vs:bh aj) (t:Tok),
  H f=ag (.eP (kla_obj "<lambda>" qual params body scope cl pm c' fR) (.own 0))/\H c'=ag (.eP oc (.own 0))/\oc.data=.fields vs/\vs[1]?=ag (.str qual t) /\
  (∀x y c,cl.lookup x=ag c->cl.lookup y=ag c->x=y)/\(∀y∈scope.names,y.2=.free->∃c,cl.lookup y.1=ag c) /\
  (∀x c,cl.lookup x=ag c->(∃v,h.IsCell c v)/\H c=ao)/\∀p∈cX,∃c t,cl.lookup p.1=ag c/\h.IsCell c (ag (.int p.2 t))
theorem uY.nC{h h':bo}{H H':Hp}{f:ar}{qual:az}{params:ck}{body:bg}{scope:b0}{cX:ai (az×aw)}{fs:ai ar}(L:uY h H f qual params body scope cX)(u:Un fs [] H H' h h'):uY h' H' f qual params body scope cX:=by
 obtain⟨cl,pm,m,r,a,N,t,h1,h2,l,k,i,g,B,d⟩:=L.ex;have cell:∀{x c v},cl.lookup x=ag c->h.IsCell c v->h'.IsCell c v:=λ{x c v} e ⟨o,z,hd⟩=>by
  obtain⟨sl,q⟩:=u.any z (B x c e).2 (by simp);exact⟨_,q,hd⟩
 refine⟨cl,pm,m,r,a,N,t,u.lG _ _ _ h1,u.lG _ _ _ h2,l,k,i,g,λx c e=>?_,λp b=>?_⟩
 ·obtain⟨⟨v,j⟩,n⟩:=B x c e;obtain⟨o,z,_⟩:=id j;exact⟨⟨v,cell e j⟩,u.free _ _ z n (by simp)⟩
 ·obtain⟨c,U,e,j⟩:=d p b;exact⟨c,U,e,cell e j⟩
noncomputable def zD(P:a9)(w:bf)(K:ba)(mg:az->aq aj)(base:bo)(N:ai az)(qual:az)(scope:b0)(f:ar)(j:aj)(cl:ai (az×ar))(A:bj)(outer:ai Env)(s:au)(H:Hp):Cx where
 prog:=P
 w:=w
 K:=K
 mg:=mg
 base:=base
 A:=A.deeper (envX qual scope s.heap.objs.size f j cl)
 N:=N
 s₀:=s
 H₀:=H
 env:=envX qual scope s.heap.objs.size f j cl
 outer:=outer
 stack:=envX qual scope s.heap.objs.size f j cl::outer
 ex:=[]
 calm:=av
 fn:=λ_=>ak
 pn:=[]
 xe:=λ_ _=>bz
structure HC(scope:b0)(y:az)(cs:ai az):Prop where
 kind:scope.kind=.function
 co:scope.isCoroutine=ak
 gen:scope.isGenerator=ak
 Pr:∀x∈scope.names,x.2≠.cell
 par:scope.names.lookup y=ag .local
 RI:∀x∈cs,scope.names.lookup x=ag .free
section
variable{P:a9}{w:bf}{K:ba}{mg:az->aq aj}{base:bo}{A:bj}{outer:ai Env}{s:au}{H:Hp}
theorem amB{f:ar}{qual:az}{params:ck}{body:bg}{scope:b0}{cX:ai (az×aw)}{y:az}{u:aj}{v:V}{Q:VK}{E:XK}{k:ax}
  (hr:cM (k+1) A) (j:xR P w K mg base A outer s H) (L:uY s.heap H f qual params body scope cX) (S:HC scope y (cX.map (·.1)))
  (BO:∀cl n c' D,cq (kla_fn "<lambda>" qual params body scope cl n (.ref c') D) ⟨[u],[]⟩=pure [(y,u)]) (rv:RelV v u)
  (hb:∀cd cl,∃te,PE (zD P w K mg base (y::cX.map (·.1)) qual scope f cd cl A outer s H) body te/\te (ag v::cX.map λp=>ag (.int p.2)) H Q) :
  codeAny (bb P w) A (.call (.ref f) ⟨[u],[]⟩) (CR zU outer P w H s Q E) s:=by
 obtain⟨cl,n,D,c',M,X,t,h1,h2,h3,h4,h5,h6,R,h8⟩:=L.ex;have of:s.heap.get? f=ag (kla_obj "<lambda>" qual params body scope cl n c' D):=(j.aK f _ h1).1;have r:s.heap.get? c'=ag M:=(j.aK c' _ h2).1;have lim:s.heap.NoLimit:=j.mod.nolimit.keeps λb o e=>(j.bs b o e).1;refine PySem.W.kla_callFunE (by have:=hr.dp;omega) of rfl S.co S.gen rfl ⟨c',M,X,t,rfl,r,h3,h4⟩ ?_;rw[BO];refine bH (wpAny_newFunctionEnv S.Pr (λx B=>by rw[qA.mp B];exact S.par) (λN KR nI=>?_) S.kind);have d:∀b o,s.heap.get? b=ag o->N.get? b=ag o:=λb o e=>nI.extBut b o (gB (eB e)) (dQ _ e);refine⟨lim.keeps d,?_⟩;show codeAny _ _ (.expr body (envX qual scope s.heap.objs.size f (.ref c') cl)) _ _;obtain⟨te,pe,hq⟩:=hb (.ref c') cl;have l:∀b:ar,b∉(zD P w K mg base (y::cX.map (·.1)) qual scope f (.ref c') cl A outer s H).ex:=λb z=>bp (show b∈([]:ai ar)from z) (by simp);have I:Inv (zD P w K mg base (y::cX.map (·.1)) qual scope f (.ref c') cl A outer s H) [] (ag v::cX.map λp=>ag (.int p.2)) H {s with heap:=N,toks:=s.toks+1}:=by
  refine⟨⟨j.mod,S.kind,rfl,rfl,tV _,h5,λx B=>?_,λx c z=>(by cases z),λ_=>hr.hd,Around.frames_deeper j.frames,.inr ⟨rfl,rfl⟩,λb z=>bp z (l b),j.bs,j.qU,λb _ _=>l b,λb z=>bp z (l b),j.oC,j.tP⟩,
   rfl,j.bare,Un.kept d,⟨_,KR,λi x a T h e3=>?_⟩,λx c e=>?_,j.aK.fresh cR,λx c e=>(R x c e).2,λp g=>bp (show p∈([]:ai (ar×cb))from g) (by simp),j.aK.kept d,?_⟩
  ·have B:scope.names.lookup x=ag .cell\/scope.names.lookup x=ag .free:=B
   rcases B with B|B
   ·exact bp rfl (S.Pr _ (PySem.mem_of_lookup B))
   ·exact h6 _ (PySem.mem_of_lookup B) rfl
  ·cases i with
   |zero =>
    have U:y=x:=by simpa[zD]using T
    have F:v=a:=by simpa using h
    subst U F;exact⟨u,rv,.inl ⟨S.par,by simp⟩⟩
   |succ i =>
    have U:(cX.map (·.1))[i]?=ag x:=by simpa[zD]using T
    rw[jV]at U;simp only[Zr,jV]at h;cases q:cX[i]? with
    |none=>rw[q]at U;cases U
    |some p =>
     rw[q]at U h;have Eh:p.1=x:=kE U;have F:V.int p.2=a:=kE (kE h);subst Eh F;have g:p∈cX:=pF q;obtain⟨c,G,ec,C⟩:=h8 p g;exact⟨.int p.2 G,⟨G,rfl⟩,.inr ⟨.inr (S.RI _ (TJ g)),c,ec,C.keeps d⟩⟩
  ·obtain⟨⟨a,C⟩,_⟩:=R x c e;exact⟨a,C.keeps d⟩
  ·simp[zD]
 refine PySem.W.kla_codeExpr (pN (pe [] _ _ H Q I hq) (λa s' h'=>?_) λe s' h'=>h'.elim);obtain⟨x,H',σ,m,q⟩:=h';exact⟨x,H',σ.os,σ.bare,σ.base,σ.aK,m,q⟩
end
end L2
namespace V2
open PySem PySem.Spec PyProof.Rows L2
@[simp] noncomputable def pR(m:Mo A):Mo A:=λZ=>match m Z with
 |some (.exc _,_)=>ao
 |r=>r
@[simp] def mN(fb:Ev->Mo A)(ns:ai aw):A->Mo A:=λa=>pR (fb (ag a::ns.map λn=>ag (.int n)))
open Classical in
@[simp] noncomputable def WD(i:ax)(lf:ar)(g:A->Mo A)(fa:Ev->Mo A):Ev->Mo A:=λY=>match (Y[i]?).join with
 |some (.adr q)=>if q=lf then mb (fa Y) g else stuck
 |_=>stuck
def Zt(P:a9)(w:bf)(K:ba)(mg:az->aq aj)(base:bo)(qual:az)(body:bg)(scope:b0)(y:az)(cs:ai az)(fb:Ev->Mo A):Prop :=
 ∀(f:ar) (j:aj) (cl:ai (az×ar)) (A:bj) (outer:ai Env) (s:au) (H:Hp),cM 0 (A.deeper (envX qual scope s.heap.objs.size f j cl)) ->
  VE (zD P w K mg base (y::cs) qual scope f j cl A outer s H) AU body fb
section
variable{X:Cx}{W:WX}{e:bg}{fa:Ev->Mo A}{p pos:cn}
theorem aa4{i:ax}{z:az}{U:ar}{qual:az}{params:ck}{body:bg}{scope:b0}{cX:ai (az×aw)}{y:az}{fb:Ev->Mo A}
  (hex:X.ex=[]) (L0:uY X.s₀.heap X.H₀ U qual params body scope cX) (S:HC scope y (cX.map (·.1))) (hr:cM 1 X.A)
  (BO:∀(u:aj) cl pm c' fR,cq (kla_fn "<lambda>" qual params body scope cl pm (.ref c') fR) ⟨[u],[]⟩=pure [(y,u)])
  (hV:Zt X.prog X.w X.K X.mg X.base qual body scope y (cX.map (·.1)) fb)
  (hN:X.N[i]?=ag z) (hv:MO X.env.scope z) (he:VE X W e fa) (hd:(z==("__debug__" : az))=ak:=by decide) (hZ:(z==("__classdict__" : az))=ak:=by decide)
  (jE:a5 [e] X.env=[(ak,bt e X.env)]:=by rfl) :
  VE X W (.Call (.Name z p) [e] [] pos) (WD i U (mN fb (cX.map (·.2))) fa):=by
 obtain⟨t,p1,L⟩:=he;refine⟨λJ H Q=>J[i]?=ag (ag (.ref U))/\t J H λv c=>∀(f:ar) (m:aj) (cl:ai (az×ar)) (A:bj) (outer:ai Env) (s:au),cM 0 (A.deeper (envX qual scope s.heap.objs.size f m cl)) ->
   ∃C,PE (zD X.prog X.w X.K X.mg X.base (y::cX.map (·.1)) qual scope f m cl A outer s c) body C/\C (ag v::cX.map λp=>ag (.int p.2)) c Q,?_,?_⟩
 ·intro aa s J H Q I ⟨M,ht⟩;refine uA (bI (Ad hN hv hd hZ aa s J H (λv c=>v=.ref U/\c=H) I ⟨_,M,rfl,rfl⟩) λfv s0 ⟨v0,H0,I0,r0,e0,e1⟩=>?_);subst e0 e1;cases r0;have fnAt:∀{aa:ai (ar×cb)} {J:L2.St} {H:Hp} {s:au},Inv X aa J H s->uY s.heap H U qual params body scope cX/\PySem.W.FnAt U s.heap:=λ{aa J H s} σ=>by
   have u:=σ.base;rw[hex]at u;have La:=L0.nC u;obtain⟨cl,pm,fR,c',oc,vs,t,h1,_⟩:=La.ex;exact⟨La,⟨_,_,_,_,(σ.aK _ _ h1).1⟩⟩
  refine PySem.W.callWith_F (fnAt I0).2 ?_ jE rfl;rw[jE];refine ID (bI (p1 aa s0 J H0 _ I0 ht) λu L ⟨v,c,D,r1,q1⟩=>?_);refine NU ⟨(fnAt D).2,?_⟩;refine zY (rZ (amB (E:=λ_ _ _=>bz) (k:=0) hr D.CD (fnAt D).1 S (BO u) r1 λm cl=>q1 U m cl X.A X.stack L (hr.deeper _)) λr s' B=>?_);cases r with
  |error ev=>exact False.elim B
  |ok fl =>
   cases fl with
   |ret u=>exact D.after B
   |next=>exact False.elim B
   |brk=>exact False.elim B
   |cont=>exact False.elim B
 ·intro G O Z H J T Q w r h;simp only[WD]at h;cases q:(T[i]?).join with
  |none=>rw[q]at h;exact False.elim h
  |some d =>
   rw[q]at h;cases d with
   |adr q0 =>
    simp only at h
    by_cases B:q0=U
    ·rw[a6 B]at h;subst B;obtain⟨v,P,Rt⟩:=r.2 i _ (join_some q);simp only[Den]at Rt;subst Rt;refine⟨P,L G O Z H J T _ w r (bP.mb h λa g v c G1 o x1 w1 d1 h1=>?_)⟩;intro f m cl A outer s R;obtain⟨C,pe,sm⟩:=hV f m cl A outer s c R;refine⟨C,pe,sm G1 o g c _ (ag a::(cX.map (·.2)).map λn=>ag (.int n)) Q w1 ?_ ?_⟩
     ·refine⟨by simp,λj d l=>?_⟩;cases j with
      |zero=>simp at l;subst l;exact⟨v,rfl,d1⟩
      |succ j =>
       simp only[Zr,jV]at l ⊢;cases V:cX[j]? with
       |none=>rw[V]at l;cases l
       |some pp =>
        rw[V]at l;have:V2.A.int pp.2=d:=kE (kE l);subst this;exact⟨.int pp.2,rfl,by simp only[Den]⟩
     ·have h2:bP X.K (Den X.K) W G1 o J Q (pR (fb (ag a::(cX.map (·.2)).map λn=>ag (.int n))) g):=h1
      revert h2
      simp only[pR];generalize fb (ag a::(cX.map (·.2)).map λn=>ag (.int n)) g=r2;intro h2
      match r2,h2 with
      |some (.ok b,F),h2=>exact h2
      |some (.exc x,F),h2=>exact False.elim h2
      |none,h2=>exact h2
    ·rw[a7 B]at h;exact False.elim h
   |_=>exact False.elim h
end
end V2
namespace L2
open PySem PySem.Spec PyProof.Rows
def Jv(X:Cx)(scope:b0)(cl:ai (az×ar)):Prop:=(∀x c,cl.lookup x=ag c->X.env.cells.lookup x=ag c)/\∀y∈scope.names,y.2=.free->∃c,cl.lookup y.1=ag c
abbrev BC(qual:az)(params:ck)(body:bg)(scope:b0)(cl:ai (az×ar))(j:aj)(c':ar)(q:aj):HO:=.eP (kla_obj "<lambda>" qual params body scope cl j c' q) (.own 0)
def WY(X:Cx)(P:ar)(qual:az)(params:ck)(body:bg)(scope:b0)(dE:cn):TE:=λ_ H Q=>∃ps,H P=ag (.iN ps)/\TriplesOk ps.toList /\
 ((codeAmong dE ps.toList=ao/\∀cl,Jv X scope cl->∀f c' j vs t q z,H f=ao->H c'=ao->c'≠f->j.data=.fields vs->vs[1]?=ag (.str qual t) ->
   Q (.ref f) (upd (upd (upd H c' (.eP j (.own 0))) P (.iN (ps ++ #[bw dE.line,bw dE.col,.ref c']))) f (BC qual params body scope cl q c' z))) \/
(∃c',codeAmong dE ps.toList=ag (.ref c')/\∀cl,Jv X scope cl->∀f pm fR,H f=ao->Q (.ref f) (upd H f (BC qual params body scope cl pm c' fR))))
section
variable{X:Cx}
theorem aiO{params:ck}{body:bg}{scope:b0}{dE:cn}{c P:ar}{qual:az}(FA:X.env.code=.ref c)(hq:X.env.qual ++ "<lambda>" = qual)(LS:codeHdIn X.K c P=av)(hB:vE X.base X.mg)
  (LJ:defaultsOf params X.env=([],[])) (EX:∀y∈scope.names,y.2=.free->X.env.kindOf y.1=ag .cell\/X.env.kindOf y.1=ag .free):PE X (.Lambda params body scope dE) (WY X P qual params body scope dE):=by
 intro aa s J H Q I h;obtain⟨g,B,M,h⟩:=h;obtain⟨cl,fQ,L,G⟩:=Vw (scope:=scope) (env:=X.env) λy hy hf=>I.ok.has y.1 (EX y hy hf);have T:s.heap.get? P=ag (tabObj g):=I.aK P _ B;have C:PySem.W.CodeHd s.heap c P:=PySem.W.codeHd_of_K I.fI LS;have R:s.heap.Ns a8 X.mg:=I.mod.glob.keeps I.bk;obtain⟨og,es,ep,eg,dg,rg⟩:=id I.mod.glob;have r:a8≠P:=λq=>by
  have:=(I.bs _ _ eg).2;rw[q,B]at this;cases this
 obtain⟨A,ob,b1,b2,p,b4,b5,D⟩:=hB;have x:A≠P:=λq=>by
  have:=(I.bs _ _ p).2;rw[q,B]at this;cases this
 have Ct:A≠a8:=λq=>by
  rw[q,eg]at p;cases p;rw[dg]at D;cases D
 have hb:s.heap.BuiltinsAt X.mg P:=⟨A,ob,b1,b2,Ct,x,I.bk _ _ p,b4,b5,D⟩;refine PySem.W.kla_eval LJ ?_;rw[hq]
 rcases h with⟨hn,h⟩|⟨j,hn,h⟩
 ·refine PySem.W.kla_makeFunction (mg:=X.mg) fQ I.ok.glob R FA C T M hn r hb λj k h' tk m BK dW E Rx=>?_;obtain⟨S,f,vs,t,e2,KP,hd,hv⟩:=E;cases e2;have U:H j=ao:=I.aK.fresh BK;have Cs:j≠P:=λq=>by rw[q,B]at U;cases U
  have ne:∀b o,s.heap.get? b=ag o->b≠j:=λb o e z=>by
   have:=eB e;rw[z]at this;exact bp (lI this BK) (Nat.lt_irrefl _)
  have at':∀b,b≠P->b≠j->upd (upd H j (.eP f (.own 0))) P (.iN (g ++ #[bw dE.line,bw dE.col,.ref j])) b=H b:=λb h1 h2=>by rw[bO h1,bO h2]
  have un:Un (iI X.stack) [] H (upd (upd H j (.eP f (.own 0))) P (.iN (g ++ #[bw dE.line,bw dE.col,.ref j]))) s.heap h':=by
   refine⟨λb o e n _ _=>m b o (λz=>by rw[z,B]at n;cases n) e,λb o e n _ _=>⟨o.slots,m b o (λz=>by rw[z,B]at n;cases n) e⟩,λb o e n _=>?_,λb o e _=>?_,λb xs e=>?_,λb o u e=>?_,λb qs e=>?_⟩
   ·rw[at' b (λz=>by rw[z,B]at n;cases n) (ne b o e)];exact n
   ·by_cases N:b=P
    ·subst N;exact⟨_,Rx⟩
    ·exact⟨o,m b o N e⟩
   ·rw[at' b (λz=>by rw[z,B]at e;cases e) (iG e U)];exact e
   ·rw[at' b (λz=>by rw[z,B]at e;cases e) (iG e U)];exact e
   ·by_cases N:b=P
    ·subst N;rw[B]at e;cases e;exact⟨_,dZ⟩
    ·exact⟨#[],by rw[at' b N (iG e U),e];simp⟩
  have aK:fE X.prog X.w (upd (upd H j (.eP f (.own 0))) P (.iN (g ++ #[bw dE.line,bw dE.col,.ref j]))) h':=λb u e=>by
   by_cases N:b=P
   ·subst N;rw[dZ]at e;cases e;exact Rx
   ·rw[bO N]at e
    by_cases jS:b=j
    ·subst jS;rw[dZ]at e;cases e;exact⟨KP,f,KP⟩
    ·rw[bO jS]at e;refine(I.aK b u e).nC (λd v LL q=>m d v (λz=>?_) q) (λd q=>?_) (λd xs q=>?_)
     ·subst z
      rcases LL with z|z
      ·exact N z.symm
      ·rw[B]at z;cases z
     ·rw[at' d (λz=>by rw[z,B]at q;cases q) (iG q U)];exact q
     ·rw[at' d (λz=>by rw[z,B]at q;cases q) (iG q U)];exact q
  have I1:Inv X aa J (upd (upd H j (.eP f (.own 0))) P (.iN (g ++ #[bw dE.line,bw dE.col,.ref j]))) {s with heap:=h',toks:=tk}:=I.FV (s':={s with heap:=h',toks:=tk}) (ch:=[]) rfl un aK I.bare λb z=>bp z (by simp);have l:upd (upd H j (.eP f (.own 0))) P (.iN (g ++ #[bw dE.line,bw dE.col,.ref j])) h'.objs.size=ao:=I1.aK.fresh cR;have Cn:h'.objs.size≠P:=λz=>by rw[z,dZ]at l;cases l
  have V:h'.objs.size≠j:=GP dW;have F:H h'.objs.size=ao:=by rw[at' _ Cn V]at l;exact l
  refine⟨.ref h'.objs.size,_,I1.laid (t':=tk) (a:=h'.objs.size) (o:=BC qual params body scope cl ((X.mg "__name__").getD .none) j k) (λb o e=>dQ _ e) cR ⟨fW _ rfl,_,fW _ rfl⟩,rfl,?_⟩;exact h cl ⟨L,G⟩ _ j f vs t _ k F U V.symm hd hv
 ·refine PySem.W.kla_makeFunctionHit (mg:=X.mg) fQ I.ok.glob R FA C T M hn hb λk h' tk hk i=>?_;have F:H h'.objs.size=ao:=I.aK.fresh i;exact⟨.ref h'.objs.size,_,I.laid (t':=tk) (a:=h'.objs.size) (o:=BC qual params body scope cl ((X.mg "__name__").getD .none) j k) (λb o e=>dQ _ (hk b o e)) i ⟨fW _ rfl,_,fW _ rfl⟩,rfl,h cl ⟨L,G⟩ _ _ k F⟩
end
theorem ar4{CX:pM}{P:a9}{w:bf}{K:ba}{mg:az->aq aj}{base:bo}{k:ax}{f:ar}{name qual:az}{params:ck}{body:ai bq}{scope:b0}{g kV doc d z ct m:aj}{h l:aq ar}
  {M:bh (aq aj)} {N ps:ai az} (p:K.lookup f=ag ⟨m,l,.func (di name qual params body scope g kV doc d h z ct),M⟩) (L:codeIn K z qual=av) (S:cO N ps scope)
  {A:bj} {outer:ai Env} {s:au} {H:Hp} {args:Args} {us:ai aj} {vs:ai V} {Q:VK} {E:XK} (hr:cM (k+1) A) (U:xR P w K mg base A outer s H) (hb:BindsTo s (di name qual params body scope g kV doc d h z ct) args (ps.zip us)) (r:Vals vs us) (hl:vs.length=ps.length)
  (C:cM k (A.deeper (cj qual scope s.heap.objs.size f z))->∃t,qW (rY CX P w K mg base N qual scope f z A outer s H E) body t/\t {nx:=λ_ H'=>Q .cV H',rt:=Q} (start N vs) H) :
  codeAny (bb P w) A (.call (.ref f) args) (CR CX outer P w H s Q E) s:=by
 have i:K.In s.heap:=U.mod.rS.keeps λb o e=>(U.bs b o e).1;have lim:s.heap.NoLimit:=U.mod.nolimit.keeps λb o e=>(U.bs b o e).1;have R:∀y∈ps.zip us,scope.names.lookup y.1=ag .local\/(scope.names.lookup y.1=ag .cell/\((cellsFrom (s.heap.objs.size+1) scope.names []).lookup y.1).isSome=av):=λ⟨n,v⟩ D=>by
  rcases S.par n (Il D).1 with q|q
  ·exact .inl q
  ·exact .inr ⟨q,cellsFrom_some _ _ _ (.inl q)⟩
 refine codeAny_call_function hr.depth (i _ _ p) rfl S.co S.gen rfl (PySem.W.codeRec_of i L) (hb _ _ _ _ ?_);refine wpAny_newFunctionEnv_cells S.kind R λenv he c x=>?_;subst he;refine⟨lim.keeps x.toInCall.keep,codeAny_func ?_⟩;obtain⟨t,F,G⟩:=C (hr.deeper _);have I:Inv (rY CX P w K mg base N qual scope f z A outer s H E) [] (start N vs) H c:=Rb S hr.hd U hl r x;refine pN (F [] c (start N vs) H _ I G) (λfl s' B=>?_) λe s' B=>B;have fin:∀{j:St} {H':Hp} {v:V} {u:aj},Inv (rY CX P w K mg base N qual scope f z A outer s H E) [] j H' s'->RelV v u->Q v H'->CE outer P w H s Q u s' :=
  λ{j H' v u} σ a q=>⟨v,H',σ.os,σ.bare,σ.base,σ.aK,a,q⟩
 cases fl with
 |ret u =>
  obtain⟨v,j,H',σ,a,q⟩:=B;exact fin σ a q
 |next =>
  obtain⟨j,H',σ,q⟩:=B;exact fin (v:=V.cV) (u:=Value.none) σ rfl q
 |brk =>
  obtain⟨_,_,_,q⟩:=B;exact False.elim q
 |cont =>
  obtain⟨_,_,_,q⟩:=B;exact False.elim q
end L2
namespace V2
open PySem PySem.Spec PyProof.Rows L2
structure MQ(K:ba)(mg:az->aq aj)(base:bo)(x:az):Prop where
 rS:K.In base
 glob:base.Ns a8 mg
 blt:vE base mg
 hd:∃c P,tabIn K x=ag (c,P)/\codeHdIn K c P=av
section
variable{P:a9}{w:bf}{K:ba}{mg:az->aq aj}{base:bo}
theorem cC.ofT{x:az}{st:bq}{N ps:ai az}{k:ax}{b:MS}(h:HasFn K mg x st)(T:MQ K mg base x)(S:cO N ps (aR st))
  (bind:∀(kV doc pm:aj) (an:aq ar) (d ct:aj) (us:ai aj),us.length=ps.length->cq (di x x (iK st) (eL st) (aR st) .none kV doc pm an d ct) ⟨us,[]⟩=pure (ps.zip us))
  (n:∀(c g:ar),tabIn K x=ag (c,g)->codeHdIn K c g=av->∀(f:ar) (A:bj) (outer:ai Env) (s:au) (H:Hp) (E:XK),cM k (A.deeper (cj x (aR st) s.heap.objs.size f (.ref c))) ->
   jU (mT P w K mg base N x (aR st) f (.ref c) A outer s H E) (λ_=>E) (eL st) b):cC P w K mg base x (k+1) ps (cP N.length b):=by
 obtain⟨f,fd,hm,F⟩:=h.ex;obtain⟨c,g,i,hh⟩:=T.hd;have j:∃B z kV doc pm an ct a,fd=di x x (iK st) (eL st) (aR st) .none kV doc pm an (.ref c) ct/\K.lookup f=ag ⟨B,z,.func (di x x (iK st) (eL st) (aR st) .none kV doc pm an (.ref c) ct),a⟩/\codeIn K (.ref c) x=av:=by
  obtain⟨B,z,kV,doc,pm,an,d,ct,a,rfl,U,j⟩:=F.ex;have e:(di x x (iK st) (eL st) (aR st) .none kV doc pm an d ct).code=.ref c:=PySem.W.law_code T.rS T.glob i hm (T.rS _ _ U) rfl;have o:d=.ref c:=e;subst o;exact⟨B,z,kV,doc,pm,an,ct,a,rfl,U,j⟩
 have FB:=F.binds bind;obtain⟨B,z,kV,doc,pm,an,ct,a,rfl,U,j⟩:=j;refine⟨f,_,RA U j S (λl H Q E h=>h.1) λA outer s H l Q E hr m=>?_,hm,F.kp,FB⟩;obtain⟨t,p,q⟩:=n c g i hh f A outer s H E hr;exact⟨t,JU p,MI q m⟩
end
noncomputable def xD:ai ax->Ev->aq (ai aw)
 |[],_=>ag []
 |j::js,Y=>match (Y[j]?).join with
  |some (.int n)=>(xD js Y).map (n :: ·)
  |_=>ao
open Classical in
noncomputable def vN(k:ax)(x:az)(dE:cn)(qual:az)(js:ai ax)(R:ai aw->A->Mo A)(fa:Ev->Mo A):Ev->Mo A:=λY=>mb (fa Y) λa Z=>if Z[k]?=ag (.tab x dE qual)then(match xD js Y with
 |some ns=>pR (R ns a) Z
 | none=>ao)else ao
theorem Wn{K:ba}{G:Hp}{O:ai ar}{J:L2.St}{Y:Ev}(r:hW K G O J Y)(N:ai az):∀{js:ai ax} {cs:ai az} {ns:ai aw},js.map (λj=>N[j]?)=cs.map ag->xD js Y=ag ns ->
  ∃cX:ai (az×aw),cX.map (·.1)=cs/\cX.map (·.2)=ns/\∀p∈cX,∃j:ax,N[j]?=ag p.1/\J[j]?=ag (ag (V.int p.2))
 |[],[],ns,_,h=>by
  simp only[xD]at h;cases h;exact⟨[],rfl,rfl,λp U=>by simp at U⟩
 |[],_::_,_,e,_=>by simp at e
 |_::_,[],_,e,_=>by simp at e
 |j::js,c::cs,ns,e,h=>by
  simp only[cK,qZ]at e;simp only[xD]at h;cases q:(Y[j]?).join with
  |none=>rw[q]at h;cases h
  |some d =>
   rw[q]at h;cases d with
   |int n =>
    simp only at h;cases B:xD js Y with
    |none=>rw[B]at h;cases h
    |some ms =>
     rw[B]at h;cases h;obtain⟨cX,f,b,a⟩:=Wn r N e.2 B;obtain⟨v,hv,hd⟩:=r.2 j _ (join_some q);simp only[Den]at hd;subst hd;refine⟨(c,n)::cX,by simp[f],by simp[b],λp U=>?_⟩
     rcases dI.mp U with z|z
     ·subst z;exact⟨j,e.1,hv⟩
     ·exact a p z
   |_=>cases h
section
variable{X:Cx}{W:WX}{e:bg}{fa:Ev->Mo A}{p pos:cn}
theorem acI{ps:bh aj}{dE:cn}{c':ar}(q:TriplesOk ps.toList)(hn:codeAmong dE ps.toList=ao) :
  TriplesOk (ps ++ #[bw dE.line,bw dE.col,.ref c']).toList/\codeAmong dE (ps ++ #[bw dE.line,bw dE.col,.ref c']).toList=ag (.ref c'):=by
 have e:(ps ++ #[bw dE.line,bw dE.col,Value.ref c']).toList=ps.toList++[bw dE.line,bw dE.col,.ref c']:=by simp
 rw[e];generalize ps.toList=l at q hn;constructor
 ·induction l using TriplesOk.induct with
  |case1=>exact trivial
  |case2 i t j u v ae ih =>
   simp only[TriplesOk]at q;simp only[codeAmong]at hn;split at hn
   ·cases hn
   ·exact ih q hn
  |case3 l h1 h2=>simp[TriplesOk]at q
 ·exact codeAmong_snoc l q hn
theorem aa5{x z y qual:az}{st:bq}{N ps cs:ai az}{k kf:ax}{js:ai ax}{params:ck}{body:bg}{scope:b0}{dE:cn}{c P:ar}{fb:Ev->Mo A}{bfw:ar->(A->Mo A)->MS}{R:ai aw->A->Mo A}
  (hT:tabIn X.K x=ag (c,P)) (LS:codeHdIn X.K c P=av) (hB:vE X.base X.mg) (FA:X.env.code=.ref c) (T:X.env.qual ++ "<lambda>" = qual) (LJ:defaultsOf params X.env=([],[]))
  (S:HC scope y cs) (EX:∀y∈scope.names,y.2=.free->X.env.kindOf y.1=ag .cell\/X.env.kindOf y.1=ag .free) (BL:js.map (λj=>X.N[j]?)=cs.map ag) (BN:∀x∈cs,X.env.scope.names.lookup x=ag .cell)
  (hz:HasFn X.K X.mg z st) (KN:ps.length=2) (SF:cO N ps (aR st))
  (bind:∀(kV doc i:aj) (an:aq ar) (aU ct:aj) (us:ai aj),us.length=ps.length->cq (di z z (iK st) (eL st) (aR st) .none kV doc i an aU ct) ⟨us,[]⟩=pure (ps.zip us))
  (iO:∀(B:ar) (cX:ai (az×aw)),cX.map (·.1)=cs->∀(f:ar) (aU:aj) (A:bj) (outer:ai Env) (s:au) (H:Hp) (E:XK),cM kf (A.deeper (cj z (aR st) s.heap.objs.size f aU))->uY s.heap H B qual params body scope cX ->
   jU (mT X.prog X.w X.K X.mg X.base N z (aR st) f aU A outer s H E) (λ_=>E) (eL st) (bfw B (mN fb (cX.map (·.2)))))
  (hR:∀B ns a Z r,pR (R ns a) Z=ag r->cP N.length (bfw B (mN fb ns)) [a,.adr B] Z=ag r)
  (hr:cM (kf+1) X.A) (hg:Gl X z) (he:VE X W e fa) (fT:(z==("__debug__" : az))=ak:=by decide)
  (jE:a5 [e,.Lambda params body scope dE] X.env=[(ak,bt e X.env),(ak,bt (.Lambda params body scope dE) X.env)]:=by rfl)
  (ER:a5 [.Lambda params body scope dE] X.env=[(ak,bt (.Lambda params body scope dE) X.env)]:=by rfl) :
  VE X W (.Call (.Name z p) [e,.Lambda params body scope dE] [] pos) (vN k x dE qual js R fa):=by
 obtain⟨t1,p1,s1⟩:=he;have PAa:PA X [e,.Lambda params body scope dE] (IX t1 (IX (WY X P qual params body scope dE) IV)) :=
  AN p1 (AN (aiO FA T LS hB LJ EX) EE (by rw[ER];rfl)) (by rw[jE,ER])
 refine⟨λJ H Q=>IX t1 (IX (WY X P qual params body scope dE) IV) J H λvs H2=>∃(L:V) (B:ar) (cX:ai (az×aw)) (cl:ai (az×ar)) (i n:aj) (c':ar) (g:cb) (us:bh aj) (t:Tok),vs=[L,.ref B]/\cX.map (·.1)=cs/\(∀p∈cX,∃j:ax,X.N[j]?=ag p.1/\J[j]?=ag (ag (V.int p.2))) /\
   Jv X scope cl/\H2 B=ag (BC qual params body scope cl i c' n)/\H2 c'=ag (.eP g (.own 0))/\g.data=.fields us/\us[1]?=ag (.str qual t) /\
   qH X.K ps.length (cP N.length (bfw B (mN fb (cX.map (·.2))))) [L,.ref B] H2 Q (λ_ _ _=>bz),?_,?_⟩
 ·intro aa s J H Q I h;obtain⟨f,fd,hm,F⟩:=hz.ex;refine uA (AZ I hg hm ?_ fT);refine callWith_K (h₀:=X.base) I.ok.mod.rS F.kp (bI (PAa pos aa s J H _ I h) λus s1 ⟨vs,H1,C,r,q⟩=>⟨C.fI,?_⟩) (by rw[jE,ER]) (by rw[ER];rfl);obtain⟨L,B,cX,cl,i,n,c',g,ws,t,rfl,Th,hσ,fQ,hlf,uM,hd,hv,kW⟩:=q;have La:uY s1.heap H1 B qual params body scope cX:=by
   refine⟨cl,i,n,c',g,ws,t,hlf,uM,hd,hv,λx y c h1 h2=>C.ok.inj x y c (fQ.1 x c h1) (fQ.1 y c h2),fQ.2,λx c e=>⟨C.cell x c (fQ.1 x c e),C.mR x c (fQ.1 x c e)⟩,λpp Se=>?_⟩;obtain⟨j,hj1,KW⟩:=hσ pp Se;have BI:pp.1∈cs:=by rw[<-Th];exact TJ Se
   obtain⟨m,hn,hl⟩:=C.loc;obtain⟨u,ru,lu⟩:=hl j pp.1 _ hj1 KW (.inr (.inl (BN _ BI)));obtain⟨tk,rfl⟩:=ru
   rcases lu with⟨hk,_⟩|⟨_,c0,nL,ic⟩
   ·rw[show X.env.kindOf pp.1=ag .cell from BN _ BI]at hk;cases hk
   ·obtain⟨c1,lS⟩:=fQ.2 _ (PySem.mem_of_lookup (S.RI _ BI)) rfl;have:=fQ.1 _ _ lS;rw[nL]at this;cases this;exact⟨c0,tk,lS,ic⟩
  have gJ:=F.binds bind s1 us C.fI (by rw[uX,<-r.length];simp[KN]);rw[uX]at gJ;have FB:=gJ;obtain⟨oc2,od,kV,doc,pm2,an,aU,ct,gT,rfl,lk,hZ⟩:=F.ex;refine zY (rZ (ar4 (CX:=nS X.prog X.w) (E:=λ_ _ _=>bz) (Q:=Q) (k:=kf) lk hZ SF hr C.CD FB r (by simp[KN]) λhrb=>?_) λr s' T=>?_)
  ·obtain⟨tt,pp,qq⟩:=iO B cX Th f aU X.A X.stack s1 H1 (λ_ _ _=>bz) hrb La;exact⟨tt,JU pp,MI qq kW⟩
  ·cases r with
   |error ev=>obtain⟨x,cls,dx,H',_,_,_,_,_,_,q⟩:=T;exact q.elim
   |ok fl =>
    cases fl with
    |ret u=>exact C.after T
    |next=>exact False.elim T
    |brk=>exact False.elim T
    |cont=>exact False.elim T
 ·intro G O Z H J Y Q w r h;unfold vN at h;refine s1 G O Z H J Y _ w r (bP.mb h λa U L H1 G1 l x1 D d1 h1=>?_);split at h1
  ·rename_i hk;cases Cq:xD js Y with
   |none=>rw[Cq]at h1;exact False.elim h1
   |some ns =>
    rw[Cq]at h1;simp only at h1;obtain⟨cX,lS,lQ,Tj⟩:=Wn r X.N BL Cq;obtain⟨aP,Tu⟩:=D.addr hk;obtain⟨gP,⟨c0,KG⟩,qs,Bw,KJ,hq3⟩:=D.aG k _ aP hk Tu;rw[hT]at KG;cases KG;have fin:∀(B:ar) (H2 G2:Hp),Ext G1 l G2 l->Wd X.K G2 l U H2->qH X.K ps.length (cP N.length (bfw B (mN fb (cX.map (·.2))))) [L,.ref B] H2 Q (λ_ _ _=>bz):=λB H2 G2 e2 w2=>by
     refine⟨by simp[KN],G2,l,U,[a,.adr B],w2,.cons (d1.ext e2) (.cons (by simp only[Den]) .nil),?_⟩
     revert h1
     rw[lQ];cases d:pR (R ns a) U with
     |none=>intro h1;exact False.elim h1
     |some r0 =>
      intro h1;rw[hR B ns a U r0 d]
      match r0,h1,d with
      |(.ok b,Z'),h1,_=>exact λv H' G' O' x3 w3 d3=>h1 v H' G' O' (e2.trans x3) w3 d3
      |(.exc xx,Z'),_,d =>
       exfalso;simp only[pR]at d
       revert d
       generalize R ns a U=rr;intro d
       match rr,d with
       |some (.exc _,_),d=>cases d
       |some (.ok _,_),d=>cases d
       |none,d=>cases d
    refine⟨qs,Bw,KJ,?_⟩
    rcases hq3 with hn|⟨c',g,us,t,hn,hgc,hd,hv⟩
    ·refine .inl ⟨hn,λcl fQ f c' g us t i n M nL fO hd hv=>?_⟩;obtain⟨tg1,tg2⟩:=acI (c':=c') KJ hn;have Cs:c'≠P:=λz=>by rw[z,Bw]at nL;cases nL
     have Cn:f≠P:=λz=>by rw[z,Bw]at M;cases M
     have wA:=D.new nL (.eP g (.own 0));have Uk:upd G1 c' (.eP g (.own 0)) P=ao:=by rw[bO Cs.symm];exact gP
     have wB:=wA.put (c:=.tab x dE qual) (o:=.iN (qs ++ #[bw dE.line,bw dE.col,.ref c'])) Tu Uk ⟨Uk,⟨c,hT⟩,_,dZ,tg1,.inr ⟨c',g,us,t,tg2,dZ,hd,hv⟩⟩;have an0:U.set k (.tab x dE qual)=U:=by
      have hlk:=(dO.mp hk);obtain⟨wU,jR⟩:=hlk;rw[<-jR];exact List.set_getElem_self _
     rw[an0]at wB;have EY:upd (upd H1 c' (.eP g (.own 0))) P (.iN (qs ++ #[bw dE.line,bw dE.col,.ref c'])) f=ao:=by rw[bO Cn,bO fO.symm];exact M
     have wC:=wB.new EY (BC qual params body scope cl i c' n);refine⟨L,f,cX,cl,i,n,c',g,us,t,rfl,lS,Tj,fQ,dZ,?_,hd,hv,fin f _ _ ?_ wC⟩
     ·rw[bO fO,bO Cs,dZ]
     ·exact(Ext.new (D.nN nL) _).trans (Ext.new (wB.nN EY) _)
    ·refine .inr ⟨c',hn,λcl fQ f i n M=>?_⟩;have Ti:=D.sub _ _ hgc;have wC:=D.new M (BC qual params body scope cl i c' n);exact⟨L,f,cX,cl,i,n,c',g,us,t,rfl,lS,Tj,fQ,dZ,by rw[bO (iG Ti M)];exact Ti,hd,hv,fin f _ _ (Ext.new (D.nN M) _) wC⟩
  ·exact False.elim h1
end
structure NI(X:Cx)(scope:b0)(y:az)(cs:ai az)(js:ai ax):Prop where
 S:HC scope y cs
 free:∀y∈scope.names,y.2=.free->X.env.kindOf y.1=ag .cell\/X.env.kindOf y.1=ag .free
 cX:js.map (λj=>X.N[j]?)=cs.map ag
 cell:∀x∈cs,X.env.scope.names.lookup x=ag .cell
def Je(sc:b0)(N:ai az)(scope:b0)(y:az)(cs:ai az)(js:ai ax):Prop :=
 ((scope.kind == .function)=av/\scope.isCoroutine=ak/\scope.isGenerator=ak)/\(∀x∈scope.names,(x.2 == .cell)=ak)/\(scope.names.lookup y==ag .local)=av/\(∀x∈cs,(scope.names.lookup x==ag .free)=av) /\
 (∀y∈scope.names,(y.2 == .free)=av->(sc.names.lookup y.1==ag .cell)=av)/\js.map (λj=>N[j]?)=cs.map ag/\∀x∈cs,(sc.names.lookup x==ag .cell)=av
instance (sc:b0) (N:ai az) (scope:b0) (y:az) (cs:ai az) (js:ai ax):c2 (Je sc N scope y cs js):=by unfold Je;infer_instance
theorem NI.of{X:Cx}{scope:b0}{y:az}{cs:ai az}{js:ai ax}(sc:b0)(N:ai az)(h1:X.env.scope=sc)(h2:X.N=N)(h:Je sc N scope y cs js):NI X scope y cs js:=by
 obtain⟨⟨a1,a2,d⟩,c,b,a,U,B,z⟩:=h;refine⟨⟨by simpa using a1,a2,d,λx j=>by simpa using c x j,by simpa using b,λx j=>by simpa using a x j⟩,λy q hf => .inl ?_,by rw[h2];exact B,λx j=>by rw[h1];simpa using z x j⟩;have:=U y q (by simp[hf]);show X.env.scope.names.lookup y.1=ag .cell;rw[h1];simpa using this
theorem Kr{X:Cx}{W:WX}{e:bg}{fa:Ev->Mo A}{p pos:cn}{x z y qual:az}{st:bq}{N ps cs:ai az}{k kf:ax}{js:ai ax}{params:ck}{body:bg}{scope:b0}{dE:cn}{c P:ar}{fb:Ev->Mo A}{bfw:ar->(A->Mo A)->MS}{R:ai aw->A->Mo A}
  (hT:tabIn X.K x=ag (c,P)) (n:codeHdIn X.K c P=av) (h:vE X.base X.mg) (u:X.env.code=.ref c) (d:X.env.qual ++ "<lambda>" = qual) (o:defaultsOf params X.env=([],[]))
  (ι:NI X scope y cs js)
  (hz:HasFn X.K X.mg z st) (t:ps.length=2) (m:cO N ps (aR st))
  (bind:∀(kV doc B:aj) (l:aq ar) (q ct:aj) (us:ai aj),us.length=ps.length->cq (di z z (iK st) (eL st) (aR st) .none kV doc B l q ct) ⟨us,[]⟩=pure (ps.zip us))
  (b:HC scope y cs->∀(j:ar) (cX:ai (az×aw)),cX.map (·.1)=cs->∀(f:ar) (q:aj) (A:bj) (outer:ai Env) (s:au) (H:Hp) (E:XK),cM kf (A.deeper (cj z (aR st) s.heap.objs.size f q))->uY s.heap H j qual params body scope cX ->
   jU (mT X.prog X.w X.K X.mg X.base N z (aR st) f q A outer s H E) (λ_=>E) (eL st) (bfw j (mN fb (cX.map (·.2)))))
  (hR:∀j ns a Z r,pR (R ns a) Z=ag r->cP N.length (bfw j (mN fb ns)) [a,.adr j] Z=ag r)
  (hr:cM (kf+1) X.A) (g:Gl X z) (he:VE X W e fa) (i:(z==("__debug__" : az))=ak:=by decide)
  (U:a5 [e,.Lambda params body scope dE] X.env=[(ak,bt e X.env),(ak,bt (.Lambda params body scope dE) X.env)]:=by rfl)
  (v:a5 [.Lambda params body scope dE] X.env=[(ak,bt (.Lambda params body scope dE) X.env)]:=by rfl) :
  VE X W (.Call (.Name z p) [e,.Lambda params body scope dE] [] pos) (vN k x dE qual js R fa) :=
 aa5 hT n h u d o ι.S ι.free ι.cX ι.cell hz t m bind (b ι.S) hR hr g he i U v
noncomputable def Cp (vs:bh aj) (c P:ar):bc:=(match (vs[11]?:aq aj) with|some (.ref j) => j==P|_ => ak) &&
   (match vs.getD 18 .none with | .str _ _=>av|_=>ak)&&(match vs.getD 7 .none with | .int _ _=>av|_=>ak) &&
   (match vs.getD 9 .none with | .bool _=>av|_=>ak)&&(match vs.getD 10 .none with | .int _ _=>av|_=>ak)&&c != P
theorem Lx{K:ba}{x:az}{f tc j:ar}{b kV c N ct:aj}{U d z:aq ar}{sl q:bh (aq aj)}{st:bq}{vs:bh aj}(a:nsIn K a8 x=ag (ag (.ref f)))
  (l:K.lookup f=ag ⟨b,U,.func (di x x (iK st) (eL st) (aR st) .none kV c N d (.ref tc) ct),sl⟩) (B:K.lookup tc=ag ⟨.type "code",z,.fields vs,q⟩) (hv:vs[11]?=ag (.ref j)) (hh:Cp vs tc j=av) :
  tabIn K x=ag (tc,j)/\codeHdIn K tc j=av:=by
 constructor
 ·unfold tabIn;rw[a];simp only[l,B,hv]
 ·unfold codeHdIn;rw[B];exact hh
@[elab_as_elim] theorem Lh{P:ai aj->Prop}(us:ai aj)(h:us.length=0)(f:P []):P us:=by cases us with|nil=>exact f|cons _ _=>simp at h
@[elab_as_elim] theorem WJ{P:ai aj->Prop}(us:ai aj)(h:us.length=1)(f:∀a,P [a]):P us:=by
 cases us with
 |nil=>simp at h
 |cons a r=>exact Lh r (by simpa using h) (f a)
@[elab_as_elim] theorem vO{P:ai aj->Prop}(us:ai aj)(h:us.length=2)(f:∀a b,P [a,b]):P us:=by
 cases us with
 |nil=>simp at h
 |cons a r=>exact WJ (P:=λr=>P (a::r)) r (by simpa using h) (f a)
@[elab_as_elim] theorem WI{P:ai aj->Prop}(us:ai aj)(h:us.length=3)(f:∀a b c,P [a,b,c]):P us:=by
 cases us with
 |nil=>simp at h
 |cons a r=>exact vO (P:=λr=>P (a::r)) r (by simpa using h) (f a)
@[elab_as_elim] theorem Lg{P:ai aj->Prop}(us:ai aj)(h:us.length=4)(f:∀a b c d,P [a,b,c,d]):P us:=by
 cases us with
 |nil=>simp at h
 |cons a r=>exact WI (P:=λr=>P (a::r)) r (by simpa using h) (f a)
noncomputable abbrev yO(x:az):az:=x ++ ".<locals>." ++ "<lambda>"
def OP(K:ba)(j:ai ar):Sp:=λvs H Q _=>∃(a:ar) (ns:ai aw),vs=[.ref a]/\fB K H a (ns.map V.int)/\ns.length<=63/\(∀P∈j,H P=ag (.iN #[]))/\∀H',Q (.bl av) H'
theorem adD{K:ba}{H:Hp}{a:ar}{xs:ai V}{j:ai ar}(h:fB K H a xs)(hT:∀P∈j,H P=ag (.iN #[])):fB K (λb=>if b∈j then ao else H b) a xs:=by
 rcases h with(h|⟨o,h⟩)|h
 ·exact .inl (.inl (by
   have:a∉j:=λz=>by rw[hT a z]at h;cases h
   show(if a∈j then ao else H a)=_;rw[a7 this];exact h))
 ·exact .inl (.inr ⟨o,by
   have:a∉j:=λz=>by rw[hT a z]at h;cases h
   show(if a∈j then ao else H a)=_;rw[a7 this];exact h⟩)
 ·exact .inr h
section
variable{P:a9}{w:bf}{K:ba}{mg:az->aq aj}{base:bo}
theorem al8{fa:ar}{fd:b8}{k:ax}{F:ai A->Mo A}{B:ai ar}(tl:ai (ar×az×cn×az))(hnd:(tl.map (·.1)).Nodup)(hsub:∀t∈tl,t.1∈B)(hT:∀t∈tl,∃c,tabIn K t.2.1=ag (c,t.1))
  (h1:hJ P w K mg base (nS P w) k fa fd ["_law_script"] (qH K 1 F)) (n:∀ns:ai aw,ns.length<=63->∃Z,F [.jM ns] (tl.map λt => .tab t.2.1 t.2.2.1 t.2.2.2)=ag (.ok (.bl av),Z)) :
  hJ P w K mg base zU k fa fd ["_law_script"] (OP K B):=by
 refine(Et h1).imp λr H Q E m=>?_;obtain⟨a,ns,rfl,l,hl,g,q⟩:=m;obtain⟨Z,e⟩:=n ns hl;refine⟨rfl,λb=>if b∈B then ao else H b,tl.map (·.1),tl.map (λt => .tab t.2.1 t.2.2.1 t.2.2.2),[.jM ns],⟨λb o z=>?_,hnd,by simp,λb hb=>?_,λj c b h1 h2=>?_,λb j i s u hh=>?_⟩,.cons (by simp only[Den];exact⟨a,rfl,adD l g⟩) .nil,?_⟩
 ·by_cases hb:b∈B
  ·have U:(if b∈B then ao else H b)=ag o:=z;rw[a6 hb]at U;cases U
  ·have U:(if b∈B then ao else H b)=ag o:=z;rw[a7 hb]at U;exact U
 ·obtain⟨t,f,rfl⟩:=jA.mp hb;exact⟨_,g _ (hsub t f)⟩
 ·rw[jV]at h1 h2;cases N:tl[j]? with
  |none=>rw[N]at h1;cases h1
  |some t =>
   rw[N]at h1 h2;cases h1;cases h2;have f:=pF N;refine⟨a6 (hsub t f),hT t f,#[],g _ (hsub t f),trivial,.inl rfl⟩
 ·obtain⟨_,_,_,_,_,_,_,_,_,_,z,_⟩:=hh;rw[jV]at z;cases N:tl[j]? with
  |none=>rw[N]at z;cases z
  |some t=>rw[N]at z;cases z
 rw[e];intro v p x h _ _ d;simp only[Den]at d;subst d;exact q p
end
open Classical in
noncomputable def oV(g:A->Mo A)(a:A):Mo A:=λZ=>if h:∃(ds:ai A) (m:ax),eG Z a=ag ds/\m<=ds.length/\ds.length<=100000/\∀i d,ds[i]?=ag d->g d Z=ag (.ok (.bl (decide (m<=i))),Z)then ag (.ok (.int (h.choose_spec.choose:ax)),Z)else ao
theorem Uq{g:A->Mo A}{a:A}{Z:aH}{ds:ai A}{m:ax}(h1:eG Z a=ag ds)(h2:m<=ds.length)(f:ds.length<=100000)(c:∀i d,ds[i]?=ag d->g d Z=ag (.ok (.bl (decide (m<=i))),Z)):oV g a Z=ag (.ok (.int (m:aw)),Z):=by
 have h:∃(ds:ai A) (m:ax),eG Z a=ag ds/\m<=ds.length/\ds.length<=100000/\∀i d,ds[i]?=ag d->g d Z=ag (.ok (.bl (decide (m<=i))),Z):=⟨ds,m,h1,h2,f,c⟩;have key:∀(U:ai A) (j:ax),eG Z a=ag U->j<=U.length->(∀i d,U[i]?=ag d->g d Z=ag (.ok (.bl (decide (j<=i))),Z))->j=m:=by
  intro U j N e B;rw[h1]at N;cases N
  rcases Nat.lt_trichotomy j m with z|z|z
  ·have hl:j<ds.length:=by omega
   have b:=c j _ (dP hl);have q:=B j _ (dP hl);rw[b]at q;simp at q;omega
  ·exact z
  ·have hl:m<ds.length:=by omega
   have b:=c m _ (dP hl);have q:=B m _ (dP hl);rw[b]at q;simp at q;omega
 unfold oV;rw[dif_pos h];obtain⟨N,e,k,B⟩:=h.choose_spec.choose_spec;rw[key _ _ N e B]
theorem arY{g:A->Mo A}{a:A}{Z:aH}{r:Rs A×aH}(h:oV g a Z=ag r):∃(ds:ai A) (m:ax),eG Z a=ag ds/\m<=ds.length/\ds.length<=100000/\(∀i d,ds[i]?=ag d->g d Z=ag (.ok (.bl (decide (m<=i))),Z))/\r=(.ok (.int (m:aw)),Z):=by
 unfold oV at h;split at h
 ·rename_i hh;cases h;obtain⟨B,z,q,j⟩:=hh.choose_spec.choose_spec;exact⟨_,_,B,z,q,j,rfl⟩
 ·cases h
end V2
namespace M
open PySem V2
noncomputable section
def MJ(j:ar)(g:A->Mo A):MS :=
 (aO (bS (aC (mQ) (aC cY bX dA) gD) (gN 4))
   (eI (bD (WD 1 j g (aC aY aI bW)))
    (bS bW (gN 3))
    (bS (aC cY bW cL) (gN 2))))
def CQ(j:ar)(g:A->Mo A):Ev->Mo bc :=
 (bD (aC oB bX dA))
def GC(j:ar)(g:A->Mo A):MS :=
 (aO (bS bR (gN 2))
  (aO (bS (aN lW (aA aI a0)) (gN 3))
  (aO (λY Z=>kC (CQ j g) (MJ j g) ((λ_ _=>1000000) Y Z) Y Z)
  (bT bX))))
def Xk:MS :=
 (bT (iR (aA (aN pU (aA bR (aA (aC (lE) (aC aY aW bR) (aC aY aI cL)) a0))) (aA (aC (lE) (aC aY aW cL) (aC aY aI bR)) a0))))
def DK:ai A->Mo A:=cP 2 Xk
end
end M
namespace V2
open PySem PySem.Spec PyProof.Rows L2
section
variable{K:ba}{G H:Hp}{O:ai ar}{Z:aH}{d:ar}
theorem Wd.neG(w:Wd K G O Z H)(hd:H d=ao){a:ar}{o:HO}(h:G a=ag o):a≠d:=λz=>by
 have:=w.sub _ _ h;rw[z,hd]at this;cases this
theorem Wd.asC(w:Wd K G O Z H)(hd:H d=ao)(o:HO):Ext G O (upd G d o) O:=⟨λa u h=>by rw[bO (w.neG hd h)];exact h,λ_ _ h=>h⟩
theorem Wd.up(w:Wd K G O Z H)(hd:H d=ao)(o:HO):Wd K (upd G d o) O Z (upd H d o):=w.new hd o
end
section
variable{X:Cx}{W:WX}{a b c d:bg}{ta tb tc td:TE}{fa fb fc fd:Ev->Mo A}{pos:cn}
def Mc(r c a:R2)(ta tb tc td:TE):TE:=λJ H Q=>ta J H λx H1=>tb J H1 λy H2=>r x y H2 λz N=>∃k,z=.bl k /\
 (if k=av then tc J N λj e=>c y j e λU B=>∃q,U=.bl q/\(if q=av then td J B λb d=>a j b d Q else Q (.bl ak) B)else Q (.bl ak) N)
theorem ai1{j q B:CmpOp}{r l U:R2}(ho:fV X (br j) r)(iW:fV X (br q) l)(KQ:fV X (br B) U)(ha:PE X a ta)(hb:PE X b tb)(hc:PE X c tc)(hd:PE X d td)
  (hm:lastMarks [j,q,B] [b,c,d]=ak:=by with_unfolding_all rfl):PE X (.Compare a [j,q,B] [b,c,d] pos) (Mc r l U ta tb tc td):=by
 intro aa s J H Q I h;refine Compare_chain (bI (ha aa s J H _ I h) λv L ⟨x,H1,I1,S,q1⟩=>chain_link (bI (hb aa L J H1 _ I1 q1) λu K ⟨y,H2,I2,i,W⟩ =>
  bI (ho aa K J H2 x y v u _ I2 S i W) λd G ⟨z,w,p,R,k,e,n⟩=>?_)) hm
 subst e;cases R;refine vG ?_;cases k with
 |false=>exact ite_ff ⟨.bl ak,w,p,rfl,n⟩
 |true =>
  refine ite_tt (chain_link (bI (hc aa G J w _ p n) λf F ⟨N,H4,I4,g,V⟩=>bI (iW aa F J H4 y N u f _ I4 i g V) λd' E zz=>?_));obtain⟨z2,t,o,P,k',e',m⟩:=zz;subst e';cases P;refine vG ?_;cases k' with
  |false=>exact ite_ff ⟨.bl ak,t,o,rfl,m⟩
  |true=>exact ite_tt (chain_last (bI (hd aa E J t _ o m) λC D ⟨A,H6,I6,M,T⟩=>KQ aa D J H6 N A f C Q I6 g M T))
@[simp] def WH(g g' b:A->A->Mo A)(a f2 U N:Ev->Mo A):Ev->Mo A:=λY=>mb (a Y) λx=>mb (f2 Y) λy=>mb (g x y) λz=>mb (FI z) λk=>if k then mb (U Y) λu=>mb (g' y u) λj=>mb (FI j) λB=>if B then mb (N Y) λq=>b u q else ret (.bl ak)else ret (.bl ak)
theorem adW{K:ba}{r X F:R2}{g g' BZ:A->A->Mo A}{V T S R:TE}(ho:sC K W r g)(iW:sC K W X g')(KQ:sC K W F BZ)(h1:eQ K (Den K) W V fa)(h2:eQ K (Den K) W T fb)(h3:eQ K (Den K) W S fc)(h4:eQ K (Den K) W R fd):eQ K (Den K) W (Mc r X F V T S R) (WH g g' BZ fa fb fc fd):=by
 intro G O Z H J j Q w q h;refine h1 G O Z H J j _ w q (bP.mb h λx o v H1 G1 c t w1 d1 h1=>?_);refine h2 G1 c o H1 J j _ w1 (q.ext t) (bP.mb h1 λy l u H2 G2 b s w2 d2 h2=>?_);refine ho G2 b l H2 J v u x y _ w2 (d1.ext s) d2 (bP.mb h2 λz i z' H3 G3 a p P d3 E=>?_);cases z with
 |bl k =>
  simp only[Den]at d3;refine⟨k,d3,?_⟩;cases k with
  |true =>
   refine h3 G3 a i H3 J j _ P (q.ext ((t.trans s).trans p)) (bP.mb E λm f m' H4 G4 U L w4 d4 C=>?_);refine iW G4 U f H4 J u m' y m _ w4 (d2.ext (p.trans L)) d4 (bP.mb C λz2 e z2' H5 G5 N I M d5 D=>?_);cases z2 with
   |bl k' =>
    simp only[Den]at d5;refine⟨k',d5,?_⟩;cases k' with
    |true=>exact h4 G5 N e H5 J j _ M (q.ext ((((t.trans s).trans p).trans L).trans I)) (bP.mb D λn d n' H6 G6 B x6 w6 d6 h6=>KQ G6 B d H6 J m' n' m n Q w6 (d4.ext (I.trans x6)) d6 h6)
    |false=>exact jY M (by simp only[Den]) D
   |_=>exact False.elim D
  |false=>exact jY P (by simp only[Den]) E
 |_=>exact False.elim E
theorem abC{j q N:CmpOp}{g g' U:A->A->Mo A}(w:kF X W (br j) g)(v:kF X W (br q) g')(C:kF X W (br N) U)(y:VE X W a fa)(hb:VE X W b fb)(x:VE X W c fc)(hd:VE X W d fd)
  (hm:lastMarks [j,q,N] [b,c,d]=ak:=by with_unfolding_all rfl):VE X W (.Compare a [j,q,N] [b,c,d] pos) (WH g g' U fa fb fc fd):=by
 obtain⟨r,s,p⟩:=w;obtain⟨H,D,E⟩:=v;obtain⟨F,z,B⟩:=C;obtain⟨t,o,k⟩:=y;obtain⟨u,n,i⟩:=hb;obtain⟨G,m,h⟩:=x;obtain⟨e,l,f⟩:=hd;exact⟨_,ai1 s D z o n m l hm,adW p E B k i h f⟩
def aaD(_ j:aw):Prop:=0<j/\j<1152921504606846976
instance (i j:aw):c2 (aaD i j):=by unfold aaD;infer_instance
end
end V2
namespace M
open PySem V2
noncomputable section
def Ff:MS :=
 (aO (bS (aC aY dA cL) (gN 4))
   (aO (bS (aC cY aW bW) (gN 1))
   (eI (fG (bD (aC oB bW cL)) (bD (aC zA aW (cI 1000000000))))
    (λ_ _=>ao)
    fH)))
def Fg:MS :=
 (aO (bS bR (gN 1))
  (aO (jX (WG aI) (lV 2 (fJ (gN 2) (fJ (gN 3) mP))) Ff)
  (bT aW)))
def UE:ai A->Mo A:=cP 5 Fg
def RW:MS :=
 (aO (eI (bD (aC oB bW aW))
    (bS (aC cY bX fM) (gN 2))
    fH)
   (eI (bD (aC pV bW aW))
    (bS (aC cY dA fM) (gN 3))
    fH))
def Ft:MS :=
 (aO (bS bR (gN 2))
  (aO (bS bR (gN 3))
  (aO (jX (fD aI) (lV 2 (fJ (gN 4) (fJ (gN 5) mP))) RW)
  (bT (iR (aA bX (aA dA a0)))))))
def HM:ai A->Mo A:=cP 6 Ft
def Xm:MS :=
 (aO (eI (fG (fY (bD (aN oU (aA aI (aA (cT "tuple") a0))))) (bD (aC iP (aN lW (aA aI a0)) gD)))
   (bT (cB ak))
   fH)
  (aO (eI (fG (fY (bD (aN oU (aA (aC aY aI bR) (aA (cT "int") a0))))) (fY (bD (aN oU (aA (aC aY aI cL) (aA (cT "int") a0))))))
   (bT (cB ak))
   fH)
  (aO (eI (fG (bD (aN oU (aA (aC aY aI bR) (aA (cT "bool") a0)))) (bD (aN oU (aA (aC aY aI cL) (aA (cT "bool") a0)))))
   (bT (cB ak))
   fH)
  (bT (yA (WH pV pV pV bR (aC aY aI bR) aW (aC aY aI cL)) (aC pV (aC (lE) (aC aY aI cL) (aC aY aI bR)) bX))))))
def pI:ai A->Mo A:=cP 3 Xm
def Fb:MS :=
 (aO (vT (iR (aA (aC cY bX cL) (aA (aC cY bX bW) a0))) aW dA)
   (bS (aC cY bX bW) (gN 2)))
def RO:MS :=
 (aO (bS uC (gN 1))
  (aO (bS bR (gN 2))
  (aO (jX (fD (aN (bA 1 NL) (aA aI a0))) (lV 2 (fJ (gN 3) (fJ (gN 4) mP))) Fb)
  (bT aW))))
def NK:ai A->Mo A:=cP 5 RO
def GH:MS :=
 (aO (bS (aN (bA 2 xQ) (aA aW (aA (aC cY (cI 80) bW) a0))) (gN 5))
   (aO (bS (aN (bA 2 xP) (aA fM (aA bX a0))) (gN 6))
   (aO (eI (rL (bD (aC iP aI (kR ak a0))) (bD (aC oB bW IK)))
    (bS (aC cY (aC aY (aC aY aI (aC (iX) fM (aN lW (aA aI a0)))) bR) (aC aY (kR ak (aA bR (aA bR (aA cL (aA (WC cL) a0))))) (aC (iX) (aC (mQ) fM (cI 4096)) DQ))) (gN 6))
    fH)
   (jC (lA pW dA (aA mW a0))))))
def RY:MS :=
 (aO (bS (kR av a0) (gN 3))
  (aO (jX (IQ (aA VJ a0)) (gN 4) GH)
  (bT (vM 3))))
def zP:ai A->Mo A:=cP 7 RY
end
end M
namespace PySem
set_option maxRecDepth 100000
set_option compiler.extract_closed false
set_option genSizeOf false
set_option bootstrap.genMatcherCode false
end PySem
namespace V2
open PySem PySem.Spec PyProof.Rows L2
def sV:Hp->ai ar->ai (ai V)->Hp
 |H,a::as,t::j=>sV (upd H a (.tup t)) as j
 |H,[],_=>H
 |H,_::_,[]=>H
theorem abJ{H:Hp}{a b:ar}{o u:HO}(h:a≠b):upd (upd H a o) b u=upd (upd H b u) a o:=by
 funext c
 by_cases h1:c=a
 ·subst h1;rw[bO h,dZ,dZ]
 ·by_cases h2:c=b
  ·subst h2;rw[dZ,bO h1,dZ]
  ·rw[bO h2,bO h1,bO h1,bO h2]
theorem Li{l:ar}{o:HO}:∀(as:ai ar) (j:ai (ai V)) (H:Hp),l∉as->sV (upd H l o) as j=upd (sV H as j) l o
 |[],j,H,_=>by cases j <;> rfl
 |a::as,[],H,_=>rfl
 |a::as,t::j,H,h=>by
  have q:l≠a:=λe=>h (by rw[e];exact List.mem_cons_self ..);show sV (upd (upd H l o) a (.tup t)) as j=upd (sV (upd H a (.tup t)) as j) l o;rw[abJ q];exact Li as j _ λe=>h (fL _ e)
theorem Ra{P:a9}{w:bf}{k:Key}{u:aj}(h:(jD P w).is k u=av):RelV (kV k) u:=by
 rcases tI (k:=k) (v:=u) h with⟨i,t,q,j⟩|⟨x,t,q,j⟩
 ·subst q;exact⟨t,j⟩
 ·subst q;exact⟨t,j⟩
section
variable{X:Cx}{W:WX}
theorem Lq{aa:ai (ar×cb)}{J:L2.St}{h N:au}{y:Hp}(g:Inv X aa J y h):∀(as:ai ar) (B:ai (ai V)) (H:Hp),Inv X aa J H N->as.length=B.length->as.Nodup->(∀a∈as,h.heap.objs.size<=a/\H a=ao) ->
  (∀(j:ax) (a:ar) (t:ai V),as[j]?=ag a->B[j]?=ag t->t.length<=ay/\∃U n,Vals t U/\N.heap.get? a=ag {cls:=.type "tuple",data:=.seq U.toArray n})->Inv X aa J (sV H as B) N
 |[],[],H,I,_,_,_,_=>I
 |[],_::_,H,I,hl,_,_,_=>by simp at hl
 |_::_,[],H,I,hl,_,_,_=>by simp at hl
 |a::as,t::B,H,I,hl,hn,hb,i=>by
  obtain⟨h1,h2⟩:=hb a kU;obtain⟨m,U,n,l,e⟩:=i 0 a t rfl rfl;have aK:fE X.prog X.w (upd H a (.tup t)) N.heap:=by
   refine λb o q=>?_
   by_cases k:b=a
   ·subst k;rw[dZ]at q;cases q;exact⟨m,U,l,⟨_,e,rfl,_,rfl⟩⟩
   ·rw[bO k]at q;exact(I.aK b o q).nC (λc v _ z=>z) (λc z=>by rw[bO (iG z h2)];exact z) λc A z=>by rw[bO (iG z h2)];exact z
  have f:pH X aa H a:=g.uN h1 h2;have p:X.s₀.heap.get? a=ao:=by
   cases q:X.s₀.heap.get? a with
   |none=>rfl
   |some C=>exact bp (lI (eB q) (pC g.sz h1)) (Nat.lt_irrefl _)
  have x:=Inv.WN I h2 p f.2.1 f.2.2.2.2.1 f.2.2.2.2.2 aK;rw[pE]at hn;exact Lq g as B _ x (by simpa using hl) hn.2 (λb d=>⟨(hb b (fL _ d)).1,by rw[bO (λz=>hn.1 (by rw[<-z];exact d))];exact(hb b (fL _ d)).2⟩) (λj b u s r=>i (j+1) b u s r)
theorem Af{α β:Type}{F:α->β->Prop}:∀{l₁:ai α} {l₂:ai β},Paired F l₁ l₂->∀{j:ax} {a:α},l₁[j]?=ag a->∃b,l₂[j]?=ag b/\F a b
 |_,_,.nil,j,a,h=>by simp at h
 |_,_,.cons r _,0,a,h=>by cases h;exact⟨_,rfl,r⟩
 |_,_,.cons _ z,j+1,a,h=>by obtain⟨b,q,f⟩:=Af z (j:=j) (by simpa using h);exact⟨b,by simpa using q,f⟩
theorem Kw:∀as:ai ar,Vals (as.map V.ref) (as.map Value.ref)
 |[] => .nil
 |a::as => .cons rfl (Kw as)
theorem aiM{o:bg}{td:TE}{R af p f:cn}(hc:X.calm=av)(Cg:Gl X "list")(EU:X.mg "list" = ao)(ho:PE X o td)
  (D:a5 [.Call (.Attribute o "items" af) [] [] f] X.env=[(ak,bt (.Call (.Attribute o "items" af) [] [] f) X.env)]:=by rfl)
  (T:bu o "items" X.env (bt o X.env)=bt o X.env:=by rfl) (lP:(af.endLine==f.line)=av:=by rfl) :
  PE X (.Call (.Name "list" R) [.Call (.Attribute o "items" af) [] [] f] [] p) (λJ H Q=>td J H λx H1=>∃a kvs,x=.ref a/\H1 a=ag (.dK kvs) /\
   ∀(as:ai ar) (l:ar),as.length=kvs.length->as.Nodup->l∉as->(∀b∈as,H1 b=ao)->H1 l=ao->Q (.ref l) (upd (sV H1 as (kvs.map λU=>[kV U.1,U.2])) l (.lst (as.map V.ref)))):=by
 intro aa s J H Q I h;refine uA (BA I Cg EU SV ?_);refine SU ?_ D rfl;rw[D];show wpAny _ _ (spliced ((ak,bt (.Call (.Attribute o "items" af) [] [] f) X.env)::[])) _ _ s;refine ID ?_;refine VF T lP (bI (ho aa s J H _ I h) λv B ⟨x,H1,A,M,p⟩=>?_);obtain⟨a,kvs,rfl,G,q⟩:=p;cases M;obtain⟨h1,h2,KH⟩:=KA A (.inl ⟨kvs,.inl G⟩);obtain⟨z,_,n,rel,y⟩:=FT A.aK G;refine⟨"dict", "dict.items",PySem.F.plainAttrs_dict,PySem.F.slot_dict_items,PySem.F.type_dict_items,h1,h2,IE rfl (PySem.evalArgs_none ?_)⟩;refine MH PySem.F.slot_dict_items y.typeIs PySem.F.entry_dict_items (PySem.F.args_dict_items_1 _) (meets_dict_items (jD X.prog X.w) a KH) ⟨⟨n,y⟩,?_⟩;refine NU ?_;have N:Inv X aa J H1 {B with heap:=B.heap.push {cls:=.type "dict_items",data:=.fields #[.ref a]} }:=A.kept (t':=B.toks) λb o e=>dQ _ e;obtain⟨ep,P⟩:=y.dictAt;have hvl:kvs.length=n.length:=rel.length;refine PySem.W.kdx_call (knd:=jD X.prog X.w) (kvs:=n) (ep:=ep) (s:={B with heap:=B.heap.push {cls:=.type "dict_items",data:=.fields #[.ref a]} }) (N.ok.hd hc) ⟨_,fW _ rfl,rfl,rfl⟩ (P.push _) (by omega) λh' tk acc c as E hS hl g S=>?_;generalize wO:({B with heap:=B.heap.push {cls:=.type "dict_items",data:=.fields #[.ref a]} }:au)=d at N E hS g;have hnd:as.Nodup:=g.rise.imp λh=>gB h;have m:d.heap.objs.size∉as:=λz=>bp (g.above _ z) (Nat.lt_irrefl _);have C:∀b∈as,d.heap.objs.size<=b:=λb hb=>Hx (g.above b hb);have r:as.length<=ay:=by omega
 have I3:Inv X aa J (upd H1 d.heap.objs.size (.lst (as.map V.ref))) {d with heap:=h',toks:=tk}:=N.laid (t':=tk) (o:=.lst (as.map V.ref)) E cR ⟨by rw[lJ];exact r,as.map Value.ref,c,Kw as,by rw[<-S];exact hS⟩;have L:=Lq N as (kvs.map λU=>[kV U.1,U.2]) _ I3 (by simp;omega) hnd (λb hb=>⟨C b hb,by rw[bO (λz=>m (by rw[<-z];exact hb))];exact N.aK.fresh (C b hb)⟩) (λj b t e1 i=>by
  obtain⟨key,k,x,g1,g2,g3⟩:=g.pairs j b e1;rw[jV]at i;cases u:kvs[j]? with
  |none=>rw[u]at i;cases i
  |some U =>
   rw[u]at i;cases i;obtain⟨yQ,K,g6,g7⟩:=Af rel u;rw[g1]at K;cases K;refine⟨by show 2<=ay;decide,[key,x],0,.cons (by rw[g6];exact Ra g2) (.cons g7 .nil),g3⟩)
 rw[Li as _ H1 m]at L;exact⟨.ref d.heap.objs.size,_,L,rfl,q as _ (by omega) hnd m (λb hb=>N.aK.fresh (C b hb)) (N.aK.fresh cR)⟩
end
noncomputable def kA:Key->A
 |.inl i => .int i
 |.inr s => .str s
theorem Vo{K:ba}{G:Hp}{O:ai ar}(k:Key):Den K G O (kV k) (kA k):=by cases k <;> simp only[kV,kA,Den]
def qL(j:Key×A):A:=.tup [kA j.1,j.2]
section
variable{K:ba}
theorem Lo{Z:aH}:∀(as:ai ar) (q:ai (Key×V)) (kvs:ai (Key×A)) (G H:Hp) (O:ai ar),Wd K G O Z H->as.length=q.length->as.Nodup->(∀b∈as,H b=ao)->q.map (·.1)=kvs.map (·.1)->aV K G O (q.map (·.2)) (kvs.map (·.2)) ->
  ∃G',Ext G O G' O/\Wd K G' O Z (sV H as (q.map λB=>[kV B.1,B.2]))/\aV K G' O (as.map V.ref) (kvs.map qL)
 |[],[],[],G,H,O,w,_,_,_,_,_=>⟨G,Ext.refl _ _,w,by rw[pG,pG,qS]⟩
 |[],[],_::_,_,_,_,_,_,_,_,h,_=>by simp at h
 |[],_::_,_,_,_,_,_,h,_,_,_,_=>by simp at h
 |_::_,[],_,_,_,_,_,h,_,_,_,_=>by simp at h
 |_::_,_::_,[],_,_,_,_,_,_,_,h,_=>by simp at h
 |a::as,j::q,B::kvs,G,H,O,w,hl,hn,hb,c,d=>by
  rw[cK,cK]at d c;obtain⟨x,r,m,p,o⟩:=d.mJ;obtain⟨rfl,rfl⟩:=List.cons.inj m;obtain⟨l,k⟩:=List.cons.inj c;rw[pE]at hn;have e:=hb a kU;have U:=w.asC e (.tup [kV j.1,j.2]);have i:=w.up e (.tup [kV j.1,j.2]);obtain⟨G',N,g,n⟩:=Lo as q kvs _ _ O i (by simpa using hl) hn.2 (λb f=>by rw[bO (λz=>hn.1 (by rw[<-z];exact f))];exact hb b (fL _ f)) k (o.ext U);refine⟨G',U.trans N,g,?_⟩;rw[cK,cK];refine .cons ?_ n;simp only[qL,Den];refine⟨a,[kV j.1,j.2],rfl,N.same _ _ dZ,.cons (by rw[l];exact Vo _) (.cons (p.ext (U.trans N)) (by rw[qS]))⟩
end
theorem Xw(a:A)(j:cJ 7 a=av):∀(ds:ai A),ds.all (cJ 7)=av->((ds.map (toPy 7)).any λy=>PyData.eqv y (toPy 7 a))=ds.any λd=>gA 7 d a
 |[],_=>rfl
 |d::ds,h=>by
  simp only[Iq,mC]at h;simp only[cK,NC];rw[WR 7 d a h.1 j,Xw a j ds h.2]
def Nn(K:ba)(neg:bc):R2:=λx y H Q=>∃O a ds,cJ 7 a=av/\cJ 8 (.lst ds)=av/\Den K H O x a/\Den K H O y (.lst ds)/\Q (.bl (if neg then !(ds.any λd=>gA 7 d a)else ds.any λd=>gA 7 d a)) H
theorem ajK{X:Cx}(e:X.A.units+64<dm):fV X (br .NotIn) (Nn X.K av):=by
 intro aa s J H x y v u Q I z j h;obtain⟨c,a,ds,h1,h2,b,U,q⟩:=h;obtain⟨g,N⟩:=EC I 7 x v a h1 b z;obtain⟨bs,B⟩:=EC I 8 y u (.lst ds) h2 U j;have f:=WS 7 a;have hall:ds.all (cJ 7)=av:=h2;refine SeqAt.notIn_list_reads (xs:=ds.map (toPy 7)) B N (RJ ds 7 (λd _=>DX 7 d) hall) (DX 7 a h1) (by omega) ?_;rw[Xw a h1 ds hall];exact⟨.bl (!(ds.any λd=>gA 7 d a)),H,I,rfl,q⟩
def BX(neg:bc)(a b:A):Mo A:=λZ=>match res Z 6 a,res Z 6 b with
 |some x,ag (.lst ds)=>if(cJ 7 x&&cJ 8 (.lst ds))=av then ag (.ok (.bl (if neg then !(ds.any λd=>gA 7 d x)else ds.any λd=>gA 7 d x)),Z)else ao
 |_,_=>ao
theorem ajG{K:ba}{W:WX}{neg:bc}:sC K W (Nn K neg) (BX neg):=by
 intro G q d H J x y a b Q w c U h;unfold BX at h;split at h
 ·rename_i z ds N B;split at h
  ·rename_i j;simp only[mC]at j;exact⟨q,z,ds,j.1,j.2,OY w 6 x a z c N,OY w 6 y b _ U B,h _ H G q (Ext.refl _ _) w (by simp only[Den])⟩
  ·exact False.elim h
 ·exact False.elim h
theorem akE{X:Cx}{W:WX}(j:X.A.units+64<dm):kF X W (br .NotIn) (BX av):=⟨_,ajK j,ajG⟩
noncomputable def putD{α:Type}(f:az)(v:α):ai (az×α)->ai (az×α)
 |[]=>[(f,v)]
 |(g,x)::r=>if g=f then(g,v)::r else(g,x)::putD f v r
@[simp] noncomputable def Fd.cell:Fd->aq Cell
 |.lst ds=>ag (.lst ds)
 |.bE kvs=>ag (.bE kvs)
 |.val _=>ao
theorem QA{α:Type}{f:az}:∀{l:ai (az×α)} {x:α},l.lookup f=ag x->∃i,l[i]?=ag (f,x)/\∀y,putD f y l=l.set i (f,y)
 |[],_,h=>by simp at h
 |(g,z)::r,x,h=>by
  by_cases e:g=f
  ·subst e;simp[List.lookup]at h;subst h;exact⟨0,rfl,λy=>by simp[putD]⟩
  ·have hb:(f==g)=ak:=xG.mpr (dX e);simp only[List.lookup,hb]at h;obtain⟨i,h1,h2⟩:=QA h;exact⟨i+1,by simpa using h1,λy=>by simp[putD,e,h2 y]⟩
theorem PB{α:Type}{f g:az}{v:α}:∀{l:ai (az×α)},(putD f v l).lookup g=if g=f then ag v else l.lookup g
 |[]=>by
  by_cases e:g=f
  ·subst e;simp[putD]
  ·have hb:(g==f)=ak:=xG.mpr e;simp[putD,List.lookup,hb,e]
 |(k,x)::r=>by
  have ih:=PB (f:=f) (g:=g) (v:=v) (l:=r)
  by_cases h:k=f
  ·subst h
   by_cases e:g=k
   ·subst e;simp[putD]
   ·have hb:(g==k)=ak:=xG.mpr e;simp[putD,List.lookup,hb,e]
  ·by_cases e:g=k
   ·subst e;simp[putD,h]
   ·have hb:(g==k)=ak:=xG.mpr e;simp only[putD,a7 h,List.lookup,hb];exact ih
theorem JE{α:Type}{f:az}{v w:α}:∀{l:ai (az×α)},putD f w (putD f v l)=putD f w l
 |[]=>by simp[putD]
 |(k,x)::r=>by
  by_cases h:k=f
  ·simp[putD,h]
  ·simp[putD,h,JE (l:=r)]
section
variable{K:ba}{G H:Hp}{O:ai ar}{Z:aH}
theorem uO:∀{j:ai (az×V)} {fs:ai (az×Fd)},jB K G O H j fs<->j.length=fs.length/\∀(i:ax) (h:az) (v:V) (g:az) (fd:Fd),j[i]?=ag (h,v)->fs[i]?=ag (g,fd)->h=g/\jI K G O H v fd
 |[],[]=>⟨λ_=>⟨rfl,λi h v g fd q=>by simp at q⟩,λ_=>trivial⟩
 |[],_::_=>⟨λh=>h.elim,λh=>by simp at h⟩
 |_::_,[]=>⟨λh=>h.elim,λh=>by simp at h⟩
 |(f,v)::j,(g,d)::fs=>by
  constructor
  ·rintro⟨h1,h2,U⟩;obtain⟨N,z⟩:=uO.mp U;refine⟨by simp[N],λi h B g' fd a b=>?_⟩;cases i with
   |zero=>simp at a b;obtain⟨rfl,rfl⟩:=a;obtain⟨rfl,rfl⟩:=b;exact⟨h1,h2⟩
   |succ i=>exact z i h B g' fd (by simpa using a) (by simpa using b)
  ·rintro⟨N,z⟩;obtain⟨h1,h2⟩:=z 0 f v g d rfl rfl;exact⟨h1,h2,uO.mpr ⟨by simpa using N,λi h B g' fd a b=>z (i+1) h B g' fd (by simpa using a) (by simpa using b)⟩⟩
theorem jB.look{ws:ai (az×V)}{fs:ai (az×Fd)}{f:az}{fd:Fd}(h:jB K G O H ws fs)(l:fs.lookup f=ag fd):∃v,ws.lookup f=ag v/\jI K G O H v fd:=by
 induction fs generalizing ws with
 |nil=>simp at l
 |cons p fs ih =>
  obtain⟨g,d⟩:=p;cases ws with
  |nil=>exact h.elim
  |cons q ws =>
   obtain⟨g',v⟩:=q;obtain⟨e,h2,j⟩:=h;subst e
   by_cases hb:(f==g')=av
   ·simp only[List.lookup,hb]at l ⊢;cases l;exact⟨v,rfl,h2⟩
   ·have hb:(f==g')=ak:=by simpa using hb
    simp only[List.lookup,hb]at l ⊢;exact ih j l
theorem jB.akM{ws:ai (az×V)}{fs:ai (az×Fd)}{f:az}(h:jB K G O H ws fs)(l:fs.lookup f=ao):ws.lookup f=ao:=by
 induction fs generalizing ws with
 |nil =>
  cases ws with
  |nil=>rfl
  |cons q ws=>exact h.elim
 |cons p fs ih =>
  obtain⟨g,d⟩:=p;cases ws with
  |nil=>exact h.elim
  |cons q ws =>
   obtain⟨g',v⟩:=q;obtain⟨e,h2,j⟩:=h;subst e
   by_cases hb:(f==g')=av
   ·simp only[List.lookup,hb]at l;cases l
   ·have hb:(f==g')=ak:=by simpa using hb
    simp only[List.lookup,hb]at l ⊢;exact ih j l
theorem jB.put{ws:ai (az×V)}{fs:ai (az×Fd)}{f:az}{fd:Fd}{v:V}(h:jB K G O H ws fs)(d:jI K G O H v fd):jB K G O H (iS f v ws) (putD f fd fs):=by
 induction fs generalizing ws with
 |nil =>
  cases ws with
  |nil=>exact⟨rfl,d,trivial⟩
  |cons q ws=>exact h.elim
 |cons p fs ih =>
  obtain⟨g,x⟩:=p;cases ws with
  |nil=>exact h.elim
  |cons q ws =>
   obtain⟨g',B⟩:=q;obtain⟨e,h2,z⟩:=h;subst e
   by_cases j:g'=f
   ·simp only[iS,putD,a6 j];exact⟨rfl,d,z⟩
   ·simp only[iS,putD,a7 j];exact⟨rfl,h2,ih z⟩
theorem jB.len{ws:ai (az×V)}{fs:ai (az×Fd)}(h:jB K G O H ws fs):ws.length=fs.length:=(uO.mp h).1
theorem jI.ajD{v:V}{fd:Fd}{c:Cell}(h:jI K G O H v fd)(q:fd.cell=ag c):∃b,v=.ref b/\b∉O/\(∃o,H b=ag o)/\rF K G O H b c:=by
 cases fd with
 |val a=>cases q
 |lst ds=>cases q;obtain⟨b,xs,h1,h2,B,j,z⟩:=h;exact⟨b,h1,B,⟨_,j⟩,h2,xs,j,z⟩
 |bE N=>cases q;obtain⟨b,ws,h1,h2,B,j,z,U⟩:=h;exact⟨b,h1,B,⟨_,j⟩,h2,ws,j,z,U⟩
theorem jI.EG{b:ar}{fd:Fd}{c:Cell}(j:fd.cell=ag c)(hb:b∉O)(h:rF K G O H b c):jI K G O H (.ref b) fd:=by
 cases fd with
 |val a=>cases j
 |lst ds=>cases j;obtain⟨h1,xs,h2,q⟩:=h;exact⟨b,xs,rfl,h1,hb,h2,q⟩
 |bE z=>cases j;obtain⟨h1,ws,h2,q,B⟩:=h;exact⟨b,ws,rfl,h1,hb,h2,q,B⟩
theorem Fd.au5{fd:Fd}{c:Cell}(j:fd.cell=ag c):fd.own=av:=by cases fd <;> first|rfl|cases j
theorem Fd.au6{fd:Fd}{c:Cell}(j:fd.cell=ag c):c.noOwn=av:=by cases fd <;> cases j <;> rfl
theorem jI.lend{b:ar}{v:V}{fd:Fd}(h:jI K G O H v fd)(hb:fd.own=av->v≠.ref b):jI K G (O++[b]) H v fd:=by
 cases fd with
 |val a=>exact Den.ext (Ext.cell b) h
 |lst ds =>
  obtain⟨B,xs,h1,h2,z,q,j⟩:=h;exact⟨B,xs,h1,h2,by simp;exact⟨z,λe=>hb rfl (by rw[h1,e])⟩,q,j.ext (Ext.cell b)⟩
 |bE N =>
  obtain⟨B,ws,h1,h2,z,q,j,U⟩:=h;exact⟨B,ws,h1,h2,by simp;exact⟨z,λe=>hb rfl (by rw[h1,e])⟩,q,j,U.ext (Ext.cell b)⟩
theorem Wd.unfold{s:ax}{cls f:az}{fs:ai (az×Fd)}{fd:Fd}{c:Cell}(w:Wd K G O Z H)(D:Z[s]?=ag (.ins cls fs))(hf:fs.lookup f=ag fd)(F:fd.cell=ag c) :
  ∃b,Wd K G (O++[b]) (Z.set s (.ins cls (putD f (.val (.aG Z.length)) fs))++[c]) H:=by
 obtain⟨a,I⟩:=w.addr D;obtain⟨g,C,R,ws,h0,h1,h2⟩:=w.aG s _ a D I;obtain⟨n,e1,e2⟩:=QA hf;obtain⟨q1,q2⟩:=uO.mp h2;have LC:n<fs.length:=(dO.mp e1).1;obtain⟨⟨Q,v0⟩,e3⟩:∃p,ws[n]?=ag p:=⟨ws[n]'(by omega),dP _⟩;obtain⟨rfl,o0⟩:=q2 n Q v0 f fd e3 e1;obtain⟨b,rfl,hb,⟨o,ho⟩,hC⟩:=o0.ajD F;have Oz:iY H O Z s n b:=⟨a,cls,fs,C,R,ws,_,_,fd,I,D,h1,e1,Fd.au5 F,e3⟩;have pT:s<Z.length:=(dO.mp D).1;have L:∀k,k<Z.length->(O++[b])[k]?=O[k]?:=λk r=>kP (by rw[w.len];exact r);have M:∀k,k<Z.length->(Z.set s (.ins cls (putD Q (.val (.aG Z.length)) fs))++[c])[k]?=(Z.set s (.ins cls (putD Q (.val (.aG Z.length)) fs)))[k]?:=λk r=>kP (by simpa using r);refine⟨b,w.sub,?_,by simp[w.len],λx hx=>?_,λk c' S l m=>?_,λb' k i k' i' l m=>?_⟩
 ·rw[MY];exact⟨w.inj,by simp,λx hx y hy=>by simp at hy;subst hy;exact λe=>hb (e ▸ hx)⟩
 ·rcases DC.mp hx with h|h
  ·exact w.live x h
  ·simp at h;subst h;exact⟨o,ho⟩
 ·by_cases r:k<Z.length
  ·rw[L k r]at m;rw[M k r]at l
   by_cases A:k=s
   ·subst A;rw[iD pT]at l;cases l;rw[I]at m;cases m;refine⟨g,C,R,ws,h0,h1,uO.mpr ⟨by rw[e2];simpa using q1,λj h v g' N B z=>?_⟩⟩;rw[e2]at z
    by_cases E:j=n
    ·subst E;rw[iD LC]at z;cases z;rw[e3]at B;cases B;refine⟨rfl,?_⟩;simp only[jI,Den];exact⟨b,rfl,by rw[<-w.len];simp⟩
    ·rw[kG (dX E)]at z;obtain⟨W,V⟩:=q2 j h v g' N B z;refine⟨W,V.lend λX ev=>E ?_⟩;subst ev;exact(w.sep b _ j _ n ⟨a,cls,fs,C,R,ws,_,_,N,I,D,h1,z,X,B⟩ Oz).2
   ·rw[kG (dX A)]at l;have q:=w.aG k c' S l m;cases c' with
    |lst ds=>obtain⟨B,xs,z,d⟩:=q;exact⟨B,xs,z,d.ext (Ext.cell b)⟩
    |bE kvs=>obtain⟨B,t,z,d,U⟩:=q;exact⟨B,t,z,d,U.ext (Ext.cell b)⟩
    |ins oX iA =>
     obtain⟨y0,T,P,t,B,z,d⟩:=q;obtain⟨p1,p2⟩:=uO.mp d;refine⟨y0,T,P,t,B,z,uO.mpr ⟨p1,λj h v g' N U u=>?_⟩⟩;obtain⟨W,V⟩:=p2 j h v g' N U u;refine⟨W,V.lend λX ev=>A ?_⟩;subst ev;exact(w.sep b k j s n ⟨S,oX,iA,T,P,t,_,_,N,m,l,z,u,X,U⟩ Oz).1
    |tab x pos qual=>exact q
    |dead=>trivial
  ·have lD:k=Z.length:=by
    have:=(dO.mp l).1;simp at this;omega
   subst lD;rw[<-w.len]at m;simp at m;subst m;simp at l;subst l;cases fd with
   |val x=>cases F
   |lst ds=>cases F;obtain⟨B,xs,z,d⟩:=hC;exact⟨B,xs,z,d.ext (Ext.cell b)⟩
   |bE kvs=>cases F;obtain⟨B,t,z,d,U⟩:=hC;exact⟨B,t,z,d,U.ext (Ext.cell b)⟩
 ·have back:∀{k i},iY H (O++[b]) (Z.set s (.ins cls (putD Q (.val (.aG Z.length)) fs))++[c]) k i b'->iY H O Z k i b':=λ{k i} h=>by
   have h0':=h;obtain⟨S,oX,iA,T,P,t,g',h',N,B,z,d,U,u,y6⟩:=h
   by_cases r:k<Z.length
   ·rw[L k r]at B;rw[M k r]at z
    by_cases A:k=s
    ·subst A;rw[iD pT]at z;cases z;rw[I]at B;cases B;rw[h1]at d;cases d;rw[e2]at U
     by_cases E:i=n
     ·subst E;rw[iD LC]at U;cases U;cases u
     ·rw[kG (dX E)]at U;exact⟨a,_,fs,C,R,ws,g',h',N,I,D,h1,U,u,y6⟩
    ·rw[kG (dX A)]at z;exact⟨S,oX,iA,T,P,t,g',h',N,B,z,d,U,u,y6⟩
   ·have lD:k=Z.length:=by
     have:=(dO.mp z).1;simp at this;omega
    subst lD;exact(h0'.no (by simp) (Fd.au6 F)).elim
  exact w.sep b' k i k' i' (back l) (back m)
theorem qD.get{n:ax}:∀{fs:ai (az×Fd)} {i:ax} {p:az×Fd},qD n fs->fs[i]?=ag p->rE n p.2
 |[],_,_,_,h=>by simp at h
 |_::_,0,_,c,h=>by simp at h;subst h;exact c.1
 |_::fs,i+1,_,c,h=>qD.get (fs:=fs) c.2 (by simpa using h)
theorem Wd.fold{s:ax}{cls f:az}{fs:ai (az×Fd)}{fd:Fd}{c:Cell}{q:aH}(w:Wd K G O (q++[c]) H)(hs:q[s]?=ag (.ins cls fs))(hf:fs.lookup f=ag (.val (.aG q.length)))(hc:fd.cell=ag c)
  (P:∀k c',k≠s->q[k]?=ag c'->IB q.length c') (hfs:qD q.length (putD f fd fs)):Wd K G (O.take q.length) (q.set s (.ins cls (putD f fd fs))) H:=by
 have W:s<q.length:=(dO.mp hs).1;have hlen:O.length=q.length+1:=by rw[w.len];simp
 have e:∀k,k<q.length->(q++[c])[k]?=q[k]?:=λk P=>kP P;have d:∀k,k<q.length->(O.take q.length)[k]?=O[k]?:=λk P=>by rw[NA,a6 P]
 obtain⟨b,hb⟩:∃b,O[q.length]?=ag b:=⟨O[q.length]'(by omega),dP _⟩;have eι:O=O.take q.length++[b]:=by
  have:=List.take_append_getElem (l:=O) (i:=q.length) (by omega);rw[dP (show q.length<O.length by omega)]at hb;cases hb;rw[List.take_append_getElem,List.take_of_length_le (by omega)]
 have hbn:b∉O.take q.length:=λz=>by
  have nd:=w.inj;rw[eι,MY]at nd;exact nd.2.2 b z b (by simp) rfl
 have sub:∀x,x∉O->x∉O.take q.length:=λx hx z=>hx (List.mem_of_mem_take z);have D:∃a,O[s]?=ag a:=w.addr (show(q++[c])[s]?=ag (.ins cls fs)by rw[e s W];exact hs);obtain⟨a,D⟩:=D;obtain⟨g,C,dx,ws,h0,h1,h2⟩:=w.aG s _ a (by rw[e s W];exact hs) D;obtain⟨i0,e1,e2⟩:=QA hf;obtain⟨q1,q2⟩:=uO.mp h2;have LC:i0<fs.length:=(dO.mp e1).1;have hcb:=w.aG q.length c b (by simp) hb;refine⟨w.sub,w.inj.sublist (List.take_sublist ..),by simp[hlen],λx hx=>w.live x (List.mem_of_mem_take hx),λk c' R m t=>?_,λp k i k' i' m t=>?_⟩
 ·have y:k<q.length:=by simpa using(dO.mp m).1
  rw[d k y]at t
  by_cases A:k=s
  ·subst A;rw[iD W]at m;cases m;rw[D]at t;cases t;refine⟨g,C,dx,ws,h0,h1,uO.mpr ⟨by rw[e2];simpa using q1,λj h v g' B U N=>?_⟩⟩;have We:rE q.length B:=hfs.get N;rw[e2]at N
   by_cases Q:j=i0
   ·subst Q;rw[iD LC]at N;cases N;obtain⟨T,o⟩:=q2 j h v _ _ U e1;refine⟨T,?_⟩;simp only[jI,Den]at o;obtain⟨b2,rfl,jS⟩:=o;rw[hb]at jS;cases jS;exact jI.EG hc hbn (hcb.cut d sub (by cases fd <;> cases hc <;> exact We))
   ·rw[kG (dX Q)]at N;obtain⟨T,o⟩:=q2 j h v g' B U N;exact⟨T,o.cut d sub We⟩
  ·rw[kG (dX A)]at m;exact(w.aG k c' R (by rw[e k y];exact m) t).cut d sub (P k c' A m)
 ·
  have back:∀{k i},iY H (O.take q.length) (q.set s (.ins cls (putD f fd fs))) k i p->(iY H O (q++[c]) k i p/\p∉O)\/(k=s/\i=i0/\p=b):=λ{k i} h=>by
   obtain⟨R,X,M,C',qQ,lL,g',h',B,U,N,u,n,S,E⟩:=h;have y:k<q.length:=by simpa using(dO.mp N).1
   rw[d k y]at U;have ab:∀{X M lL C' qQ B g' h'},(q++[c])[k]?=ag (.ins X M)->H R=ag (.ins C' qQ lL)->M[i]?=ag (g',B)->B.own=av->lL[i]?=ag (h',V.ref p)->p∉O:=λ{_ _ _ _ _ fdx _ _} I F x3 x4 x5=>by
    obtain⟨_,_,_,ws2,_,p1,p2⟩:=w.aG k _ R I U;rw[F]at p1;cases p1;obtain⟨_,r⟩:=(uO.mp p2).2 i _ _ _ _ x5 x3;cases fdx with
    |val x=>cases x4
    |lst ds=>obtain⟨b3,_,t1,_,t2,_⟩:=r;cases t1;exact t2
    |bE kvs=>obtain⟨b3,_,t1,_,t2,_⟩:=r;cases t1;exact t2
   by_cases A:k=s
   ·subst A;rw[iD W]at N;cases N;rw[D]at U;cases U;rw[h1]at u;cases u;rw[e2]at n
    by_cases Q:i=i0
    ·subst Q
     right
     rw[iD LC]at n;cases n;obtain⟨T,o⟩:=q2 i _ _ _ _ E e1;simp only[jI,Den]at o;obtain⟨b2,eb,jS⟩:=o;rw[hb]at jS;cases jS;cases eb;exact⟨rfl,rfl,rfl⟩
    ·rw[kG (dX Q)]at n;have L:(q++[c])[k]?=ag (.ins cls fs):=by rw[e k y];exact hs
     exact .inl ⟨⟨a,_,fs,C,dx,ws,g',h',B,D,L,h1,n,S,E⟩,ab L h1 n S E⟩
   ·rw[kG (dX A)]at N;have L:(q++[c])[k]?=ag (.ins X M):=by rw[e k y];exact N
    exact .inl ⟨⟨R,X,M,C',qQ,lL,g',h',B,U,L,u,n,S,E⟩,ab L u n S E⟩
  have Tp:b∈O:=pF hb
  rcases back m with⟨I,F⟩|⟨I,F,x3⟩ <;> rcases back t with⟨U,N⟩|⟨U,N,u⟩
  ·exact w.sep p k i k' i' I U
  ·subst u;exact bp Tp F
  ·subst x3;exact bp Tp N
  ·exact⟨I.trans U.symm,F.trans N.symm⟩
end
def Yi(s:ax)(f:az)(Z Z1:aH):Prop:=∃cls fs fd c,Z[s]?=ag (.ins cls fs)/\fs.lookup f=ag fd/\fd.cell=ag c/\Z1=Z.set s (.ins cls (putD f (.val (.aG Z.length)) fs))++[c]
def Folds(s:ax)(f:az)(n:ax)(Z2 Z':aH):Prop:=∃j c cls fs fd,Z2=j++[c]/\j.length=n/\j[s]?=ag (.ins cls fs)/\fs.lookup f=ag (.val (.aG n))/\fd.cell=ag c /\
 (∀k c',k≠s->j[k]?=ag c'->IB n c')/\qD n (putD f fd fs)/\Z'=j.set s (.ins cls (putD f fd fs))
structure ClS(Z:aH)(Y:Ev):Prop where
 aG:∀(k:ax) (c:Cell),Z[k]?=ag c->IB Z.length c
 env:∀(i:ax) (d:A),Y[i]?=ag (ag d)->Cl Z.length d
section
variable{K:ba}{G H:Hp}{O:ai ar}{Z Z1 Z2 Z':aH}{J:L2.St}{Y:Ev}{W:WX}{s:ax}{f:az}
theorem Wd.xC(w:Wd K G O Z H)(r:hW K G O J Y):ClS Z Y where
 aG:=λk c h=>by
  obtain⟨a,j⟩:=w.addr h;have:=(w.aG k c a h j).cl;rwa[w.len]at this
 env:=λi d h=>by
  obtain⟨v,_,q⟩:=r.2 i d h;have:=q.cl;rwa[w.len]at this
theorem Wd.unf(w:Wd K G O Z H)(h:Yi s f Z Z1):∃b,Wd K G (O++[b]) Z1 H:=by
 obtain⟨cls,fs,fd,c,h1,h2,j,rfl⟩:=h;exact w.unfold h1 h2 j
theorem asB{G':Hp}{O':ai ar}{b:ar}{n:ax}(hl:O.length=n)(e:Ext G (O++[b]) G' O'):Ext G O G' (O'.take n):=⟨e.same,λk x h=>by
 have j:=(dO.mp h).1;rw[NA,a6 (by omega)];exact e.pre k x (by rw[kP j];exact h)⟩
theorem Wd.ar3{n:ax}(w:Wd K G O Z2 H)(h:Folds s f n Z2 Z'):Wd K G (O.take n) Z' H:=by
 obtain⟨j,c,cls,fs,fd,rfl,rfl,U,N,B,z,q,rfl⟩:=h;exact w.fold U N B z q
theorem acH{O':ai ar}{n:ax}:∀k,k<n->(O'.take n)[k]?=O'[k]?:=λk j=>by rw[NA,a6 j]
theorem Vf{j:L2.St}{Y':Ev}{G':Hp}{O':ai ar}{n:ax}(r:hW K G' O' j Y')(q:∀(i:ax) (d:A),Y'[i]?=ag (ag d)->Cl n d):hW K G' (O'.take n) j Y' :=
 ⟨r.1,λi d h=>let ⟨v,h1,h2⟩:=r.2 i d h; ⟨v,h1,h2.cut acH (q i d h)⟩⟩
theorem ahR{b:ar}{D:Ends}{Y':Ev}(w:Wd K G O Z H)(U:Folds s f Z.length Z2 Z')(N:∀(i:ax) (d:A),Y'[i]?=ag (ag d)->Cl Z.length d)(h:fK K W G O D (ag (.nx,Y',Z'))):fK K W G (O++[b]) D (ag (.nx,Y',Z2)):=by
 intro j a c q e z B;exact h j a c (q.take Z.length) (asB w.len e) (z.ar3 U) (Vf B N)
end
section
variable{X:Cx}{W:WX}{e:bg}{tg:bg}{st:bq}{g d:Ev->Mo A}{gb db:Ev->Mo bc}{gs ds:MS}{gt dt:A->MS}
theorem aaX(h:VS X W st gs)(hd:∀Y Z r,ClS Z Y->ds Y Z=ag r->∃s f Z1 Z2,Yi s f Z Z1/\gs Y Z1=ag (.nx,r.2.1,Z2)/\Folds s f Z.length Z2 r.2.2/\(∀(i:ax) (d:A),r.2.1[i]?=ag (ag d)->Cl Z.length d)/\r.1=.nx):VS X W st ds:=by
 obtain⟨t,p,a⟩:=h;refine⟨t,p,λG N Z H J Y D w r h=>?_⟩;cases e:ds Y Z with
 |none=>rw[e]at h;exact h.elim
 |some q =>
  obtain⟨s,f,Z1,Z2,h1,h2,B,z,j⟩:=hd Y Z q (w.xC r) e;obtain⟨b,U⟩:=w.unf h1;obtain⟨k,g,c⟩:=q;simp only at h2 B z j;subst j;rw[e]at h;refine a G (N++[b]) Z1 H J Y D U (r.ext (Ext.cell b)) ?_;rw[h2];exact ahR w B z h
end
def eU(K:ba)(cs:ai az)(f:az):Prop:=∀cls∈cs,∃C,nsIn K a8 cls=ag (ag (.ref C))/\nR K C/\CV K C f
@[simp] def FH(cs:ai az)(f:az)(a:A):Mo A:=λZ=>match a with
 |.aG s=>match Z[s]? with
  |some (.ins cls fs)=>if cls∈cs then match fs.lookup f with
   |some (.val b)=>ag (.ok b,Z)
   |_=>ao else ao
  |_=>ao
 |_=>ao
@[simp] def gO(cs:ai az)(f:az)(fe:Ev->Mo A):Ev->Mo A:=λY=>mb (fe Y) (FH cs f)
@[simp] def sZ(cs:ai az)(f:az)(fo fv:Ev->Mo A):MS:=λY=>sM (fv Y) Y λb=>sM (fo Y) Y λa Z=>match a with
 |.aG s=>match Z[s]? with
  |some (.ins cls fs)=>if cls∈cs/\fs.length<1000 then ag (.nx,Y,Z.set s (.ins cls (putD f (.val b) fs)))else ao
  |_=>ao
 |_=>ao
section
variable{K:ba}{G H:Hp}{O:ai ar}{Z:aH}
theorem Wd.ins(w:Wd K G O Z H){s:ax}{cls:az}{fs:ai (az×Fd)}{v:V}(h:Z[s]?=ag (.ins cls fs))(d:Den K G O v (.aG s)):∃a C dx,∃ws:ai (az×V),v=.ref a/\O[s]?=ag a/\G a=ao/\nsIn K a8 cls=ag (ag (.ref C))/\H a=ag (.ins C dx ws)/\jB K G O H ws fs:=by
 simp only[Den]at d;obtain⟨a,rfl,j⟩:=d;obtain⟨g,C,dx,ws,h1,h2,q⟩:=w.aG s _ a h j;exact⟨a,C,dx,ws,rfl,j,g,h1,h2,q⟩
theorem Oc{f:az}{v:V}{b:A}:∀{j:ai (az×V)} {fs:ai (az×Fd)} {i:ax} {g h:az} {fd:Fd} {x:V},jB K G O H j fs->(putD f (.val b) fs)[i]?=ag (g,fd)->fd.own=av->(iS f v j)[i]?=ag (h,x)->fs[i]?=ag (g,fd)/\j[i]?=ag (h,x)
 |[],[],i,g,h,fd,x,_,y,o,_=>by
  cases i with
  |zero=>simp[putD]at y;obtain⟨_,rfl⟩:=y;cases o
  |succ i=>simp[putD]at y
 |[],_::_,_,_,_,_,_,q,_,_,_=>q.elim
 |_::_,[],_,_,_,_,_,q,_,_,_=>q.elim
 |(k,u)::j,(U,d)::fs,i,g,h,fd,x,q,y,o,z=>by
  obtain⟨rfl,N,B⟩:=q
  by_cases e:k=f
  ·simp only[putD,iS,a6 e]at y z;cases i with
   |zero=>simp at y;obtain⟨_,rfl⟩:=y;cases o
   |succ i=>exact⟨by simpa using y,by simpa using z⟩
  ·simp only[putD,iS,a7 e]at y z;cases i with
   |zero=>exact⟨by simpa using y,by simpa using z⟩
   |succ i =>
    have:=Oc (f:=f) (v:=v) (b:=b) (i:=i) B (by simpa using y) o (by simpa using z);exact⟨by simpa using this.1,by simpa using this.2⟩
theorem Wd.ad2(w:Wd K G O Z H){s:ax}{cls f:az}{fs:ai (az×Fd)}{a C dx:ar}{ws:ai (az×V)}{v:V}{b:A}(h:Z[s]?=ag (.ins cls fs))(c:O[s]?=ag a)(F:G a=ao)(h0:nsIn K a8 cls=ag (ag (.ref C)))
  (h1:H a=ag (.ins C dx ws)) (h2:jB K G O H ws fs) (d:Den K G O v b):Wd K G O (Z.set s (.ins cls (putD f (.val b) fs))) (upd H a (.ins C dx (iS f v ws))):=by
 have D:s<Z.length:=(dO.mp h).1;have E:∀b o,b∉O->G b=ao->H b=ag o->b∉O/\G b=ao/\upd H a (.ins C dx (iS f v ws)) b=ag o:=λb o x y z=>by
  have nb:b≠a:=λe=>by subst e;exact x (EJ c)
  exact⟨x,y,by rw[bO nb];exact z⟩
 have X:jB K G O (upd H a (.ins C dx (iS f v ws))) ws fs:=h2.map λ_ _ q=>q.mono (Ext.refl _ _) E;refine⟨λb u q=>?_,w.inj,by simp[w.len],λb hb=>?_,λj T b U N=>?_,λp j i Q S U N=>?_⟩
 ·have e:b≠a:=λe=>by subst e;rw[F]at q;cases q
  rw[bO e];exact w.sub _ _ q
 ·by_cases e:b=a
  ·subst e;exact⟨_,dZ⟩
  ·rw[bO e];exact w.live b hb
 ·by_cases B:j=s
  ·subst B;rw[iD D]at U;cases U;rw[c]at N;cases N;exact⟨F,C,dx,_,h0,dZ,X.put d⟩
  ·rw[kG (dX B)]at U;have fO:b≠a:=λe=>by subst e;exact B (EI w.inj N c)
   exact(w.aG j T b U N).mono (Ext.refl _ _) rfl (bO fO) E
 ·have back:∀{j i},iY (upd H a (.ins C dx (iS f v ws))) O (Z.set s (.ins cls (putD f (.val b) fs))) j i p->iY H O Z j i p:=λ{j i} q=>by
   obtain⟨I,M,R,W,L,P,g',h',g,m,l,k,t,n,r⟩:=q
   by_cases B:j=s
   ·subst B;rw[iD D]at l;cases l;rw[c]at m;cases m;rw[dZ]at k;cases k;have pi:=Oc h2 t n r;exact⟨a,cls,fs,C,dx,ws,g',h',g,c,h,h1,pi.1,n,pi.2⟩
   ·rw[kG (dX B)]at l;have fO:I≠a:=λe=>by subst e;exact B (EI w.inj m c)
    rw[bO fO]at k;exact⟨I,M,R,W,L,P,g',h',g,m,l,k,t,n,r⟩
  exact w.sep p j i Q S (back U) (back N)
end
section
variable{X:Cx}{W:WX}{e o value:bg}{f:az}{cs:ai az}{pos pos':cn}{fe fo fv:Ev->Mo A}
theorem sQ(h:VE X W e fe)(x:eU X.K cs f)(hb:bu e f X.env (bt e X.env)=bt e X.env:=by rfl):VE X W (.Attribute e f pos) (gO cs f fe):=by
 obtain⟨t,p,s⟩:=h;refine⟨_,JG p hb,λG g i H J d Q w r h=>?_⟩;refine s G g i H J d _ w r (bP.mb h λa q v M P j R N L h1=>?_);unfold FH at h1;cases a with
 |aG k =>
  simp only at h1;cases B:q[k]? with
  |none=>rw[B]at h1;exact h1.elim
  |some c =>
   rw[B]at h1;cases c with
   |ins cls fs =>
    simp only at h1
    by_cases fQ:cls∈cs
    ·rw[a6 fQ]at h1;cases z:fs.lookup f with
     |none=>rw[z]at h1;exact h1.elim
     |some E =>
      rw[z]at h1;cases E with
      |val b =>
       obtain⟨a,C,F,m,rfl,T,S,D,y,A⟩:=N.ins B L;obtain⟨V,U,o,n⟩:=x cls fQ;rw[D]at U;cases U;obtain⟨u,l,I⟩:=A.look z;exact⟨a,C,F,m,u,rfl,y,o,n,l,h1 u M P j (Ext.refl _ _) N I⟩
      |_=>exact h1.elim
    ·rw[a7 fQ]at h1;exact h1.elim
   |_=>exact h1.elim
 |_=>exact h1.elim
theorem xY(R:VE X W o fo)(hv:VE X W value fv)(T:eU X.K cs f)(Q:dj value (ag (.Attribute o f pos')) pos.line X.env=pure ak:=by rfl):VS X W (.Assign [.Attribute o f pos'] value pos) (sZ cs f fo fv):=by
 obtain⟨t,p,s⟩:=R;obtain⟨u,q,z⟩:=hv;refine⟨_,ahL p q Q,λG E F H J e D w r h=>?_⟩;refine z G E F H J e _ w r (fK.sM h r λb U y H1 G1 B d L d1 h1=>?_);refine s G1 B U H1 J e _ L (r.ext d) (fK.sM h1 (r.ext d) λa N v H2 G2 A g i d2 h2=>?_);cases a with
 |aG k =>
  simp only at h2;cases j:N[k]? with
  |none=>rw[j]at h2;exact h2.elim
  |some c =>
   rw[j]at h2;cases c with
   |ins cls fs =>
    simp only at h2
    by_cases fQ:cls∈cs/\fs.length<1000
    ·rw[a6 fQ]at h2;obtain⟨a,C,dx,I,rfl,V,S,x,m,n⟩:=i.ins j d2;obtain⟨C',l,P,M⟩:=T cls fQ.1;rw[x]at l;cases l;refine⟨a,C,dx,I,rfl,m,P,M,by rw[n.len];exact fQ.2,?_⟩;exact wD (i.ad2 j V S x m n (d1.ext g)) ((r.ext d).ext g) h2
    ·rw[a7 fQ]at h2;exact h2.elim
   |_=>exact h2.elim
 |_=>exact h2.elim
end
end V2
namespace L2
open PySem PySem.Spec PyProof.Rows
section
variable{X:Cx}{W:WX}{k:ax}{f C:ar}{fd:b8}{ps:ai az}{sp:Sp}{dvs:ai V}{ds:ai aj}{x m:az}{p pos af:cn}{e o:bg}{es:ai bg}{ta:TE}{t:TA}
theorem ZO{aa:ai (ar×cb)}{J:St}{H:Hp}{s:au}{Q:VK}{us:ai aj}{vs:ai V}(T:pB X W)(F:hJ X.prog X.w X.K X.mg X.base (nS X.prog X.w) k f fd ps sp)(hr:cM k X.A)(hb:Binds X.K fd ps ds)(hd:Vals dvs ds)
  (I:Inv X aa J H s) (r:Vals vs us) (h:sp (vs++dvs) H Q λcls dx H'=>W J cls dx H'):wpAny (bb X.prog X.w) X.A (call (.ref f) us) (EP X aa J Q) X.xe s:=by
 have q:Vals (vs++dvs) (us++ds):=r.append hd;have hl:(us++ds).length=ps.length:=by rw[<-q.length];exact F.len _ _ _ _ h
 refine zY (rZ (F.run X.A X.stack s H ⟨us,[]⟩ (us++ds) (vs++dvs) Q _ hr I.CD (hb s us I.fI hl) q h) λr s' j=>?_);cases r with
 |error U =>
  obtain⟨a,cls,dx,H',rfl,os,bare,un,aK,ex,B⟩:=j;have N:=(I.FV os un aK bare (λb z=>bp z (by simp))).Ab;exact T.to _ _ ⟨J,H',a,cls,dx,rfl,N,(ex.first I T.ex).any,B⟩
 |ok fl =>
  cases fl with
  |ret u=>exact I.after j
  |next=>exact False.elim j
  |brk=>exact False.elim j
  |cont=>exact False.elim j
def WW(X:Cx)(W:WX)(m:az)(ta:TE)(t:TA):TE:=λJ H Q=>ta J H λx H1=>∃a C dx fs k f fd ps ds dvs sp,x=.ref a/\H1 a=ag (.ins C dx fs)/\fs.lookup m=ao/\nR X.K C/\Meth X.K C m f /\
 hJ X.prog X.w X.K X.mg X.base (nS X.prog X.w) k f fd ps sp/\cM k X.A/\Binds X.K fd ps ds/\Vals dvs ds/\t J H1 λvs H2=>sp (.ref a::vs++dvs) H2 Q λcls dx H'=>W J cls dx H'
theorem aiI{pl:Sem bc}(T:pB X W)(he:PE X o ta)(i:PA X (e::es) t)
  (d:a5 (e::es) X.env=(ak,bt e X.env)::a5 es X.env:=by rfl) (p:(b7 pos (a5 es X.env)).any (·.1)=ak:=by rfl)
  (g:bt (.Call (.Attribute o m af) (e::es) [] pos) X.env=(do
   let j<-bt o X.env
   standAt af.atName
   let (f,first)<-holding [j] (getMethod j m pl)
   callWith pos f first (b7 pos (a5 (e::es) X.env)) (backToKw pos (cv [] X.env))):=by rfl) :
  PE X (.Call (.Attribute o m af) (e::es) [] pos) (WW X W m ta t):=by
 intro aa s J H Q I h;refine methodCall_KW (pl:=pl) (bI (he aa s J H _ I h) λu N h1=>?_) g;obtain⟨x,w,B,U,a,C,G,fs,k,f,E,D,ds,v,y,rfl,n,l,c,hm,F,hr,hb,hd,q⟩:=h1;obtain rfl:u=Value.ref a:=U;refine Ug B n c hm l ?_;refine callWith_K (first:=[.ref a]) (h₀:=X.base) I.ok.mod.rS hm.kp (bI (i pos aa N J w _ B q) λus A ⟨vs,K,z,r,b⟩=>⟨z.fI,?_⟩) d p;exact ZO (us:=.ref a::us) (vs:=.ref a::vs) T F hr hb hd z (.cons rfl r) b
theorem aiH{pl:Sem bc}(T:pB X W)(he:PE X o ta)
  (N:bt (.Call (.Attribute o m af) [] [] pos) X.env=(do
   let z<-bt o X.env
   standAt af.atName
   let (f,first)<-holding [z] (getMethod z m pl)
   callWith pos f first (b7 pos (a5 [] X.env)) (backToKw pos (cv [] X.env))):=by rfl) :
  PE X (.Call (.Attribute o m af) [] [] pos) (WW X W m ta IV):=by
 intro aa s J H Q I h;refine methodCall_KW (pl:=pl) (bI (he aa s J H _ I h) λu e h1=>?_) N;obtain⟨x,p,j,B,a,C,n,fs,k,f,i,g,ds,b,d,rfl,U,l,c,hm,F,hr,hb,hd,q⟩:=h1;obtain rfl:u=Value.ref a:=B;refine Ug j U c hm l ?_;exact PySem.W.callWith_K0 (first:=[.ref a]) j.fI hm.kp (ZO (us:=[.ref a]) (vs:=[.ref a]) T F hr hb hd j (.cons rfl .nil) q)
structure Jx(K:ba)(R:ar)(m:az)(f:ar):Prop where
 reads:PySem.W.readsIn K R (.type "type")=av
 find:PySem.W.findCls K (.ref R) (.type "type") m=ag (.val (.ref f))
 ga:specialIn K (.ref R) "__getattribute__" = ag (ag (.builtin "type.__getattribute__"))
 kp:dh K (.ref f)=av
theorem ai8{pl:Sem bc}{R:ar}{j:az}{np:cn}(T:pB X W)(B:Jx X.K R m f)(q:X.mg j=ag (.ref R))(d:Gl X j)(F:hJ X.prog X.w X.K X.mg X.base (nS X.prog X.w) k f fd ps sp)(hr:cM k X.A)(hb:Binds X.K fd ps [])(g:PA X (e::es) t)
  (i:(j==("__debug__" : az))=ak:=by decide) (b:a5 (e::es) X.env=(ak,bt e X.env)::a5 es X.env:=by rfl) (l:(b7 pos (a5 es X.env)).any (·.1)=ak:=by rfl)
  (c:bt (.Call (.Attribute (.Name j np) m af) (e::es) [] pos) X.env=(do
   let z<-bt (.Name j np) X.env
   standAt af.atName
   let (f,first)<-holding [z] (getMethod z m pl)
   callWith pos f first (b7 pos (a5 (e::es) X.env)) (backToKw pos (cv [] X.env))):=by rfl) :
  PE X (.Call (.Attribute (.Name j np) m af) (e::es) [] pos) (XC sp W t):=by
 intro aa s J H Q I h;refine methodCall_KW (pl:=pl) (AZ I d q ?_ i) c;refine PySem.W.method_cls I.fI B.ga (PySem.W.cls_value I.fI B.reads B.find (Ts (v:=.ref f) rfl) ?_);have o:=I.tok (s.toks+1);refine callWith_K (first:=[]) (h₀:=X.base) I.ok.mod.rS B.kp (bI (g pos aa _ J H _ o h) λus x ⟨vs,p,N,r,a⟩=>⟨N.fI,?_⟩) b l;have U:sp (vs++[]) p Q λcls n u=>W J cls n u:=by rw[uX];exact a
 exact ZO (us:=us) (vs:=vs) (dvs:=[]) T F hr hb .nil N r U
end
end L2
namespace V2
open PySem PySem.Spec PyProof.Rows L2
@[simp] def bJ(n:ax)(das:ai A)(F:ai A->Mo A):ai A->Mo A:=λas=>if as.length+das.length=n then F (as++das)else stuck
structure cS(P:a9)(w:bf)(K:ba)(mg:az->aq aj)(base:bo)(cls m:az)(k:ax)(n:ax)(das:ai A)(F:ai A->Mo A):Prop where
 ex:∃C f fd ps ds dvs,nsIn K a8 cls=ag (ag (.ref C))/\nR K C/\Meth K C m f/\ps.length=n/\hJ P w K mg base (nS P w) k f fd ps (qH K ps.length F)/\Binds K fd ps ds/\Vals dvs ds/\∀G O,aV K G O dvs das
@[simp] def Dm(m:az)(tab:ai (az×(ai A->Mo A)))(fs:Mo (ai A))(a:A):Mo A:=λZ=>match a with
 |.aG s=>match Z[s]? with
  |some (.ins cls j)=>match tab.lookup cls,j.lookup m with
   |some F,ao=>mb fs (λas=>F (.aG s::as)) Z
   |_,_=>ao
  |_=>ao
 |_=>ao
@[simp] def bK(m:az)(tab:ai (az×(ai A->Mo A)))(fo:Ev->Mo A)(fs:Ev->Mo (ai A)):Ev->Mo A:=λY=>mb (fo Y) (Dm m tab (fs Y))
def bV(X:Cx)(m:az)(tab:ai (az×(ai A->Mo A))):Prop:=∀cls F,tab.lookup cls=ag F->∃k n das j,F=bJ n das j/\cM k X.A/\cS X.prog X.w X.K X.mg X.base cls m k n das j
section
variable{X:Cx}{W:WX}{m:az}{tab:ai (az×(ai A->Mo A))}{o e:bg}{es:ai bg}{fo:Ev->Mo A}{fs:Ev->Mo (ai A)}{pos af:cn}
theorem bV.nil:bV X m []:=λcls F h=>by simp at h
theorem bV.cons{cls:az}{k n:ax}{das:ai A}{F:ai A->Mo A}(h:cS X.prog X.w X.K X.mg X.base cls m k n das F)(hr:cM k X.A)(t:bV X m tab):bV X m ((cls,bJ n das F)::tab):=λc j q=>by
 by_cases e:c=cls
 ·subst e;simp[List.lookup]at q;exact⟨k,n,das,F,q.symm,hr,h⟩
 ·have hb:(c==cls)=ak:=xG.mpr e;simp only[List.lookup,hb]at q;exact t c j q
theorem Mx{ta:TE}{t:TA}(KD:bV X m tab)(S:eQ X.K (Den X.K) W ta fo)(R:eQ X.K (aV X.K) W t fs):eQ X.K (Den X.K) W (WW X W m ta t) (bK m tab fo fs):=by
 intro G A D H J l Q w r h;refine S G A D H J l _ w r (bP.mb h λa q v H1 G1 N I o i h1=>?_);unfold Dm at h1;cases a with
 |aG s =>
  simp only at h1;cases g:q[s]? with
  |none=>rw[g]at h1;exact h1.elim
  |some c =>
   rw[g]at h1;cases c with
   |ins cls Du =>
    simp only at h1;cases e:tab.lookup cls with
    |none=>rw[e]at h1;exact h1.elim
    |some F =>
     rw[e]at h1;cases d:Du.lookup m with
     |some _=>rw[d]at h1;exact h1.elim
     |none =>
      rw[d]at h1;obtain⟨k,n,B,F0,rfl,hr,MV⟩:=KD cls F e;obtain⟨C,f,fd,T,ds,z,hC,fQ,QN,hn,FO,hb,hv,b⟩:=MV.ex;obtain⟨a,C',dx,L,rfl,ha,hg,p,V,hF⟩:=o.ins g i;rw[hC]at p;cases p;refine⟨a,C,dx,L,k,f,fd,T,ds,z,_,rfl,V,hF.akM d,fQ,QN,FO,hr,hb,hv,?_⟩;refine R G1 N q H1 J l _ o (r.ext I) (bP.mb h1 λx U P H2 y j E M d2 h2=>?_);unfold bJ at h2;split at h2
      ·rename_i hl;have u:aV X.K y j (.ref a::P++z) (.aG s::x++B):=(aV.cons (by simp only[Den]at i ⊢;obtain⟨a2,e5,e6⟩:=i;exact⟨a2,e5,E.pre _ _ e6⟩) d2).append (b _ _);refine⟨?_,y,j,U,.aG s::x++B,M,u,RK h2 (Ext.refl _ _)⟩;have:=u.length;rw[this,hn];simp only[sD,gZ]at hl ⊢;omega
      ·exact h2.elim
   |_=>exact h1.elim
 |_=>exact h1.elim
theorem nV{pl:Sem bc}(T:pB X W)(g:bV X m tab)(b:VE X W o fo)(c:VA X W (e::es) fs)
  (U:a5 (e::es) X.env=(ak,bt e X.env)::a5 es X.env:=by rfl) (d:(b7 pos (a5 es X.env)).any (·.1)=ak:=by rfl)
  (a:bt (.Call (.Attribute o m af) (e::es) [] pos) X.env=(do
   let j<-bt o X.env
   standAt af.atName
   let (f,first)<-holding [j] (getMethod j m pl)
   callWith pos f first (b7 pos (a5 (e::es) X.env)) (backToKw pos (cv [] X.env))):=by rfl) :
  VE X W (.Call (.Attribute o m af) (e::es) [] pos) (bK m tab fo fs):=by
 obtain⟨h,N,z⟩:=b;obtain⟨t,B,q⟩:=c;exact⟨_,aiI T N B U d a,Mx g z q⟩
theorem jJ{pl:Sem bc}(T:pB X W)(a:bV X m tab)(U:VE X W o fo)
  (N:bt (.Call (.Attribute o m af) [] [] pos) X.env=(do
   let j<-bt o X.env
   standAt af.atName
   let (f,first)<-holding [j] (getMethod j m pl)
   callWith pos f first (b7 pos (a5 [] X.env)) (backToKw pos (cv [] X.env))):=by rfl) :
  VE X W (.Call (.Attribute o m af) [] [] pos) (bK m tab fo a0):=by
 obtain⟨d,B,z⟩:=U;refine⟨_,aiH T B N,Mx a z ?_⟩;intro G q c H J b Q w r h;exact h [] H G q (Ext.refl _ _) w .nil
structure GR(P:a9)(w:bf)(K:ba)(mg:az->aq aj)(base:bo)(cls:az)(k:ax)(n:ax)(F:ai A->Mo A):Prop where
 ex:∃C f fd ps,nsIn K a8 cls=ag (ag (.ref C))/\mg cls=ag (.ref C)/\Mk K C f/\ps.length=n/\hJ P w K mg base (nS P w) k f fd ps (qH K ps.length F)/\Binds K fd ps []
@[simp] noncomputable def FF(cls:az)(n:ax)(F:ai A->Mo A)(as:ai A):Mo A:=λZ=>if as.length+1=n then match F (.aG Z.length::as) (Z++[.ins cls []])with
 |some (.ok .cV,Z2)=>ag (.ok (.aG Z.length),Z2)
 |_=>ao else ao
theorem aa2{cls:az}{k n:ax}{F:ai A->Mo A}{p:cn}(M:GR X.prog X.w X.K X.mg X.base cls k n F)(hr:cM (k+1) X.A)(R:Gl X cls)(S:VA X W (e::es) fs)
  (V:(cls==("__debug__" : az))=ak:=by decide) (he:a5 (e::es) X.env=(ak,bt e X.env)::a5 es X.env:=by rfl) (eO:(b7 pos (a5 es X.env)).any (·.1)=ak:=by rfl) :
  VE X W (.Call (.Name cls p) (e::es) [] pos) (aN (FF cls n F) fs):=by
 obtain⟨C,f,fd,ps,T,hm,mk,hn,FO,hb⟩:=M.ex;obtain⟨t,P,L⟩:=S;refine⟨_,aiJ mk (Et FO) hr R hm hb .nil Ow P V he eO,λG o u H J m Q w r h=>?_⟩;refine L G o u H J m _ w r (bP.mb h λc j I d g z x1 N d1 h1=>?_);unfold FF at h1
 by_cases hl:c.length+1=n
 ·rw[a6 hl]at h1;intro x B l Tc fO;have D:=N.grow (H':=upd d B (.own x)) (nP.new Tc);have Br:upd d B (.own x) x=ao:=by rw[bO (dX fO)];exact l
  have y:Wd X.K g (z++[x]) (j++[.ins cls []]) (upd (upd d B (.own x)) x (.ins C B [])):=D.cell Br ⟨N.nN l,C,B,[],T,dZ,trivial⟩;have i:aV X.K g (z++[x]) (.ref x::(I++[])) (.aG j.length::c):=.cons (by simp only[Den];exact⟨x,rfl,by rw[<-N.len];simp⟩) (by rw[uX];exact d1.ext (Ext.cell x));refine⟨by rw[i.length,hn];simpa using hl,g,z++[x],_,_,y,i,?_⟩
  revert h1
  generalize F (.aG j.length::c) (j++[.ins cls []])=q;intro h1
  match q,h1 with
  |some (.ok .cV,s),h1 =>
   intro v H' G' U b E d';simp only[Den]at d';subst d';refine⟨rfl,h1 (.ref x) H' G' U ⟨b.same,λk a q=>b.pre k a (by rw[kP (dO.mp q).1];exact q)⟩ E ?_⟩;simp only[Den];exact⟨x,rfl,b.pre _ _ (by rw[<-N.len];simp)⟩
 ·rw[a7 hl]at h1;exact h1.elim
structure DJ(P:a9)(w:bf)(K:ba)(mg:az->aq aj)(base:bo)(rk m:az)(k:ax)(n:ax)(F:ai A->Mo A):Prop where
 ex:∃R f fd ps,mg rk=ag (.ref R)/\Jx K R m f/\ps.length=n/\hJ P w K mg base (nS P w) k f fd ps (qH K ps.length F)/\Binds K fd ps []
theorem abF{pl:Sem bc}{j:az}{k n:ax}{F:ai A->Mo A}{np:cn}(T:pB X W)(B:DJ X.prog X.w X.K X.mg X.base j m k n F)(p:Gl X j)(hr:cM k X.A)(s:VA X W (e::es) fs)
  (u:(j==("__debug__" : az))=ak:=by decide) (l:a5 (e::es) X.env=(ak,bt e X.env)::a5 es X.env:=by rfl) (v:(b7 pos (a5 es X.env)).any (·.1)=ak:=by rfl)
  (o:bt (.Call (.Attribute (.Name j np) m af) (e::es) [] pos) X.env=(do
   let N<-bt (.Name j np) X.env
   standAt af.atName
   let (f,first)<-holding [N] (getMethod N m pl)
   callWith pos f first (b7 pos (a5 (e::es) X.env)) (backToKw pos (cv [] X.env))):=by rfl) :
  VE X W (.Call (.Attribute (.Name j np) m af) (e::es) [] pos) (aN (bA n F) fs):=by
 obtain⟨R,f,M,L,hm,D,hn,C,hb⟩:=B.ex;obtain⟨t,i,g⟩:=s;refine⟨_,ai8 T D hm p C hr hb i u l v o,λG b c H J a Q w r h=>?_⟩;refine g G b c H J a _ w r (bP.mb h λx z I P y q E d U h1=>?_);unfold bA at h1;split at h1
 ·rename_i hl;exact⟨by rw[U.length,hn];exact hl,y,q,z,x,d,U,RK h1 (Ext.refl _ _)⟩
 ·exact False.elim h1
end
def vV(cs:ai az)(i:ax)(f:az)(Y:Ev)(Z:aH):aq (ax×az×ai (az×Fd)×Fd):=match (Y[i]?).join with
 |some (.aG s)=>match Z[s]? with
  |some (.ins cls fs)=>if cls∈cs then(fs.lookup f).map λfd=>(s,cls,fs,fd)else ao
  |_=>ao
 |_=>ao
abbrev fZ(Z:aH)(s:ax)(cls f:az)(fs:ai (az×Fd))(c:Cell):aH:=Z.set s (.ins cls (putD f (.val (.aG Z.length)) fs))++[c]
section
variable{cs:ai az}{i:ax}{f:az}{Y:Ev}{Z:aH}{s:ax}{cls:az}{fs:ai (az×Fd)}{fd fd':Fd}{c c':Cell}
theorem Oy(h:vV cs i f Y Z=ag (s,cls,fs,fd)):Y[i]?=ag (ag (.aG s))/\Z[s]?=ag (.ins cls fs)/\cls∈cs/\fs.lookup f=ag fd:=by
 unfold vV at h;cases B:(Y[i]?).join with
 |none=>rw[B]at h;cases h
 |some d =>
  rw[B]at h;cases d with
  |aG k =>
   simp only at h;cases z:Z[k]? with
   |none=>rw[z]at h;cases h
   |some c =>
    rw[z]at h;cases c with
    |ins N U =>
     simp only at h
     by_cases j:N∈cs
     ·rw[a6 j]at h;cases q:U.lookup f with
      |none=>rw[q]at h;cases h
      |some x =>
       rw[q]at h;cases h;exact⟨join_some B,z,j,q⟩
     ·rw[a7 j]at h;cases h
    |_=>cases h
  |_=>cases h
theorem Eo{n:ax}{f:az}{fd:Fd}:∀{fs:ai (az×Fd)},qD n fs->rE n fd->qD n (putD f fd fs)
 |[],_,h=>⟨h,trivial⟩
 |(g,x)::r,c,h=>by
  by_cases e:g=f
  ·simp only[putD,a6 e];exact⟨h,c.2⟩
  ·simp only[putD,a7 e];exact⟨c.1,Eo c.2 h⟩
theorem QD(h:vV cs i f Y Z=ag (s,cls,fs,fd)):(fZ Z s cls f fs c)[Z.length]?=ag c:=by
 rw[GZ (by simp)];simp
theorem QC(h:vV cs i f Y Z=ag (s,cls,fs,fd)):gO cs f (dY i) Y (fZ Z s cls f fs c)=ag (.ok (.aG Z.length),fZ Z s cls f fs c):=by
 obtain⟨h1,h2,z,B⟩:=Oy h;have j:s<Z.length:=(dO.mp h2).1;have e:(fZ Z s cls f fs c)[s]?=ag (.ins cls (putD f (.val (.aG Z.length)) fs)):=by
  rw[kP (by simpa using j),iD j]
 have l:(putD f (Fd.val (.aG Z.length)) fs).lookup f=ag (.val (.aG Z.length)):=by rw[PB,a6 rfl]
 have q:(Y[i]?).join=ag (.aG s):=by rw[h1];rfl
 simp only[gO,dY,need,mb,q,GO,FH,e,a6 z,l]
theorem Ay(j:Cell):(fZ Z s cls f fs c).set Z.length j=fZ Z s cls f fs j:=by
 unfold fZ;rw[List.set_append_right _ _ (by simp)];simp
end
noncomputable def EM(Z:aH):A->aq (ai A)
 |.lst ds=>ag ds
 |.aG k=>match Z[k]? with
  |some (.lst ds)=>ag ds
  |_=>ao
 |_=>ao
theorem alT{K:ba}{G H:Hp}{O:ai ar}{Z:aH}{v:V}{a:A}{ds:ai A}(w:Wd K G O Z H)(d:Den K G O v a)(h:EM Z a=ag ds):∃p xs,v=.ref p/\H p=ag (.lst xs)/\aV K G O xs ds:=by
 cases a with
 |lst es =>
  simp only[EM,kO]at h;subst h;simp only[Den]at d;obtain⟨p,xs,rfl,h2,q⟩:=d;exact⟨p,xs,rfl,w.sub _ _ h2,q⟩
 |aG j =>
  simp only[EM]at h;split at h
  ·rename_i es e;cases h;simp only[Den]at d;obtain⟨p,rfl,z⟩:=d;obtain⟨g,xs,q,B⟩:=w.aG j _ p e z;exact⟨p,xs,rfl,q,B⟩
  ·cases h
 |_=>simp[EM]at h
@[simp] def Dn(o:A)(as:ai A):Mo A:=λZ=>match oH Z o,as with
 |some (k,ds),[y]=>match EM Z y with
  |some es=>if ds.length+es.length<=ay then ag (.ok .cV,Z.set k (.lst (ds++es)))else ao
  |none=>ao
 |_,_=>ao
theorem alN{X:Cx}{W:WX}:MW X.K W Nt Dn:=by
 intro G z o H J x r a s Q w n m h;unfold Dn at h;split at h
 ·rename_i k ds y e;split at h
  ·rename_i es i;split at h
   ·rename_i hl;obtain⟨p,B,rfl,b,g,f,q⟩:=Es w n e;obtain⟨u,rfl,l⟩:=CG m;obtain⟨U,N,rfl,d,j⟩:=alT w l i;refine⟨p,U,B,N,rfl,rfl,f,d,by rw[q.length,j.length];exact hl,?_⟩;exact h _ _ G z (Ext.refl _ _) (w.put (c:=.lst (ds++es)) b g ⟨g,_,dZ,q.append j⟩) (by simp only[Den])
   ·exact False.elim h
  ·exact False.elim h
 ·exact False.elim h
def DH(i:ax)(f:az)(g:MS)(Y:Ev)(Z:aH)(r:Out×Ev×aH):Prop :=
 ∃s cls fs fd c q fd' c',Y[i]?=ag (ag (.aG s))/\Z[s]?=ag (.ins cls fs)/\fs.lookup f=ag fd/\fd.cell=ag c/\g Y (fZ Z s cls f fs c)=ag (.nx,r.2.1,q++[c'])/\q.length=Z.length /\
  q[s]?=ag (.ins cls (putD f (.val (.aG Z.length)) fs))/\fd'.cell=ag c'/\(∀(k:ax) (x:Cell),k≠s->q[k]?=ag x->Z[k]?=ag x\/IB Z.length x)/\(fd'=fd\/rE Z.length fd') /\
  (∀(j:ax) (d:A),r.2.1[j]?=ag (ag d)->Y[j]?=ag (ag d)\/Cl Z.length d)/\r.1=.nx/\r.2.2=q.set s (.ins cls (putD f fd' fs))
open Classical in
noncomputable def tD(i:ax)(f:az)(g:MS):MS:=λY Z=>if h:∃r,DH i f g Y Z r then ag (Classical.choose h)else ao
theorem au7{a b:Fd}{c:Cell}(h1:a.cell=ag c)(h2:b.cell=ag c):a=b:=by
 cases a with
 |val x=>cases h1
 |lst ds=>cases b with
  |lst es=>cases h1;cases h2;rfl
  |val _=>cases h2
  |bE _=>cases h1;cases h2
 |bE j=>cases b with
  |bE es=>cases h1;cases h2;rfl
  |val _=>cases h2
  |lst _=>cases h1;cases h2
theorem DH.uniq{i:ax}{f:az}{g:MS}{Y:Ev}{Z:aH}{r j:Out×Ev×aH}(h:DH i f g Y Z r)(h':DH i f g Y Z j):r=j:=by
 obtain⟨s,cls,fs,fd,c,k,Va,P,a1,a2,y,x,w,X,W,v,V,Yg,Ye,A,C⟩:=h;obtain⟨s',K,L,m,Q,e,l,M,d,b,a,U,N,T,S,p,R,u,t,z,q⟩:=h';rw[a1]at d;cases d;rw[a2]at b;cases b;rw[y]at a;cases a;rw[x]at U;cases U;rw[w]at N;obtain⟨F,E,D⟩:=r;obtain⟨I,H,G⟩:=j;simp only[kO,Hq,true_and]at *;obtain⟨o,n⟩:=N;obtain⟨rfl,B⟩:=List.append_inj' n rfl;simp only[qZ,and_true]at B;subst B;have:=au7 v p;subst this;subst A z;exact⟨rfl,o,by rw[C,q]⟩
theorem afL{i:ax}{f:az}{g:MS}{Y:Ev}{Z:aH}{r:Out×Ev×aH}(h:DH i f g Y Z r):tD i f g Y Z=ag r:=by
 have ex:∃r,DH i f g Y Z r:=⟨r,h⟩;unfold tD;rw[dif_pos ex];exact cy ag (DH.uniq (UR ex) h)
section
variable{X:Cx}{W:WX}{st:bq}{f:az}{cs:ai az}{i:ax}{pos dE af lH ayW:cn}{gs:MS}{x:az}
theorem VN(h:VS X W st gs):VS X W st (tD i f gs):=by
 refine aaX h λG g r cl hd=>?_;unfold tD at hd;split at hd
 ·rename_i ex;cases hd;generalize hr:Classical.choose ex=r;have U:=UR ex;rw[hr]at U;obtain⟨s,cls,fs,a,c,q,D,b,I,N,e,y,w,v,u,t,p,A,C,E,F⟩:=U;obtain⟨H,o,_⟩:=QA e;have B:rE g.length a:=(cl.aG s _ N:qD _ fs).get o;refine⟨s,f,_,q++[b],⟨cls,fs,a,c,N,e,y,rfl⟩,w,⟨q,b,cls,_,D,rfl,v,u,by rw[PB,a6 rfl],t,λk x m l=>?_,?_,by rw[JE];exact F⟩,λj d n=>?_,E⟩
  ·rcases p k x m l with z|z
   ·exact cl.aG k x z
   ·exact z
  ·rw[JE];exact Eo (cl.aG s _ N:qD _ fs) (by rcases A with z|z;exact z ▸ B;exact z)
  ·rcases C j d n with z|z
   ·exact cl.env j d z
   ·exact z
 ·cases hd
end
def AS(cs:ai az)(i:ax)(Y:Ev)(Z:aH):aq (ax×az×ai (az×Fd)):=match (Y[i]?).join with
 |some (.aG s)=>match Z[s]? with
  |some (.ins cls fs)=>if cls∈cs then ag (s,cls,fs)else ao
  |_=>ao
 |_=>ao
theorem akD{cs:ai az}{i:ax}{Y:Ev}{Z:aH}{s:ax}{cls:az}{fs:ai (az×Fd)}(h:AS cs i Y Z=ag (s,cls,fs)):Y[i]?=ag (ag (.aG s))/\Z[s]?=ag (.ins cls fs)/\cls∈cs:=by
 unfold AS at h;cases z:(Y[i]?).join with
 |none=>rw[z]at h;cases h
 |some d =>
  rw[z]at h;cases d with
  |aG k =>
   simp only at h;cases q:Z[k]? with
   |none=>rw[q]at h;cases h
   |some c =>
    rw[q]at h;cases c with
    |ins B N =>
     simp only at h
     by_cases j:B∈cs
     ·rw[a6 j]at h;cases h;exact⟨join_some z,q,j⟩
     ·rw[a7 j]at h;cases h
    |_=>cases h
  |_=>cases h
@[simp] noncomputable def Fd.EG:Cell->aq Fd
 |.lst ds=>ag (.lst ds)
 |.bE kvs=>ag (.bE kvs)
 |_=>ao
theorem Fd.aj3{c:Cell}{fd:Fd}(h:Fd.EG c=ag fd):fd.cell=ag c:=by
 cases c <;> cases h <;> rfl
open Classical in
@[simp] noncomputable def vS(cs:ai az)(i:ax)(f:az)(fv:Ev->Mo A):MS:=λY Z=>match AS cs i Y Z with
 |some (s,cls,fs)=>match fv Y Z with
  |some (.ok (.aG n),Z1)=>match Z1[Z.length]? with
   |some c=>match Fd.EG c with
    |some fd=>if n=Z.length/\Z1=Z++[c]/\fs.length<1000/\rE Z.length fd then ag (.nx,Y,Z.set s (.ins cls (putD f fd fs)))else ao
    |none=>ao
   |none=>ao
  |_=>ao
 |none=>ao
section
variable{X:Cx}{W:WX}{st:bq}{f:az}{cs:ai az}{i:ax}{fv:Ev->Mo A}
theorem VP(h:VS X W st (sZ cs f (dY i) fv)):VS X W st (vS cs i f fv):=by
 obtain⟨t,p,v⟩:=h;refine⟨t,p,λG m z H J B D w r h=>?_⟩;have cl:=w.xC r;unfold vS at h;split at h
 ·rename_i s cls fs eo;split at h
  ·rename_i n o K;split at h
   ·rename_i c R;split at h
    ·rename_i fd I;split at h
     ·rename_i E;obtain⟨rfl,rfl,hl,fQ⟩:=E;obtain⟨h1,h2,F⟩:=akD eo;have a:s<z.length:=(dO.mp h2).1;have Q:=Fd.aj3 I;refine v G m z H J B D w r ?_;have A:(B[i]?).join=ag (.aG s):=by rw[h1];rfl
      have P:(z++[c])[s]?=ag (.ins cls fs):=by rw[kP a];exact h2
      have e:sZ cs f (dY i) fv B z=ag (.nx,B,z.set s (.ins cls (putD f (.val (.aG z.length)) fs))++[c]):=by
       simp only[sZ,sM,K,dY,need,A,GO,P,a6 (And.intro F hl)];rw[List.set_append_left _ _ a]
      rw[e];intro N L M U ex u y;have g:=u.fold (s:=s) (f:=f) (fd:=fd) (cls:=cls) (fs:=putD f (.val (.aG z.length)) fs) (iD a) (by rw[PB,a6 rfl];simp) Q (λk x b l=>by
       rw[kG (dX b)]at l;have:=cl.aG k x l;simpa using this) (by
       rw[JE];have:=Eo (f:=f) (cl.aG s _ h2:qD _ fs) fQ;simpa using this)
      rw[JE,uV,MZ]at g;refine h N L M (U.take z.length) ⟨ex.same,λk x q=>?_⟩ g (Vf y λj d C=>cl.env j d C);have b:=(dO.mp q).1;rw[NA,a6 (by rw[<-w.len];exact b)];exact ex.pre k x q
     ·exact h.elim
    ·exact h.elim
   ·exact h.elim
  ·exact h.elim
 ·exact h.elim
end
theorem MD{K:ba}{f:az}:eU K [] f:=λcls h=>by simp at h
theorem ME{K:ba}{f cls:az}{cs:ai az}{C:ar}(h1:nsIn K a8 cls=ag (ag (.ref C)))(h2:nR K C)(j:c4 K (.ref C) f=ag ao)(t:eU K cs f):eU K (cls::cs) f:=λc h=>by
 rcases dI.mp h with e|e
 ·subst e;exact⟨C,h1,h2,j⟩
 ·exact t c e
section
variable{P:a9}{w:bf}{K:ba}{mg:az->aq aj}{base:bo}
theorem Dw{x qual:az}{st:bq}{N ps:ai az}{k:ax}{b:MS}{f:ar}{fd:b8}(F:sF K x qual st f fd)(S:cO N ps (aR st))
  (a:∀(f:ar) (j:aj) (A:bj) (outer:ai Env) (s:au) (H:Hp) (E:XK),cM k (A.deeper (cj qual (aR st) s.heap.objs.size f j)) ->
   jU (mT P w K mg base N qual (aR st) f j A outer s H E) (λ_=>E) (eL st) b):hJ P w K mg base (nS P w) (k+1) f fd ps (qH K ps.length (cP N.length b)):=by
 obtain⟨g,e,kV,doc,d,l,j,ct,i,rfl,B,c⟩:=F.ex;refine RA B c S (λz H Q E h=>h.1) λA outer s H z Q E hr U=>?_;obtain⟨t,p,q⟩:=a f j A outer s H E hr;exact⟨t,JU p,MI q U⟩
structure mB(K:ba)(mg:az->aq aj)(cls m qual:az)(st:bq):Prop where
 ex:∃C f fd,nsIn K a8 cls=ag (ag (.ref C))/\mg cls=ag (.ref C)/\nR K C/\Meth K C m f/\sF K m qual st f fd
theorem cS.of{cls m qual:az}{st:bq}{N ps:ai az}{k:ax}{b:MS}(h:mB K mg cls m qual st)(S:cO N ps (aR st))
  (bind:∀(kV doc pm:aj) (an:aq ar) (j ct:aj) (us:ai aj),us.length=ps.length->cq (di m qual (iK st) (eL st) (aR st) .none kV doc pm an j ct) ⟨us,[]⟩=pure (ps.zip us))
  (q:∀(f:ar) (j:aj) (A:bj) (outer:ai Env) (s:au) (H:Hp) (E:XK),cM k (A.deeper (cj qual (aR st) s.heap.objs.size f j)) ->
   jU (mT P w K mg base N qual (aR st) f j A outer s H E) (λ_=>E) (eL st) b):cS P w K mg base cls m (k+1) ps.length [] (cP N.length b):=by
 obtain⟨C,f,fd,h1,_,h2,z,F⟩:=h.ex;exact⟨C,f,fd,ps,[],[],h1,h2,z,rfl,Dw F S q,F.binds bind,.nil,λ_ _ => .nil⟩
structure Jd(K:ba)(mg:az->aq aj)(cls qual:az)(st:bq):Prop where
 ex:∃C f fd,nsIn K a8 cls=ag (ag (.ref C))/\mg cls=ag (.ref C)/\Mk K C f/\sF K "__init__" qual st f fd
theorem GR.of{cls qual:az}{st:bq}{N ps:ai az}{k:ax}{b:MS}(h:Jd K mg cls qual st)(S:cO N ps (aR st))
  (bind:∀(kV doc pm:aj) (an:aq ar) (j ct:aj) (us:ai aj),us.length=ps.length->cq (di "__init__" qual (iK st) (eL st) (aR st) .none kV doc pm an j ct) ⟨us,[]⟩=pure (ps.zip us))
  (q:∀(f:ar) (j:aj) (A:bj) (outer:ai Env) (s:au) (H:Hp) (E:XK),cM k (A.deeper (cj qual (aR st) s.heap.objs.size f j)) ->
   jU (mT P w K mg base N qual (aR st) f j A outer s H E) (λ_=>E) (eL st) b):GR P w K mg base cls (k+1) ps.length (cP N.length b):=by
 obtain⟨C,f,fd,h1,h2,z,F⟩:=h.ex;exact⟨C,f,fd,ps,h1,h2,z,rfl,Dw F S q,F.binds bind⟩
structure UB(K:ba)(mg:az->aq aj)(rk m qual:az)(st:bq):Prop where
 ex:∃R f fd,mg rk=ag (.ref R)/\Jx K R m f/\sF K m qual st f fd
theorem DJ.of{q m qual:az}{st:bq}{N ps:ai az}{k:ax}{b:MS}(h:UB K mg q m qual st)(S:cO N ps (aR st))
  (bind:∀(kV doc pm:aj) (an:aq ar) (j ct:aj) (us:ai aj),us.length=ps.length->cq (di m qual (iK st) (eL st) (aR st) .none kV doc pm an j ct) ⟨us,[]⟩=pure (ps.zip us))
  (z:∀(f:ar) (j:aj) (A:bj) (outer:ai Env) (s:au) (H:Hp) (E:XK),cM k (A.deeper (cj qual (aR st) s.heap.objs.size f j)) ->
   jU (mT P w K mg base N qual (aR st) f j A outer s H E) (λ_=>E) (eL st) b):DJ P w K mg base q m (k+1) ps.length (cP N.length b):=by
 obtain⟨R,f,fd,h1,h2,F⟩:=h.ex;exact⟨R,f,fd,ps,h1,h2,rfl,Dw F S z,F.binds bind⟩
end
theorem Inv.Ln{X:Cx}{aa:ai (ar×cb)}{J:L2.St}{H:Hp}{s:au}{h':bo}{t':ax}{ch:ai ar}(I:Inv X aa J H s)(k:∀b o,b∉ch->s.heap.get? b=ag o->h'.get? b=ag o)(hf:∀b∈ch,pH X aa H b):Inv X aa J H {s with heap:=h',toks:=t' }:=by
 have ne:∀b u,H b=ag u->b∉ch:=λb u q z=>by rw[(hf b z).1]at q;cases q
 refine I.step (g':=s.gens) (d':=s.drawn) (ch:=ch) (λb hb=>?_) (λb o _ _ j q _=>k b o j q) (λb o _ _ j q _=>⟨o.slots,k b o j q⟩) (λ_ _ _ _ n=>n)
  (λb o j q=>⟨o,k b o j q⟩) (λ_ _ q=>q) (λ_ _ _ q=>q) (λb f q=>⟨#[],by rw[q];simp⟩) (λm hm=>?_) (λb u q=>?_) I.bare
 ·obtain⟨a0,a1,a2,e,d,a⟩:=hf b hb;exact⟨e,a1,d,a⟩
 ·obtain⟨o,es,U,N,r⟩:=hm;exact⟨o,es,U,k _ o (λz=>(hf _ z).2.1 rfl) N,r⟩
 ·refine(I.aK b u q).nC (λc v j B=>k c v ?_ B) (λ_ q=>q) λ_ _ q=>q
  rcases j with z|z
  ·rw[z];exact ne b u q
  ·exact ne c _ z
section
variable{X:Cx}{aa:ai (ar×cb)}{J:L2.St}{H:Hp}{s:au}
theorem Inv.LY(I:Inv X aa J H s):∃m,s.heap.Ns X.env.locals m/\Fr X.base X.env.locals s.heap m :=
 let ⟨m,hn,_⟩:=I.loc
 ⟨m,hn,hn,I.bk,pC I.ok.qU I.ok.above⟩
end
end V2
namespace L2
open PySem PySem.Spec PyProof.Rows
theorem asH:entryFor table "dict_itemiterator.__iter__" = ag Builtin.«dict_keyiterator.__iter__» :=
 entryFor_alias (id' := "dict_keyiterator.__iter__") (by kernel_rfl) (by rfl) (by decide +kernel) (by kernel_rfl)
theorem am3{prog:a9}{w:bf}{A:bj}{E:aj->au->Prop}{s:au}{j d:ar}{i n ep:ax}{ok z:aj}{Q:aj->au->Prop}(h:IsItemIter s.heap j d i n ep ok z)(q:Q (.ref j) s):wpAny (bb prog w) A (pyIter (.ref j)) Q E s:=by
 have ty:s.TypeIs (.ref j) "dict_itemiterator":=⟨_,h,rfl⟩;exact wpAny_pyIter_slot ty F.slot_dict_itemiterator_iter (sL F.slot_dict_itemiterator_iter ty asH (bH ⟨_,rfl,_,_,ty,F.slot_dict_itemiterator_next.lookup,q⟩) (F.args_dict_itemiterator_iter_1 _))
end L2
namespace V2
open PySem PySem.Spec PyProof.Rows L2
def Iz(a:ar)(o:cb)(kvs:ai (Key×V)):It :=
 ⟨λi H=>H a=ag (.eP o (.dK kvs))/\i<kvs.length,λi H x H'=>∃p j,kvs[i]?=ag j/\H p=ao/\H'=upd H p (.tup [kV j.1,j.2])/\x=.ref p,λi H=>H a=ag (.eP o (.dK kvs))/\kvs.length<=i⟩
theorem Ur{X:Cx}{aa:ai (ar×cb)}{J:L2.St}{H:Hp}{s:au}{a:ar}{o:cb}{kvs:ai (Key×V)}{es:bh DictEntry}{ep:ax}(I:Inv X aa J H s)(h:H a=ag (.eP o (.dK kvs)))(hd:o.data=.dict es ep) :
  ∃vs,KV kvs vs/\Heap.DictAt (jD X.prog X.w) s.heap a vs ep:=by
 obtain⟨h1,z,y,vs,rel,U,dR,b,q,N,j,B⟩:=I.aK a _ h;rw[h1]at q;cases q;rw[hd]at j;cases j;exact⟨vs,rel,o,es,h1,N,hd,B⟩
theorem abV{P:a9}{w:bf}{K:ba}{elts:ai bg}{G:ax}{L:cn}(a B:ar)(o:cb)(kvs:ai (Key×V))(es:bh DictEntry)(ep:ax)(hd:o.data=.dict es ep) :
  Turn P w K (.Tuple elts G L) (Iz a o kvs) [B] B (λi h=>∃ok N,IsItemIter h B a i kvs.length ep ok N)where
 mem:=by simp
 obj:=λi h st c j=>by
  obtain⟨ok,N,st⟩:=st;have e:c=B:=by simpa using j
  subst e;exact⟨_,st,λv z=>by cases z⟩
 keep:=λi h h' st k=>by
  obtain⟨ok,N,st⟩:=st;exact⟨ok,N,k B (by simp) _ st⟩
 item:=by
  intro X t hw u j i aa s J H E I l st r;subst t hw u;obtain⟨ok,N,st⟩:=st;obtain⟨x,hi⟩:=r;obtain⟨n,rel,dat⟩:=Ur I x hd;have hl:kvs.length=n.length:=rel.length;have m:kvs[i]?=ag kvs[i]:=dP hi;generalize kvs[i]=U at m;obtain⟨g,g1,g2,W⟩:=Af rel m;have f:B<s.heap.objs.size:=eB st;rw[hl]at st;refine wpAny_pyNext_items_item (k:=g.1) (v:=g.2) st dat g1 λkey h1 p a1 a2 a3 a4=>?_;refine⟨_,rfl,wpAny_letOwnedTupleGo_items (s:={s with heap:=h1}) a1 λh2 D A=>?_⟩;have d:H s.heap.objs.size=ao:=I.aK.fresh cR;have S:∀c o,c∉[B]->s.heap.get? c=ag o->h2.get? c=ag o:=λc o j q=>by
   have j:c≠B:=by simpa using j
   exact A.extBut c o j (a4 c o j q)
  have M:h2.get? s.heap.objs.size=ag {cls:=.type "tuple",data:=.seq #[key,g.2]}:=A.extBut _ _ (GP f) a2;have F:Inv X aa J H {s with heap:=h2}:=Inv.Ln (t':=s.toks) I S l;have Q:RelV (kV U.1) key:=by rw[g2];exact Ra p
  have aK:fE X.prog X.w (upd H s.heap.objs.size (.tup [kV U.1,U.2])) h2:=by
   refine λb o q=>?_
   by_cases C:b=s.heap.objs.size
   ·subst C;rw[dZ]at q;cases q;exact⟨by show 2<=ay;decide,[key,g.2],.cons Q (.cons W .nil),⟨_,M,rfl,_,rfl⟩⟩
   ·rw[bO C]at q;exact(F.aK b o q).nC (λc v _ z=>z) (λc z=>by rw[bO (iG z d)];exact z) λc xs z=>by rw[bO (iG z d)];exact z
  have y:pH X aa H s.heap.objs.size:=I.uN cR d;have T:X.s₀.heap.get? s.heap.objs.size=ao:=by
   cases q:X.s₀.heap.get? s.heap.objs.size with
   |none=>rfl
   |some ob=>exact bp (lI (eB q) I.sz) (Nat.lt_irrefl _)
  have I2:Inv X aa J (upd H s.heap.objs.size (.tup [kV U.1,U.2])) {s with heap:=h2}:=Inv.WN F d T y.2.1 y.2.2.2.2.1 y.2.2.2.2.2 aK;rw[<-hl]at D;refine⟨.ref s.heap.objs.size,_,I2,rfl,⟨_,U,m,d,rfl,rfl⟩,⟨_,_,D⟩,λc j=>?_⟩;have R:=(l c j).1;have e:c=B:=by simpa using j
  subst e;rw[bO (gB f)];exact R
 done:=by
  intro X t hw u j i aa s J H E I l st r;subst t hw u;obtain⟨ok,N,st⟩:=st;obtain⟨x,hi⟩:=r;obtain⟨n,rel,dat⟩:=Ur I x hd;have hl:kvs.length=n.length:=rel.length;rw[hl]at st;refine wpAny_pyNext_items_end (I.ok.hd j) st dat (by simp;omega) λh' p=>⟨rfl,Inv.Ln (t':=s.toks) I (λc o j q=>p c o (by simpa using j) q) l⟩
 self:=λ_ _ _ _ _ st h=>by
  obtain⟨ok,N,st⟩:=st;exact am3 st h
theorem Inv.arZ{X:Cx}{aa:ai (ar×cb)}{J:L2.St}{H:Hp}{s:au}{a:ar}{kvs:ai (Key×V)}{o:cb}(I:Inv X aa J H s)(h:H a=ag (.dK kvs))(e:s.heap.get? a=ag o):Inv X aa J (upd H a (.eP o (.dK kvs))) s where
 ok:=I.ok
 os:=I.os
 bare:=I.bare
 base:={
  keep:=I.base.keep
  slot:=I.base.slot
  free:=λb j q n U=>by
   have z:=I.base.free b j q n U;rw[bO (dX (iG h z))];exact z
  there:=I.base.there
  nA:=λb xs q=>by have z:=I.base.nA b xs q;rw[bO (JN z h (by intro w;cases w))];exact z
  lG:=λb j u q=>by have z:=I.base.lG b j u q;rw[bO (JN z h (by intro w;cases w))];exact z
  mK:=λb N q=>by obtain⟨more,z⟩:=I.base.mK b N q;exact⟨more,by rw[bO (JN z h (by intro w;cases w))];exact z⟩}
 loc:=I.loc
 cell:=I.cell
 free:=by rw[bO (dX (iG h I.free))];exact I.free
 mR:=λx c q=>by rw[bO (dX (iG h (I.mR x c q)))];exact I.mR x c q
 pin:=λq d=>by
  obtain⟨x,y,c⟩:=I.pin q d;exact⟨x,by rw[bO (dX (iG h y))];exact y,c⟩
 aK:=λb u q=>by
  have st:∀c v,H c=ag v->v≠.dK kvs->upd H a (.eP o (.dK kvs)) c=ag v:=λc v z hv=>by rw[bO (JN z h hv)];exact z
  by_cases B:b=a
  ·subst B;rw[dZ]at q;cases q;exact⟨e,(I.aK b _ h).nC (λc v _ z=>z) (λc z=>st c _ z (by intro w;cases w)) λc xs z=>st c _ z (by intro w;cases w)⟩
  ·rw[bO B]at q;exact(I.aK b u q).nC (λc v _ z=>z) (λc z=>st c _ z (by intro w;cases w)) λc xs z=>st c _ z (by intro w;cases w)
 len:=I.len
section
variable{X:Cx}{W:WX}{pos:cn}
theorem ah6{o:bg}{td:TE}{elts:ai bg}{t:ax}{u af m:cn}(G:PE X o td)(C:bu o "items" X.env (bt o X.env)=bt o X.env:=by rfl)(D:(af.endLine==m.line)=av:=by rfl) :
  PI X (.Tuple elts t u) (.Call (.Attribute o "items" af) [] [] m) (λJ H R=>td J H λx H1=>∃a kvs,x=.ref a/\H1 a=ag (.dK kvs)/\∀N,R (Iz a N kvs) (upd H1 a (.eP N (.dK kvs)))):=by
 intro aa s J H R I h;refine VF C D (bI (G aa s J H _ I h) λv j ⟨x,H1,k,y,A⟩=>?_);obtain⟨a,kvs,rfl,d,q⟩:=A;cases y;obtain⟨h1,h2,P⟩:=KA k (.inl ⟨kvs,.inl d⟩);obtain⟨z,_,U,rel,g⟩:=FT k.aK d;refine⟨"dict", "dict.items",PySem.F.plainAttrs_dict,PySem.F.slot_dict_items,PySem.F.type_dict_items,h1,h2,IE rfl (PySem.evalArgs_none ?_)⟩;refine MH PySem.F.slot_dict_items g.typeIs PySem.F.entry_dict_items (PySem.F.args_dict_items_1 _) (meets_dict_items (jD X.prog X.w) a P) ⟨⟨U,g⟩,?_⟩;obtain⟨N,es,f,p,M,n,L⟩:=g;have hl:kvs.length=U.length:=rel.length;have r:Inv X aa J H1 {j with heap:=j.heap.push {cls:=.type "dict_items",data:=.fields #[.ref a]} }:=k.kept (t':=j.toks) λb o e=>dQ _ e;have dat:Heap.DictAt (jD X.prog X.w) (j.heap.push {cls:=.type "dict_items",data:=.fields #[.ref a]}) a U f:=⟨N,es,dQ _ p,M,n,L⟩;refine wpAny_pyIter_items (s:={j with heap:=j.heap.push {cls:=.type "dict_items",data:=.fields #[.ref a]} }) ⟨_,fW _ rfl,rfl,rfl⟩ dat ?_;generalize l:({j with heap:=j.heap.push {cls:=.type "dict_items",data:=.fields #[.ref a]} }:au)=B at r dat;have ga:B.heap.get? a=ag N:=by rw[<-l];exact dQ _ p
 have i:=V2.Inv.arZ r d ga;have Q:Inv X aa J (upd H1 a (.eP N (.dK kvs))) {B with heap:=B.heap.push {cls:=.type "dict_itemiterator",data:=.fields #[.none,.bool ak,.ref a,.int 0 0,.int U.length 0,.int f 0,.none,.none]} }:=i.kept (t':=B.toks) λb o e=>dQ _ e;have E:B.heap=j.heap.push {cls:=.type "dict_items",data:=.fields #[.ref a]}:=by rw[<-l]
 refine⟨B.heap.objs.size,[B.heap.objs.size],_,_,_,rfl,Q,abV a _ N kvs es f n,⟨.none,.none,by rw[hl];exact fW _ rfl⟩,λc K=>?_,q N⟩;have e:c=B.heap.objs.size:=by simpa using K
 subst e;exact i.uN cR (i.aK.fresh cR)
def JX(kvs:ai (Key×A)):Src:=⟨kvs.map qL,λ_=>True⟩
@[simp] def Lf(f:Ev->Mo A):Ev->Mo Src:=λY=>mb (f Y) λa Z=>match kX Z a with
 |some (k,kvs)=>ag (.ok (JX kvs),Z.set k .dead)
 |none=>ao
theorem am2{K:ba}{G:Hp}{O:ai ar}{p:ar}{o:cb}{N:ai (Key×V)}{kvs:ai (Key×A)}(r:G p=ag (.eP o (.dK N)))(n:N.map (·.1)=kvs.map (·.1))(d:aV K G O (N.map (·.2)) (kvs.map (·.2))):HE K G O (Iz p o N) (JX kvs):=by
 have hl:N.length=kvs.length:=by have:=cy List.length n;simpa using this
 have m:(JX kvs).ds.length=kvs.length:=by simp[JX]
 refine⟨λf j B t e w h i hi=>⟨w.sub _ _ (e.same _ _ r),by rw[hl,<-m];exact hi⟩,λf j B t e w h i hi=>⟨w.sub _ _ (e.same _ _ r),by rw[hl,<-m];exact hi⟩,λf j B t e w h i x C y v hd=>?_⟩;obtain⟨q,a,s,c,rfl,rfl⟩:=hd;have U:(kvs.map qL)[i]?=ag y:=v;rw[jV]at U;cases b:kvs[i]? with
 |none=>rw[b]at U;cases U
 |some k =>
  rw[b]at U;cases U;have k1:a.1=k.1:=by
   have:=cy (λl=>l[i]?) n;simp only[jV,s,b,GO,kO]at this;exact this
  obtain⟨z,g,u⟩:=d.get (i:=i) (d:=k.2) (by rw[jV,b];rfl);rw[jV,s]at g;cases g;refine⟨upd f q (.tup [kV a.1,a.2]),Ext.new (w.nN c) _,w.new c _,?_⟩;simp only[qL,Den];exact⟨q,[kV a.1,a.2],rfl,dZ,.cons (by rw[k1];exact Vo _) (.cons ((u.ext e).ext (Ext.new (w.nN c) _)) .nil)⟩
theorem aa0{o:bg}{f:Ev->Mo A}{elts:ai bg}{B:ax}{C af q:cn}(L:VE X W o f)(F:bu o "items" X.env (bt o X.env)=bt o X.env:=by rfl)(I:(af.endLine==q.line)=av:=by rfl) :
  VI X W (.Tuple elts B C) (.Call (.Attribute o "items" af) [] [] q) (Lf f):=by
 obtain⟨t,p,s⟩:=L;refine⟨_,ah6 p F I,λG n x H J m R w r h=>?_⟩;refine s G n x H J m _ w r (bP.mb h λa u v P l j B U M h1=>?_);split at h1
 ·rename_i k K e;obtain⟨p,z,rfl,d,g,E,q,D⟩:=zF U M e;refine⟨p,z,rfl,E,λb=>?_⟩;have y:=U.put (k:=k) (c:=.dead) (o:=.eP b (.dK z)) d g trivial;have N:=y.freeze d g dZ;rw[uV]at N;have i:Ext l j (upd l p (.eP b (.dK z))) j:=Ext.new g _;exact h1 _ _ _ _ i N (am2 dZ q (D.ext i))
 ·exact False.elim h1
end
section
variable{P:a9}{w:bf}{K:ba}{mg:az->aq aj}{base:bo}
structure Zw(K:ba)(x qual:az)(st:bq)(f T:ar)(fd:b8):Prop where
 ex:∃(oc:aj) (od:aq ar) (kV doc pm:aj) (an:aq ar) (aU ct:aj) (gT:bh (aq aj)),
  fd=di x qual (iK st) (eL st) (aR st) (.ref T) kV doc pm an aU ct/\K.lookup f=ag ⟨oc,od,.func fd,gT⟩/\codeIn K aU qual=av
structure UA(K:ba)(mg:az->aq aj)(cls m qual:az)(st:bq)(dv:bh aj):Prop where
 ex:∃C f fd T o n,nsIn K a8 cls=ag (ag (.ref C))/\mg cls=ag (.ref C)/\nR K C/\Meth K C m f/\Zw K m qual st f T fd/\K.lookup T=ag o/\o.data=.seq dv n
theorem cS.ofD{cls m qual:az}{st:bq}{N ps:ai az}{k:ax}{b:MS}{z:bh aj}{ds:ai aj}{dvs:ai V}{das:ai A}(h:UA K mg cls m qual st z)(hv:Vals dvs ds)(hd:∀G O,aV K G O dvs das)(S:cO N ps (aR st))
  (bind:∀(T:ar) (kV doc pm:aj) (an:aq ar) (j ct:aj) (us:ai aj),us.length+ds.length=ps.length->∃k,cq (di m qual (iK st) (eL st) (aR st) (.ref T) kV doc pm an j ct) ⟨us,[]⟩=seqItems? (.ref T) >>= k/\k (ag z)=pure (ps.zip (us++ds)))
  (c:∀(f:ar) (j:aj) (A:bj) (outer:ai Env) (s:au) (H:Hp) (E:XK),cM k (A.deeper (cj qual (aR st) s.heap.objs.size f j)) ->
   jU (mT P w K mg base N qual (aR st) f j A outer s H E) (λ_=>E) (eL st) b):cS P w K mg base cls m (k+1) ps.length das (cP N.length b):=by
 obtain⟨C,f,fd,T,o,n,h1,_,h2,i,F,hT,d⟩:=h.ex;obtain⟨v,u,kV,doc,pm,an,j,ct,y,rfl,U,e⟩:=F.ex;refine⟨C,f,_,ps,ds,dvs,h1,h2,i,rfl,RA U e S (λB H Q E h=>h.1) λA outer s H B Q E hr a=>?_,λs us g hl=>?_,hv,hd⟩
 ·obtain⟨t,p,q⟩:=c f j A outer s H E hr;exact⟨t,JU p,MI q a⟩
 ·obtain⟨x,r,l⟩:=bind T kV doc pm an j ct us (by rw[<-sD];exact hl);exact BindsTo.of_defaults rfl (g _ _ hT) d r l
end
end V2
namespace M
open PySem V2
noncomputable section
def RR:MS :=
 (aO (jC (lA pW aW (aA (iR (aA bX (aA (aC aY dA bR) (aA (aC aY dA bR) a0)))) a0)))
   (eI (bD (aC iP (aC aY dA bR) (aC aY dA cL)))
    (jC (lA pW aW (aA (iR (aA bX (aA (aC aY dA cL) (aA (aC aY dA cL) a0)))) a0)))
    fH))
def RS:MS :=
 (aO (bS (kR av a0) (gN 1))
  (aO (jX (Lf (aN (bA 1 NK) (aA aI a0))) (lV 2 (fJ (gN 2) (fJ (gN 3) mP))) RR)
  (bT (iR (aA (aN (bA 1 UE) (aA aI a0)) (aA bR (aA bR (aA (vM 1) a0))))))))
def NM:ai A->Mo A:=cP 4 RS
end
end M
namespace V2
open PySem L2
@[simp] theorem Uo(neg:bc)(i j:aw)(Z:aH):wY neg (.int i) (.int j) Z=ag (.ok (.bl (if neg then !(i==j)else i==j)),Z):=by
 simp[wY,res,cJ,gA]
@[simp] theorem azY(i j:aw)(Z:aH):gK (.int i) (.int j) Z=ag (.ok (.bl (i==j)),Z):=Uo ak i j Z
@[simp] theorem azX(i j:aw)(Z:aH):iP (.int i) (.int j) Z=ag (.ok (.bl (!(i==j))),Z):=Uo av i j Z
theorem FU{i j:aw}(q : -18446744073709551616<i)(h1:i<18446744073709551616):kI i j:=.inl ⟨q,h1⟩
theorem auY{i j:aw}(q : -18446744073709551616<j)(h1:j<18446744073709551616):kI i j:=.inr ⟨q,h1⟩
@[simp] theorem az9{α:Type}(x:α)(l:ai α):eM (x::l) 0=ag x:=SI _
@[simp] theorem az8{α:Type}(x y:α)(l:ai α):eM (x::y::l) 1=ag y:=Gs _
@[simp] theorem az7{α:Type}(x y z:α)(l:ai α):eM (x::y::z::l) 2=ag z:=GI _ 2
@[simp] theorem az6{α:Type}(x y z u:α)(l:ai α):eM (x::y::z::u::l) 3=ag u:=GI _ 3
end V2
namespace M
open PySem L2 V2
noncomputable def wI(c k:aw):aw :=
 ((c+1)*(48271+118*k)%2147483629/977*16807+(c+1)*(48271+118*k)%2147483629*(k*k+7)+k)%2147483587
theorem JR(c k:aw):0<=wI c k:=TX _ (by decide)
theorem PU(c k:aw):wI c k<2147483587:=NF _ (by decide)
theorem GS(c k:aw)(Z:aH)(d:0<=c)(U:c<8589934592)(b:0<=k)(a:k<1048576):xQ [.int c,.int k] Z=aE (.int (wI c k)) Z:=by
 have f:=TX ((c+1)*(48271+118*k)) (show(2147483629:aw)≠0 by decide);have e:=NF ((c+1)*(48271+118*k)) (show(0:aw)<2147483629 by decide);have h1:kI (c+1) (48271+118*k):=FU (by omega) (by omega);have h2:kI k k:=FU (by omega) (by omega);have N:∀j,kI ((c+1)*(48271+118*k)%2147483629) j:=λj=>FU (by omega) (by omega);have B:∀j,kI j 16807:=λj=>auY (by decide) (by decide);have z:∀j,kI 118 j:=λj=>FU (by decide) (by decide);have q:∀j,oJ j 977:=λj=>⟨by decide,by decide⟩
 simp[xQ,Xn,h1,h2,N,B,z,q,wI]
def CJ(ns:ai aw)(k:aw):aw:=wI (if k<ns.length then ns[k.toNat]?.getD 0%2147483647 else 0) (k+101)
theorem Wl(ns:ai aw)(k:aw):0<=CJ ns k:=JR _ _
theorem Wk(ns:ai aw)(k:aw):CJ ns k<2147483587:=PU _ _
theorem Zn(ns:ai aw)(k:aw)(Z:aH)(j:0<=k)(z:k<1000000):DL [.jM ns,.int k] Z=aE (.int (CJ ns k)) Z:=by
 by_cases h:k<(ns.length:aw)
 ·obtain⟨n,rfl⟩:=Zu j;have hn:n<ns.length:=by omega
  have e:eM (ns.map A.int) (n:aw)=(aB (ns[n])):=by rw[sA];simp[hn]
  have q:=TX ns[n] (show(2147483647:aw)≠0 by decide);have B:=NF ns[n] (show(0:aw)<2147483647 by decide);have m:=λZ=>GS (ns[n]%2147483647) (n+101) Z q (by omega) (by omega) (by omega);simp[DL,Fv,h,e,m,CJ,hn]
 ·have m:=λZ=>GS 0 (k+101) Z (by decide) (by decide) (by omega) (by omega);simp[DL,Fv,h,m,CJ]
noncomputable def yL(c kind:aw):aw :=
 if kind=0 then c%7 else if kind=1 then c%61-30 else if kind=2 then c*982451653%(2*10 ^ 18+1)-10 ^ 18 else if kind=3 then 5
 else if c%4=0 then c*10 ^ 50+7 else if c%4=1 then 0-c*10 ^ 50 else if c%4=2 then c else 0-c
theorem Zj(c kind:aw)(Z:aH)(d:0<=c)(b:c<8589934592):xP [.int c,.int kind] Z=aE (.int (yL c kind)) Z:=by
 have h1:∀j,kI c j:=λj=>FU (by omega) (by omega);have h2:∀j,kI 2 j:=λj=>FU (by decide) (by decide);have a:IF 10 18:=⟨by decide,by decide,by decide⟩;have U:IF 10 50:=⟨by decide,by decide,by decide⟩;have N:(4:ax)<=ay:=by decide
 by_cases B:kind=0
 ·simp[xP,GG,B,yL]
 by_cases k1:kind=1
 ·simp[xP,GG,k1,yL]
 by_cases z:kind=2
 ·simp[xP,GG,z,yL,h1,h2,a]
 by_cases q:kind=3
 ·simp[xP,GG,q,yL]
 have hm:c%4=0\/c%4=1\/c%4=2\/c%4=3:=by omega
 rcases hm with e|e|e|e <;> simp[xP,GG,B,k1,z,q,e,yL,h1,U,N]
noncomputable def AF(c:aw):aw:=if c%4=0 then 1 else if c%4=1 then 1 else if c%4=2 then 1+c/4%9 else 1+c/4%1000000
theorem acA(c:aw)(h:0<=c):1<=AF c:=by unfold AF;split <;> (try split) <;> (try split) <;> omega
theorem ab9(c:aw)(h:0<=c):AF c<=1000000:=by unfold AF;split <;> (try split) <;> (try split) <;> omega
theorem awN(c:aw)(Z:aH)(z:0<=c):UH [.int c] Z=aE (.int (AF c)) Z:=by
 have h1:∀j,oJ j 4:=λj=>⟨by decide,by decide⟩
 have q:(4:ax)<=ay:=by decide
 have hm:c%4=0\/c%4=1\/c%4=2\/c%4=3:=by omega
 rcases hm with e|e|e|e <;> simp[UH,Xl,e,AF,h1,q]
end M
namespace V2
open PySem L2
theorem Ec{f:A->A->bc}:∀(xs:ai A),(∀x∈xs,f x x=av)->zC f xs xs=av
 |[],_=>rfl
 |x::xs,h=>by simp only[zC,h x kU,Bool.true_and];exact Ec xs λy j=>h y (fL _ j)
theorem Ve:∀(n:ax) (a:A),cJ n a=av->gA n a a=av:=by
 intro n
 induction n with
 |zero=>intro a h;cases a <;> first|(simp[gA];done)|(simp[cJ]at h)
 |succ n ih =>
  intro a h;cases a with
  |tup ds=>simp only[cJ,HA]at h;simp only[gA];exact Ec ds λx j=>ih x (h x j)
  |lst ds=>simp only[cJ,HA]at h;simp only[gA];exact Ec ds λx j=>ih x (h x j)
  |int i=>simp[gA]
  |bl i=>simp[gA]
  |str i=>simp[gA]
  |cV=>simp[gA]
  |_=>simp[cJ]at h
theorem lN{Z:aH}{n:ax}{a:A}(h:cJ 8 a=av):res Z n a=ag a:=by
 cases n <;> simp[res,h]
theorem QW{a b c:A}{Z:aH}(q:res Z 6 a=ag c)(hb:res Z 6 b=ag c)(j:cJ 8 c=av):gK a b Z=ag (.ok (.bl av),Z):=by
 simp[gK,wY,q,hb,j,Ve 8 c j]
theorem afZ{Z:aH}{n:ax}{ds:ai A}(h:cJ 8 (.tup ds)=ak):res Z (n+1) (.tup ds)=(rR (res Z n) ds).map .tup:=by
 rw[res,a7 (by rw[h];simp)]
theorem JC{Z:aH}{n k:ax}{ds:ai A}(h:Z[k]?=ag (.lst ds)):res Z (n+1) (.aG k)=(rR (res Z n) ds).map .lst:=by
 rw[res,a7 (by simp[cJ])];simp[h]
theorem EK{Z:aH}{n:ax}:∀(ds:ai A),ds.all (cJ 8)=av->rR (res Z n) ds=ag ds
 |[],_=>rfl
 |d::ds,h=>by
  simp only[Iq,mC]at h;simp[rR,lN h.1,EK ds h.2]
abbrev E:=aw×aw×aw
noncomputable def bU(e:E):A:=.tup [.int e.1,.int e.2.1,.int e.2.2]
def encL(es:ai E):ai A:=es.map bU
@[simp] theorem ag4(n:ax)(i:aw):cJ n (.int i)=av:=by cases n <;> rfl
theorem ZX(n:ax)(ds:ai A):cJ (n+1) (.tup ds)=ds.all (cJ n):=rfl
theorem ag3(n:ax)(ds:ai A):cJ (n+1) (.lst ds)=ds.all (cJ n):=rfl
@[simp] theorem ayQ(n:ax)(e:E):cJ (n+1) (bU e)=av:=by simp[bU,ZX]
@[simp] theorem ag6(n:ax)(es:ai E):(encL es).all (cJ (n+1))=av:=by simp[encL]
def cQ(s l d:aw)(es:ai E):A:=.tup [.int s,.int l,.int d,.lst (encL es)]
@[simp] theorem ag5(s l d:aw)(es:ai E):cJ 8 (cQ s l d es)=av:=by simp[cQ,ZX,ag3]
@[simp] theorem ay5(es:ai E):(encL es).length=es.length:=by simp[encL]
end V2
namespace M
open PySem L2 V2
noncomputable def fP(es:ai E)(i:ax):aw:=if i=0 then 0 else(es[i-1]?.getD (0,0,0)).2.1
noncomputable def gH(s:aw)(es:ai E)(i:ax):aw:=match es[i]? with
 |some e=>e.2.2-1
 |none=>s
theorem mS(es:ai E)(i:ax):(encL es)[i]?=es[i]?.map bU:=by simp[encL]
theorem tR{α:Type}(xs:ai α)(i:ax):eM xs (i:aw)=xs[i]?:=sA xs i
theorem Xr{α:Type}(xs:ai α)(i:ax)(h:0<i):eM xs ((i:aw)-1)=xs[i-1]?:=by
 rw[show((i:aw)-1)=((i-1:ax):aw)by omega];exact sA xs _
theorem axH(s l d:aw)(es:ai E)(i:ax)(Z:aH)(h:i<=es.length):qC [cQ s l d es,.int i] Z=aE (.tup [.int (fP es i),.int (gH s es i)]) Z:=by
 have h2:(2:ax)<=ay:=by decide
 by_cases j:i=0
 ·subst j;cases es with
  |nil=>simp[qC,xH,cQ,encL,fP,gH,h2]
  |cons e es=>simp[qC,xH,cQ,encL,bU,fP,gH,h2]
 ·have B:eM (encL es) ((i:aw)-1)=ag (bU (es[i-1]?.getD (0,0,0))):=by
   rw[Xr _ _ (by omega),mS,dP (by omega)];rfl
  have z:0<i:=by omega
  by_cases hl:i<es.length
  ·have N:eM (encL es) (i:aw)=ag (bU es[i]):=by rw[tR,mS,dP hl];rfl
   have q:(i:aw)<es.length:=by omega
   simp[qC,xH,cQ,B,N,z,hl,q,h2,bU,fP,gH,j]
  ·have q:¬(i:aw)<es.length:=by omega
   simp[qC,xH,cQ,B,z,hl,q,h2,bU,fP,gH,j]
theorem Ic(e:E)(s l d:aw)(es:ai E)(i:ax)(Z:aH)(h:i<=es.length):xO [bU e,cQ s l d es,.int i] Z=aE (bU (e.1,e.2.1+fP es i,e.2.2+gH s es i)) Z:=by
 have j:(3:ax)<=ay:=by decide
 have q:=λZ=>axH s l d es i Z h;simp[xO,Fe,q,bU,j]
def jT(es fs:ai E):bc:=match es,fs with
 |[],_=>ak
 |_::_,[]=>av
 |e::_,f::_=>decide (e.1<=f.1)
theorem axD(es fs:ai E)(i j:ax)(Z:aH)(hi:i<=es.length)(b:j<=fs.length):tW [.lst (encL es),.int i,.lst (encL fs),.int j] Z=aE (.bl (jT (es.drop i) (fs.drop j))) Z:=by
 by_cases h1:i=es.length
 ·subst h1;simp[tW,CP,jT]
 ·have hl:i<es.length:=by omega
  have a:eM (encL es) (i:aw)=ag (bU es[i]):=by rw[tR,mS,dP hl];rfl
  have z:¬(i:aw)=(es.length:aw):=by omega
  by_cases h2:j=fs.length
  ·subst h2;have q:jT (es.drop i) []=av:=by rw[qY hl];rfl
   simp[tW,CP,q,z]
  ·have B:j<fs.length:=by omega
   have U:eM (encL fs) (j:aw)=ag (bU fs[j]):=by rw[tR,mS,dP B];rfl
   have N:¬(j:aw)=(fs.length:aw):=by omega
   have q:jT (es.drop i) (fs.drop j)=decide (es[i].1<=fs[j].1):=by rw[qY hl,qY B];rfl
   simp[tW,CP,q,z,N,a,U,bU]
def dU(s t:aw):ax->aw->aw->ai E->ai E->ai E
 |0,_,_,_,_=>[]
 |n+1,c8,j,es,fs=>match es,fs with
  |[],[]=>[]
  |e::dR,[]=>(e.1,e.2.1+j,e.2.2+t)::dU s t n e.2.1 j dR []
  |[],f::iA=>(f.1,f.2.1+c8,f.2.2+s)::dU s t n c8 f.2.1 [] iA
  |e::dR,f::iA=>if e.1<=f.1 then(e.1,e.2.1+j,e.2.2+(f.2.2-1))::dU s t n e.2.1 j dR (f::iA)else(f.1,f.2.1+c8,f.2.2+(e.2.2-1))::dU s t n c8 f.2.1 (e::dR) iA
def nF(s t:aw)(es fs:ai E):ai E:=dU s t (es.length+fs.length) 0 0 es fs
theorem tG(es:ai E)(i:ax)(h:i<es.length):fP es (i+1)=es[i].2.1:=by simp[fP,h]
theorem EV(s:aw)(es:ai E)(i:ax)(h:i<es.length):gH s es i=es[i].2.2-1:=by simp[gH,h]
theorem EW(s:aw)(es:ai E):gH s es es.length=s:=by simp[gH]
theorem alD(N d k B c g:aw)(es fs:ai E)(i j:ax)(acc:ai E)(Z:aH)(hi:i<=es.length)(n:j<=fs.length)(p:acc.length<1000000) :
  FZ [ag (cQ N d k es),ag (cQ B c g fs),aF Z.length,aB i,aB j] (Z++[.lst (encL acc)]) =
   if jT (es.drop i) (fs.drop j)then(match es[i]? with
    |some e=>ag (.nx,[ag (cQ N d k es),ag (cQ B c g fs),aF Z.length,aB (i+1:ax),aB j],Z++[.lst (encL (acc++[(e.1,e.2.1+fP fs j,e.2.2+gH B fs j)]))])
    | none=>ao)
   else(match fs[j]? with
    |some f=>ag (.nx,[ag (cQ N d k es),ag (cQ B c g fs),aF Z.length,aB i,aB (j+1:ax)],Z++[.lst (encL (acc++[(f.1,f.2.1+fP es i,f.2.2+gH N es i)]))])
    | none=>ao):=by
 have z:=λZ=>axD es fs i j Z hi n;have hl:uJ (Z++[.lst (encL acc)]) (.aG Z.length):=wK (iV (ds:=encL acc) (by simp));have l:oH (Z++[.lst (encL acc)]) (.aG Z.length)=ag (Z.length,encL acc):=uR (by simp);have m:acc.length<ay:=by rw[nD];omega
 have o:∀x:E,encL acc++[bU x]=encL (acc++[x]):=λx=>by simp[encL]
 cases a:jT (es.drop i) (fs.drop j)with
 |true =>
  have q:i<es.length:=by
   by_cases h:i<es.length
   ·exact h
   ·rw[List.drop_eq_nil_of_le (by omega)]at a;cases a
  have b:eM (encL es) (i:aw)=ag (bU es[i]):=by rw[tR,mS,dP q];rfl
  have U:=λZ=>Ic es[i] B c g fs j Z n;rw[a]at z;simp only[cQ]at U ⊢;simp[FZ,z,U,b,hl,l,m,o,q]
 |false =>
  have q:j<fs.length\/fs.length<=j:=by omega
  rcases q with q|q
  ·have b:eM (encL fs) (j:aw)=ag (bU fs[j]):=by rw[tR,mS,dP q];rfl
   have U:=λZ=>Ic fs[j] N d k es i Z hi;rw[a]at z;simp only[cQ]at U ⊢;simp[FZ,z,U,b,hl,l,m,o,q]
  ·have b:eM (encL fs) (j:aw)=ao:=by rw[tR,mS,NB q];rfl
   rw[a]at z;simp only[cQ]at ⊢;simp[FZ,z,b,hl,l,q]
theorem Qb(z N a q B U:aw)(es fs:ai E)(i j:ax)(k:aq A)(Z:aH) :
  CN [ag (cQ z N a es),ag (cQ q B U fs),k,aB i,aB j] Z=aE (decide (i<es.length\/j<fs.length)) Z:=by
 by_cases h1:i<es.length
 ·simp[CN,cQ,h1]
 ·by_cases h2:j<fs.length
  ·simp[CN,cQ,h1,h2]
  ·simp[CN,cQ,h1,h2]
theorem alF(b e l a d h:aw)(es fs:ai E)(Z:aH):∀(m n i j:ax) (acc:ai E),i<=es.length->j<=fs.length->m=(es.length-i)+(fs.length-j)->m<n->acc.length+m<=1000000 ->
  kC CN FZ n [ag (cQ b e l es),ag (cQ a d h fs),aF Z.length,aB i,aB j] (Z++[.lst (encL acc)]) =
   ag (.nx,[ag (cQ b e l es),ag (cQ a d h fs),aF Z.length,aB es.length,aB fs.length],Z++[.lst (encL (acc++dU b a m (fP es i) (fP fs j) (es.drop i) (fs.drop j)))]):=by
 intro m
 induction m with
 |zero =>
  intro n i j acc hi f hm hn r;obtain⟨n,rfl⟩:∃k,n=k+1:=⟨n-1,by omega⟩;have h1:i=es.length:=by omega
  have h2:j=fs.length:=by omega
  subst h1 h2;rw[FJ (Z1:=Z++[.lst (encL acc)]) (by rw[Qb];simp)];simp[dU]
 |succ m ih =>
  intro n i j acc hi f hm hn r;obtain⟨n,rfl⟩:∃k,n=k+1:=⟨n-1,by omega⟩;have g:CN [ag (cQ b e l es),ag (cQ a d h fs),aF Z.length,aB i,aB j] (Z++[.lst (encL acc)])=aE av (Z++[.lst (encL acc)]):=by
   rw[Qb,xA (by omega)]
  have z:=alD b e l a d h es fs i j acc Z hi f (by omega)
  by_cases c:i<es.length
  ·have p:es[i]?=ag es[i]:=dP c;have U:=qY c
   by_cases q:j<fs.length
   ·have o:fs[j]?=ag fs[j]:=dP q;have N:=qY q
    by_cases hle:es[i].1<=fs[j].1
    ·have B:jT (es.drop i) (fs.drop j)=av:=by rw[U,N];simp[jT,hle]
     rw[B,p]at z;rw[rW g z,ih n (i+1) j _ (by omega) f (by omega) (by omega) (by simp;omega),U,N,dU,a6 hle,tG _ _ c,EV _ _ _ q,<-N];simp
    ·have B:jT (es.drop i) (fs.drop j)=ak:=by rw[U,N];simp[jT];omega
     rw[B,o]at z;rw[rW g z,ih n i (j+1) _ hi (by omega) (by omega) (by omega) (by simp;omega),U,N,dU,a7 hle,tG _ _ q,EV _ _ _ c,<-U];simp
   ·have t:j=fs.length:=by omega
    subst t;have B:jT (es.drop i) (fs.drop fs.length)=av:=by rw[U,xK];rfl
    rw[B,p]at z;rw[rW g z,ih n (i+1) fs.length _ (by omega) f (by omega) (by omega) (by simp;omega),U,xK,dU,tG _ _ c,EW];simp
  ·have s:i=es.length:=by omega
   subst s;have q:j<fs.length:=by omega
   have o:fs[j]?=ag fs[j]:=dP q;have N:=qY q;have B:jT (es.drop es.length) (fs.drop j)=ak:=by rw[xK];rfl
   rw[B,o]at z;rw[rW g z,ih n es.length (j+1) _ hi (by omega) (by omega) (by omega) (by simp;omega),N,xK,dU,tG _ _ q,EW];simp
theorem axQ(n:ax)(e:E):Cl n (bU e):=by simp[bU,Cl,eX]
theorem US(n:ax):∀(es:ai E),eX n (encL es)
 |[]=>by simp[encL,eX]
 |e::es=>by simp only[encL,cK,eX];exact⟨axQ n e,US n es⟩
theorem aAC(n:ax)(s l d:aw)(es:ai E):Cl n (cQ s l d es):=by simp[cQ,Cl,eX,US]
theorem aw0(z N a j B U:aw)(es fs:ai E)(Z:aH)(h:es.length+fs.length<=100000):UD [cQ z N a es,cQ j B U fs] Z=aE (.lst (encL (nF z j es fs))) Z:=by
 have q:=alF z N a j B U es fs Z (es.length+fs.length) 1000000 0 0 [] AW AW (by omega) (by omega) (by simp;omega);have b:encL []=[]:=rfl;have l0:∀es,fP es 0=0:=λ_=>rfl;simp only[b,l0,List.drop_zero,DB,Int.ofNat_zero,Jb]at q;have c:(0:ax)<=ay:=zK _;simp[UD,Xg,q,nF];rw[rM (by simp[Cl,US])]
theorem aw2(z N a j B U:aw)(es fs:ai E)(Z:aH)(h:es.length+fs.length<=100000):HJ [cQ z N a es,cQ j B U fs] Z=aE (cQ (z+j) (N+B) (max a U) (nF z j es fs)) Z:=by
 have q:=λZ=>aw0 z N a j B U es fs Z h;have b:(4:ax)<=ay:=by decide
 simp only[cQ]at q ⊢;simp[HJ,Xi,q,b]
theorem af1{Z:aH}{s l d:aw}{k:ax}{es:ai E}(h:Z[k]?=ag (.lst (encL es))):res Z 6 (.tup [.int s,.int l,.int d,.aG k])=ag (cQ s l d es):=by
 have hi:∀i,res Z 5 (.int i)=(aB i):=λi=>lN (ag4 _ _);have j:res Z 5 (.aG k)=ag (.lst (encL es)):=by rw[JC h,EK _ (ag6 7 es)];rfl
 rw[afZ (by simp[ZX,cJ])];simp[rR,hi,j,cQ]
def Ch(l s:aw):aw->aw->aq aw->ai E->Prop
 |lo,j,_,[]=>lo=s/\j=s
 |lo,j,q,e::r=>(∀p,q=ag p->p<=e.1)/\(q=ag e.1\/e.2.2<=lo+l+1)/\lo<e.2.1/\j<e.2.2/\e.2.1<=e.2.2/\e.2.2-e.2.1<=l/\Ch l s e.2.1 e.2.2 (ag e.1) r
def Ux(es:ai E):Prop:=∀e r,es=e::r->e.2.1=1/\e.2.2=1
structure GF(s l d:aw)(es:ai E):Prop where
 s0:0<=s
 l0:0<=l
 d0:0<=d
 fst:Ux es
 ch:Ch l s 0 0 ao es
theorem Ch.bound{l s:aw}:∀{es:ai E} {lo j:aw} {pr:aq aw},Ch l s lo j pr es->lo<=s/\j<=s
 |[],_,_,_,h=>⟨Jc h.1,Jc h.2⟩
 |e::r,_,_,_,h=>by
  obtain⟨_,_,B,z,_,_,q⟩:=h;have:=Ch.bound q;omega
noncomputable def iH(s:aw):ai E->aw
 |[]=>s
 |e::_=>e.2.2-1
theorem Ch.Qj{l s lo j:aw}{pr:aq aw}{es:ai E}(h:Ch l s lo j pr es):lo<=iH s es/\j<=iH s es:=by
 cases es with
 |nil=>exact⟨Jc h.1,Jc h.2⟩
 |cons e r =>
  obtain⟨_,_,B,z,q,_,_⟩:=h;show lo<=e.2.2-1/\j<=e.2.2-1;omega
theorem yW(s:aw):iH s []=s:=rfl
theorem BJ(s:aw)(e:E)(r:ai E):iH s (e::r)=e.2.2-1:=rfl
def Last(j p2 P:aq aw)(B N U a z:aw):Prop :=
 (P=j/\z=B+a/\(j=ao->p2=ao)/\∀p q,j=ag p->p2=ag q->q<p) \/
 (P=p2/\z=U+N/\p2≠ao/\∀p q,j=ag p->p2=ag q->p<=q)
theorem au3{B z s t:aw}{c8 j i k g:aw}{c p2 P:aq aw}{e:E}{es fs:ai E}(h1:Ch B s c8 i c (e::es))(h2:Ch z t j k p2 fs)(wU:0<=B)(v:0<=z)
  (H:∀p f r,c=ag p->fs=f::r->p<=f.1) (d:∀q,p2=ag q->q<e.1) (L:Last c p2 P i k (iH s (e::es)) (iH t fs) g) (l:∀f r,fs=f::r->e.1<=f.1)
  (ae:Ch (B+z) (s+t) (e.2.1+j) (e.2.2+iH t fs) (ag e.1) R):Ch (B+z) (s+t) (c8+j) g P ((e.1,e.2.1+j,e.2.2+iH t fs)::R):=by
 obtain⟨u,U,G,F,D,C,A⟩:=h1;obtain⟨y,x⟩:=h2.Qj;have w:iH t fs<=j+z:=by
  cases fs with
  |nil=>rw[yW];have:=h2.1;omega
  |cons f r =>
   obtain⟨_,b,_⟩:=h2;rw[BJ]
   rcases b with b|b
   ·have:=d _ b;have:=l f r rfl;omega
   ·omega
 rw[BJ]at L;refine⟨λp a=>?_,?_,by show c8+j<e.2.1+j;omega,?_,by show e.2.1+j<=e.2.2+iH t fs;omega,by show e.2.2+iH t fs-(e.2.1+j)<=B+z;omega,ae⟩
 ·rcases L with⟨N,_⟩|⟨N,_⟩
  ·rw[N]at a;exact u p a
  ·rw[N]at a;have:=d p a;show p<=e.1;omega
 ·rcases U with U|U
  ·left
   rcases L with⟨N,_⟩|⟨N,_,n,m⟩
   ·rw[N];exact U
   ·exfalso;cases h:p2 with
    |none=>exact n h
    |some q =>
     have:=m _ q U h;have:=d q h;omega
  ·right
   show e.2.2+iH t fs<=c8+j+(B+z)+1;omega
 ·show g<e.2.2+iH t fs
  rcases L with⟨_,o,_⟩|⟨_,o,_⟩ <;> omega
theorem Wg{j B s t:aw}{c8 b i k g:aw}{U p2 P:aq aw}{f:E}{es fs:ai E}(h1:Ch j s c8 i U es)(h2:Ch B t b k p2 (f::fs))(wU:0<=j)(v:0<=B)
  (d:∀p,U=ag p->p<=f.1) (H:∀q e r,p2=ag q->es=e::r->q<e.1) (L:Last U p2 P i k (iH s es) (iH t (f::fs)) g) (l:∀e r,es=e::r->f.1<e.1)
  (ae:Ch (j+B) (s+t) (f.2.1+c8) (f.2.2+iH s es) (ag f.1) R):Ch (j+B) (s+t) (c8+b) g P ((f.1,f.2.1+c8,f.2.2+iH s es)::R):=by
 obtain⟨u,z,G,F,D,C,A⟩:=h2;obtain⟨y,x⟩:=h1.Qj;have w:iH s es<=c8+j:=by
  cases es with
  |nil=>rw[yW];have:=h1.1;omega
  |cons e r =>
   obtain⟨_,c,_⟩:=h1;rw[BJ]
   rcases c with c|c
   ·have:=d _ c;have:=l e r rfl;omega
   ·omega
 rw[BJ]at L;refine⟨λp a=>?_,?_,by show c8+b<f.2.1+c8;omega,?_,by show f.2.1+c8<=f.2.2+iH s es;omega,by show f.2.2+iH s es-(f.2.1+c8)<=j+B;omega,ae⟩
 ·rcases L with⟨N,_⟩|⟨N,_⟩
  ·rw[N]at a;exact d p a
  ·rw[N]at a;exact u p a
 ·rcases z with z|z
  ·left
   rcases L with⟨N,_,n,m⟩|⟨N,_⟩
   ·exfalso;cases h:U with
    |none=>rw[n h]at z;cases z
    |some p =>
     have:=m p _ h z;have:=d p h;omega
   ·rw[N];exact z
  ·right
   show f.2.2+iH s es<=c8+b+(j+B)+1;omega
 ·show g<f.2.2+iH s es
  rcases L with⟨_,o,_⟩|⟨_,o,_⟩ <;> omega
theorem au4{i h s t:aw}(wU:0<=i)(o:0<=h):∀(n:ax) (es fs:ai E) (c8 B a b g:aw) (U p2 P:aq aw),n=es.length+fs.length->Ch i s c8 a U es->Ch h t B b p2 fs ->
  (∀p f r,U=ag p->fs=f::r->p<=f.1)->(∀q e r,p2=ag q->es=e::r->q<e.1)->Last U p2 P a b (iH s es) (iH t fs) g ->
  Ch (i+h) (s+t) (c8+B) g P (dU s t n c8 B es fs):=by
 intro n
 induction n with
 |zero =>
  intro es fs c8 B a b g U p2 P hn h1 h2 N d L;have A:es=[]:=zO (by omega);have u:fs=[]:=zO (by omega);subst A u;obtain⟨a1,a2⟩:=h1;obtain⟨X,W⟩:=h2;simp only[yW]at L;refine⟨by omega,?_⟩
  rcases L with⟨_,u,_⟩|⟨_,u,_⟩ <;> omega
 |succ n ih =>
  intro es fs c8 B a b g U p2 P hn h1 h2 N d L;cases es with
  |nil =>
   cases fs with
   |nil=>simp at hn
   |cons f fs =>
    simp only[gZ,DE]at hn;have v:=h2;obtain⟨I,H,G,F,D,C,c⟩:=h2;have q:=ih [] fs c8 f.2.1 a f.2.2 (s+f.2.2) U (ag f.1) (ag f.1) (by simp;omega) h1 c
     (λp k r j he=>by
      subst he;have:=N p f _ j rfl;have:=c.1 _ rfl;omega) (λq e r _ he=>by cases he)
     (.inr ⟨rfl,rfl,by simp,λp q j z=>by cases z;exact N p f _ j rfl⟩)
    have:=Wg (es:=[]) h1 v wU o (λp j=>N p f _ j rfl) (λq e r _ he=>by cases he) L (λe r he=>by cases he) (R:=dU s t n c8 f.2.1 [] fs) (by
     rw[yW,NG f.2.1,NG f.2.2];exact q)
    simp only[dU];rw[yW]at this;exact this
  |cons e es =>
   have m:=h1;obtain⟨V,T,S,Q,M,K,x⟩:=h1;have y:(∀f r,fs=f::r->e.1<=f.1)->Ch (i+h) (s+t) (c8+B) g P ((e.1,e.2.1+B,e.2.2+iH t fs)::dU s t n e.2.1 B es fs):=λw=>by
    have q:=ih es fs e.2.1 B e.2.2 b (e.2.2+iH t fs) (ag e.1) p2 (ag e.1) (by simp at hn ⊢;omega) x h2
     (λp k r j he=>by cases j;exact w k r he) (λq l r z he=>by
      subst he;have:=d q e _ z rfl;have:=x.1 _ rfl;omega)
     (.inl ⟨rfl,rfl,by simp,λp q j z=>by cases j;exact d q e _ z rfl⟩)
    exact au3 m h2 wU o N (λq z=>d q e _ z rfl) L w q
   cases fs with
   |nil =>
    have:=y (λf r he=>by cases he);simp only[dU];rw[yW]at this;exact this
   |cons f fs =>
    simp only[dU]
    by_cases hle:e.1<=f.1
    ·rw[a6 hle];have:=y (λk r he=>by cases he;exact hle);rw[BJ]at this;exact this
    ·rw[a7 hle];have v:=h2;obtain⟨I,H,G,F,D,C,c⟩:=h2;have q:=ih (e::es) fs c8 f.2.1 a f.2.2 (iH s (e::es)+f.2.2) U (ag f.1) (ag f.1) (by simp at hn ⊢;omega) m c
      (λp k r j he=>by
       subst he;have:=N p f _ j rfl;have:=c.1 _ rfl;omega) (λq l r z he=>by cases z;cases he;omega)
      (.inr ⟨rfl,rfl,by simp,λp q j z=>by cases z;exact N p f _ j rfl⟩)
     have:=Wg (es:=e::es) m v wU o (λp j=>N p f _ j rfl) (λq l r z he=>d q l r z he) L (λl r he=>by cases he;omega) (R:=dU s t n c8 f.2.1 (e::es) fs) (by
      rw[NG f.2.1,NG f.2.2];exact q)
     rw[BJ]at this;exact this
theorem Ss{l s:aw}{es:ai E}(h:Ux es)(c:Ch l s 0 0 ao es):iH s es=0:=by
 cases es with
 |nil=>exact c.1.symm
 |cons e r=>rw[BJ,(h e r rfl).2];rfl
theorem arN{z N d j B c:aw}{es fs:ai E}(h1:GF z N d es)(h2:GF j B c fs):GF (z+j) (N+B) (max d c) (nF z j es fs):=by
 have i:=Ss h1.fst h1.ch;have U:=Ss h2.fst h2.ch;have q:=au4 h1.l0 h2.l0 (es.length+fs.length) es fs 0 0 0 0 0 ao ao ao rfl h1.ch h2.ch (λ_ _ _ h=>by cases h) (λ_ _ _ h=>by cases h) (.inl ⟨rfl,by rw[U];rfl,λ_=>rfl,λ_ _ h=>by cases h⟩);refine⟨by have:=h1.s0;have:=h2.s0;omega,by have:=h1.l0;have:=h2.l0;omega,by have:=h1.d0;omega,?_,q⟩;intro e r he;unfold nF at he;cases es with
 |nil =>
  cases fs with
  |nil=>simp[dU]at he
  |cons f fs =>
   rw[yW]at i;simp only[DE,gZ,CW,dU,qZ]at he;obtain⟨a,b⟩:=h2.fst f fs rfl;rw[<-he.1];exact⟨by show f.2.1+0=1;omega,by show f.2.2+z=1;omega⟩
 |cons x es =>
  obtain⟨a,b⟩:=h1.fst x es rfl;cases fs with
  |nil =>
   rw[yW]at U;simp only[DE,gZ,Nat.add_zero,dU,qZ]at he;rw[<-he.1];exact⟨by show x.2.1+0=1;omega,by show x.2.2+j=1;omega⟩
  |cons f fs =>
   obtain⟨l,k⟩:=h2.fst f fs rfl;have g:(x::es).length+(f::fs).length=(es.length+(f::fs).length)+1:=by simp only[gZ];omega
   rw[g]at he;simp only[dU]at he;split at he
   ·simp only[qZ]at he;rw[<-he.1];exact⟨by show x.2.1+0=1;omega,by show x.2.2+(f.2.2-1)=1;omega⟩
   ·simp only[qZ]at he;rw[<-he.1];exact⟨by show f.2.1+0=1;omega,by show f.2.2+(x.2.2-1)=1;omega⟩
noncomputable def oO(l:aw)(k y:E):bc:=decide (y.1=k.1)||decide (y.2.2<=k.2.1+l+1)
def nX(l:aw):E->ai E->ai E
 |_,[]=>[]
 |k,x::r=>match r with
  |[]=>[x]
  |y::_=>if oO l k y=av then nX l k r else x::nX l x r
def lM(l:aw):ai E->ai E
 |[]=>[]
 |e::r=>e::nX l e r
theorem DY(l:aw)(k x y:E)(r:ai E):nX l k (x::y::r)=if oO l k y=av then nX l k (y::r)else x::nX l x (y::r):=rfl
theorem AV(l:aw)(k y:E):oO l k y=av<->(y.1=k.1\/y.2.2<=k.2.1+l+1):=by simp[oO]
theorem Ep{l0 l s:aw}(i:l0<=l):∀(xs:ai E) (k:E) (j N B:aw),Ch l0 s N B (ag j) xs->k.1<=j->k.2.1<=N->k.2.2<=B->(xs=[]->k.2.1=N/\k.2.2=B)->(∀x r,xs=x::r->oO l k x=av)->Ch l s k.2.1 k.2.2 (ag k.1) (nX l k xs)
 |[],k,j,N,B,h,_,_,_,he,_=>by
  obtain⟨a,b⟩:=he rfl;exact⟨a.trans h.1,b.trans h.2⟩
 |[x],k,j,N,B,h,h1,h2,t,_,hn=>by
  obtain⟨g,A,w,v,f,u,U⟩:=h;have n:=(AV l k x).mp (hn x [] rfl);have:=g j rfl;refine⟨λp d=>(by cases d;omega),?_,by omega,by omega,f,by omega,U⟩
  rcases n with n|n
  ·left;rw[n]
  ·right;exact n
 |x::y::r,k,j,N,B,h,h1,h2,t,_,hn=>by
  obtain⟨g,A,w,v,f,u,U⟩:=h;have C:=g j rfl;rw[DY]
  by_cases c:oO l k y=av
  ·rw[a6 c];exact Ep i (y::r) k x.1 x.2.1 x.2.2 U (by omega) (by omega) (by omega) (λe=>by cases e) (λm o e=>by cases e;exact c)
  ·rw[a7 c];have n:=(AV l k x).mp (hn x _ rfl);have q:=Ep i (y::r) x x.1 x.2.1 x.2.2 U wL wL wL (λe=>by cases e) (λm o e=>by
    cases e;rw[AV]
    rcases U.2.1 with z|z
    ·left;exact(kE z).symm
    ·right;omega)
   refine⟨λp d=>(by cases d;omega),?_,by omega,by omega,f,by omega,q⟩
   rcases n with n|n
   ·left;rw[n]
   ·right;exact n
theorem arL{s l d B:aw}{es:ai E}(h:GF s l d es)(hl:l<=B):GF s B (d+1) (lM B es):=by
 refine⟨h.s0,by have:=h.l0;omega,by have:=h.d0;omega,?_,?_⟩
 ·intro e r he;cases es with
  |nil=>cases he
  |cons x q =>
   simp only[lM,qZ]at he;rw[<-he.1];exact h.fst x q rfl
 ·cases es with
  |nil=>exact h.ch
  |cons x q =>
   obtain⟨c,j,b,a,U,f,N⟩:=h.ch;refine⟨c,?_,b,a,U,by omega,Ep hl q x x.1 x.2.1 x.2.2 N wL wL wL (λ_=>⟨rfl,rfl⟩) (λy r e=>?_)⟩
   ·rcases j with j|j
    ·cases j
    ·right;omega
   ·subst e;rw[AV]
    rcases N.2.1 with z|z
    ·left;exact(kE z).symm
    ·right;omega
theorem OK(l:aw):∀(xs:ai E) (k c:E),c∈nX l k xs->c∈xs
 |[],_,_,h=>by cases h
 |[x],_,_,h=>h
 |x::y::r,k,c,h=>by
  rw[DY]at h;split at h
  ·exact fL _ (OK l (y::r) k c h)
  ·rcases dI.mp h with z|z
   ·rw[z];exact List.mem_cons_self ..
   ·exact fL _ (OK l (y::r) x c z)
theorem MF{l s:aw}:∀(xs:ai E) (lo j:aw) (q:aq aw),Ch l s lo j q xs->∀c∈xs,j<c.2.2/\lo<c.2.1/\c.2.2-c.2.1<=l/\c.2.1<=s/\c.2.2<=s
 |[],_,_,_,_,c,h=>by cases h
 |x::r,lo,j,q,h,c,N=>by
  obtain⟨n,m,f,e,k,d,B⟩:=h
  rcases dI.mp N with z|z
  ·subst z;have:=B.bound;exact⟨e,f,d,this.1,this.2⟩
  ·obtain⟨i,g,b,a,U⟩:=MF r _ _ _ B c z;exact⟨by omega,by omega,b,a,U⟩
def Iv(st:aw):E->ai E->Prop
 |_,[]=>True
 |k,b::r=>(∀c j,r=c::j->k.2.1+st+2<=c.2.1)/\Iv st b r
theorem Bi{l0 st s:aw}:∀(xs:ai E) (k:E) (lo N:aw) (B:aq aw),Ch l0 s lo N B xs->Iv st k (nX (l0+st) k xs)
 |[],_,_,_,_,_=>trivial
 |[x],_,_,_,_,_=>⟨λc a e=>(by cases e),trivial⟩
 |x::y::r,k,lo,N,B,h=>by
  obtain⟨m,l,i,g,f,d,j⟩:=h;rw[DY]
  by_cases q:oO (l0+st) k y=av
  ·rw[a6 q];exact Bi (y::r) k _ _ _ j
  ·rw[a7 q];refine⟨λc a e=>?_,Bi (y::r) x _ _ _ j⟩;have U:c∈y::r:=OK _ (y::r) x c (by rw[e];exact List.mem_cons_self ..);have hm:=MF _ _ _ _ j c U;have n:y.2.2<=c.2.2:=by
    rcases dI.mp U with z|z
    ·rw[z];exact xN _
    ·obtain⟨_,_,_,_,_,_,b⟩:=j;have:=(MF _ _ _ _ b c z).1;omega
   have hn:¬(y.1=k.1\/y.2.2<=k.2.1+(l0+st)+1):=λz=>q ((AV _ _ _).mpr z);have o:¬y.2.2<=k.2.1+(l0+st)+1:=λz=>hn (.inr z);omega
theorem Qy{st s:aw}:∀(m:ax) (k:E) (ab:ai E),Iv st k ab->(∀c∈k::ab,c.2.1<=s)->2*m<=ab.length->k.2.1+m*(st+2)<=s
 |0,k,ab,_,h,_=>by have:=h k kU;simpa using this
 |m+1,k,ab,j,h,hl=>by
  match ab,j,hl with
  |[],_,hl=>simp at hl
  |[b],_,hl=>simp at hl;omega
  |b::c::r,j,hl =>
   obtain⟨N,B⟩:=j;have e:=N c r rfl;have q:=Qy m c r B.2 (λz U=>h z (fL _ (fL _ U))) (by simp at hl;omega);have:((m+1:ax):aw)*(st+2)=(m:aw)*(st+2)+(st+2):=by rw[Int.natCast_add,Int.add_mul];simp
   rw[this];omega
theorem acC{s l d:aw}{es:ai E}(h:GF s l d es)(keep:ax)(e:1<=keep):(lM (l+s/keep) es).length<=2*keep:=by
 cases es with
 |nil=>simp[lM]
 |cons x j =>
  obtain⟨p,o,n,m,k,i,B⟩:=h.ch;have b:=(h.fst x j rfl).1
  by_cases N:(lM (l+s/keep) (x::j)).length<=2*keep
  ·exact N
  ·exfalso;have hlen:2*keep<=(nX (l+s/keep) x j).length:=by simp only[lM,gZ]at N;omega
   have q:=Qy keep x _ (Bi j x _ _ _ B) (λc U=>by
    rcases dI.mp U with z|z
    ·rw[z];exact B.bound.1
    ·exact(MF _ _ _ _ B c (OK _ _ _ _ z)).2.2.2.1) hlen
   have g:=Int.mul_ediv_add_emod s keep;have f:=NF s (show(0:aw)<keep by omega);have a:(keep:aw)*(s/keep+2)=keep*(s/keep)+2*keep:=by rw[TV];omega
   rw[a]at q;omega
theorem awY(l:aw)(k y:E)(Z:aH):NN [bU k,bU y,.int l] Z=aE (.bl (oO l k y)) Z:=by
 by_cases h:y.1=k.1
 ·simp[NN,Fc,bU,h,oO]
 ·simp[NN,Fc,bU,h,oO]
theorem Ee(es:ai E)(e:E):encL es++[bU e]=encL (es++[e]):=by simp[encL]
theorem Ef(e:E)(es:ai E):encL (e::es)=bU e::encL es:=rfl
theorem QF(ok:aH->Prop)(aK:∀Z,ok Z)(es:ai E)(l:aw)(Z:aH)(hz:es.length<=100000):∀(xs:ai E) (pre acc:ai E) (k:E) (a e:aq A),es=pre++xs->1<=pre.length->acc.length<=pre.length->∃B j,
  eY ok (lV 2 (fJ (gN 4) (fJ (gN 5) mP))) zI (oE pre.length (encL xs)) [dB (encL es),aB l,aF Z.length,aB ((es.length:aw)-1),a,e] (Z++[.lst (encL (acc++[k]))]) =
   ag (.nx,[dB (encL es),aB l,aF Z.length,aB ((es.length:aw)-1),B,j],Z++[.lst (encL (acc++[k]++nX l k xs))])
 | [],pre,acc,k,a,e,_,_,_=>⟨a,e,by
   show eY _ _ _ [] _ _=_;rw[zB (aK _)];simp[nX]⟩
 |x::r,pre,acc,k,a,e,he,m,n=>by
  have hL:∀ds,eV (Z++[.lst ds]) (.aG Z.length)=ag ds:=λds=>iV (by simp);have d:∀ds,uJ (Z++[.lst ds]) (.aG Z.length):=λds=>wK (hL ds);have f:∀ds,oH (Z++[.lst ds]) (.aG Z.length)=ag (Z.length,ds):=λds=>uR (by simp);have hlen:es.length=pre.length+(r.length+1):=by rw[he];simp
  have h:acc.length+1<ay:=by rw[nD];omega
  have b:((pre.length:aw)==0)=ak:=by simp;intro z;simp[z]at m
  have g:eM (encL (acc++[k])) (-1)=ag (bU k):=by rw[<-Ee];exact L2.av1 _ _
  have keep:∀(i:aq A),zI [dB (encL es),aB l,aF Z.length,aB ((es.length:aw)-1),aB (pre.length:aw),ag (bU x)] (Z++[.lst (encL (acc++[k]))]) =
    ag (.nx,[dB (encL es),aB l,aF Z.length,aB ((es.length:aw)-1),aB (pre.length:aw),ag (bU x)],Z++[.lst (encL (acc++[k]++(match r with
     |[]=>[x]
     | y::_=>if oO l k y=av then []else [x])))]):=by
   intro _;cases r with
   |nil =>
    have N:((pre.length:aw)==(es.length:aw)-1)=av:=by simp at hlen ⊢;omega
    simp[zI,-beq_iff_eq,-de,b,N,d,f,h];rw[Ee];simp
   |cons y r =>
    have N:((pre.length:aw)==(es.length:aw)-1)=ak:=by simp at hlen ⊢;omega
    have c:eM (encL es) ((pre.length:aw)+1)=ag (bU y):=by
     rw[show((pre.length:aw)+1)=((pre.length+1:ax):aw)by omega,sA,mS,he];simp
    have q:=λZ=>awY l k y Z;cases hb:oO l k y with
    |true =>
     rw[hb]at q;simp[zI,-beq_iff_eq,-de,b,N,hL,g,c,q,hb]
    |false =>
     rw[hb]at q;simp[zI,-beq_iff_eq,-de,b,N,hL,g,c,q,d,f,h,hb];rw[Ee];simp
  have U:(pre++[x]).length=pre.length+1:=by simp
  rw[Ef,oE];cases r with
  |nil =>
   obtain⟨B,j,ih⟩:=QF ok aK es l Z hz [] (pre++[x]) (acc++[k]) x (aB (pre.length:aw)) (ag (bU x)) (by rw[he];simp) (by simp) (by simp;omega);rw[U]at ih;refine⟨B,j,?_⟩;rw[pX (aK _) (by simp) (keep ao),ih];simp[nX]
  |cons y r =>
   cases hb:oO l k y with
   |true =>
    obtain⟨B,j,ih⟩:=QF ok aK es l Z hz (y::r) (pre++[x]) acc k (aB (pre.length:aw)) (ag (bU x)) (by rw[he];simp) (by simp) (by simp;omega);rw[U]at ih;refine⟨B,j,?_⟩;rw[pX (aK _) (by simp) (keep ao)];simp only[hb,kL,uX];rw[ih,DY,a6 hb]
   |false =>
    obtain⟨B,j,ih⟩:=QF ok aK es l Z hz (y::r) (pre++[x]) (acc++[k]) x (aB (pre.length:aw)) (ag (bU x)) (by rw[he];simp) (by simp) (by simp;omega);rw[U]at ih;refine⟨B,j,?_⟩;rw[pX (aK _) (by simp) (keep ao)];simp only[hb,IG,pS];rw[ih,DY,a7 (by rw[hb];simp)];simp
theorem aw8(es:ai E)(l:aw)(Z:aH)(hz:es.length<=100000):NP [.lst (encL es),.int l] Z=aE (.lst (encL (lM l es))) Z:=by
 have z:∀ds,uJ (Z++[.lst ds]) (.aG Z.length):=λds=>wK (iV (ds:=ds) (by simp));have B:∀ds,oH (Z++[.lst ds]) (.aG Z.length)=ag (Z.length,ds):=λds=>uR (by simp);have N:(0:ax)<ay:=by decide
 cases es with
 |nil =>
  simp[NP,Fh,enumSrc,encL,oE,eY,lM];exact rM (by simp[Cl,eX])
 |cons x j =>
  obtain⟨a,U,q⟩:=QF (λ_=>True) (λ_=>trivial) (x::j) l Z hz j [x] [] x (aB 0) (ag (bU x)) rfl (by simp) (by simp);have f:eY (λ_=>True) (lV 2 (fJ (gN 4) (fJ (gN 5) mP))) zI (oE 0 (encL (x::j))) [dB (encL (x::j)),aB l,aF Z.length,aB (((x::j).length:aw)-1),ao,ao] (Z++[.lst []]) =
   ag (.nx,[dB (encL (x::j)),aB l,aF Z.length,aB (((x::j).length:aw)-1),a,U],Z++[.lst (encL (lM l (x::j)))]):=by
   rw[Ef,oE,pX trivial (Y0:=[dB (encL (x::j)),aB l,aF Z.length,aB (((x::j).length:aw)-1),aB 0,ag (bU x)]) (Z0:=Z++[.lst []]) (by simp[Ef])
    (Y1:=[dB (encL (x::j)),aB l,aF Z.length,aB (((x::j).length:aw)-1),aB 0,ag (bU x)]) (Z1:=Z++[.lst (encL ([]++[x]))]) (by simp[zI,z,B,N,encL])]
   exact q
  have hn:(((x::j).length:aw)-1)=(j.length:aw):=by simp
  rw[hn]at f;simp[NP,Fh,enumSrc,f];exact rM (by simp[Cl,US])
theorem awO(s l d:aw)(es:ai E)(keep:aw)(Z:aH)(N:1<=keep)(B:keep<1000000)(hz:es.length<=100000):NJ [cQ s l d es,.int keep] Z=aE (cQ s (l+s/keep) (d+1) (lM (l+s/keep) es)) Z:=by
 have q:=λl Z=>aw8 es l Z hz;have z:(4:ax)<=ay:=by decide
 have hd:∀j,oJ j keep:=λj=>⟨by omega,by omega⟩
 simp[NJ,Xb,cQ,q,z,hd]
theorem arM{s l d:aw}{es:ai E}(h:GF s l d es):(s=0<->es=[]):=by
 cases es with
 |nil=>exact⟨λ_=>rfl,λ_=>h.ch.1.symm⟩
 |cons e r =>
  obtain⟨_,_,q,_,_,_,j⟩:=h.ch;have:=j.bound;exact⟨λz=>by omega,λz=>by cases z⟩
theorem Wi{l s:aw}:∀(es:ai E) (lo N:aw) (B:aq aw) (i:ax) (e:E),Ch l s lo N B es->es[i]?=ag e->e.2.1<=e.2.2/\e.2.2-e.2.1<=l/\(i+1=es.length->e.2.1=s/\e.2.2=s)/\∀f,es[i+1]?=ag f->e.1<=f.1/\e.2.1<f.2.1/\e.2.2<f.2.2/\oO l e f=av
 |[],_,_,_,_,_,_,h=>by simp at h
 |x::r,lo,N,B,0,e,h,he=>by
  obtain⟨v,u,t,p,a,U,q⟩:=h;simp at he;subst he;refine⟨a,U,λhl=>?_,λf j=>?_⟩
  ·have:r=[]:=zO (by simp only[gZ]at hl;omega);subst this;exact q
  ·cases r with
   |nil=>simp at j
   |cons y r =>
    simp at j;subst j;obtain⟨o,n,m,k,_⟩:=q;refine⟨o _ rfl,m,k,?_⟩;rw[AV]
    rcases n with z|z
    ·left;exact(kE z).symm
    ·right;exact z
 |x::r,lo,N,B,i+1,e,h,he=>by
  obtain⟨v,u,t,p,a,U,q⟩:=h;simp at he;obtain⟨g,d,c,b⟩:=Wi r _ _ _ i e q he;exact⟨g,d,λhl=>c (by simp only[gZ]at hl;omega),λf j=>b f (by simpa using j)⟩
structure Po where
 s:aw
 l:aw
 d:aw
 es:ai E
def bQ(p:Po):A:=cQ p.s p.l p.d p.es
theorem Py(s t:aw):∀(n:ax) (c8 j:aw) (es fs:ai E),n=es.length+fs.length->(dU s t n c8 j es fs).length=n:=by
 intro n
 induction n with
 |zero=>intro c8 j es fs _;rfl
 |succ n ih =>
  intro c8 j es fs h;cases es with
  |nil =>
   cases fs with
   |nil=>simp at h
   |cons f fs=>simp only[dU,gZ];rw[ih _ _ _ _ (by simp at h ⊢;omega)]
  |cons e es =>
   cases fs with
   |nil=>simp only[dU,gZ];rw[ih _ _ _ _ (by simp at h ⊢;omega)]
   |cons f fs =>
    simp only[dU];split
    ·simp only[gZ];rw[ih _ _ _ _ (by simp at h ⊢;omega)]
    ·simp only[gZ];rw[ih _ _ _ _ (by simp at h ⊢;omega)]
def iT(p q:Po):Po:=⟨p.s+q.s,p.l+q.l,max p.d q.d,nF p.s q.s p.es q.es⟩
def Lr(keep:aw)(p:Po):Po:=⟨p.s,p.l+p.s/keep,p.d+1,lM (p.l+p.s/keep) p.es⟩
noncomputable def asI(p:Po):A:=.int p.s
def uE(ps:ai Po):aH:=[.lst (ps.map bQ),.lst (ps.map asI)]
end M
namespace V2
open PySem L2
theorem Dz{ok:aH->Prop}{g:A->MS}{c:Ev->Mo bc}{e:Ev->Mo A}(F:A->aq A)(P:Ev->Prop)(Z0:aH)(aK:∀ys,ok (Z0++[.lst ys])):∀(xs:ai A) (Y:Ev) (acc:ai A),P Y->acc.length+xs.length<=1000000 ->
  (∀x∈xs,∀Y,P Y->∀ys,∃Y1,P Y1/\g x Y (Z0++[.lst ys])=ag (.nx,Y1,Z0++[.lst ys])/\((∃y,F x=ag y/\c Y1 (Z0++[.lst ys])=ag (.ok av,Z0++[.lst ys])/\e Y1 (Z0++[.lst ys])=ag (.ok y,Z0++[.lst ys]))\/(F x=ao/\c Y1 (Z0++[.lst ys])=ag (.ok ak,Z0++[.lst ys])))) ->
  ∃Y',oW ok g c e Z0.length xs Y (Z0++[.lst acc])=ag (Y',Z0++[.lst (acc++xs.filterMap F)])
 |[],Y,acc,_,_,_=>⟨Y,by simp[oW,aK]⟩
 |x::xs,Y,acc,b,hl,turn=>by
  simp only[gZ]at hl;obtain⟨Y1,U,N,q⟩:=turn x kU Y b acc;have a:acc.length<ay:=by rw[nD];omega
  rcases q with⟨y,z,B,d⟩|⟨z,B⟩
  ·obtain⟨Y',ih⟩:=Dz F P Z0 aK xs Y1 (acc++[y]) U (by simp;omega) λx j=>turn x (fL _ j);exact⟨Y',by simp[oW,aK,N,B,d,a,ih,z]⟩
  ·obtain⟨Y',ih⟩:=Dz F P Z0 aK xs Y1 acc U (by omega) λx j=>turn x (fL _ j);exact⟨Y',by simp[oW,aK,N,B,ih,z]⟩
theorem OE{n:ax}{js:ai ax}{fi:Ev->Mo Src}{g:A->MS}{c:Ev->Mo bc}{e:Ev->Mo A}{Y:Ev}{Z Z0:aH}{S:Src}(F:A->aq A)(P:Ev->Prop)(j:fi Y Z=ag (.ok S,Z0))(aK:∀ys,S.ok (Z0++[.lst ys]))(N:P (tH n js Y))(hl:S.ds.length<=1000000)
  (turn:∀x∈S.ds,∀Y,P Y->∀ys,∃Y1,P Y1/\g x Y (Z0++[.lst ys])=ag (.nx,Y1,Z0++[.lst ys])/\((∃y,F x=ag y/\c Y1 (Z0++[.lst ys])=ag (.ok av,Z0++[.lst ys])/\e Y1 (Z0++[.lst ys])=ag (.ok y,Z0++[.lst ys]))\/(F x=ao/\c Y1 (Z0++[.lst ys])=ag (.ok ak,Z0++[.lst ys]))))
  (B:eX Z0.length (S.ds.filterMap F)):mI ak n js fi g c e Y Z=ag (.ok (.lst (S.ds.filterMap F)),Z0):=by
 obtain⟨z,q⟩:=Dz F P Z0 aK S.ds (tH n js Y) [] N (by simpa using hl) turn;simp[mI,mb,j,q,Bb,B]
theorem LW{a b c:A}{Z:aH}(q:res Z 6 a=ag c)(hb:res Z 6 b=ag c)(j:cJ 8 c=av):iP a b Z=ag (.ok (.bl ak),Z):=by
 simp[iP,wY,q,hb,j,Ve 8 c j]
theorem Nk{f:Ev->Mo (ai A)}{Y:Ev}{Z Z':aH}{j:aw}(h:f Y Z=ag (.ok [.int j],Z'))(q:AH j):IQ f Y Z=ag (.ok (yI 0 j.toNat),Z'):=by
 unfold IQ;rw[dC h];show mb (oG (AH j)) _ Z'=_;rw[alJ _ q];rfl
theorem CA{fi:Ev->Mo Src}{g:A->MS}{b:MS}{Y:Ev}{Z Z':aH}{S:Src}(h:fi Y Z=ag (.ok S,Z')):jX fi g b Y Z=eY S.ok g b S.ds Y Z':=by
 unfold jX;rw[fN h]
theorem uQ{n:ax}:∀{as:ai A},(∀a∈as,Cl n a)->eX n as
 |[],_=>by simp only[eX]
 |a::as,h=>by simp only[eX];exact⟨h a kU,uQ λb hb=>h b (fL _ hb)⟩
end V2
namespace M
open PySem L2 V2
abbrev Rn:=aw×aw
noncomputable def iJ(r:Rn):A:=.tup [.int r.1,.int r.2]
def bF(rs:ai Rn):ai A:=rs.map iJ
theorem clT(n:ax)(r:Rn):Cl n (iJ r):=by simp[iJ,Cl,eX]
theorem Vy(n:ax)(rs:ai Rn):eX n (bF rs):=uQ λa h=>by
 obtain⟨r,_,rfl⟩:=jA.mp h;exact clT n r
theorem ag2(rs:ai Rn):cJ 8 (.lst (bF rs))=av:=by
 simp[cJ,bF,iJ]
noncomputable def bY(rs:ai Rn)(n:aw):aw:=(rs.map λr=>if r.1<n then r.2 else 0).sum
noncomputable def bZ(rs:ai Rn)(n:aw):aw:=(rs.map λr=>if r.1<=n then r.2 else 0).sum
noncomputable def iE(rs:ai Rn)(n:aw):aw:=(rs.map λr=>if r.1=n then r.2 else 0).sum
noncomputable def whole(rs:ai Rn):aw:=(rs.map (·.2)).sum
noncomputable def gX(j:ai aw)(f:aw->aw):ai (Key×A):=j.map λk=>(.inl k,.int (f k))
theorem Kx(j:ai aw)(f:aw->aw)(n:aw):gM (gX j f) (.inl n)=if n∈j then(aB (f n))else ao:=by
 induction j with
 |nil=>rfl
 |cons k j ih =>
  simp only[gM,gX,cK,DF]at ih ⊢
  by_cases e:k=n
  ·subst e;simp
  ·have:(Sum.inl k:Key)≠Sum.inl n:=λz=>e (Sum.inl.inj z);simp only[this,decide_false];rw[ih];have q:¬n=k:=λz=>e z.symm;simp[q]
theorem av6(j:ai aw)(f:aw->aw)(n:aw):((gX j f).any λq=>decide (q.1=(Sum.inl n:Key)))=decide (n∈j):=by
 induction j with
 |nil=>rfl
 |cons k j ih =>
  simp only[gX,cK,NC]at ih ⊢;rw[ih]
  by_cases e:k=n
  ·subst e;simp
  ·have h1:(Sum.inl k:Key)≠Sum.inl n:=λz=>e (Sum.inl.inj z);have B:¬n=k:=λz=>e z.symm;simp[h1,B]
noncomputable def pA(j:ai aw)(n:aw):ai aw:=if n∈j then j else j++[n]
theorem agZ(j:ai aw)(f g:aw->aw)(n:aw)(B:∀k∈j,k≠n->g k=f k):kT (gX j f) (.inl n) (.int (g n))=gX (pA j n) g:=by
 unfold kT pA;rw[av6]
 by_cases h:n∈j
 ·simp only[h,decide_true,kL];simp only[gX,xJ];refine GX λk q=>?_
  by_cases e:k=n
  ·subst e;simp
  ·have h1:(Sum.inl k:Key)≠Sum.inl n:=λz=>e (Sum.inl.inj z);simp[h1,B k q e]
 ·simp only[h,decide_false,pS];simp only[gX,DD,cK,pG];rw[GX (g:=λk=>((Sum.inl k:Key),A.int (g k))) λk q=>by rw[B k q (λz=>h (z ▸ q))]];simp
def oA(j:ai aw)(rs:ai Rn):ai aw:=rs.foldl (λj r=>pA j r.1) j
theorem awD{j:ai aw}{n:aw}(h:j.Nodup):(pA j n).Nodup:=by
 unfold pA;split
 ·exact h
 ·rename_i hn;rw[MY];refine⟨h,by simp,λa q b hb e=>?_⟩;simp only[qA]at hb;exact hn (hb ▸ e ▸ q)
theorem Qe{j:ai aw}{n k:aw}:k∈pA j n<->k∈j\/k=n:=by
 unfold pA;split
 ·rename_i h;exact⟨.inl,λz=>z.elim id λe=>e ▸ h⟩
 ·simp
theorem Qs(j:ai aw)(n:aw):(pA j n).length<=j.length+1:=by unfold pA;split <;> simp
theorem Qw:∀(rs:ai Rn) {j:ai aw},j.Nodup->(oA j rs).Nodup
 |[],_,h=>h
 |r::rs,_,h=>Qw rs (awD h)
theorem Qd:∀(rs:ai Rn) {j:ai aw} {k:aw},k∈oA j rs<->k∈j\/∃r∈rs,r.1=k
 |[],j,k=>by simp[oA]
 |r::rs,j,k=>by
  show k∈oA (pA j r.1) rs<->_;rw[Qd rs,Qe];simp only[dI,exists_eq_or_imp];constructor
  ·rintro((h|h)|h)
   ·exact .inl h
   ·exact .inr (.inl h.symm)
   ·exact .inr (.inr h)
  ·rintro(h|h|h)
   ·exact .inl (.inl h)
   ·exact .inl (.inr h.symm)
   ·exact .inr h
theorem Ba:∀(rs:ai Rn) (j:ai aw),(oA j rs).length<=j.length+rs.length
 |[],j=>by simp[oA]
 |r::rs,j=>by
  have h1:=Ba rs (pA j r.1);have h2:=Qs j r.1;show(oA (pA j r.1) rs).length<=_;simp only[gZ];omega
theorem rN(r:Rn)(rs:ai Rn)(x:aw):bY (r::rs) x=(if r.1<x then r.2 else 0)+bY rs x/\bZ (r::rs) x=(if r.1<=x then r.2 else 0)+bZ rs x:=⟨rfl,rfl⟩
theorem WL(R S:ai Rn)(x:aw):bY (R++S) x=bY R x+bY S x:=by simp[bY]
theorem WK(R S:ai Rn)(x:aw):bZ (R++S) x=bZ R x+bZ S x:=by simp[bZ]
theorem IJ(R S:ai Rn):whole (R++S)=whole R+whole S:=by simp[whole]
def Tn(R:ai Rn):Prop:=∀r∈R,0<=r.2
theorem Tn.tail{r:Rn}{R:ai Rn}(h:Tn (r::R)):Tn R:=λq j=>h q (fL _ j)
theorem Tn.head{r:Rn}{R:ai Rn}(h:Tn (r::R)):0<=r.2:=h r kU
theorem Tn.app{R S:ai Rn}(h:Tn R)(k:Tn S):Tn (R++S):=λq j=>(DC.mp j).elim (h q) (k q)
theorem AD:∀{R:ai Rn},Tn R->∀x,0<=bY R x
 |[],_,_=>by simp[bY]
 |r::R,h,x=>by
  rw[(rN r R x).1];have:=AD h.tail x;have:=h.head;split <;> omega
theorem AE:∀{R:ai Rn},Tn R->∀{x y:aw},x<=y->bY R x<=bY R y
 |[],_,_,_,_=>by simp[bY]
 |r::R,h,x,y,l=>by
  rw[(rN r R x).1,(rN r R y).1];have:=AE h.tail l;have:=h.head;split <;> split <;> omega
theorem DU:∀{R:ai Rn},Tn R->∀{x y:aw},x<=y->bZ R x<=bZ R y
 |[],_,_,_,_=>by simp[bZ]
 |r::R,h,x,y,l=>by
  rw[(rN r R x).2,(rN r R y).2];have:=DU h.tail l;have:=h.head;split <;> split <;> omega
theorem yB:∀{R:ai Rn},Tn R->∀{x y:aw},x<y->bZ R x<=bY R y
 |[],_,_,_,_=>by simp[bZ,bY]
 |r::R,h,x,y,l=>by
  rw[(rN r R x).2,(rN r R y).1];have:=yB h.tail l;have:=h.head;split <;> split <;> omega
theorem sW:∀{R:ai Rn},Tn R->∀(x:aw),bY R x<=bZ R x
 |[],_,_=>by simp[bZ,bY]
 |r::R,h,x=>by
  rw[(rN r R x).2,(rN r R x).1];have:=sW h.tail x;have:=h.head;split <;> split <;> omega
theorem IS:∀{R:ai Rn},Tn R->∀(x:aw),bZ R x<=whole R
 |[],_,_=>by simp[bZ,whole]
 |r::R,h,x=>by
  rw[(rN r R x).2];have e:whole (r::R)=r.2+whole R:=by simp[whole]
  have:=IS h.tail x;have:=h.head;rw[e];split <;> omega
def Pl(R:ai Rn):aw->ai E->Prop
 |_,[]=>True
 |z,e::r=>∃p,z<p/\bY R e.1<p/\p<=bZ R e.1/\e.2.1<=p/\p<=e.2.2/\Pl R p r
theorem Pl.low{R:ai Rn}{z j:aw}:∀{es:ai E},Pl R z es->j<=z->Pl R j es
 |[],_,_=>trivial
 |_::_,⟨p,h,q⟩,l=>⟨p,by omega,q⟩
theorem Pl.sub{R:ai Rn}:∀{es fs:ai E} {z:aw},es.Sublist fs->Pl R z fs->Pl R z es
 |_,_,_,.slnil,_=>trivial
 |_,_,_,.cons a s,⟨p,h,q⟩=>Pl.sub s (q.2.2.2.2.low (by omega))
 |_,_,_,.cons_cons a s,⟨p,h,b,U,N,B,j⟩=>⟨p,h,b,U,N,B,Pl.sub s j⟩
theorem WT(l:aw):∀(xs:ai E) (k:E),(nX l k xs).Sublist xs
 |[],k=>by simp[nX]
 |[x],k=>by simp[nX]
 |x::y::r,k=>by
  rw[DY];split
  ·exact .cons _ (WT l (y::r) k)
  ·exact .cons_cons _ (WT l (y::r) x)
theorem acB(l:aw)(es:ai E):(lM l es).Sublist es:=by
 cases es with
 |nil=>simp[lM]
 |cons x j=>exact .cons_cons _ (WT l j x)
theorem Pl.lM{R:ai Rn}{es:ai E}(l:aw)(h:Pl R 0 es):Pl R 0 (M.lM l es):=h.sub (acB l es)
def tU(es:ai E):Prop:=es.Pairwise λa b=>a.1<=b.1
theorem tU.tail{e:E}{es:ai E}(h:tU (e::es)):tU es:=(zN.mp h).2
theorem tU.next{e f:E}{es:ai E}(h:tU (e::f::es)):e.1<=f.1:=(zN.mp h).1 f kU
theorem ahX{R S:ai Rn}(hR:Tn R)(hS:Tn S){s t:aw}(H:s=whole R)(G:t=whole S):∀(n:ax) (es fs:ai E) (c8 j B z Ω:aw),n=es.length+fs.length->tU es->tU fs->Pl R B es->Pl S z fs->c8<=B->j<=z ->
  (∀f r,fs=f::r->B<=bZ R f.1)->(∀e r,es=e::r->z<=bY S e.1) ->
  (∀e r,es=e::r->∀p,B<p->bY R e.1<p->Ω<p+bY S e.1)->(∀f r,fs=f::r->∀q,z<q->bY S f.1<q->Ω<q+bZ R f.1) ->
  Pl (R++S) Ω (dU s t n c8 j es fs):=by
 intro n
 induction n with
 |zero=>intro es fs c8 j B z Ω _ _ _ _ _ _ _ _ _ _ _;exact trivial
 |succ n ih =>
  intro es fs c8 j B z Ω hn d c h1 h2 L L2 P M K I;have D:∀e dR,es=e::dR->(∀f r,fs=f::r->e.1<=f.1)->∀hi,(∀x,x<=e.1->bY S x<=hi)->Pl (R++S) Ω ((e.1,e.2.1+j,e.2.2+hi)::dU s t n e.2.1 j dR fs):=by
   rintro e dR rfl k hi A;obtain⟨p,b,a,v,U,u,N⟩:=h1;have W:=M e _ rfl;have o:=K e _ rfl p b a;have V:=A e.1 wL;refine⟨p+bY S e.1,o,?_,?_,?_,?_,?_⟩
   ·rw[WL];show bY R e.1+bY S e.1<_;omega
   ·rw[WK];show _<=bZ R e.1+bZ S e.1;have:=sW hS e.1;omega
   ·show e.2.1+j<=_;omega
   ·show _<=e.2.2+hi;omega
   ·refine ih dR fs e.2.1 j p z (p+bY S e.1) (by simp at hn;omega) d.tail c N h2 U L2 ?_ ?_ ?_ ?_
    ·intro f r he;have:=DU hR (k f r he);omega
    ·rintro y r rfl;have:=AE hS d.next;omega
    ·rintro y r rfl T m l;have:=AE hS d.next;omega
    ·intro f r he q m l;have:=DU hR (k f r he);have:=AE hS (k f r he);omega
  have C:∀f g,fs=f::g->(∀e r,es=e::r->f.1<e.1)->∀hi,(bZ R f.1<=hi)->Pl (R++S) Ω ((f.1,f.2.1+c8,f.2.2+hi)::dU s t n c8 f.2.1 es g):=by
   rintro f g rfl he hi A;obtain⟨q,b,a,v,U,u,N⟩:=h2;have X:=P f _ rfl;have o:=I f _ rfl q b a;refine⟨q+bZ R f.1,o,?_,?_,?_,?_,?_⟩
   ·rw[WL];show bY R f.1+bY S f.1<_;have:=sW hR f.1;omega
   ·rw[WK];show _<=bZ R f.1+bZ S f.1;omega
   ·show f.2.1+c8<=_;omega
   ·show _<=f.2.2+hi;omega
   ·refine ih es g c8 f.2.1 B q (q+bZ R f.1) (by simp at hn;omega) d c.tail h1 N L U ?_ ?_ ?_ ?_
    ·rintro w r rfl;have:=DU hR c.next;omega
    ·intro e r i;have:=yB hS (he e r i);omega
    ·intro e r i p m l;have:=yB hS (he e r i);have:=yB hR (he e r i);omega
    ·rintro w r rfl Q m l;have:=DU hR c.next;omega
  cases es with
  |nil =>
   cases fs with
   |nil=>simp at hn
   |cons f fs =>
    simp only[dU];exact C f fs rfl (λe r h=>by cases h) s (by rw[H];exact IS hR _)
  |cons e es =>
   cases fs with
   |nil =>
    simp only[dU];exact D e es rfl (λf r h=>by cases h) t (λx _=>by rw[G];exact HG (sW hS x) (IS hS x))
   |cons f fs =>
    simp only[dU]
    by_cases hle:e.1<=f.1
    ·rw[a6 hle];refine D e es rfl (λw r h=>by cases h;exact hle) (f.2.2-1) λx F=>?_;obtain⟨q,b,a,v,U,u,N⟩:=h2;have:=AE hS (HG F hle);omega
    ·rw[a7 hle];refine C f fs rfl (λy r h=>by cases h;omega) (e.2.2-1) ?_;obtain⟨p,b,a,v,U,u,N⟩:=h1;have:=yB hR (show f.1<e.1 by omega);omega
theorem Pl.nF{R S:ai Rn}(hR:Tn R)(hS:Tn S){es fs:ai E}(z:tU es)(j:tU fs)(h1:Pl R 0 es)(h2:Pl S 0 fs):Pl (R++S) 0 (nF (whole R) (whole S) es fs):=by
 refine ahX hR hS rfl rfl _ es fs 0 0 0 0 0 rfl z j h1 h2 wL wL ?_ ?_ ?_ ?_
 ·intro f r _;exact HG (AD hR f.1) (sW hR f.1)
 ·intro e r _;exact AD hS e.1
 ·intro e r _ p a b;have:=AD hS e.1;omega
 ·intro f r _ q a b;have:=AD hR f.1;have:=sW hR f.1;omega
theorem Wh{l s:aw}:∀{es:ai E} {lo j:aw} {q:aq aw},Ch l s lo j q es->tU es/\∀p,q=ag p->∀e∈es,p<=e.1
 |[],_,_,_,_=>⟨.nil,λ_ _ _ h=>by cases h⟩
 |e::r,lo,j,q,h=>by
  obtain⟨h1,_,_,_,_,_,N⟩:=h;obtain⟨a,b⟩:=Wh N;refine⟨zN.mpr ⟨λf B=>b e.1 rfl f B,a⟩,λp j f B=>?_⟩
  rcases dI.mp B with z|z
  ·rw[z];exact h1 p j
  ·exact HG (h1 p j) (b e.1 rfl f z)
theorem GF.Pu{s l d:aw}{es:ai E}(h:GF s l d es):tU es:=(Wh h.ch).1
structure Gd(R:ai Rn)(p:Po):Prop where
 tn:Tn R
 gf:GF p.s p.l p.d p.es
 sz:p.s=whole R
 pl:Pl R 0 p.es
theorem Gd.merge{R S:ai Rn}{p q:Po}(h:Gd R p)(k:Gd S q):Gd (R++S) (iT p q):=by
 refine⟨h.tn.app k.tn,arN h.gf k.gf,by show p.s+q.s=_;rw[IJ,h.sz,k.sz],?_⟩;show Pl (R++S) 0 (M.nF p.s q.s p.es q.es);rw[h.sz,k.sz];exact Pl.nF h.tn k.tn h.gf.Pu k.gf.Pu h.pl k.pl
theorem Gd.lM{R:ai Rn}{p:Po}(h:Gd R p)(keep:aw)(j:1<=keep):Gd R (Lr keep p):=by
 have hd:0<=p.s/keep:=Int.ediv_nonneg h.gf.s0 (by omega);exact⟨h.tn,arL h.gf (show p.l<=p.l+p.s/keep by omega),h.sz,Pl.lM _ h.pl⟩
theorem ajC(ok:aH->Prop)(aK:∀Z,ok Z)(L:A)(Z:aH):∀(rs:ai Rn) (j:ai aw) (f:aw->aw) (x y:aq A),j.length+rs.length<=100000->(∀n,n∉j->f n=0) ->
  ∃N B,eY ok (lV 2 (fJ (gN 2) (fJ (gN 3) mP))) RP (bF rs) [ag L,aF Z.length,x,y] (Z++[.bE (gX j f)])
   = eR [ag L,aF Z.length,N,B] (Z++[.bE (gX (oA j rs) λk=>f k+iE rs k)]):=by
 intro rs
 induction rs with
 |nil =>
  intro j f x y _ _;refine⟨x,y,?_⟩;have e:(λk=>f k+iE [] k)=f:=by funext k;simp[iE]
  simp only[bF,pG,zB (aK _),oA,List.foldl_nil,e]
 |cons r rs ih =>
  intro j f x y hl U;simp only[gZ]at hl;have i:=Qs j r.1
  let g:aw->aw:=λk=>if k=r.1 then f r.1+r.2 else f k
  obtain⟨N,B,q⟩:=ih (pA j r.1) g (aB r.1) (aB r.2) (by omega) (λn hn=>by
   rw[Qe]at hn;have h1:n∉j:=λz=>hn (.inl z);have h2:¬n=r.1:=λz=>hn (.inr z);simp only[g,h2,pS,U n h1])
  refine⟨N,B,?_⟩;have a:kX (Z++[.bE (gX j f)]) (.aG Z.length)=ag (Z.length,gX j f):=CK (by simp);have hd:Bl (Z++[.bE (gX j f)]) (.aG Z.length):=⟨_,_,a⟩;have hv:(gM (gX j f) (.inl r.1)).getD (.int 0)=.int (f r.1):=by
   rw[Kx]
   by_cases h:r.1∈j
   ·simp[h]
   ·simp[h,U _ h]
  have c:kT (gX j f) (.inl r.1) (.int (f r.1+r.2))=gX (pA j r.1) g:=by
   have:=agZ j f g r.1 λk _ d=>by simp[g,d]
   simpa[g]using this
  have b:(gX j f).length<ay:=by rw[nD];simp[gX];omega
  have st:RP [ag L,aF Z.length,aB r.1,aB r.2] (Z++[.bE (gX j f)])=eR [ag L,aF Z.length,aB r.1,aB r.2] (Z++[.bE (gX (pA j r.1) g)]):=by
   simp[RP,hd,a,lC,hv,b,c]
  show eY ok _ _ (iJ r::bF rs) _ _=_;rw[pX (aK _) (Y0:=[ag L,aF Z.length,aB r.1,aB r.2]) (Z0:=Z++[.bE (gX j f)]) (by simp[iJ]) st,q];have e:(λk=>g k+iE rs k)=λk=>f k+iE (r::rs) k:=by
   funext k;simp only[g,iE,cK,lZ]
   by_cases h:k=r.1
   ·subst h;simp;omega
   ·have h':¬r.1=k:=λz=>h z.symm;simp[h,h']
  rw[e];rfl
def dF(rs:ai Rn):ai Rn:=(sortI (oA [] rs)).map λk=>(k,iE rs k)
theorem anA(j:ai aw)(f:aw->aw):intKeys (gX j f)=ag j:=by
 induction j with
 |nil=>rfl
 |cons k j ih =>
  simp only[gX,cK,intKeys]at ih ⊢;rw[ih];rfl
theorem awU(rs:ai Rn)(hl:rs.length<=63)(Z:aH):NL [.lst (bF rs)] Z=aE (.lst (bF (dF rs))) Z:=by
 obtain⟨B,z,q⟩:=ajC (λZ'=>eG Z' (.lst (bF rs))=ag (bF rs)) (λ_=>rfl) (.lst (bF rs)) Z rs [] (λ_=>0) ao ao (by simp;omega) (λ_ _=>rfl);simp only[TU]at q;have c:=Ba rs [];simp only[DE,CW]at c;generalize h:oA [] rs=j at q c;have d:∀b,kX (Z ++ .bE (gX j λk=>iE rs k)::b) (.aG Z.length)=ag (Z.length,gX j λk=>iE rs k):=λb=>CK (by simp);have i:=d [];have sl:=AG j;have m:j.length<64:=by omega
 have o:j.length<=ay:=by rw[nD];omega
 have comp:Xe [dB (bF rs),aF Z.length,B,z] (Z++[.bE (gX j λk=>iE rs k)])=aE (.lst (bF (dF rs))) (Z++[.bE (gX j λk=>iE rs k)]):=by
  have f:((sortI j).map A.int).filterMap (λa=>match a with | .int k=>ag (iJ (k,iE rs k))|_=>ao)=bF (dF rs):=by
   simp only[List.filterMap_map,bF,dF,h,xJ];rw[<-List.filterMap_eq_map];rfl
  rw[<-f];refine OE (S:=srcOf (.lst ((sortI j).map A.int)) ((sortI j).map A.int)) _ (λU=>∃v,U=[v,aF Z.length]) (by simp[i,anA,m,sl]) (λ_=>rfl) ⟨ao,rfl⟩ (by simp[sl];omega) ?_ (by
   show eX _ (List.filterMap _ ((sortI j).map A.int));rw[f];exact Vy _ _)
  rintro x n U ⟨v,rfl⟩ g;obtain⟨k,p,rfl⟩:=jA.mp n;have N:k∈j:=(sortI_perm j).mem_iff.mp p;have h2:(2:ax)<=ay:=by decide
  have hv:gM (gX j λk=>iE rs k) (.inl k)=(aB (iE rs k)):=by rw[Kx,a6 N]
  refine⟨[aB k,aF Z.length],⟨_,rfl⟩,by simp,.inl ⟨_,rfl,rfl,?_⟩⟩;have l:=d [.lst g];simp[l,lC,hv,h2,iJ]
 show trim Z (eS (RQ [dB (bF rs),ao,ao,ao] Z))=_;have e:RQ [dB (bF rs),ao,ao,ao] Z=ag (.ret (.lst (bF (dF rs))),[dB (bF rs),aF Z.length,B,z],Z++[.bE (gX j λk=>iE rs k)]):=by
  unfold RQ;rw[cA (Y1:=[dB (bF rs),aF Z.length,ao,ao]) (Z':=Z++[.bE []]) (by simp)];rw[cA (Y1:=[dB (bF rs),aF Z.length,B,z]) (Z':=Z++[.bE (gX j λk=>iE rs k)]) (by rw[CA (S:=srcOf (.lst (bF rs)) (bF rs)) (Z':=Z++[.bE []]) (by simp)];exact q)];simp[comp]
 rw[e];simp only[eS];exact rM (by simp only[Cl];exact Vy _ _)
theorem awV(rs:ai Rn)(hl:rs.length<=63)(Z:aH):NL [.lst (bF rs)] Z=aE (.lst (bF (dF rs))) Z:=awU rs (by omega) Z
noncomputable def na:ai Rn->aw->aw->aq aw
 |[],_,_=>ao
 |r::rs,acc,p=>if p<=acc+r.2 then ag r.1 else na rs (acc+r.2) p
noncomputable def dJ(ps:ai Rn):aw:=(ps.map (·.2)).sum
theorem Rh(m t:aw):∀{j:ai aw},j.Nodup->(j.map λk=>if m=k then t else 0).sum=if m∈j then t else 0
 |[],_=>by simp
 |k::j,h=>by
  obtain⟨h1,h2⟩:=pE.mp h;simp only[cK,lZ,Rh m t h2]
  by_cases e:m=k
  ·subst e;simp[h1]
  ·simp[e]
theorem Mg(f g:aw->aw):∀j:ai aw,(j.map λk=>f k+g k).sum=(j.map f).sum+(j.map g).sum
 |[]=>by simp
 |k::j=>by simp only[cK,lZ,Mg f g j];omega
theorem ab2(r:Rn)(rs:ai Rn)(k:aw):iE (r::rs) k=(if r.1=k then r.2 else 0)+iE rs k:=by simp[iE]
theorem Kf:∀j:ai aw,(j.map λ_=>(0:aw)).sum=0
 |[]=>rfl
 |_::j=>by simp only[cK,lZ,Kf j];rfl
theorem WO(P:aw->Prop) [DecidablePred P]{ps:ai aw}(hn:ps.Nodup):∀(rs:ai Rn),(∀r∈rs,(r.1∈ps<->P r.1))->(ps.map (iE rs)).sum=(rs.map λr=>if P r.1 then r.2 else 0).sum
 |[],_=>by
  have:iE []=λ_=>(0:aw):=by funext k;simp[iE]
  rw[this,Kf];rfl
 |r::rs,h=>by
  have e:(ps.map (iE (r::rs)))=ps.map λk=>(if r.1=k then r.2 else 0)+iE rs k:=GX λk _=>ab2 r rs k;rw[e,Mg,Rh _ _ hn,WO P hn rs λq j=>h q (fL _ j)];have:=h r kU;simp only[cK,lZ]
  by_cases hm:r.1∈ps
  ·rw[a6 hm,a6 (this.mp hm)]
  ·rw[a7 hm,a7 λz=>hm (this.mpr z)]
theorem Bf(rs:ai Rn):(sortI (oA [] rs)).Pairwise (· < ·):=by
 have h1:=XN (oA [] rs);have h2:(sortI (oA [] rs)).Nodup:=(sortI_perm _).nodup_iff.mpr (Qw rs List.nodup_nil);exact(List.Pairwise.and h1 h2).imp λ⟨a,b⟩=>by omega
theorem mem_keys(rs:ai Rn)(k:aw):k∈sortI (oA [] rs)<->∃r∈rs,r.1=k:=by
 rw[(sortI_perm _).mem_iff,Qd];simp
theorem Mh(rs:ai Rn)(j:ai aw):dJ (j.map λk=>(k,iE rs k))=(j.map (iE rs)).sum:=by
 simp[dJ,xJ];rfl
theorem aaM(rs:ai Rn):dJ (dF rs)=whole rs:=by
 unfold dF;rw[Mh,WO (λ_=>True) ((Bf rs).imp λz=>Int.ne_of_lt z) rs λr hr=>⟨λ_=>trivial,λ_=>(mem_keys rs _).mpr ⟨r,hr,rfl⟩⟩];simp[whole]
theorem abI(rs:ai Rn)(j:aw):bZ rs j=bY rs j+iE rs j:=by
 induction rs with
 |nil=>rfl
 |cons r rs ih =>
  simp only[bZ,bY,iE,cK,lZ]at ih ⊢;rw[ih]
  by_cases a:r.1<j
  ·have b:r.1<=j:=by omega
   have c:¬r.1=j:=by omega
   simp only[a,b,c,kL,pS];omega
  ·by_cases c:r.1=j
   ·have b:r.1<=j:=by omega
    simp only[a,b,c,kL,pS];simp;omega
   ·have b:¬r.1<=j:=by omega
    simp only[a,b,c,pS];omega
noncomputable def gQ:aw->ai Rn->ai (Key×A)
 |_,[]=>[]
 |acc,r::rs=>(.inl r.1,.tup [.int (acc+1),.int (acc+r.2)])::gQ (acc+r.2) rs
theorem XG(a b:ai Rn):dJ (a++b)=dJ a+dJ b:=by simp[dJ]
theorem Om:∀(as bs:ai Rn) (acc:aw),gQ acc (as++bs)=gQ acc as++gQ (acc+dJ as) bs
 |[],bs,acc=>by simp[gQ,dJ]
 |a::as,bs,acc=>by
  have e:dJ (a::as)=a.2+dJ as:=by simp[dJ]
  simp only[Ip,gQ];rw[Om as bs,e,Int.add_assoc]
theorem ZZ:∀(as:ai Rn) (acc:aw),(gQ acc as).map (·.1)=as.map λr=>(Sum.inl r.1:Key)
 |[],_=>rfl
 |a::as,acc=>by simp only[gQ,cK];rw[ZZ as]
theorem ahY(as:ai Rn)(acc:aw):(gQ acc as).length=as.length:=by
 have:=cy List.length (ZZ as acc);simpa using this
theorem agV{kvs:ai (Key×A)}{k:Key}{a:A}(h:k∉kvs.map (·.1)):kT kvs k a=kvs++[(k,a)]:=by
 unfold kT;rw[a7];intro j;rw[TN]at j;obtain⟨x,q,e⟩:=j;exact h (jA.mpr ⟨x,q,by simpa using e⟩)
theorem Oh(ok:aH->Prop)(aK:∀Z,ok Z)(L:A)(Z:aH):∀(ae pre:ai Rn) (x y:aq A),((pre++ae).map (·.1)).Pairwise (· < ·)->pre.length+ae.length<=1000 ->
  ∃z j,eY ok (lV 2 (fJ (gN 3) (fJ (gN 4) mP))) Fb (bF ae) [ag L,aF Z.length,aB (dJ pre),x,y] (Z++[.bE (gQ 0 pre)])
   = eR [ag L,aF Z.length,aB (dJ (pre++ae)),z,j] (Z++[.bE (gQ 0 (pre++ae))])
 |[],pre,x,y,_,_=>⟨x,y,by simp[bF,eY,aK]⟩
 |r::ae,pre,x,y,B,hl=>by
  have b:pre++r::ae=(pre++[r])++ae:=by simp
  have U:(Sum.inl r.1:Key)∉(gQ 0 pre).map (·.1):=by
   rw[ZZ];intro N;obtain⟨q,d,e⟩:=jA.mp N;rw[DD,List.pairwise_append]at B;have:=B.2.2 q.1 (TJ d) r.1 (by simp);have f:q.1=r.1:=by injection e
   omega
  have a:kT (gQ 0 pre) (.inl r.1) (.tup [.int (dJ pre+1),.int (dJ pre+r.2)])=gQ 0 (pre++[r]):=by
   rw[agV U,Om];simp[gQ]
  obtain⟨z,j,q⟩:=Oh ok aK L Z ae (pre++[r]) (aB r.1) (aB r.2) (by rw[<-b];exact B) (by simp at hl ⊢;omega);refine⟨z,j,?_⟩;rw[b,<-q];have N:kX (Z++[.bE (gQ 0 pre)]) (.aG Z.length)=ag (Z.length,gQ 0 pre):=CK (by simp);have c:(gQ 0 pre).length<ay:=by rw[ahY,nD];simp only[gZ]at hl;omega
  have h2:(2:ax)<=ay:=by decide
  have es:dJ (pre++[r])=dJ pre+r.2:=by rw[XG];simp[dJ]
  have e:bF (r::ae)=iJ r::bF ae:=rfl;rw[e,es];exact pX (aK _) (Y0:=[ag L,aF Z.length,aB (dJ pre),aB r.1,aB r.2]) (Z0:=Z++[.bE (gQ 0 pre)]) (by simp[iJ]) (by simp[Fb,N,lC,c,a,h2])
theorem Oo(rs:ai Rn):((dF rs).map (·.1)).Pairwise (· < ·):=by
 have e:(dF rs).map (·.1)=sortI (oA [] rs):=by unfold dF;rw[List.map_map];exact List.map_id _
 rw[e];exact Bf rs
theorem AM(rs:ai Rn):(dF rs).length<=rs.length:=by
 have j:=Ba rs [];unfold dF;rw[lJ,AG];simpa using j
theorem awT(rs:ai Rn)(hl:rs.length<=63)(Z:aH):NK [.lst (bF rs)] Z=aE (.aG Z.length) (Z++[.bE (gQ 0 (dF rs))]):=by
 have N:=λZ=>awV rs hl Z;have U:=AM rs;obtain⟨z,j,q⟩:=Oh (λZ'=>eG Z' (.lst (bF (dF rs)))=ag (bF (dF rs))) (λ_=>rfl) (.lst (bF rs)) Z (dF rs) [] ao ao (by simpa using Oo rs) (by simp;omega);simp only[DB]at q;have s0:dJ []=0:=rfl;rw[s0]at q;have B:gQ 0 []=[]:=rfl;rw[B]at q;show trim Z (eS (RO [dB (bF rs),ao,ao,ao,ao] Z))=_;have e:RO [dB (bF rs),ao,ao,ao,ao] Z=ag (.ret (.aG Z.length),[dB (bF rs),aF Z.length,aB (dJ (dF rs)),z,j],Z++[.bE (gQ 0 (dF rs))]):=by
  unfold RO;rw[cA (Y1:=[dB (bF rs),aF Z.length,ao,ao,ao]) (Z':=Z++[.bE []]) (by simp)];rw[cA (Y1:=[dB (bF rs),aF Z.length,aB 0,ao,ao]) (Z':=Z++[.bE []]) (by simp)];rw[cA (Y1:=[dB (bF rs),aF Z.length,aB (dJ (dF rs)),z,j]) (Z':=Z++[.bE (gQ 0 (dF rs))]) (by
   rw[CA (S:=srcOf (.lst (bF (dF rs))) (bF (dF rs))) (Z':=Z++[.bE []]) (by simp[bA,N])];exact q)]
  simp
 rw[e];simp[trim,Cl]
theorem Qh(ok:aH->Prop)(aK:∀Z,ok Z)(L:A)(Z:aH):∀(rs:ai Rn) (acc:aw) (i:ax) (x y u:aq A),(∀r∈rs,1<=r.2)->acc+whole rs<=1000000000 ->
  ∃B z N,eY ok (lV 2 (fJ (gN 2) (fJ (gN 3) mP))) Ff (oE i (bF rs)) [ag L,aB acc,x,y,u] Z=eR [ag L,aB (acc+whole rs),B,z,N] Z
 |[],acc,i,x,y,u,_,_=>⟨x,y,u,by simp[bF,oE,eY,aK,whole]⟩
 |r::rs,acc,i,x,y,u,h,hl=>by
  have e:whole (r::rs)=r.2+whole rs:=by simp[whole]
  rw[e]at hl ⊢;have hr:=h r kU;have d:0<=whole rs:=by
   have:∀rs:ai Rn,(∀r∈rs,1<=r.2)->0<=whole rs:=by
    intro rs
    induction rs with
    |nil=>intro _;simp[whole]
    |cons a U ih =>
     intro h;have e:whole (a::U)=a.2+whole U:=by simp[whole]
     have:=h a kU;have:=ih λq j=>h q (fL _ j);omega
   exact this rs λq j=>h q (fL _ j)
  obtain⟨B,z,N,q⟩:=Qh ok aK L Z rs (acc+r.2) (i+1) (aB i) (ag (iJ r)) (aB r.2) (λq j=>h q (fL _ j)) (by omega);refine⟨B,z,N,?_⟩;rw[<-Int.add_assoc,<-q];have c:¬r.2<1:=by omega
  have b:¬1000000000<acc+r.2:=by omega
  exact pX (aK Z) (Y0:=[ag L,aB acc,aB i,ag (iJ r),u]) (Z0:=Z) (by simp[iJ]) (by simp[Ff,iJ,c,b])
theorem aw4(rs:ai Rn)(h:∀r∈rs,1<=r.2)(hl:whole rs<=1000000000)(Z:aH):UE [.lst (bF rs)] Z=aE (.int (whole rs)) Z:=by
 obtain⟨z,j,B,q⟩:=Qh (λZ'=>eV Z' (.lst (bF rs))=ag (bF rs)) (λ_=>rfl) (.lst (bF rs)) Z rs 0 0 ao ao ao h (by omega);rw[TU]at q;show trim Z (eS (Fg [dB (bF rs),ao,ao,ao,ao] Z))=_;unfold Fg;rw[cA (Y1:=[dB (bF rs),aB 0,ao,ao,ao]) (Z':=Z) (by simp)];rw[cA (Y1:=[dB (bF rs),aB (whole rs),z,j,B]) (Z':=Z) (by
  rw[CA (S:=enumSrc (.lst (bF rs)) (bF rs)) (Z':=Z) (by simp)];exact q)]
 simp
theorem Oq{R as bs:ai Rn}{r:Rn}(e:dF R=as++r::bs):dJ as=bY R r.1/\dJ as+r.2=bZ R r.1/\r.1∈R.map (·.1):=by
 have a:=Bf R;have b:=e;unfold dF at b;obtain⟨N,o,c,n,m⟩:=List.map_eq_append_iff.mp b;obtain⟨j,q,rfl,l,_⟩:=List.map_eq_cons_iff.mp m;subst l;rw[c]at a;have B:∀k,k∈N++j::q<->∃r∈R,r.1=k:=λk=>by rw[<-c];exact mem_keys R k
 obtain⟨h,g,f⟩:=List.pairwise_append.mp a;obtain⟨d,p⟩:=zN.mp g;have nd:N.Nodup:=h.imp λz=>Int.ne_of_lt z;have U:dJ as=bY R j:=by
  rw[<-n,Mh];refine WO (λk=>k<j) nd R λr hr=>⟨λz=>f _ z _ kU,λz=>?_⟩
  rcases DC.mp ((B r.1).mpr ⟨r,hr,rfl⟩)with y|y
  ·exact y
  ·rcases dI.mp y with y|y
   ·omega
   ·have:=d _ y;omega
 have i:=abI R j;refine⟨U,by rw[U];exact i.symm,?_⟩;obtain⟨r,hr,e⟩:=(B j).mp (uW _ kU);exact jA.mpr ⟨r,hr,e⟩
theorem ab1{R:ai Rn}(h:∀r∈R,1<=r.2){r:Rn}(hr:r∈dF R):1<=r.2:=by
 obtain⟨i,bs,e⟩:=List.append_of_mem hr;obtain⟨h1,h2,U⟩:=Oq e;have hT:Tn R:=λq B=>by have:=h q B;omega
 obtain⟨q,B,g⟩:=jA.mp U;have:bY R r.1<bZ R r.1:=by
  have:∀(S:ai Rn),(∀q∈S,1<=q.2)->q∈S->bY S r.1<bZ S r.1:=by
   intro S
   induction S with
   |nil=>intro _ z;cases z
   |cons x S ih =>
    intro hS hm;have N:Tn S:=λy j=>by have:=hS y (by simp[j]);omega
    obtain⟨d,c⟩:=rN x S r.1;rw[d,c];have f:=hS x (by simp)
    rcases dI.mp hm with z|z
    ·subst z;have:=sW N r.1;have b:¬q.1<r.1:=by omega
     have a:q.1<=r.1:=by omega
     rw[a7 b,a6 a];omega
    ·have:=ih (λy j=>hS y (by simp[j])) z;split <;> split <;> omega
  exact this R h B
 omega
noncomputable def gU:aw->ai Rn->ai E
 |_,[]=>[]
 |acc,r::rs=>(r.1,acc+1,acc+1)::((if acc+1=acc+r.2 then []else [(r.1,acc+r.2,acc+r.2)])++gU (acc+r.2) rs)
theorem OO(r:Rn)(rs:ai Rn):dJ (r::rs)=r.2+dJ rs:=by simp[dJ]
theorem Mi:∀{ps:ai Rn},(∀r∈ps,1<=r.2)->0<=dJ ps
 |[],_=>by simp[dJ]
 |r::j,h=>by
  have:=Mi (ps:=j) λq z=>h q (by simp[z]);have:=h r (by simp);rw[OO];omega
theorem Pj:∀(ps:ai Rn) (acc:aw) (N:aq aw),(∀r∈ps,1<=r.2)->(ps.map (·.1)).Pairwise (· < ·)->(∀p,N=ag p->∀r∈ps,p<=r.1)->Ch 0 (acc+dJ ps) acc acc N (gU acc ps)
 |[],acc,N,_,_,_=>by simp[gU,Ch,dJ]
 |r::z,acc,N,h1,h2,U=>by
  have hr:=h1 r (by simp);rw[cK,zN]at h2;have ih:=Pj z (acc+r.2) (ag r.1) (λq j=>h1 q (by simp[j])) h2.2 (λp B q j=>by
   cases B;have:=h2.1 q.1 (jA.mpr ⟨q,j,rfl⟩);omega)
  have es:acc+dJ (r::z)=acc+r.2+dJ z:=by rw[OO];omega
  rw[es];unfold gU;refine⟨λp B=>U p B r (by simp),.inr (by show acc+1<=acc+0+1;omega),by show acc<acc+1;omega,by show acc<acc+1;omega,xN _,by show acc+1-(acc+1)<=0;omega,?_⟩;show Ch 0 (acc+r.2+dJ z) (acc+1) (acc+1) (ag r.1) ((if acc+1=acc+r.2 then []else [(r.1,acc+r.2,acc+r.2)])++gU (acc+r.2) z)
  by_cases j:acc+1=acc+r.2
  ·rw[a6 j,DB,j];exact ih
  ·rw[a7 j];exact⟨λp B=>by cases B;exact xN _,.inl rfl,by show acc+1<acc+r.2;omega,by show acc+1<acc+r.2;omega,xN _,by show acc+r.2-(acc+r.2)<=0;omega,ih⟩
theorem Ph{R:ai Rn}(h:∀r∈dF R,1<=r.2):∀(ps as:ai Rn) (z:aw),dF R=as++ps->z<=dJ as->Pl R z (gU (dJ as) ps)
 |[],as,z,_,_=>trivial
 |r::q,as,z,e,B=>by
  obtain⟨h1,h2,N⟩:=Oq e;have hr:=h r (by rw[e];simp);have ih:=Ph h q (as++[r]) (dJ as+r.2) (by rw[e];simp) (by rw[XG,OO];simp[dJ]);have es:dJ (as++[r])=dJ as+r.2:=by rw[XG,OO];simp[dJ]
  rw[es]at ih;unfold gU;refine⟨dJ as+1,by omega,by show bY R r.1<dJ as+1;omega,by show dJ as+1<=bZ R r.1;omega,xN _,xN _,?_⟩
  by_cases j:dJ as+1=dJ as+r.2
  ·rw[a6 j,DB];exact ih.low (by omega)
  ·rw[a7 j];exact⟨dJ as+r.2,by omega,by show bY R r.1<dJ as+r.2;omega,by show dJ as+r.2<=bZ R r.1;omega,xN _,xN _,ih⟩
def jN(R:ai Rn):Po:=⟨whole R,0,0,gU 0 (dF R)⟩
theorem LU{R:ai Rn}(h:∀r∈R,1<=r.2):Gd R (jN R):=by
 have q:∀r∈dF R,1<=r.2:=λr hr=>ab1 h hr;have hw:=aaM R;refine⟨λr hr=>by have:=h r hr;omega,⟨?_,xN _,xN _,?_,?_⟩,rfl,?_⟩
 ·show 0<=whole R;rw[<-hw];exact Mi q
 ·intro e r he;have j:gU 0 (dF R)=e::r:=he;cases z:dF R with
  |nil=>rw[z]at j;cases j
  |cons a b =>
   rw[z]at j;unfold gU at j;cases j;exact⟨rfl,rfl⟩
 ·have:=Pj (dF R) 0 ao q (Oo R) (λp q=>by cases q);rw[TU,hw]at this;exact this
 ·exact Ph q (dF R) [] 0 rfl wL
theorem aj0(j:aq A)(f:ax)(k a b:aw)(done:ai A)(hd:done.length<=1000)(Z:aH)(z:Z[f]?=ag (.lst done)) :
  RR [j,aF f,aB k,ag (.tup [.int a,.int b])] Z=eR [j,aF f,aB k,ag (.tup [.int a,.int b])] (Z.set f (.lst (done++bU (k,a,a)::(if a=b then []else [bU (k,b,b)])))):=by
 have fl:f<Z.length:=(dO.mp z).1;have cl:oH Z (.aG f)=ag (f,done):=uR z;have g:uJ Z (.aG f):=wK (iV z);have B:(3:ax)<=ay:=by decide
 have h:done.length<ay:=by rw[nD];omega
 unfold RR;have d:(Z.set f (.lst (done++[bU (k,a,a)])))[f]?=ag (.lst (done++[bU (k,a,a)])):=iD fl;rw[cA (Y1:=[j,aF f,aB k,ag (.tup [.int a,.int b])]) (Z':=Z.set f (.lst (done++[bU (k,a,a)]))) (by simp[cl,g,h,B,bU,SI])];have N:oH (Z.set f (.lst (done++[bU (k,a,a)]))) (.aG f)=ag (f,done++[bU (k,a,a)]):=uR d;have c:uJ (Z.set f (.lst (done++[bU (k,a,a)]))) (.aG f):=wK (iV d);have i:done.length+1<ay:=by rw[nD];omega
 generalize U:Z.set f (.lst (done++[bU (k,a,a)]))=e at N c
 by_cases q:a=b
 ·subst q;simp[SI,Gs,<-U]
 ·have fO:¬(a==b)=av:=by simpa using q
  simp[SI,Gs,q,N,c,i,B,bU];rw[<-U,uV]
theorem Pf(ok:aH->Prop)(aK:∀Z,ok Z)(z:aq A)(Z:aH)(D:Cell):∀(ps:ai Rn) (acc:aw) (done:ai A) (N B:aq A),done.length+2*ps.length<=1000 ->
  ∃b a,eY ok (lV 2 (fJ (gN 2) (fJ (gN 3) mP))) RR ((gQ acc ps).map qL) [z,aF Z.length,N,B] (Z++[.lst done,D])=eR [z,aF Z.length,b,a] (Z++[.lst (done++encL (gU acc ps)),D])
 |[],acc,done,N,B,_=>⟨N,B,by simp[gQ,eY,aK,gU,encL]⟩
 |r::j,acc,done,N,B,hl=>by
  have f:done.length+2*(j.length+1)<=1000:=hl;have t:=aj0 z Z.length r.1 (acc+1) (acc+r.2) done (by omega) (Z++[.lst done,D]) (by simp);have hd2:(done++bU (r.1,acc+1,acc+1)::(if acc+1=acc+r.2 then []else [bU (r.1,acc+r.2,acc+r.2)])).length<=done.length+2:=by
   split <;> simp
  obtain⟨b,a,q⟩:=Pf ok aK z Z D j (acc+r.2) (done++bU (r.1,acc+1,acc+1)::(if acc+1=acc+r.2 then []else [bU (r.1,acc+r.2,acc+r.2)])) (aB r.1) (ag (.tup [.int (acc+1),.int (acc+r.2)])) (by omega);refine⟨b,a,?_⟩;have es:(Z++[Cell.lst done,D]).set Z.length (.lst (done++bU (r.1,acc+1,acc+1)::(if acc+1=acc+r.2 then []else [bU (r.1,acc+r.2,acc+r.2)])))=Z++[.lst (done++bU (r.1,acc+1,acc+1)::(if acc+1=acc+r.2 then []else [bU (r.1,acc+r.2,acc+r.2)])),D]:=by simp
  rw[es]at t;have c:done++encL (gU acc (r::j))=(done++bU (r.1,acc+1,acc+1)::(if acc+1=acc+r.2 then []else [bU (r.1,acc+r.2,acc+r.2)]))++encL (gU (acc+r.2) j):=by
   have d:gU acc (r::j)=(r.1,acc+1,acc+1)::((if acc+1=acc+r.2 then []else [(r.1,acc+r.2,acc+r.2)])++gU (acc+r.2) j):=rfl;rw[d];generalize gU (acc+r.2) j=e
   by_cases U:acc+1=acc+r.2
   ·rw[a6 U,a6 U];simp[encL]
   ·rw[a7 U,a7 U];simp[encL]
  rw[c,<-q];simp only[gQ,cK];refine pX (aK _) (Y0:=[z,aF Z.length,aB r.1,ag (.tup [.int (acc+1),.int (acc+r.2)])]) (Z0:=Z++[.lst done,D]) ?_ t;simp[qL,kA]
theorem awX(R:ai Rn)(h:∀r∈R,1<=r.2)(hl:R.length<=63)(hw:whole R<=1000000000)(Z:aH):NM [.lst (bF R)] Z=aE (cQ (whole R) 0 0 (gU 0 (dF R))) Z:=by
 have pl:=awT R hl (Z++[.lst []]);have pn:=AM R;obtain⟨N,B,q⟩:=Pf (λ_=>True) (λ_=>trivial) (ag (.lst (bF R))) Z .dead (dF R) 0 [] ao ao (by simp;omega);have b:(4:ax)<=ay:=by decide
 show trim Z (eS (RS [dB (bF R),ao,ao,ao] Z))=_;have e:RS [dB (bF R),ao,ao,ao] Z=ag (.ret (cQ (whole R) 0 0 (gU 0 (dF R))),[dB (bF R),aF Z.length,N,B],Z++[.dead,.dead]):=by
  have z:=aw4 R h hw (Z++[.lst (encL (gU 0 (dF R))),.dead]);unfold RS;rw[cA (Y1:=[dB (bF R),aF Z.length,ao,ao]) (Z':=Z++[.lst []]) (by simp[nG])];rw[cA (Y1:=[dB (bF R),aF Z.length,N,B]) (Z':=Z++[.lst (encL (gU 0 (dF R))),.dead]) (by
   rw[CA (S:=JX (gQ 0 (dF R))) (Z':=Z++[.lst [],.dead]) (by
    generalize bF R=U at pl;have d:kX (Z++[Cell.lst [],Cell.bE (gQ 0 (dF R))]) (.aG (Z.length+1))=ag (Z.length+1,gQ 0 (dF R)):=by simp[kX]
    have j:NK [.lst U] (Z++[Cell.lst []])=aE (.aG (Z.length+1)) (Z++[Cell.lst [],.bE (gQ 0 (dF R))]):=by
     rw[pl];simp
    simp[bA,j,d])]
   rw[DB]at q;exact q)]
  unfold cQ;generalize encL (gU 0 (dF R))=U at z;generalize bF R=f at z;simp[bA,z,b]
 rw[e];simp only[uG];exact rM (by
  simp only[cQ,Cl,eX,and_true,true_and];exact uQ λa c=>by
   obtain⟨e,_,rfl⟩:=jA.mp c;simp[bU,Cl,eX])
end M
namespace V2
open PySem PySem.Spec PyProof.Rows L2
theorem _root_.L2.HV.alias{P:a9}{w:bf}{K:ba}{mg:az->aq aj}{base:bo}{x y:az}{k:ax}{ps:ai az}{sp:Sp}(D:HV P w K mg base x k ps sp)(e:mg y=mg x):HV P w K mg base y k ps sp:=by
 obtain⟨f,fd,F,hm,j,hb⟩:=D.ex;exact⟨f,fd,F,e.trans hm,j,hb⟩
end V2
namespace L2
open PySem
theorem cM.m{j k:ax}{A:bj}(r:cM k A)(h:j<=k:=by first|decide|omega):cM j A:=r.mono h
end L2
namespace V2
open PySem L2 PyProof.Rows
variable{P:a9}{w:bf}{K:ba}{mg:az->aq aj}{base:bo}
theorem auS{h:bo}{x:az}{v:aw}{t:Tok}(X:K.In h)(G:h.Ns a8 mg)(a:nsIn K a8 x=ag (ag (.int v t))):∃t,mg x=ag (.int v t):=⟨_,mg_of X G a⟩
structure lY(K:ba)(X:ar)(m q:az)(st:bq):Prop where
 ex:∃f fd,Meth K X m f/\sF K m q st f fd
theorem nZ{X f:ar}{m q:az}{st:bq}{N:aj}{B b:aq ar}{U:bh (aq aj)}{kV doc z j ct:aj}(a:c4 K (.ref X) m=ag (ag (.ref f)))
  (l:K.lookup f=ag ⟨N,B,.func (di m q (iK st) (eL st) (aR st) .none kV doc z b j ct),U⟩) (c:codeIn K j q=av) (k:dh K (.ref f)=av) (i:isFn K (.ref f)=av):lY K X m q st:=⟨f,_,⟨a,i,k⟩,LX l c k⟩
theorem lY.has{h:bo}{cls m q:az}{st:bq}{C:ar}(M:lY K C m q st)(X:K.In h)(G:h.Ns a8 mg)(n:nsIn K a8 cls=ag (ag (.ref C)))(L:nR K C):mB K mg cls m q st :=
 let ⟨f,fd,a,b⟩:=M.ex; ⟨C,f,fd,n,mg_of X G n,L,a,b⟩
structure TY(K:ba)(X:ar)(q:az)(st:bq):Prop where
 ex:∃f fd,Mk K X f/\sF K "__init__" q st f fd
theorem anD{X f:ar}{q:az}{st:bq}{N:aj}{B d:aq ar}{b:bh (aq aj)}{kV doc z j ct:aj}(a:c4 K (.ref X) "__init__" = ag (ag (.ref f)))
  (l:K.lookup f=ag ⟨N,B,.func (di "__init__" q (iK st) (eL st) (aR st) .none kV doc z d j ct),b⟩) (c:codeIn K j q=av) (k:dh K (.ref f)=av) (i:isFn K (.ref f)=av)
  (mk:makesIn K X=av) (U:dh K (.ref X)=av):TY K X q st:=⟨f,_,⟨mk,a,i,U⟩,LX l c k⟩
theorem TY.has{h:bo}{cls q:az}{st:bq}{C:ar}(M:TY K C q st)(X:K.In h)(G:h.Ns a8 mg)(n:nsIn K a8 cls=ag (ag (.ref C))):Jd K mg cls q st :=
 let ⟨f,fd,a,b⟩:=M.ex; ⟨C,f,fd,n,mg_of X G n,a,b⟩
structure SX(K:ba)(X:ar)(m q:az)(st:bq)(dv:bh aj):Prop where
 ex:∃f fd T o n,Meth K X m f/\Zw K m q st f T fd/\K.lookup T=ag o/\o.data=.seq dv n
theorem ak4{X f T:ar}{m q:az}{st:bq}{b tc:aj}{U e td:aq ar}{d B:bh (aq aj)}{kV doc N z ct:aj}{n:ax}{j:bh aj}(a:c4 K (.ref X) m=ag (ag (.ref f)))
  (l:K.lookup f=ag ⟨b,U,.func (di m q (iK st) (eL st) (aR st) (.ref T) kV doc N e z ct),d⟩) (c:codeIn K z q=av) (k:dh K (.ref f)=av) (i:isFn K (.ref f)=av)
  (t:K.lookup T=ag ⟨tc,td,.seq j n,B⟩):SX K X m q st j:=⟨f,_,T,_,n,⟨a,i,k⟩,⟨⟨_,_,_,_,_,_,_,_,_,rfl,l,c⟩⟩,t,rfl⟩
theorem SX.has{h:bo}{cls m q:az}{st:bq}{C:ar}{j:bh aj}(M:SX K C m q st j)(X:K.In h)(G:h.Ns a8 mg)(n:nsIn K a8 cls=ag (ag (.ref C)))(L:nR K C):UA K mg cls m q st j :=
 let ⟨f,fd,T,o,k,a,b,c,d⟩:=M.ex; ⟨C,f,fd,T,o,k,n,mg_of X G n,L,a,b,c,d⟩
theorem dH{N P:ai az}{sc:b0}(a:sc.kind=.function:=by rfl)(b:sc.isCoroutine=ak:=by rfl)(c:sc.isGenerator=ak:=by rfl)(d:N.Nodup:=by decide +kernel)(e:N.take P.length=P:=by rfl)(f:∀x∈P,sc.names.lookup x=ag .local\/sc.names.lookup x=ag .cell:=by decide +kernel)(g:∀y∈sc.names,y.2≠.free:=by decide +kernel):cO N P sc:=⟨a,b,c,d,e,f,g⟩
end V2
namespace M
open PySem V2
noncomputable section
def Xd:Ev->Mo A :=
 (mI ak 1 [] (fD aI) (gN 0) mV (aC aY aI cL))
def Xc:Ev->Mo A :=
 (mI ak 1 [] (fD aI) (gN 0) mV (aC aY aI bR))
def RN:MS :=
 (bT (iR (aA (aN wX (aA Xc a0)) (aA (aN wX (aA Xd a0)) a0))))
def HI:ai A->Mo A:=cP 1 RN
end
end M
namespace PySem
open PyProof.Rows
def uT(xs:bh ax):Prop:=∀i j a b:ax,i<j->xs[i]?=ag a->xs[j]?=ag b->a<b
theorem Ex(xs:bh ax)(j:ax)(hr:uT xs):∀(fuel lo hi:ax),lo<=hi->hi<=xs.size->hi-lo<=fuel->(∀i a,i<lo->xs[i]?=ag a->a<j)->(∀i a,hi<=i->xs[i]?=ag a->j<=a) ->
  lo<=SetTable.below.go xs j fuel lo hi/\SetTable.below.go xs j fuel lo hi<=xs.size/\(∀i a,i<SetTable.below.go xs j fuel lo hi->xs[i]?=ag a->a<j)/\(∀i a,SetTable.below.go xs j fuel lo hi<=i->xs[i]?=ag a->j<=a)
 |0,lo,hi,h1,h2,g,U,N=>by
  have:lo=hi:=by omega
  subst this;exact⟨tV _,h2,U,N⟩
 |fuel+1,lo,hi,h1,h2,g,U,N=>by
  unfold SetTable.below.go
  by_cases f:lo<hi
  ·rw[a6 f];have hm:(lo+hi)/2<xs.size:=by omega
   have B:xs[(lo+hi)/2]?=ag xs[(lo+hi)/2]:=Dj xs _ hm;have hd:xs.getD ((lo+hi)/2) j=xs[(lo+hi)/2]:=by simp[Array.getD,hm]
   show lo<=(if xs.getD ((lo+hi)/2) j<j then SetTable.below.go xs j fuel ((lo+hi)/2+1) hi else SetTable.below.go xs j fuel lo ((lo+hi)/2))/\(if xs.getD ((lo+hi)/2) j<j then SetTable.below.go xs j fuel ((lo+hi)/2+1) hi else SetTable.below.go xs j fuel lo ((lo+hi)/2))<=xs.size/\(∀i a,i<(if xs.getD ((lo+hi)/2) j<j then SetTable.below.go xs j fuel ((lo+hi)/2+1) hi else SetTable.below.go xs j fuel lo ((lo+hi)/2))->xs[i]?=ag a->a<j)/\(∀i a,(if xs.getD ((lo+hi)/2) j<j then SetTable.below.go xs j fuel ((lo+hi)/2+1) hi else SetTable.below.go xs j fuel lo ((lo+hi)/2))<=i->xs[i]?=ag a->j<=a);rw[hd]
   by_cases e:xs[(lo+hi)/2]<j
   ·rw[a6 e];obtain⟨a,b,c,d⟩:=Ex xs j hr fuel ((lo+hi)/2+1) hi (by omega) h2 (by omega) (λi a h q=>by
     rcases Hv i ((lo+hi)/2)with z|z
     ·have:=hr i ((lo+hi)/2) a _ z q B;omega
     ·have:i=(lo+hi)/2:=by omega
      subst this;rw[B]at q;cases q;exact e) N
    exact⟨by omega,b,c,d⟩
   ·rw[a7 e];obtain⟨a,b,c,d⟩:=Ex xs j hr fuel lo ((lo+hi)/2) (by omega) (by omega) (by omega) U (λi a h q=>by
     rcases Hv ((lo+hi)/2) i with z|z
     ·have:=hr ((lo+hi)/2) i _ a z B q;omega
     ·have:i=(lo+hi)/2:=by omega
      subst this;rw[B]at q;cases q;omega)
    exact⟨a,b,c,d⟩
  ·rw[a7 f];have:lo=hi:=by omega
   subst this;exact⟨tV _,h2,U,N⟩
theorem Ew{xs:bh ax}(hr:uT xs)(j:ax):SetTable.below xs j<=xs.size/\(∀i a,i<SetTable.below xs j->xs[i]?=ag a->a<j)/\(∀i a,SetTable.below xs j<=i->xs[i]?=ag a->j<=a):=by
 obtain⟨_,b,c,d⟩:=Ex xs j hr xs.size 0 xs.size AW cR (by omega) (λi a h=>bp h (Nat.not_lt_zero _)) (λi a h q=>by
  have:=(NV.mp q).1;omega)
 exact⟨b,c,d⟩
theorem avS{xs:bh ax}(hr:uT xs){i a:ax}(h:xs[i]?=ag a):SetTable.below xs (a+1)=i+1:=by
 obtain⟨b,c,d⟩:=Ew hr (a+1);have hi:=(NV.mp h).1
 rcases Nat.lt_trichotomy (SetTable.below xs (a+1)) (i+1)with z|z|z
 ·have:=d i a (by omega) h;omega
 ·exact z
 ·have hl:i+1<xs.size:=by omega
  have j:xs[i+1]?=ag xs[i+1]:=Dj xs _ hl;have h1:=c (i+1) _ z j;have h2:=hr i (i+1) a _ (by omega) h j;omega
theorem avQ{xs:bh ax}(hr:uT xs):SetTable.below xs 0=0:=by
 obtain⟨b,c,d⟩:=Ew hr 0
 rcases Nat.eq_zero_or_pos (SetTable.below xs 0)with z|z
 ·exact z
 ·have hl:0<xs.size:=by omega
  have j:xs[0]?=ag xs[0]:=Dj xs _ hl;have:=c 0 _ z j;omega
theorem anB{α:Type}(xs:bh α)(p:ax)(x:α)(B:p<=xs.size)(i:ax):(SetTable.insertAt xs p x)[i]?=if i<p then xs[i]? else if i=p then ag x else xs[i-1]?:=by
 unfold SetTable.insertAt;have j:(xs.extract 0 p).size=p:=by simp;omega
 have z:((xs.extract 0 p).push x).size=p+1:=by rw[Array.size_push,j]
 rw[Array.getElem?_append,z]
 by_cases h1:i<p
 ·rw[a6 (by omega),a6 h1,Array.getElem?_push,j,a7 (by omega),Array.getElem?_extract];simp;intro h;omega
 ·rw[a7 h1]
  by_cases h2:i=p
  ·rw[a6 (by omega),a6 h2,Array.getElem?_push,j,a6 h2]
  ·rw[a7 (by omega),a7 h2,Array.getElem?_extract]
   by_cases q:i-(p+1)<xs.size-p
   ·rw[a6 (by simpa using q),show(p+(i-(p+1)))=i-1 by omega]
   ·rw[a7 (by simpa using q),eq_comm,aaF];omega
theorem afX{xs:bh ax}(hr:uT xs)(j:ax)(hn:xs[SetTable.below xs j]?≠ag j):uT (SetTable.insertAt xs (SetTable.below xs j) j):=by
 obtain⟨b,c,d⟩:=Ew hr j;have d':∀i a,SetTable.below xs j<=i->xs[i]?=ag a->j<a:=λi a h1 h2=>by
  have N:=d i a h1 h2
  rcases Hv j a with z|z
  ·exact z
  ·exfalso;have:a=j:=by omega
   subst this
   rcases Hv (SetTable.below xs a) i with y|y
   ·have hl:SetTable.below xs a<xs.size:=by have:=(NV.mp h2).1;omega
    have e:xs[SetTable.below xs a]?=ag xs[SetTable.below xs a]:=Dj xs _ hl;have g:=d _ _ cR e;have f:=hr _ i _ a y e h2;omega
   ·have:i=SetTable.below xs a:=by omega
    subst this;exact hn h2
 intro i k x y U B q;rw[anB _ _ _ b]at B q
 by_cases h1:i<SetTable.below xs j
 ·rw[a6 h1]at B
  by_cases h2:k<SetTable.below xs j
  ·rw[a6 h2]at q;exact hr i k x y U B q
  ·rw[a7 h2]at q
   by_cases N:k=SetTable.below xs j
   ·rw[a6 N]at q;cases q;exact c i x h1 B
   ·rw[a7 N]at q;exact hr i (k-1) x y (by omega) B q
 ·rw[a7 h1]at B;rw[a7 (by omega),a7 (by omega)]at q
  by_cases N:i=SetTable.below xs j
  ·rw[a6 N]at B;cases B;exact d' (k-1) y (by omega) q
  ·rw[a7 N]at B;exact hr (i-1) (k-1) x y (by omega) B q
theorem afW(n:ax):uT (Array.range n):=by
 intro i j a b U B hb;have h1:=(NV.mp B);have h2:=(NV.mp hb);obtain⟨p,q⟩:=h1;obtain⟨N,z⟩:=h2;simp at q z;omega
theorem afY{l:ai ax}(h:l.Pairwise (· < ·)):uT l.toArray:=by
 intro i j a b U z hb;simp only[List.getElem?_toArray]at z hb;obtain⟨p,q⟩:=dO.mp z;obtain⟨N,B⟩:=dO.mp hb;have:=List.pairwise_iff_getElem.mp h i j p N U;rw[q,B]at this;exact this
theorem ZY(t:bx)(N:ax->aw)(h:aw):∀(fuel:ax) (p:SetTable.Probe) (j:ax) (q:aq ax),SetTable.probe.go t N h fuel p=ag (.empty j q)->t.slot j=.empty/\∀d,q=ag d->p.dummy=ag d\/t.slot d=.dummy
 |0,p,j,q,e=>by cases e
 |fuel+1,p,j,q,e=>by
  unfold SetTable.probe.go at e;cases B:t.slot p.j with
  |empty =>
   rw[B]at e;dsimp only at e;cases e;exact⟨B,λd hd => .inl hd⟩
  |dummy =>
   rw[B]at e;dsimp only at e;obtain⟨a,b⟩:=ZY t N h fuel _ j q e;refine⟨a,λd hd=>?_⟩
   rcases b d hd with z|z
   ·have U:(t.advance {p with dummy:=ag p.j}).dummy=ag p.j:=by
     unfold SetTable.advance;split <;> rfl
    rw[U]at z;cases z;exact .inr B
   ·exact .inr z
  |live i =>
   rw[B]at e;dsimp only at e
   by_cases hh:(N i==h)=av
   ·rw[a6 hh]at e;cases e
   ·rw[a7 hh]at e;obtain⟨a,b⟩:=ZY t N h fuel _ j q e;refine⟨a,λd hd=>?_⟩
    rcases b d hd with z|z
    ·have U:(t.advance p).dummy=p.dummy:=by
      unfold SetTable.advance;split <;> rfl
     rw[U]at z;exact .inl z
    ·exact .inr z
theorem Mt{t:bx}{j:ax}(h:t.slot j=.empty\/t.slot j=.dummy):t.place[SetTable.below t.place j]?≠ag j:=by
 intro z;unfold SetTable.slot at h;simp only[z,beq_self_eq_true,kL]at h
 rcases h with h|h <;> cases h
theorem ar0{t:bx}{h:aw}{j:ax}{b:bc}(e:t.freeSlot h=ag (j,b)):t.place[SetTable.below t.place j]?≠ag j:=by
 unfold SetTable.freeSlot at e;split at e
 ·next B q N =>
  cases e;obtain⟨a,c⟩:=ZY t _ h _ _ B q N;cases q with
  |none=>exact Mt (.inl a)
  |some d =>
   rcases c d rfl with z|z
   ·cases z
   ·exact Mt (.inr z)
 ·cases e
structure oI(led:bc)(t:bx):Prop where
 rise:uT t.place
 led:t.led=led
theorem ab7(led:bc):oI led (.fresh 0 0 led):=⟨λi j a b _ h=>by simp[SetTable.fresh]at h,rfl⟩
theorem OI{led:bc}{t:bx}(h:oI led t)(n:ax):oI led (t.standIn n):=⟨afW n,h.led⟩
theorem ab6{led:bc}{t:bx}(h:oI led t)(es:bh (aw×aj))(q:aw)(x:aj):oI led (layNew t es q x).2.1:=by
 unfold layNew;split
 ·next slot z e =>
  show oI led ((t.put slot).1.orStandIn _);have j:oI led (t.put slot).1:=⟨afX h.rise slot (ar0 e),h.led⟩;unfold SetTable.orStandIn;split
  ·exact j
  ·exact OI j _
 ·exact OI h _
theorem ab4{led:bc}{t:bx}(h:oI led t)(es:bh (aw×aj))(w:ax):oI led (relayAll t es w).2.1:=by
 unfold relayAll;split
 ·next j order e =>
  show oI led (if(coversAll order es.size&&j.fits (order.filterMap (es[·]?)).size)=av then(order.filterMap (es[·]?),j,ak)else(es,t.standIn es.size,av)).2.1;split
  ·show oI led j;unfold SetTable.relaid SetTable.laid at e;cases B:SetTable.layClean (SetTable.sizeAbove w-1) (es.map (·.1))with
   |none=>rw[B]at e;cases e
   |some c =>
    rw[B]at e;simp at e;obtain⟨N,d⟩:=e;subst N;refine⟨afY ?_,h.led⟩;rw[List.map_filterMap];refine List.Pairwise.filterMap _ (R:=(· < ·)) (λa b U x z y q=>?_) List.pairwise_lt_range;simp at z q;obtain⟨_,_,rfl⟩:=z;obtain⟨_,_,rfl⟩:=q;exact U
  ·exact OI h _
 ·exact OI h _
theorem ab5{led:bc}{t:bx}(h:oI led t)(b:bc):oI led {t with plain:=b}:=⟨h.rise,h.led⟩
noncomputable def nH(w:bf):bc:=!w.params.followText "set-order"
def kD(prog:a9)(w:bf)(h:bo)(a:ar)(es:bh (aw×aj)):Prop :=
 ∃o ep t,h.get? a=ag o/\o.ExactSet/\o.data=.set es ep t/\ElemsOf (cg prog w) es.toList/\es.size<c9/\t.fits es.size=av/\oI (nH w) t
section
variable{prog:a9}{w:bf}{A:bj}{E:aj->au->Prop}{s:au}
theorem kD.at{h h':bo}{a:ar}{es:bh (aw×aj)}(x:kD prog w h a es)(e:∀o,h.get? a=ag o->h'.get? a=ag o):kD prog w h' a es :=
 let ⟨o,q,t,j,r⟩:=x; ⟨o,q,t,e _ j,r⟩
theorem kD.typeIs{a:ar}{es:bh (aw×aj)}(x:kD prog w s.heap a es):s.TypeIs (.ref a) "set":=let ⟨o,_,_,q,j,_⟩:=x; ⟨o,q,j.1⟩
theorem kD.lt{h:bo}{a:ar}{es:bh (aw×aj)}(x:kD prog w h a es):a<h.objs.size:=let ⟨_,_,_,j,_⟩:=x;eB j
theorem Yc{g:bc->Sem Unit}(r:∀(b:bc) (s₁:au) (m:Unit->au->Prop),m () s₁->wpAny (bb prog w) A (g b) m E s₁)
  {a:ar} {o:cb} {es:bh (aw×aj)} {ep:ax} {t:bx} (U:s.heap.get? a=ag o) (hex:o.ExactSet) (hd:o.data=.set es ep t)
  {j:bh (aw×aj)} {q:bx} (n:ElemsOf (cg prog w) j.toList) (LM:j.size<c9) (x:q.fits j.size=av) (hT:oI (nH w) q) {y:bc} {R:aq bc->au->Prop}
  (h:∀h' dR,Heap.SameBut a s.heap h'->kD prog w h' a dR->dR.toList.Perm j.toList->R (ag av) {s with heap:=h' }) :
  wpAny (bb prog w) A (do
    storeSet a j q
    if(!y&&q.tooFull)=av then do
      g (relayAll q j (SetTable.grown j.size)).2.2
      storeSet a (relayAll q j (SetTable.grown j.size)).1 (relayAll q j (SetTable.grown j.size)).2.1
      pure (ag av)
     else pure (ag av)) R E s:=by
 have store:∀{h:bo} {o:cb} {es:bh (aw×aj)} {ep:ax} {t:bx} (dR:bh (aw×aj)) (z:bx),h.get? a=ag o->o.data=.set es ep t->(h.update a (Obj.putSet dR z)).get? a=ag {o with data:=.set dR (ep+1) z}:=λ{h o es ep t} dR z U hd=>by
  have:=TZ (Obj.putSet dR z) U (by rw[putSet_of dR z hd];rfl);rw[putSet_of dR z hd]at this;exact this
 refine aL (wpAny_storeSet_of U hd ?_ (Dx LM));have i:=store j q U hd;have l:=Heap.SameBut.update s.heap a (Obj.putSet j q);split
 ·have B:=relayAll_perm q j (SetTable.grown j.size);have e:=relayAll_fits q j (SetTable.grown j.size);have f:=ab4 hT j (SetTable.grown j.size);generalize u:relayAll q j (SetTable.grown j.size)=Rl at B e f ⊢;obtain⟨N,k,v⟩:=Rl;dsimp only at B e f ⊢;have d:ElemsOf (cg prog w) N.toList:=n.perm B;have c:N.size=j.size:=by rw[<-sI,B.length_eq,sI]
  have jS:N.size<c9:=by rw[c];exact LM
  refine aL (r _ _ _ ?_);refine aL (wpAny_storeSet_of i rfl ?_ (Dx jS));have p:=store N k i rfl;exact bH (h _ N (l.trans (Heap.SameBut.update _ a _)) ⟨_,_,k,p,hex,rfl,d,jS,e,f⟩ B)
 ·exact bH (h _ j l ⟨_,_,q,i,hex,rfl,n,LM,x,hT⟩ (ND _))
theorem awE{a:ar}{es:bh (aw×aj)}{k:aw}{x:aj}{Q:bc->au->Prop}(v:(cg prog w).is k x=av)(p:x.scannable=av)(hS:kD prog w s.heap a es)(H:es.size+1<c9)
  (h:∀b h' dR,Heap.SameBut a s.heap h'->kD prog w h' a dR->(((∃e∈es.toList,(cg prog w).is k e.2=av)/\dR=es)\/((∀e∈es.toList,(cg prog w).is k e.2≠av)/\dR.toList.Perm (es.toList++[((cg prog w).hash k,x)])))->Q b {s with heap:=h' }) :
  wpAny (bb prog w) A (setAddHashed a x ((cg prog w).hash k)) Q E s:=by
 obtain⟨o,F,t,U,hex,hd,g,hb,n,hT⟩:=hS;unfold setAddHashed setAddHashedIn;refine DO (aL (zW U hd n ?_));dsimp only;rw[byScan_of p hb g];simp only[↓reduceIte];unfold setAddByScan;refine aL ?_;refine aL (wpAny_rule ?_);refine aL (wpAny_setScan_of v U hd n g ?_);cases hr:List.findIdx? (λe=>(cg prog w).is k e.2) es.toList with
 |some j =>
  dsimp only;obtain⟨D,l,_⟩:=List.findIdx?_eq_some_iff_getElem.mp hr;refine bH (bH ?_);have e:s={s with heap:=s.heap}:=by cases s;rfl
  rw[e];exact h _ s.heap es (Heap.SameBut.refl a s.heap) ⟨o,F,t,U,hex,hd,g,hb,n,hT⟩ (.inl ⟨⟨es.toList[j],Io D,l⟩,rfl⟩)
 |none =>
  dsimp only;have C:∀e∈es.toList,(cg prog w).is k e.2≠av:=λe he z=>by
   have:=List.findIdx?_eq_none_iff.mp hr e he;rw[z]at this;exact Bool.noConfusion this
  have m:∀(b:bc) {s₁:au} {c:Unit->au->Prop},c () s₁->wpAny (bb prog w) A (match b with|true=>rule "set.scan.the-table-gave-way" | false=>pure ()) c E s₁ :=
   λb s₁ c q=>by cases b <;> first|exact bH q|exact wpAny_rule q
  have B:=layNew_perm t es ((cg prog w).hash k) x;have f:=layNew_fits t es ((cg prog w).hash k) x;have d:=ab6 hT es ((cg prog w).hash k) x;generalize hL:layNew t es ((cg prog w).hash k) x=L at B f d ⊢;obtain⟨i,I,K,G⟩:=L;dsimp only at B f d ⊢;rw[Array.toList_push]at B;have y:ElemsOf (cg prog w) i.toList:=(g.push v p).perm B;have r:i.size<c9:=by rw[<-sI,B.length_eq,sD,sI];simpa using H
  refine aL (m _ ?_);have u:∀b h' dR,Heap.SameBut a s.heap h'->kD prog w h' a dR->dR.toList.Perm i.toList->Q b {s with heap:=h' }:=λb h' dR N lU z=>h b h' dR N lU (.inr ⟨C,z.trans B⟩);split
  ·refine aL ?_;rw[hashByValue_scannable 8 p];refine bH ?_;refine Yc ?_ U hex hd y r ?_ ?_ ?_
   ·intro b s₁ c q;cases b <;> first|exact bH q|exact wpAny_rule q
   ·split
    ·exact f
    ·exact SetTable.fits_plain_off f
   ·split
    ·exact d
    ·exact ab5 d _
   ·intro h' dR N lU z;dsimp only;exact wpAny_pure (u _ h' dR N lU z)
  ·refine aL (bH ?_);simp only[↓reduceIte];refine Yc ?_ U hex hd y r f d ?_
   ·intro b s₁ c q;cases b <;> first|exact bH q|exact wpAny_rule q
   ·intro h' dR N lU z;dsimp only;exact wpAny_pure (u _ h' dR N lU z)
end
def Nums(es:bh (aw×aj))(ms:ai aw):Prop:=cu (es.toList.map (·.2)) ms
theorem akJ{es dR:bh (aw×aj)}{ms:ai aw}(h:Nums es ms){l:ai (aw×aj)}(hl:dR.toList.Perm l){mL:ai aw}(h2:cu (l.map (·.2)) mL):∃j,Nums dR j/\j.Perm mL:=by
 have hall:∀v∈dR.toList.map (·.2),∃n t,v=.int n t:=λv hv=>by
  have:=(hl.map (·.2)).mem_iff.mp hv;exact IntsAre.all h2 v this
 refine⟨_,intsAre_map _ hall,?_⟩;have:=(hl.map (·.2)).map numOf;rw[IntsAre.nums h2]at this;exact this
theorem ints_snoc:∀{vs:ai aj} {ns:ai aw},cu vs ns->∀(n:aw) (t:Tok),cu (vs++[.int n t]) (ns++[n])
 |_,_,.nil,n,t => .cons n t .nil
 |_,_,.cons m u h,n,t => .cons m u (ints_snoc h n t)
open PyProof.Rows PySem.Spec
set_option maxRecDepth 100000
set_option compiler.extract_closed false
set_option genSizeOf false
set_option bootstrap.genMatcherCode false
theorem Qc{prog:a9}{w:bf}:∀{l:ai (aw×aj)} {ms:ai aw},cu (l.map (·.2)) ms->∀k:aw,(∃e∈l,(cg prog w).is k e.2=av)<->k∈ms
 |[],_,h,k=>by
  cases h;constructor
  ·rintro⟨e,he,_⟩;cases he
  ·intro z;cases z
 |(q,v)::l,_,h,k=>by
  cases h with
  |cons n t h =>
   have ih:=Qc (prog:=prog) (w:=w) h k;constructor
   ·rintro⟨e,he,j⟩
    rcases dI.mp he with z|z
    ·subst z;have:=(cg prog w).inj _ _ _ j (intKind_is prog w n t);rw[this];exact List.mem_cons_self ..
    ·exact fL _ (ih.mp ⟨e,z,j⟩)
   ·intro z
    rcases dI.mp z with z|z
    ·subst z;exact⟨_,List.mem_cons_self ..,intKind_is prog w k t⟩
    ·obtain⟨e,he,j⟩:=ih.mpr z;exact⟨e,fL _ he,j⟩
section
variable{prog:a9}{w:bf}{A:bj}{R:Result->au->Prop}{I:ar}{fp wr:ai ar}{G:bh GenState->bh GenState->Prop}{n:ax}{P:ax->aj->Prop}{St:ax->au->Prop}
theorem auX(W:WalksS prog w A.in1 I fp wr G n P St)(S:ar)(BS:S∉fp)
  (val:ax->aw) (Bs:∀i v,P i v->∃t,v=.int (val i) t) (hb:n+1<c9) :
  ∀(k i:ax) (s:au) (es:bh (aw×aj)) (ms:ai aw),n-i=k->i<=n->St i s ->
   kD prog w s.heap S es->Nums es ms->ms.Perm (firstMet val i) ->
   (∀s' dR mL,Moved (S::wr) G s s'->kD prog w s'.heap S dR->Nums dR mL->mL.Perm (firstMet val n)->R (.ok (.ret .none)) s') ->
   codeAny (bb prog w) A (.builtin "set.update.loop" ⟨[.ref S,.ref I],[]⟩) R s:=by
 have X:S∉wr:=λh=>BS (W.sub _ h);have hsub:∀b∈wr,b∈S::wr:=λb hb=>fL _ hb;intro k
 induction k with
 |zero =>
  intro i s es ms hk hi N hS q j hR;have K:i=n:=by omega
  subst K;refine MB awK ?_;rw[UT Ze _];show wpAny _ A.in1 (df (.ref I) >>= _) _ _ s;refine aL (W.done s _ _ N λs' hm=>?_);show wpAny _ A.in1 (ret Value.none) _ _ s';exact bH (hR s' es ms (hm.mono hsub) (hS.at λo e=>hm.heap S _ X e) q j)
 |succ k ih =>
  intro i s es ms hk hi N hS q j hR;have T:i<n:=by omega
  refine MB awK ?_;rw[UT Ze _];show wpAny _ A.in1 (df (.ref I) >>= _) _ _ s;refine aL (W.item i s _ _ T N λv s' l C hm=>?_);obtain⟨t,rfl⟩:=Bs i v l;have lU:kD prog w s'.heap S es:=hS.at λo e=>hm.heap S _ X e;show wpAny _ A.in1 (holding [Value.int (val i) t] (setAdd S (.int (val i) t)) >>= _) _ _ s';refine aL (DO ?_);unfold setAdd;refine DO ?_;refine aL ((cg prog w).pyHash (k:=val i) (intKind_is _ _ _ _) ?_);have hsz:es.size=(firstMet val i).length:=by
   have h1:=IntsAre.length q;rw[lJ,sI]at h1;rw[h1];exact j.length_eq
  have Bv:es.size+1<c9:=by have:=firstMet_length_le val i;omega
  refine awE (s:={s' with toks:=s'.toks+1}) (intKind_is _ _ _ _) rfl lU Bv λb h' dR L g c=>?_;have Sx:∀B,Nums dR B->B.Perm (firstMet val (i+1))->_:=λB F H =>
   bH (M:=bb prog w) (A:=A.in1) (s:={s' with heap:=h',toks:=s'.toks+1}) (a:=PySem.Fin.again (.builtin "set.update.loop" ⟨[.ref S,.ref I],[]⟩)) (Q:=λfin s'=>match fin with | .done f=>R (.ok f) s' | .again V=>V.quiet=av/\codeAny (bb prog w) A V R s') (E:=λe s'=>R (.error e) s')
    ⟨PD Ze _,ih (i+1) _ dR B (by omega) T (W.frame _ s' _ _ C (GQ _) λb hb o e=>by
     rw[L.2 b (λh:b=S=>BS (by rw[<-h];exact hb))];exact e) g F H λAK m D x u p r=>by
     refine hR AK m D (Moved.trans W.gtrans ((hm.mono hsub).then_heap (GQ _) λb o hb e=>?_) x) u p r;rw[L.2 b (λh:b=S=>hb (by rw[h];exact List.mem_cons_self))];exact e⟩
  have QN:=Qc (prog:=prog) (w:=w) q (val i)
  rcases c with⟨K,rfl⟩|⟨tM,hp⟩
  ·refine Sx ms q ?_;have yU:val i∈firstMet val i:=j.mem_iff.mp (QN.mp K);rw[firstMet_succ];unfold c6;rw[a6 (by rw[TN];exact⟨_,yU,by simp⟩)];exact j
  ·have d:val i∉firstMet val i:=λz=>by
    obtain⟨e,he,U⟩:=QN.mpr (j.mem_iff.mpr z);exact tM e he U
   have h2:cu ((es.toList++[((cg prog w).hash (val i),Value.int (val i) t)]).map (·.2)) (ms++[val i]):=by
    rw[DD];exact ints_snoc q (val i) t
   obtain⟨B,F,H⟩:=akJ q hp h2;refine Sx B F ?_;rw[firstMet_succ];unfold c6;rw[a7 (by rw[TN];rintro⟨y,hy,e⟩;simp at e;subst e;exact d hy)];exact H.trans (j.append_right _)
end
section
variable{prog:a9}{w:bf}{A:bj}{E:aj->au->Prop}{s:au}
theorem adZ(a:aj){Q₁:aj->au->Prop}
  (h:Q₁ (.ref s.heap.objs.size) {s with heap:=s.heap.push {cls:=.type "set",dict:=ao,data:=.set #[] 0 (.fresh 0 0 (nH w))} }) :
  codeAny (bb prog w) A (.call (.builtin "set.__new__") ⟨[.type "set",a],[]⟩) (wants Q₁ E) s:=by
 refine codeAny_of_tree ?_;show wpAny _ A.in1 (do checkBuiltinCall "set.__new__" ⟨[.type "set",a],[]⟩;again (.builtin "set.__new__" ⟨[.type "set",a],[]⟩)) _ _ s;refine aL (wpAny_of_eq (F.newCall_set_1 a) (bH ⟨PD F.plain_set_new _,MB F.entry_set_new ?_⟩));rw[UT F.plain_set_new _];unfold Builtin.«set.__new__» Builtin.Frozenset.newClass;have hsub:=sub_set_self;obtain⟨j,g,d,tk,os⟩:=s;dsimp only
 wp_walk
 refine zZ (bH ?_);dsimp only;simp only[newObj];refine aL (wpAny_alloc (bH ?_));exact bH h
set_option maxHeartbeats 3200000 in
theorem avC{l:ar}{items:bh aj}{ns:ai aw}{Q:aj->au->Prop}
  (hh:A.handled=ao) (hl:s.heap.IsList l items) (hi:PyProof.Rows.IntsAre items.toList ns) (hb:items.size+1<c9)
  (h:∀(h':bo) (tk:ax) es ms,kD prog w h' s.heap.objs.size es->Nums es ms->ms.Perm (firstMet (λi=>ns.getD i 0) items.size) ->
   (∀b o,b<s.heap.objs.size->s.heap.get? b=ag o->h'.get? b=ag o)->Q (.ref s.heap.objs.size) {s with heap:=h',toks:=tk}) :
  wpAny (bb prog w) A (call (.type "set") [.ref l]) Q E s:=by
 obtain⟨c,tl,azG⟩:=F.called_set.mro;have azK:=F.called_set.made;have hsub:=F.called_set.sub;refine zY (codeAny_of_tree ?_);show wpAny _ _ (callAny (.type "set") _) _ _ _;refine bH ⟨Code.quiet_builtin _ (by decide +kernel),MB F.entry_type_call ?_⟩;rw[Around.under_plain (weight_type_call_type "set" [.ref l] []) rfl];have h1:=F.called_set.notType;have h2:=F.called_set.canCreate;have QU:=F.typeCall_set_1 (.ref l)
 repeat (any_goals (first|assumption|wp_step))
 refine rZ (adZ (.ref l) (E:=E) (Q₁:=λobj s₁=>obj=.ref s.heap.objs.size/\s₁={s with heap:=s.heap.push {cls:=.type "set",dict:=ao,data:=.set #[] 0 (.fresh 0 0 (nH w))} }) ⟨rfl,rfl⟩) λr s₁ hr=>?_;cases r with
 |error e=>exact hr
 |ok fl =>
  cases fl with
  |ret obj =>
   obtain⟨rfl,rfl⟩:=hr;have hS:(s.heap.push {cls:=.type "set",dict:=ao,data:=.set #[] 0 (.fresh 0 0 (nH w))}).get? s.heap.objs.size=ag {cls:=.type "set",dict:=ao,data:=.set #[] 0 (.fresh 0 0 (nH w))}:=fW _ rfl;have hT:Shared.TypeIs {s with heap:=s.heap.push {cls:=.type "set",dict:=ao,data:=.set #[] 0 (.fresh 0 0 (nH w))} } (.ref s.heap.objs.size) "set":=⟨_,hS,rfl⟩;have hli:=F.called_set.init.lookup;have hbi:=F.called_set.init.bind (.ref s.heap.objs.size)
   repeat (any_goals (first|assumption|wp_step))
   refine rZ (codeAny_call_builtin (R:=wants (λr s₂=>r=.none/\∃h' tk es ms,s₂={s with heap:=h',toks:=tk} /\
     kD prog w h' s.heap.objs.size es/\Nums es ms/\ms.Perm (firstMet (λi=>ns.getD i 0) items.size) /\
     (∀b o,b<s.heap.objs.size->s.heap.get? b=ag o->h'.get? b=ag o)) E) F.called_set.init.plain F.entry_set_init (check_set_init_1 hT ?_)) λr₂ s₂ Bu=>?_
   ·obtain⟨ol,QL,fQ,nl,Td⟩:=hl;obtain⟨ayT,aj6,ayS,ajE⟩:=ol;simp only at fQ Td;subst fQ;subst Td;have aoC:(s.heap.push {cls:=.type "set",dict:=ao,data:=.set #[] 0 (.fresh 0 0 (nH w))}).get? l=ag {cls:=.type "list",dict:=aj6,data:=.seq items nl,slots:=ajE}:=dQ _ QL;have azB:=F.sub_list_set;have azC:=F.sub_list_frozenset;have fO:(Value.type "list" == Value.type "dict")=ak:=by decide
    have wU:(s.heap.push {cls:=.type "set",dict:=ao,data:=.set #[] 0 (.fresh 0 0 (nH w))}).IsList l items:=⟨_,aoC,rfl,nl,rfl⟩;unfold Builtin.«set.__init__» noKeywords Builtin.Frozenset.updateFrom;generalize hPI:pyIter=PI
    wp_walk
    subst hPI;refine wpAny_pyIter_list wU ?_;refine aL (wpAny_runValue ?_);have KU:l<s.heap.objs.size:=eB QL;have hh3:A.in1.in1.in1.handled=ao:=by simp[hh]
    have aoK:l≠(s.heap.push {cls:=.type "set",dict:=ao,data:=.set #[] 0 (.fresh 0 0 (nH w))}).objs.size:=by
     rw[HH];exact gB (Hu KU)
    have BS:s.heap.objs.size∉[(s.heap.push {cls:=.type "set",dict:=ao,data:=.set #[] 0 (.fresh 0 0 (nH w))}).objs.size,l]:=by
     rw[HH];simp only[dI,qA,xI,vW,not_or];exact⟨gB (SW _),GP KU⟩
    have Bs:∀(i:ax) (v:aj),items[i]?=ag v->∃t,v=.int ((λi=>ns.getD i 0) i) t:=λi v hv =>
     PyProof.Rows.IntsAre.int_at hi i v (by rw[Jy];exact hv)
    refine auX ((Walks.list hh3 _ l aoK items).toS) s.heap.objs.size
     BS (λi=>ns.getD i 0) Bs hb (items.size-0) 0 _ #[] [] (by omega) AW
     ⟨⟨_,fW _ rfl,rfl,rfl⟩,(wU.push _)⟩ ?hS0 .nil (ND _) ?hR
    case hS0 =>
     have apE:((s.heap.push {cls:=.type "set",dict:=ao,data:=.set #[] 0 (.fresh 0 0 (nH w))}).push {cls:=.type "list_iterator",data:=.fields #[.ref l,.int 0 0]}).get? s.heap.objs.size
       = ag {cls:=.type "set",dict:=ao,data:=.set #[] 0 (.fresh 0 0 (nH w))}:=dQ _ hS
     exact⟨_,0,_,apE,⟨rfl,rfl,rfl⟩,rfl,λe he=>by simp at he,by decide,rfl,ab7 _⟩
    case hR =>
     intro s' dR mL hm lU Cz LR;obtain⟨h',g',d',OJ,Ag⟩:=s';have eg:g'=s.gens:=hm.gens;have ed:d'=s.drawn:=hm.drawn;have eo:Ag=s.os:=hm.os;subst eg;subst ed;subst eo;show wpAny _ _ _ _ _ _;refine bH ?_;show wpAny _ _ (ret Value.none) _ _ _;refine bH ⟨rfl,h',OJ,dR,mL,rfl,lU,Cz,LR,λb o hb e=>?_⟩;have LM:b≠s.heap.objs.size:=gB hb;have jS:b≠(s.heap.push {cls:=.type "set",dict:=ao,data:=.set #[] 0 (.fresh 0 0 (nH w))}).objs.size:=by
      rw[HH];exact gB (Hu hb)
     exact hm.heap b o (by simp only[dI,qA,xI,vW,not_or];exact⟨LM,jS⟩) (dQ _ (dQ _ e))
   ·cases r₂ with
    |error e=>exact Bu
    |ok fl₂ =>
     cases fl₂ with
     |ret r =>
      obtain⟨rfl,h',tk,es,ms,rfl,lU,Cz,LR,QS⟩:=Bu
      repeat (any_goals (first|assumption|wp_step))
      exact h _ _ es ms lU Cz LR QS
     |_=>exact Bu.elim
  |_=>exact hr.elim
end
set_option maxRecDepth 100000
set_option compiler.extract_closed false
set_option genSizeOf false
set_option bootstrap.genMatcherCode false
theorem nY:Slot "set_iterator" "__next__" "set_iterator.__next__" :=
 .of (owner := "set_iterator") (n := "__next__") (by rw[typeLookup_type,builtinLookup_eq_fast];kernel_rfl) (by decide +kernel) (by decide +kernel) (by decide +kernel)
  (by first|exact .inl (by decide +kernel)|exact .inr (by decide +kernel)) (by rw[isSubtype_type];kernel_rfl)
theorem Ms:Slot "set_iterator" "__iter__" "set_iterator.__iter__" :=
 .of (owner := "set_iterator") (n := "__iter__") (by rw[typeLookup_type,builtinLookup_eq_fast];kernel_rfl) (by decide +kernel) (by decide +kernel) (by decide +kernel)
  (by first|exact .inl (by decide +kernel)|exact .inr (by decide +kernel)) (by rw[isSubtype_type];kernel_rfl)
theorem FN:entryFor table "set_iterator.__next__" = ag Builtin.«set_iterator.__next__»:=entryFor_of_tree (by kernel_rfl)
theorem asF:entryFor table "set_iterator.__iter__" = ag Builtin.«dict_keyiterator.__iter__»:=entryFor_alias (id' := "dict_keyiterator.__iter__") (by kernel_rfl) rfl (by decide +kernel) (by kernel_rfl)
theorem asG:entryFor table "set.__iter__" = ag Builtin.«frozenset.__iter__»:=entryFor_alias (id' := "frozenset.__iter__") (by kernel_rfl) rfl (by decide +kernel) (by kernel_rfl)
theorem Ox:Manifest.owners.lookup (String.ofList ['r','o','t','a','r','e','t','i','_','t','e','s'].reverse)=ag Manifest.sig_set_iterator:=by kernel_rfl
theorem GJ(a:aj):argsOk "set_iterator.__next__" ⟨[a],[]⟩:=by
 unfold argsOk;rw[signature?_of (id := "set_iterator.__next__") (n:=['_','_','t','x','e','n','_','_']) (o:=['r','o','t','a','r','e','t','i','_','t','e','s']) (by kernel_rfl) Ox];kernel_rfl
theorem av5(a:aj):argsOk "set_iterator.__iter__" ⟨[a],[]⟩:=by
 unfold argsOk;rw[signature?_of (id := "set_iterator.__iter__") (n:=['_','_','r','e','t','i','_','_']) (o:=['r','o','t','a','r','e','t','i','_','t','e','s']) (by kernel_rfl) Ox];kernel_rfl
def kQ(h:bo)(I a:ar)(first:aj)(i n ep:ax):Prop:=h.get? I=ag {cls:=.type "set_iterator",data:=.fields #[first,.int i 0,.ref a,.int n 0,.int ep 0]}
def pZ(w:bf)(h:bo)(a:ar)(es:bh (aw×aj))(ep:ax)(t:bx):Prop:=∃o,h.get? a=ag o/\o.data=.set es ep t/\t.fits es.size=av/\oI (nH w) t
theorem kQ.typeIs{s:au}{I a:ar}{f:aj}{i n ep:ax}(x:kQ s.heap I a f i n ep):s.TypeIs (.ref I) "set_iterator":=⟨_,x,rfl⟩
theorem kQ.at{h h':bo}{I a:ar}{f:aj}{i n ep:ax}(x:kQ h I a f i n ep)(e:∀o,h.get? I=ag o->h'.get? I=ag o):kQ h' I a f i n ep:=e _ x
theorem pZ.at{w:bf}{h h':bo}{a:ar}{es:bh (aw×aj)}{ep:ax}{t:bx}(x:pZ w h a es ep t)(e:∀o,h.get? a=ag o->h'.get? a=ag o):pZ w h' a es ep t:=let ⟨o,j,r⟩:=x; ⟨o,e _ j,r⟩
noncomputable def yE(t:bx)(i:ax):ax:=if i=0 then 0 else t.place.getD (i-1) 0+1
theorem Mu{t:bx}(h:uT t.place){i:ax}(hi:i<=t.place.size):SetTable.below t.place (yE t i)=i:=by
 unfold yE
 by_cases j:i=0
 ·rw[a6 j,avQ h,j]
 ·rw[a7 j];have hl:i-1<t.place.size:=by omega
  have q:t.place[i-1]?=ag (t.place.getD (i-1) 0):=by simp[Array.getD,hl]
  rw[avS h q];omega
section
variable{prog:a9}{w:bf}{A:bj}{E:aj->au->Prop}{s:au}
theorem akT{I a:ar}{es:bh (aw×aj)}{ep i:ax}{t:bx}{x:aw×aj}{Q:aq aj->au->Prop}(hit:kQ s.heap I a (.int (yE t i) 0) i es.size ep)(b:pZ w s.heap a es ep t)
  (hb:w.params.followText "set-order" = ak) (hd:(!t.plain&&decide (es.size>1))=ak) (z:es[i]?=ag x)
  (c:∀h',kQ h' I a (.int (yE t (i+1)) 0) (i+1) es.size ep->Heap.SameBut I s.heap h'->Q (ag x.2) {s with heap:=h' }):wpAny (bb prog w) A (df (.ref I)) Q E s:=by
 obtain⟨os,N,B,j,hT⟩:=id b;have h:=j;simp only[SetTable.fits,mC,xF,RH]at h;have l:i<es.size:=(NV.mp z).1;have q:i<t.place.size:=by omega
 have d:t.place[i]?=ag (t.place.getD i 0):=by simp[Array.getD,q]
 have k:(!t.led && !es.isEmpty)=ak:=by rw[hT.led];simp[nH,hb]
 unfold df;refine aL (II (DP (name:=Str.ofString "__next__") hit.typeIs nY
  (sL nY hit.typeIs FN ?_ (GJ _))))
 unfold Builtin.«set_iterator.__next__»;refine aL (bH ?_);refine aL (IH hit rfl ?_);dsimp only;refine aL (DM N B j ?_);rw[a7 (by simp)];refine aL ?_;unfold setNext;refine aL (zW N B j ?_);dsimp only;unfold setsByText;refine aL (aL (zZ (bH ?_)));refine tZ (oF (show ¬(w.params.followText "set-order" = av)by rw[hb];simp)) ?_;refine tZ (oF (show ¬((!t.plain&&decide (es.size>1))=av)by rw[hd];simp)) ?_;refine aL ?_;show wpAny (bb prog w) A.in1 (if(!t.led && !es.isEmpty)=av then unsupported "set:maker-not-led" else pure ()) _ _ _;refine tZ (by simp[k]) (bH ?_);rw[DI,Mu hT.rise (by omega),z,d];refine bH ?_;dsimp only;refine aL (xW hit (by simp) λh1 f U=>?_);refine aL (xW f (by simp) λh2 e g=>?_);refine bH ⟨_,rfl,bH (c h2 ?_ (U.trans g))⟩;unfold kQ;rw[e];have:yE t (i+1)=t.place.getD i 0+1:=by unfold yE;simp
 rw[this];simp[bw]
theorem akU{I a:ar}{es:bh (aw×aj)}{ep:ax}{t:bx}{Q:aq aj->au->Prop}(hh:A.handled=ao)(hit:kQ s.heap I a (.int (yE t es.size) 0) es.size es.size ep)(N:pZ w s.heap a es ep t)
  (hb:w.params.followText "set-order" = ak) (hd:(!t.plain&&decide (es.size>1))=ak)
  (U:∀h',Heap.ExtBut I s.heap h'->Q ao {s with heap:=h' }):wpAny (bb prog w) A (df (.ref I)) Q E s:=by
 obtain⟨os,z,q,j,hT⟩:=id N;have c:=j;simp only[SetTable.fits,mC,xF,RH]at c;have d:(!t.led && !es.isEmpty)=ak:=by rw[hT.led];simp[nH,hb]
 unfold df;refine aL (II (DP (name:=Str.ofString "__next__") hit.typeIs nY
  (sL nY hit.typeIs FN ?_ (GJ _))))
 unfold Builtin.«set_iterator.__next__»;refine aL (bH ?_);refine aL (IH hit rfl ?_);dsimp only;refine aL (DM z q j ?_);rw[a7 (by simp)];refine aL ?_;unfold setNext;refine aL (zW z q j ?_);dsimp only;unfold setsByText;refine aL (aL (zZ (bH ?_)));refine tZ (oF (show ¬(w.params.followText "set-order" = av)by rw[hb];simp)) ?_;refine tZ (oF (show ¬((!t.plain&&decide (es.size>1))=av)by rw[hd];simp)) ?_;refine aL ?_;show wpAny (bb prog w) A.in1 (if(!t.led && !es.isEmpty)=av then unsupported "set:maker-not-led" else pure ()) _ _ _;refine tZ (by simp[d]) (bH ?_);rw[DI,Mu hT.rise (by omega),Array.getElem?_eq_none cR];refine bH ?_;dsimp only;refine aL (xW hit (by simp) λh1 e B=>?_);show wpAny _ _ (newExc (.type "StopIteration") [] >>= _) _ _ _;refine aL ?_;simp only[newExc,newTuple];refine aL (oK ?_ (by size_fits));refine aL (m:=c7 _ _) (wpAny_of_eq (a:=Value.none) (by first|rfl|(simp only[c7];rfl)) ?_);refine oK ?_ (by size_fits);simp only[raiseNew];refine aL (wpAny_handled ?_);rw[show A.in1.handled=ao from hh];refine aL (bH (wpAny_throw ?_));refine aL (VC (T := "StopIteration") (b:=av) ⟨_,fW _ rfl,rfl⟩ isSubtype_stop ?_);exact bH (U _ ((B.extBut.push _).push _))
end
set_option maxRecDepth 100000
set_option compiler.extract_closed false
set_option genSizeOf false
set_option bootstrap.genMatcherCode false
theorem Eb{α:Type}:∀(l:ai α) (i:ax) (h:i<l.length),(l[i]::l.eraseIdx i).Perm l
 |[],i,h=>bp h (Nat.not_lt_zero _)
 |x::l,0,h=>ND _
 |x::l,i+1,h=>by
  have ih:=Eb l i (by simpa using h);simp only[List.getElem_cons_succ,List.eraseIdx_cons_succ];exact(List.Perm.swap _ _ _).trans (ih.cons x)
theorem Ou{α:Type}(f:ax->ax):∀(fuel k:ax) (left:ai α) (ab:bh α),left.length=fuel->(pickOrder.go f fuel k left ab).toList.Perm (ab.toList++left)
 |0,k,left,ab,h=>by
  have:left=[]:=List.length_eq_zero_iff.mp h;subst this;unfold pickOrder.go;simp
 |fuel+1,k,left,ab,h=>by
  have hi:f k%left.length<left.length:=Nat.mod_lt _ (by omega);unfold pickOrder.go;rw[dP hi];have ih:=Ou f fuel (k+1) (left.eraseIdx (f k%left.length)) (ab.push left[f k%left.length]) (by rw[List.length_eraseIdx_of_lt hi];omega);refine ih.trans ?_;rw[Array.toList_push,DG];exact(Eb _ _ hi).append_left _
theorem Ac{α:Type}(f:ax->ax)(xs:bh α):(pickOrder f xs).toList.Perm xs.toList:=by
 have h:=Ou f xs.size 0 xs.toList #[] (by simp);simp only[DB]at h;exact h
section
variable{prog:a9}{w:bf}{A:bj}{E:aj->au->Prop}{s:au}
theorem Kj{a:ar}{es:bh (aw×aj)}{ep:ax}{t:bx}{Q:bh (aw×aj)->au->Prop}(j:pZ w s.heap a es ep t)(hb:w.params.followText "set-order" = av)
  (h:Q (pickOrder (w.params.setOrder a ep) es) s):wpAny (bb prog w) A (setWalk a) Q E s:=by
 obtain⟨os,B,z,q,hT⟩:=id j;unfold setWalk;refine aL (zW B z q ?_);dsimp only;unfold setsByText;refine aL (aL (zZ (bH ?_)));refine VB (xA (show w.params.followText "set-order" = av from hb)) ?_;exact aL (zZ (bH h))
theorem akV{I a:ar}{es:bh (aw×aj)}{ep i:ax}{t:bx}{x:aw×aj}{Q:aq aj->au->Prop}(hit:kQ s.heap I a (.int 0 0) i es.size ep)(j:pZ w s.heap a es ep t)
  (hb:w.params.followText "set-order" = av) (U:(pickOrder (w.params.setOrder a ep) es)[i]?=ag x)
  (b:∀h',kQ h' I a (.int 0 0) (i+1) es.size ep->Heap.SameBut I s.heap h'->Q (ag x.2) {s with heap:=h' }):wpAny (bb prog w) A (df (.ref I)) Q E s:=by
 obtain⟨os,B,z,q,hT⟩:=id j;unfold df;refine aL (II (DP (name:=Str.ofString "__next__") hit.typeIs nY
  (sL nY hit.typeIs FN ?_ (GJ _))))
 unfold Builtin.«set_iterator.__next__»;refine aL (bH ?_);refine aL (IH hit rfl ?_);dsimp only;refine aL (DM B z q ?_);rw[a7 (by simp)];refine aL ?_;unfold setNext;refine aL (zW B z q ?_);dsimp only;unfold setsByText;refine aL (aL (zZ (bH ?_)));refine VB (xA (show w.params.followText "set-order" = av from hb)) ?_;refine tZ (by simp) ?_;refine aL (Kj j hb ?_);rw[DI,U];refine bH ?_;simp only[GO];refine aL (xW hit (by simp) λh1 d N=>?_);refine aL (xW d (by simp) λh2 c e=>?_);refine bH ⟨_,rfl,bH (b h2 ?_ (N.trans e))⟩;unfold kQ;rw[c];simp[bw]
theorem akW{I a:ar}{es:bh (aw×aj)}{ep:ax}{t:bx}{Q:aq aj->au->Prop}(hh:A.handled=ao)(hit:kQ s.heap I a (.int 0 0) es.size es.size ep)(j:pZ w s.heap a es ep t)
  (hb:w.params.followText "set-order" = av)
  (c:∀h',Heap.ExtBut I s.heap h'->Q ao {s with heap:=h' }):wpAny (bb prog w) A (df (.ref I)) Q E s:=by
 obtain⟨os,B,z,q,hT⟩:=id j;have U:(pickOrder (w.params.setOrder a ep) es)[es.size]?=ao:=by
  rw[aaF];have:=(Ac (w.params.setOrder a ep) es).length_eq;simp only[sI]at this;omega
 unfold df;refine aL (II (DP (name:=Str.ofString "__next__") hit.typeIs nY
  (sL nY hit.typeIs FN ?_ (GJ _))))
 unfold Builtin.«set_iterator.__next__»;refine aL (bH ?_);refine aL (IH hit rfl ?_);dsimp only;refine aL (DM B z q ?_);rw[a7 (by simp)];refine aL ?_;unfold setNext;refine aL (zW B z q ?_);dsimp only;unfold setsByText;refine aL (aL (zZ (bH ?_)));refine VB (xA (show w.params.followText "set-order" = av from hb)) ?_;refine tZ (by simp) ?_;refine aL (Kj j hb ?_);rw[DI,U];refine bH ?_;simp only[Option.map_none];refine aL (xW hit (by simp) λh1 d N=>?_);show wpAny _ _ (newExc (.type "StopIteration") [] >>= _) _ _ _;refine aL ?_;simp only[newExc,newTuple];refine aL (oK ?_ (by size_fits));refine aL (m:=c7 _ _) (wpAny_of_eq (a:=Value.none) (by first|rfl|(simp only[c7];rfl)) ?_);refine oK ?_ (by size_fits);simp only[raiseNew];refine aL (wpAny_handled ?_);rw[show A.in1.handled=ao from hh];refine aL (bH (wpAny_throw ?_));refine aL (VC (T := "StopIteration") (b:=av) ⟨_,fW _ rfl,rfl⟩ isSubtype_stop ?_);exact bH (c _ ((N.extBut.push _).push _))
theorem aaL{src:Source}{n:ax}{Q:ax->au->Prop}(hn:n≠0)(h:∀i,i<n->Q i {s with drawn:=s.drawn.bump src}):wpAny (bb prog w) A (choose src n) Q E s:=λj p _=>by
 unfold choose;rw[Sem.wp_choose];exact⟨hn,h _ (Nat.mod_lt _ (by omega))⟩
theorem Kh{α:Type}:∀(n:ax) (xs:ai α) (s:au) {Q:ai α->au->Prop},xs.length=n->(∀ys d,ys.Perm xs->Q ys {s with drawn:=d})->wpAny (bb prog w) A (drawOrder n xs) Q E s
 |0,xs,s,Q,hl,h=>by
  have:xs=[]:=List.length_eq_zero_iff.mp hl;subst this;unfold drawOrder;have e:s={s with drawn:=s.drawn}:=by cases s;rfl
  rw[e];exact bH (h [] s.drawn (ND _))
 |n+1,[],s,Q,hl,h=>by simp at hl
 |n+1,x::xs,s,Q,hl,h=>by
  unfold drawOrder;refine aL (aaL (by simp) λi hi=>?_);rw[dP hi];dsimp only;refine aL (Kh n ((x::xs).eraseIdx i) _ (by rw[List.length_eraseIdx_of_lt hi];omega) λys d j=>?_);refine bH (h ((x::xs)[i]::ys) d ?_);exact(j.cons _).trans (Eb _ _ hi)
end
set_option maxRecDepth 100000
set_option compiler.extract_closed false
set_option genSizeOf false
set_option bootstrap.genMatcherCode false
def HF(h:bo)(T:ar)(ps:ai ax):Prop:=h.get? T=ag {cls:=.type "tuple",data:=.seq (ps.map λi:ax=>bw (i:aw)).toArray}
section
variable{prog:a9}{w:bf}{A:bj}{E:aj->au->Prop}{s:au}
theorem akR{I a T:ar}{es:bh (aw×aj)}{ep i j:ax}{t:bx}{ps:ai ax}{x:aw×aj}{Q:aq aj->au->Prop}(hit:kQ s.heap I a (.ref T) i es.size ep)(b:pZ w s.heap a es ep t)(hT:HF s.heap T ps)
  (d:ps[i]?=ag j) (U:es[j]?=ag x)
  (e:∀h',kQ h' I a (.ref T) (i+1) es.size ep->Heap.SameBut I s.heap h'->Q (ag x.2) {s with heap:=h' }):wpAny (bb prog w) A (df (.ref I)) Q E s:=by
 obtain⟨os,B,z,q,_⟩:=id b;unfold df;refine aL (II (DP (name:=Str.ofString "__next__") hit.typeIs nY
  (sL nY hit.typeIs FN ?_ (GJ _))))
 unfold Builtin.«set_iterator.__next__»;refine aL (bH ?_);refine aL (IH hit rfl ?_);dsimp only;refine aL (DM B z q ?_);rw[a7 (by simp)];refine aL (wpAny_seqItems hT rfl ?_);have c:(ps.map λi:ax=>bw (i:aw)).toArray[i]?=ag (bw (j:aw)):=by simp[d]
 dsimp only;rw[DI,c];show wpAny _ _ (setNextDrawn a (j:aw).toNat (ep:aw).toNat >>= _) _ _ _;refine aL ?_;unfold setNextDrawn;refine aL (zW B z q ?_);dsimp only;refine tZ (by simp) ?_;rw[DI,U];refine bH ?_;refine aL (xW hit (by simp) λh1 f N=>?_);refine bH ⟨_,rfl,bH (e h1 ?_ N)⟩;unfold kQ;rw[f];simp[bw]
theorem akS{I a T:ar}{es:bh (aw×aj)}{ep:ax}{t:bx}{ps:ai ax}{Q:aq aj->au->Prop}(hh:A.handled=ao)(hit:kQ s.heap I a (.ref T) es.size es.size ep)(z:pZ w s.heap a es ep t)(hT:HF s.heap T ps)
  (N:ps.length=es.size)
  (d:∀h',Heap.ExtBut I s.heap h'->Q ao {s with heap:=h' }):wpAny (bb prog w) A (df (.ref I)) Q E s:=by
 obtain⟨os,e,c,U,_⟩:=id z;unfold df;refine aL (II (DP (name:=Str.ofString "__next__") hit.typeIs nY
  (sL nY hit.typeIs FN ?_ (GJ _))))
 unfold Builtin.«set_iterator.__next__»;refine aL (bH ?_);refine aL (IH hit rfl ?_);dsimp only;refine aL (DM e c U ?_);rw[a7 (by simp)];refine aL (wpAny_seqItems hT rfl ?_);have B:(ps.map λi:ax=>bw (i:aw)).toArray[es.size]?=ao:=by simp[<-N]
 dsimp only;rw[DI,B];refine aL (xW hit (by simp) λg f j=>?_);refine aL (xW f (by simp) λh1 h q=>?_);show wpAny _ _ (newExc (.type "StopIteration") [] >>= _) _ _ _;refine aL ?_;simp only[newExc,newTuple];refine aL (oK ?_ (by size_fits));refine aL (m:=c7 _ _) (wpAny_of_eq (a:=Value.none) (by first|rfl|(simp only[c7];rfl)) ?_);refine oK ?_ (by size_fits);simp only[raiseNew];refine aL (wpAny_handled ?_);rw[show A.in1.handled=ao from hh];refine aL (bH (wpAny_throw ?_));refine aL (VC (T := "StopIteration") (b:=av) ⟨_,fW _ rfl,rfl⟩ isSubtype_stop ?_);exact bH (d _ (((j.trans q).extBut.push _).push _))
theorem ZW{I a:ar}{f:aj}{i n ep:ax}{Q:aj->au->Prop}(hit:kQ s.heap I a f i n ep)(h:Q (.ref I) s):wpAny (bb prog w) A (pyIter (.ref I)) Q E s:=by
 refine wpAny_pyIter_slot hit.typeIs Ms (sL Ms hit.typeIs asF ?_ (av5 _));show wpAny _ _ (ret (.ref I)) _ _ s;exact bH ⟨_,rfl, "set_iterator",_,hit.typeIs,nY.lookup,h⟩
theorem HF.at{h h':bo}{T:ar}{ps:ai ax}(x:HF h T ps)(e:∀o,h.get? T=ag o->h'.get? T=ag o):HF h' T ps:=e _ x
theorem aaP(hh:A.handled=ao)(I a:ar)(fO:a≠I)(es:bh (aw×aj))(ep:ax)(t:bx)(hb:w.params.followText "set-order" = av) :
  Walks prog w A I [I,a] [I] es.size (λi v=>((pickOrder (w.params.setOrder a ep) es).toList.map (·.2))[i]?=ag v) (λi h=>kQ h I a (.int 0 0) i es.size ep/\pZ w h a es ep t)where
 sub:=λb hb=>by simp at hb;simp[hb]
 frame:=λ_ _ _ st z=>⟨st.1.at λo e=>z I (by simp) o e,st.2.at λo e=>z a (by simp) o e⟩
 item:=λi s Q E hi st j=>by
  have hl:i<(pickOrder (w.params.setOrder a ep) es).size:=by
   have:=(Ac (w.params.setOrder a ep) es).length_eq;simp only[sI]at this;omega
  have N:=Jz hl;refine akV st.1 st.2 hb N λh' U q=>?_;exact j _ h' s.toks (by simp[hl]) ⟨U,st.2.at λo e=>q.extBut a o fO e⟩ λb o hb e=>q.extBut b o (λh=>hb (by simp[h])) e
 done:=λs Q E st j=>akW hh st.1 st.2 hb λh' B=>j h' s.toks λb o hb e=>B b o (λh=>hb (by simp[h])) e
 self:=λ_ _ _ _ st j=>ZW st.1 j
theorem aaO(hh:A.handled=ao)(I a:ar)(fO:a≠I)(es:bh (aw×aj))(ep:ax)(t:bx)(hb:w.params.followText "set-order" = ak)(hd:(!t.plain&&decide (es.size>1))=ak) :
  Walks prog w A I [I,a] [I] es.size (λi v=>(es.toList.map (·.2))[i]?=ag v) (λi h=>kQ h I a (.int (yE t i) 0) i es.size ep/\pZ w h a es ep t)where
 sub:=λb hb=>by simp at hb;simp[hb]
 frame:=λ_ _ _ st z=>⟨st.1.at λo e=>z I (by simp) o e,st.2.at λo e=>z a (by simp) o e⟩
 item:=λi s Q E hi st j=>by
  have N:=Jz hi;refine akT st.1 st.2 hb hd N λh' U q=>?_;exact j _ h' s.toks (by simp[hi]) ⟨U,st.2.at λo e=>q.extBut a o fO e⟩ λb o hb e=>q.extBut b o (λh=>hb (by simp[h])) e
 done:=λs Q E st j=>akU hh st.1 st.2 hb hd λh' B=>j h' s.toks λb o hb e=>B b o (λh=>hb (by simp[h])) e
 self:=λ_ _ _ _ st j=>ZW st.1 j
theorem aaN(hh:A.handled=ao)(I a T:ar)(fO:a≠I)(U:T≠I)(es:bh (aw×aj))(ep:ax)(t:bx)(ps:ai ax)(B:ps.Perm (List.range es.size)) :
  Walks prog w A I [I,a,T] [I] es.size (λi v=>(ps.map λj=>(es.getD j (0,.none)).2)[i]?=ag v) (λi h=>kQ h I a (.ref T) i es.size ep/\pZ w h a es ep t/\HF h T ps)where
 sub:=λb hb=>by simp at hb;simp[hb]
 frame:=λ_ _ _ st N=>⟨st.1.at λo e=>N I (by simp) o e,st.2.1.at λo e=>N a (by simp) o e,st.2.2.at λo e=>N T (by simp) o e⟩
 item:=λi s Q E hi st q=>by
  have hl:i<ps.length:=by rw[B.length_eq];simpa using hi
  have hm:ps[i]<es.size:=by
   have:=B.mem_iff.mp (Io hl);simpa using this
  refine akR (j:=ps[i]) (x:=es[ps[i]]) st.1 st.2.1 st.2.2 (dP hl) (Jz hm) λh' d z=>?_;exact q _ h' s.toks (by simp[hl,Array.getD,hm]) ⟨d,st.2.1.at λo e=>z.extBut a o fO e,st.2.2.at λo e=>z.extBut T o U e⟩ λb o hb e=>z.extBut b o (λh=>hb (by simp[h])) e
 done:=λs Q E st q=>akS hh st.1 st.2.1 st.2.2 (by rw[B.length_eq];simp) λh' c=>q h' s.toks λb o hb e=>c b o (λh=>hb (by simp[h])) e
 self:=λ_ _ _ _ st q=>ZW st.1 q
end
set_option maxRecDepth 100000
set_option compiler.extract_closed false
set_option genSizeOf false
set_option bootstrap.genMatcherCode false
theorem kD.ad3{prog:a9}{w:bf}{h:bo}{a:ar}{es:bh (aw×aj)}(x:kD prog w h a es):∃ep t,pZ w h a es ep t:=let ⟨o,ep,t,j,_,hd,_,_,hf,hT⟩:=x; ⟨ep,t,o,j,hd,hf,hT⟩
section
variable{prog:a9}{w:bf}{A:bj}{E:aj->au->Prop}{s:au}
theorem agS{a:ar}{es:bh (aw×aj)}{Q:aj->au->Prop}(hh:A.handled=ao)(hS:kD prog w s.heap a es)
  (m:∀(I:ar) (h':bo) (d:Drawn) (ord:ai aj) (fp:ai ar) (St:ax->bo->Prop),ord.Perm (es.toList.map (·.2))->(∀b o,s.heap.get? b=ag o->h'.get? b=ag o)->(∀b∈fp,b=a\/s.heap.objs.size<=b)->s.heap.objs.size<=I ->
   Walks prog w A I fp [I] es.size (λi v=>ord[i]?=ag v) St->St 0 h'->Q (.ref I) {s with heap:=h',drawn:=d}):wpAny (bb prog w) A (pyIter (.ref a)) Q E s:=by
 obtain⟨B,t,g⟩:=hS.ad3;obtain⟨os,f,c,U,hT⟩:=id g;have r:=hS.typeIs;have n:a<s.heap.objs.size:=hS.lt;have h:es.size<c9:=let ⟨_,_,_,_,_,_,_,hb,_,_⟩:=hS;hb;refine wpAny_pyIter_slot r F.slot_set_iter (sL F.slot_set_iter r asG ?_ (F.args_set_iter_1 _));unfold Builtin.«frozenset.__iter__»;refine aL (bH ?_);refine aL ?_;unfold Builtin.Frozenset.sizeOf;refine aL (DM f c U (bH ?_));refine aL ?_;unfold setDrawn;refine aL (zW f c U ?_);dsimp only;unfold setsByText;refine aL (aL (zZ (bH (bH ?_))));cases hb:w.params.followText "set-order" with
 |true =>
  refine tZ (oF (show ¬((!w.params.followText "set-order" && (!t.plain&&decide (es.size>1)))=av)by rw[hb];simp)) (aL (bH ?_));refine aL (wpAny_setEpoch_of f c U ?_);refine aL (oK (bH ⟨_,rfl, "set_iterator",_,⟨_,fW _ rfl,rfl⟩,nY.lookup,?_⟩));have e:s={s with drawn:=s.drawn}:=by cases s;rfl
  have:=m s.heap.objs.size (s.heap.push {cls:=.type "set_iterator",data:=.fields #[.int 0 0,.int 0 0,.ref a,.int es.size 0,.int B 0]}) s.drawn _ _ _ ((Ac (w.params.setOrder a B) es).map (·.2)) (λb o e=>dQ _ e) (λb hb=>by
   simp only[dI,xI,vW]at hb
   rcases hb with z|z
   ·exact .inr (by rw[z];exact tV _)
   ·exact .inl z) cR (aaP hh _ a (gB n) es B t hb) ⟨fW _ rfl,g.at λo e=>dQ _ e⟩
  simpa[bw]using this
 |false =>
  cases hd:(!t.plain&&decide (es.size>1))with
  |false =>
   refine tZ (oF (show ¬((!w.params.followText "set-order" && (!t.plain&&decide (es.size>1)))=av)by rw[hd];simp)) (aL (bH ?_));refine aL (wpAny_setEpoch_of f c U ?_);refine aL (oK (bH ⟨_,rfl, "set_iterator",_,⟨_,fW _ rfl,rfl⟩,nY.lookup,?_⟩));have:=m s.heap.objs.size (s.heap.push {cls:=.type "set_iterator",data:=.fields #[.int 0 0,.int 0 0,.ref a,.int es.size 0,.int B 0]}) s.drawn _ _ _ (ND _) (λb o e=>dQ _ e) (λb hb=>by
    simp only[dI,xI,vW]at hb
    rcases hb with z|z
    ·exact .inr (by rw[z];exact tV _)
    ·exact .inl z) cR (aaO hh _ a (gB n) es B t hb hd) ⟨fW _ rfl,g.at λo e=>dQ _ e⟩
   simpa[bw]using this
  |true =>
   refine VB (xA (show(!w.params.followText "set-order" && (!t.plain&&decide (es.size>1)))=av by rw[hb,hd];simp)) ?_;refine aL (Kh es.size (List.range es.size) s (by simp) λN d l=>?_);have x:N.length=es.size:=by rw[l.length_eq];simp
   refine aL (wpAny_newTuple ?_ (by rw[lJ,x];exact Dx h));have k1:∀b o,s.heap.get? b=ag o->(s.heap.push {cls:=.type "tuple",data:=.seq (N.map λi:ax=>bw (i:aw)).toArray}).get? b=ag o:=λb o e=>dQ _ e;refine aL (wpAny_setEpoch_of (k1 a _ f) c U ?_);refine aL (oK (bH ⟨_,rfl, "set_iterator",_,⟨_,fW _ rfl,rfl⟩,nY.lookup,?_⟩));have u:(s.heap.push {cls:=.type "tuple",data:=.seq (N.map λi:ax=>bw (i:aw)).toArray}).objs.size=s.heap.objs.size+1:=HH _ _;have k:(N.map λj=>(es.getD j (0,.none)).2).Perm (es.toList.map (·.2)):=by
    have h1:=l.map λj=>(es.getD j (0,.none)).2;have h2:(List.range es.size).map (λj=>(es.getD j (0,Value.none)).2)=es.toList.map (·.2):=by
     apply TM;intro j;rw[jV,jV]
     by_cases p:j<es.size
     ·simp[p,Array.getD]
     ·simp[p]
    rw[h2]at h1;exact h1
   have:=m (s.heap.objs.size+1) ((s.heap.push {cls:=.type "tuple",data:=.seq (N.map λi:ax=>bw (i:aw)).toArray}).push {cls:=.type "set_iterator",data:=.fields #[.ref s.heap.objs.size,.int 0 0,.ref a,.int es.size 0,.int B 0]}) d _ _ _ k (λb o e=>dQ _ (k1 b o e)) (λb hb=>by
    simp only[dI,xI,vW]at hb
    rcases hb with z|z|z
    ·exact .inr (by rw[z];exact GQ _)
    ·exact .inl z
    ·exact .inr (by rw[z];exact tV _)) (GQ _) (aaN hh _ a s.heap.objs.size (gB (Hu n)) (gB (SW _)) es B t N l) ⟨by
     unfold kQ;have q:=fW (s.heap.push {cls:=.type "tuple",data:=.seq (N.map λi:ax=>bw (i:aw)).toArray}) (o:={cls:=.type "set_iterator",data:=.fields #[.ref s.heap.objs.size,.int 0 0,.ref a,.int es.size 0,.int B 0]}) rfl;rw[u]at q;exact q,g.at λo e=>dQ _ (k1 a o e),dQ _ (fW _ rfl)⟩
   rw[<-u]at this;simpa[bw]using this
end
set_option maxRecDepth 100000
set_option compiler.extract_closed false
set_option genSizeOf false
set_option bootstrap.genMatcherCode false
section
variable{prog:a9}{w:bf}{A:bj}{E:aj->au->Prop}{s:au}
theorem ao4{r:ar}{Q:bc->au->Prop}(hT:s.TypeIs (.ref r) "set")(h:Q ak s):wpAny (bb prog w) A (Builtin.List.listLengthHint (.ref r)) Q E s:=by
 unfold Builtin.List.listLengthHint;refine aL (wpAny_specialOf hT F.slot_set_len.lookup ?_);generalize z:("set.__len__" : cc)=j
 wp_delta
 rw[show splitId j=ag ("set", "__len__")from by subst z;decide +kernel];subst z;refine aL (VC (T := "set") (b:=av) hT (by rw[isSubtype_type];kernel_rfl) ?_);refine wpAny_ite_split (λq=>bp q (by decide)) (λ_=>?_);refine wpAny_ite_split (λ_=>?_) (λq=>bp (by decide +kernel) q);refine aL (wpAny_typeOf hT ?_);exact bH h
theorem am4{ord:ai aj}{acc:bh aj}(h:ItemsOf (λi v=>ord[i]?=ag v) acc ord.length):acc.toList=ord:=by
 apply TM;intro i;rw[Jy];cases e:acc[i]? with
 |some v=>exact(h.2 i v e).symm
 |none =>
  rw[eq_comm,List.getElem?_eq_none_iff];rw[aaF,h.1]at e;exact e
theorem asA{R:Result->au->Prop}{r:ar}{es:bh (aw×aj)}(hh:A.handled=ao)(hS0:kD prog w s.heap r es)(S:ar)(m:S≠r)(res:aj)(q:ax)(hS:s.heap.get? S=ag {cls:=.type "list",data:=.seq #[] q})
  (hR:∀h' tk d U c',(∀b o,b≠S->s.heap.get? b=ag o->h'.get? b=ag o)->h'.get? S=ag {cls:=.type "list",dict:=ao,data:=.seq U c',slots:=#[]}->U.toList.Perm (es.toList.map (·.2))->R (.ok (.ret res)) {s with heap:=h',toks:=tk,drawn:=d}) :
  wpAny (bb prog w) A.in1 (Builtin.List.listExtendWith (.ref S) (.ref r) res)
   (λfin s'=>match fin with | .done f=>R (.ok f) s' | .again c'=>c'.quiet=av/\codeAny (bb prog w) A c' R s') (λe s'=>R (.error e) s') s:=by
 have g:es.size<c9:=let ⟨_,_,_,_,_,_,_,hb,_,_⟩:=hS0;hb;have KU:S<s.heap.objs.size:=eB hS;unfold Builtin.List.listExtendWith;refine aL (wpAny_typeOf (T := "set") hS0.typeIs ?_);have h1:Builtin.List.listSameRef (.ref S) (.ref r)=ak:=by simp[Builtin.List.listSameRef,m]
 have v:(Value.type "set" == Value.type "list")=ak:=by decide
 have u:(Value.type "set" == Value.type "tuple")=ak:=by decide
 simp only[h1,v,u,Bool.or_false,IG,pS];refine aL (agS (A:=A.in1) hh hS0 λI D d ord E St k a i l W st=>?_);have QL:ord.length=es.size:=by rw[k.length_eq];simp
 have BS:S∉E:=λhm=>by
  rcases i S hm with z|z
  ·exact m z
  ·exact bp KU (Nat.not_lt.mpr z)
 have C:S≠I:=λz=>bp KU (by rw[z];exact Nat.not_lt.mpr l);have key:∀(h:bo) (j tk:ax),St 0 h->(∀b o,b≠S->s.heap.get? b=ag o->h.get? b=ag o) ->
   h.get? S=ag {cls:=.type "list",data:=.seq #[] j}->codeAny (bb prog w) A (.builtin "list.extend.loop" ⟨[.ref S,.ref I,res],[]⟩) R {s with heap:=h,toks:=tk,drawn:=d}:=by
  intro h j tk x y N;refine codeAny_extend_loopS W.toS (Dx g) S BS res es.size 0 _ #[] j rfl AW x N (ItemsOf.nil _) λs' U c' hm lU t=>?_;rw[Moved.eq_with hm];refine hR s'.heap s'.toks d U c' (λb o hb e=>hm.heap b o (λc=>?_) (y b o hb e)) lU (by rw[am4 (ord:=ord) (by rw[QL];exact t)];exact k)
  rcases dI.mp c with G|c
  ·exact hb G
  ·exact bp (eB e) (by rw[qA.mp c];exact Nat.not_lt.mpr l)
 have N:=a S _ hS;refine aL (DO (ao4 (kD.typeIs (s:={s with heap:=D,drawn:=d}) (hS0.at λo e=>a r o e)) ?_));refine wpAny_ite_split (λ_=>?_) (λ_=>bH ⟨PD PySem.F.plain_extend_loop _,key _ q _ st (λb o _ e=>a b o e) N⟩);refine aL (wpAny_rule ?_);refine aL ?_;show wpAny _ _ (updateSeq S (·.push .none) >>= λ_=>updateSeq S (·.pop)) _ _ _;refine aL (wpAny_updateSeq N rfl ?_);have n:=TZ (Obj.mapSeq (·.push Value.none)) N rfl;refine wpAny_updateSeq (hz:=by seq_fits) n rfl ?_;have B:=TZ (Obj.mapSeq (·.pop)) n rfl;refine bH ⟨PD PySem.F.plain_extend_loop _,key _ _ _ ?_ (λb o hb e=>?_) B⟩
 ·refine W.frame 0 _ _ st λb hb o e=>?_;have p:b≠S:=λh=>BS (h ▸ hb);exact(sE _ _ (dX p)).trans ((sE _ _ (dX p)).trans e)
 ·exact(sE _ _ (dX hb)).trans ((sE _ _ (dX hb)).trans (a b o e))
theorem auW{R:ai aj->au->Prop}{r:ar}{es:bh (aw×aj)}(hh:A.handled=ao)(hS0:kD prog w s.heap r es)
  (h:∀(h':bo) (tk:ax) (d:Drawn) (acc:bh aj),(∀b o,s.heap.get? b=ag o->h'.get? b=ag o)->acc.toList.Perm (es.toList.map (·.2))->R acc.toList {s with heap:=h',toks:=tk,drawn:=d}) :
  wpAny (bb prog w) A (collect (.ref r)) R E s:=by
 have c:=hS0.lt;unfold collect;refine aL (wpAny_runValue (MB entry_proto_collect' ?_));rw[UT PySem.F.plain_proto_collect _];show wpAny _ A.in1 (newList [] >>= λl=>again (.builtin "list.__iadd__" ⟨[l,.ref r],[]⟩)) _ _ s;refine aL (oK ?_);refine bH ⟨PD PySem.F.plain_list_iadd _,MB entry_list_iadd' ?_⟩;rw[UT PySem.F.plain_list_iadd _];have g:(s.heap.push {cls:=.type "list",data:=.seq ([]:ai aj).toArray}).get? s.heap.objs.size=ag {cls:=.type "list",data:=.seq #[]}:=fW _ rfl;show wpAny _ A.in1 (Builtin.List.listExtendWith (.ref s.heap.objs.size) (.ref r) (.ref s.heap.objs.size)) _ _ _;have key:=asA (A:=A) (s:={s with heap:=s.heap.push {cls:=.type "list",data:=.seq ([]:ai aj).toArray} }) (es:=es)
  (R:=λ(q:Result) (s':au)=>∃(h':bo) (tk:ax) (d:Drawn) (j:bh aj) (N:ax),q=.ok (.ret (.ref s.heap.objs.size))/\s'={s with heap:=h',toks:=tk,drawn:=d} /\
   (∀b o,s.heap.get? b=ag o->h'.get? b=ag o)/\h'.get? s.heap.objs.size=ag {cls:=.type "list",dict:=ao,data:=.seq j N,slots:=#[]}/\j.toList.Perm (es.toList.map (·.2)))
  hh (hS0.at λo e=>dQ _ e) s.heap.objs.size (GP c) (.ref s.heap.objs.size) 0 g
  (λh' tk d j N B lU z=>⟨h',tk,d,j,N,rfl,rfl,λb o e=>B b o (gB (eB e)) (dQ _ e),lU,z⟩)
 refine pN key (λfin s' x=>?_) λe s' x=>?_
 ·cases fin with
  |done f =>
   obtain⟨h',tk,d,j,N,e,rfl,B,lU,z⟩:=x;cases e;show wpAny _ A (load s.heap.objs.size >>= _) _ _ _;refine aL (wpAny_load lU ?_);exact bH (h h' tk d j B z)
  |again U =>
   refine⟨x.1,rZ x.2 λq s₂ y=>?_⟩;obtain⟨h',tk,d,j,N,rfl,rfl,B,lU,z⟩:=y;show wpAny _ A (load s.heap.objs.size >>= _) _ _ _;refine aL (wpAny_load lU ?_);exact bH (h h' tk d j B z)
 ·obtain⟨_,_,_,_,_,a,_⟩:=x;cases a
end
end PySem
namespace L2
open PySem PySem.Spec PyProof.Rows
section
variable{X:Cx}
def GL(P:a9)(w:bf)(a:ar)(ms:ai aw)(h:bo):Prop:=∃es mL,kD P w h a es/\Nums es mL/\mL.Perm ms
noncomputable def nO(ns:ai aw):ai aw:=ns.foldl c6 []
theorem af3(ns:ai aw):(List.range ns.length).map (λi=>ns.getD i 0)=ns:=by
 apply TM;intro i;rw[jV]
 by_cases h:i<ns.length
 ·rw[List.getElem?_range h];simp[List.getD,h]
 ·rw[NB (by simp;omega),NB (by omega)];rfl
theorem ad1{P:a9}{w:bf}{a:ar}{ms:ai aw}{H:Hp}{h:bo}(x:GL P w a ms h):iC P w H h a (.ext (GL P w a ms)):=by
 refine⟨x,?_,λh1 h2 y k=>?_⟩
 ·obtain⟨es,mL,j,_⟩:=x;obtain⟨o,_,_,z,_⟩:=j;exact⟨o,z⟩
 ·obtain⟨es,mL,j,q⟩:=y;exact⟨es,mL,j.at k,q⟩
theorem avD(d:X.calm=av):rG X (.type "set") (λxs H Q=>∃(a:ar) (ns:ai aw),xs=[.ref a]/\fB X.K H a (ns.map V.int)/\ns.length<4000 /\
  ∀l,H l=ao->Q (.ref l) (upd H l (.ext (GL X.prog X.w l (nO ns))))):=by
 intro aa s J H xs i Q I r h;obtain⟨a,ns,rfl,U,m,q⟩:=h;obtain⟨u,rfl,N⟩:=vals1 r;cases N;obtain⟨B,z,pl,k⟩:=I.list U;have g:cu B ns:=intsAre_of z;have hl:B.length=ns.length:=by rw[<-z.length,lJ]
 refine avC (I.ok.hd d) pl.isList g (by rw[iZ,hl];show ns.length+1<4096;omega) λh' tk es ms hT f j c=>?_;rw[iZ,hl]at j;unfold firstMet at j;rw[af3]at j;exact⟨.ref s.heap.objs.size,_,I.laid (t':=tk) (o:=.ext (GL X.prog X.w s.heap.objs.size (nO ns))) (λb o e=>c b o (eB e) e) cR (ad1 ⟨es,ms,hT,f,j⟩),rfl,q _ (I.aK.fresh cR)⟩
theorem Inv.drawn{aa:ai (ar×cb)}{J:St}{H:Hp}{s:au}(I:Inv X aa J H s)(d:Drawn):Inv X aa J H {s with drawn:=d} :=
 ⟨I.ok,I.os,I.bare,I.base,I.loc,I.cell,I.free,I.mR,I.pin,I.aK,I.len⟩
theorem am9:∀{l q:ai aj},q.Perm l->∀{ms:ai aw},cu l ms->∃mL,cu q mL/\mL.Perm ms:=by
 intro l q h
 induction h with
 |nil=>intro ms h;exact⟨ms,h,ND _⟩
 |cons x _ ih =>
  intro ms h;cases h with
  |cons n t r=>obtain⟨mL,a,b⟩:=ih r;exact⟨n::mL,.cons n t a,b.cons n⟩
 |swap x y l =>
  intro ms h;cases h with
  |cons n t r =>
   cases r with
   |cons j B r=>exact⟨j::n::_,.cons j B (.cons n t r),.swap n j _⟩
 |trans _ _ z f =>
  intro ms h;obtain⟨g,e,c⟩:=f h;obtain⟨N,d,U⟩:=z e;exact⟨N,d,U.trans c⟩
theorem avA(F:X.calm=av):rG X (.builtin "sorted") (λxs H Q=>∃(d:ar) (j:ai aw),xs=[.ref d]/\H d=ag (.ext (GL X.prog X.w d j))/\j.length<64 /\
  ∀(ms:ai aw) (l:ar),ms.Perm j->ms.Pairwise (· <= ·)->H l=ao->Q (.ref l) (upd H l (.lst (ms.map V.int)))):=by
 intro aa s J H xs T Q I r h;obtain⟨d,j,rfl,hd,W,q⟩:=h;obtain⟨u,rfl,v⟩:=vals1 r;cases v;obtain⟨⟨es,y,hT,K,G⟩,_,_⟩:=I.aK _ _ hd;have C:(64:ax)<=ay:=by decide
 refine Calls.call_function_entry kind_sorted plain_sorted entry_sorted (args_sorted1 _) ?_;unfold Builtin.«sorted»;refine aL (m:=checkCount "sorted" 1 1 _) (bH ?_);refine aL (auW (A:=X.A.in1) (I.ok.hd F) hT λh' tk i acc P x=>?_);obtain⟨U,f,LR⟩:=am9 x K;have c:U.Perm j:=LR.trans G;have hl:acc.toList.length=j.length:=by
  have:∀{N:ai aj} {ns:ai aw},cu N ns->N.length=ns.length:=by
   intro N ns h
   induction h with
   |nil=>rfl
   |cons n t _ ih=>simp[ih]
  rw[this f,c.length_eq]
 refine aL (wpAny_newList ?_ (by rw[hl];omega));have B:(h'.push (c5 "list" acc.toList.toArray 0)).get? h'.objs.size=ag (c5 "list" acc.toList.toArray 0):=fW _ rfl;refine aL (DO (sL slot_list_sort ⟨_,B,rfl⟩ entry_list_sort (list_sort_tree B f (by omega) λab z M k L=>⟨_,rfl,?_⟩) (args_list_sort _)));refine bH ⟨_,rfl,?_⟩;have o:Inv X aa J H {s with heap:=h',toks:=tk,drawn:=i}:=(I.kept (t':=tk) P).drawn i;have E:H h'.objs.size=ao:=o.aK.fresh cR;obtain⟨g,S⟩:∃g,((h'.push (c5 "list" acc.toList.toArray 0)).update h'.objs.size (Obj.mapSeq λ_=>#[])).get? h'.objs.size=ag (c5 "list" #[] g):=⟨_,get?_update_seq B (λ_=>#[])⟩;have p:=dQ (c5 "list" #[] 0) (dQ (c5 "tuple" acc.toList.toArray 0) S);obtain⟨a,R⟩:∃a,(sortedHeap (h'.push (c5 "list" acc.toList.toArray 0)) h'.objs.size acc.toList ab).get? h'.objs.size=ag (c5 "list" ab a):=⟨_,get?_update_seq p (λ_=>ab)⟩;have kp:∀b u,h'.get? b=ag u->(sortedHeap (h'.push (c5 "list" acc.toList.toArray 0)) h'.objs.size acc.toList ab).get? b=ag u:=λb u e=>by
  have hb:b≠h'.objs.size:=gB (eB e);unfold sortedHeap;exact(sE _ _ (dX hb)).trans (dQ _ (dQ _ ((sE _ _ (dX hb)).trans (dQ _ e))))
 have hv:Vals (z.map V.int) ab.toList:=OD M;have D:z.length=j.length:=(k.trans c).length_eq;refine⟨.ref h'.objs.size,upd H h'.objs.size (.lst (z.map V.int)),o.laid (t':=tk) kp cR ?_,rfl,q z _ (k.trans c) L E⟩;exact⟨by rw[lJ];omega,ab.toList,a,hv,R⟩
end
end L2
namespace PySem
open PyProof.Rows PySem.Spec
set_option maxRecDepth 100000
set_option compiler.extract_closed false
set_option genSizeOf false
set_option bootstrap.genMatcherCode false
end PySem
namespace V2
open PySem PySem.Spec PyProof.Rows L2
section
variable{X:Cx}{W:WX}{e o:bg}
@[simp] def DR(c:bc)(f:Ev->Mo A):Ev->Mo A:=λY=>mb (f Y) λa Z=>match (eV Z a).bind intsOf with
 |some ns=>if ns.length<4000/\(nO ns).length<64 then nG c ((sortI (nO ns)).map A.int) Z else ao
 |none=>ao
theorem Km{f:Ev->Mo A}{D p2 C q:cn}(c:bc)(d:X.calm=av)(U:Gl X "sorted")(B:X.mg "sorted" = ao)(N:Gl X "set")(z:X.mg "set" = ao)(he:VE X W e f)
  (b:a5 [.Call (.Name "set" p2) [e] [] q] X.env=(ak,bt (.Call (.Name "set" p2) [e] [] q) X.env)::a5 [] X.env:=by rfl)
  (k:a5 [e] X.env=(ak,bt e X.env)::a5 [] X.env:=by rfl) :
  VE X W (.Call (.Name "sorted" D) [.Call (.Name "set" p2) [e] [] q] [] C) (DR c f):=by
 obtain⟨t,p,s⟩:=he;refine⟨_,Ae (avA d) U B boot_sorted (AN (Ov (avD d) N z PyProof.Rows.boot_set (AN p EE k) (by decide) (by decide) k rfl) EE b) (by decide) (by decide) b rfl,λG o x H J m Q w r h=>?_⟩;show t J H _;refine s G o x H J m _ w r (bP.mb h λa u v T V n R j L h1=>?_);split at h1
 ·rename_i ns g;split at h1
  ·rename_i hl;rw[Hr]at g;obtain⟨ds,K,I⟩:=g;obtain⟨p,P,rfl,h2,F⟩:=wJ j L K;rw[Bm I F]at h2;refine⟨p,ns,rfl,h2,hl.1,λl i=>?_⟩;refine⟨l,nO ns,rfl,dZ,hl.2,λms S E y M=>?_⟩;rw[XM E y];exact yN (j.new i (.ext (GL X.prog X.w l (nO ns)))) M (RG _) (h1.ext (Ext.new (j.nN i) _))
  ·exact False.elim h1
 ·exact False.elim h1
theorem Kv:∀{kvs:ai (Key×V)} {vs:ai (Key×aj)},KV kvs vs->Vals (kvs.map (·.2)) (vs.map (·.2))
 |_,_,.nil => .nil
 |_,_,.cons r t => .cons r.2 (Kv t)
theorem aiL{td:TE}{D af f B:cn}(M:X.calm=av)(Cg:Gl X "list")(V:X.mg "list" = ao)(L:PE X o td)
  (p:a5 [.Call (.Attribute o "values" af) [] [] B] X.env=[(ak,bt (.Call (.Attribute o "values" af) [] [] B) X.env)]:=by rfl)
  (E:bu o "values" X.env (bt o X.env)=bt o X.env:=by rfl) (G:(af.endLine==B.line)=av:=by rfl) :
  PE X (.Call (.Name "list" D) [.Call (.Attribute o "values" af) [] [] B] [] f) (λJ H Q=>td J H λx H1=>∃a kvs,x=.ref a/\H1 a=ag (.dK kvs) /\
   ∀(l:ar),H1 l=ao->Q (.ref l) (upd H1 l (.lst (kvs.map (·.2))))):=by
 intro aa s J H Q I h;refine uA (BA I Cg V SV ?_);refine SU ?_ p rfl;rw[p];show wpAny _ _ (spliced ((ak,bt (.Call (.Attribute o "values" af) [] [] B) X.env)::[])) _ _ s;refine ID ?_;refine VF E G (bI (L aa s J H _ I h) λv j ⟨x,H1,m,A,f⟩=>?_);obtain⟨a,kvs,rfl,u,q⟩:=f;cases A;obtain⟨h1,h2,S⟩:=KA m (.inl ⟨kvs,.inl u⟩);obtain⟨z,_,N,rel,g⟩:=FT m.aK u;refine⟨"dict", "dict.values",PySem.F.plainAttrs_dict,PySem.F.slot_dict_values,PySem.F.type_dict_values,h1,h2,IE rfl (PySem.evalArgs_none ?_)⟩;refine MH PySem.F.slot_dict_values g.typeIs PySem.F.entry_dict_values (PySem.F.args_dict_values_1 _) (meets_dict_values (jD X.prog X.w) a S) ⟨⟨N,g⟩,?_⟩;refine NU ?_;have U:Inv X aa J H1 {j with heap:=j.heap.push {cls:=.type "dict_values",data:=.fields #[.ref a]} }:=m.kept (t':=j.toks) λb o e=>dQ _ e;obtain⟨ep,C⟩:=g.dictAt;have K:kvs.length=N.length:=rel.length;refine PySem.W.kdl_call (s:={j with heap:=j.heap.push {cls:=.type "dict_values",data:=.fields #[.ref a]} }) (PySem.W.kdl_values (knd:=jD X.prog X.w) (r:=j.heap.objs.size) (d:=a) (kvs:=N) (ep:=ep)) (U.ok.hd M) ⟨⟨_,fW _ rfl,rfl,rfl⟩,C.push _⟩ (by omega) λh' tk acc c t hS n=>?_;generalize wO:({j with heap:=j.heap.push {cls:=.type "dict_values",data:=.fields #[.ref a]} }:au)=y at U t hS;have P:acc.toList=N.map (·.2):=by
  apply TM;intro i
  by_cases hi:i<acc.toList.length
  ·obtain⟨k,R⟩:=n.2 i _ (by rw[<-Jy];exact dP hi);rw[dP hi,jV,R];rfl
  ·have:=n.1;rw[sI]at hi;rw[NB (by rw[sI];omega),NB (by rw[lJ];omega)]
 have hv:Vals (kvs.map (·.2)) acc.toList:=by rw[P];exact Kv rel
 have T:=U.laid (t':=tk) (o:=.lst (kvs.map (·.2))) t cR ⟨by rw[lJ];omega,acc.toList,c,hv,by simpa using hS⟩;exact⟨.ref y.heap.objs.size,_,T,rfl,q _ (U.aK.fresh cR)⟩
theorem Lj{l:ar}:∀(as:ai ar) (j:ai (ai V)) (H:Hp),l∉as->sV H as j l=H l
 |[],j,H,_=>by cases j <;> rfl
 |_::_,[],H,_=>rfl
 |b::as,t::j,H,h=>by
  show sV (upd H b (.tup t)) as j l=H l;rw[Lj as j _ λz=>h (fL _ z),bO λz=>h (by rw[z];exact List.mem_cons_self ..)]
end
@[simp] def kS(cs:ai az)(i:ax)(f:az)(k:ai (Key×A)->Mo A):Ev->Mo A:=λY Z=>match vV cs i f Y Z with
 |some (_,_,_,.bE kvs)=>k kvs Z
 |_=>ao
section
variable{X:Cx}{W:WX}{e:bg}{i:ax}{f:az}{cs:ai az}{lH:cn}
theorem OB{te:TE}{k:ai (Key×A)->Mo A}{R:V->Hp->VK->Prop}(s:eQ X.K (Den X.K) W te (dY i))(g:eU X.K cs f)
  (e:∀G O Z H J b vs kvs Q,Wd X.K G O Z H->H b=ag (.dK vs)->vs.map (·.1)=kvs.map (·.1)->aV X.K G O (vs.map (·.2)) (kvs.map (·.2))->bP X.K (Den X.K) W G O J Q (k kvs Z)->R (.ref b) H Q) :
  eQ X.K (Den X.K) W (λJ H Q=>IW X.K te f J H λx H1=>R x H1 Q) (kS cs i f k):=by
 intro G O Z H J q Q w r h;unfold kS at h;split at h
 ·rename_i s0 cls fs kvs eo;obtain⟨h1,h2,p,o⟩:=Oy eo;show te J H _;refine s G O Z H J q _ w r ?_;show bP X.K (Den X.K) W G O J _ (need (q[i]?).join Z);rw[h1];intro v H1 L j N z I;obtain⟨a,C,F,U,rfl,P,M,t,m,n⟩:=z.ins h2 I;obtain⟨C',B,d,c⟩:=g cls p;rw[t]at B;cases B;obtain⟨u,l,b,vs,rfl,T,S,E,D,y⟩:=n.look o;exact⟨a,C,F,U,.ref b,rfl,m,d,c,l,e L j Z H1 J b vs kvs Q z E D y (h.ext N)⟩
 ·exact h.elim
theorem aa7{N B:cn}(he:VE X W e (dY i))(c:eU X.K cs f)(U:Gl X "len")(hm:X.mg "len" = ao)
  (hb:bu e f X.env (bt e X.env)=bt e X.env:=by rfl)
  (q:a5 [.Attribute e f lH] X.env=(ak,bt (.Attribute e f lH) X.env)::a5 [] X.env:=by rfl) :
  VE X W (.Call (.Name "len" N) [.Attribute e f lH] [] B) (kS cs i f λkvs=>ret (.int kvs.length)):=by
 obtain⟨t,p,s⟩:=he;refine⟨_,Ae avI U hm PySem.boot_len (AN (JG p hb) EE q) (by decide) (by decide) q rfl,?_⟩;refine OB (R:=λx H Q=>∃a kvs,[x]=[V.ref a]/\H a=ag (.dK kvs)/\Q (.int kvs.length) H) s c λG z d H J b j kvs Q w hb k1 g h=>?_;have hl:j.length=kvs.length:=by have:=cy List.length k1;simpa using this
 exact⟨b,j,rfl,hb,h _ H G z (Ext.refl _ _) w (by simp only[Den];rw[hl])⟩
theorem aa8(c:bc){m af k q:cn}(E:X.calm=av)(he:VE X W e (dY i))(y:eU X.K cs f)(v:Gl X "list")(hm:X.mg "list" = ao)
  (hb:bu e f X.env (bt e X.env)=bt e X.env:=by rfl)
  (u:a5 [.Call (.Attribute (.Attribute e f lH) "items" af) [] [] q] X.env=[(ak,bt (.Call (.Attribute (.Attribute e f lH) "items" af) [] [] q) X.env)]:=by rfl)
  (n:bu (.Attribute e f lH) "items" X.env (bt (.Attribute e f lH) X.env)=bt (.Attribute e f lH) X.env:=by rfl) (o:(af.endLine==q.line)=av:=by rfl) :
  VE X W (.Call (.Name "list" m) [.Call (.Attribute (.Attribute e f lH) "items" af) [] [] q] [] k) (kS cs i f λkvs=>nG c (kvs.map qL)):=by
 obtain⟨t,p,s⟩:=he;refine⟨_,aiM E v hm (JG p hb) u n o,?_⟩;refine OB (R:=λx z Q=>∃a kvs,x=.ref a/\z a=ag (.dK kvs) /\
   ∀(j:ai ar) (l:ar),j.length=kvs.length->j.Nodup->l∉j->(∀b∈j,z b=ao)->z l=ao->Q (.ref l) (upd (sV z j (kvs.map λN=>[kV N.1,N.2])) l (.lst (j.map V.ref)))) s y λG U F H J b B kvs Q w hb k1 r h=>?_
 refine⟨b,B,rfl,hb,λj l hl hn d hb D=>?_⟩;obtain⟨I,A,g,C⟩:=Lo j B kvs G H U w hl hn hb k1 r;exact yN g (by rw[Lj j _ _ d];exact D) C (h.ext A)
end
theorem avW{K:ba}{mg:az->aq aj}{h:bo}{j m q:az}{st:bq}{R f:ar}{U:aj}{N b:aq ar}{a:bh (aq aj)}{kV doc B z ct:aj}(X:K.In h)(G:h.Ns a8 mg)(n:nsIn K a8 j=ag (ag (.ref R)))
  (r:PySem.W.readsIn K R (.type "type")=av) (fi:PySem.W.findCls K (.ref R) (.type "type") m=ag (.val (.ref f))) (ga:specialIn K (.ref R) "__getattribute__" = ag (ag (.builtin "type.__getattribute__")))
  (l:K.lookup f=ag ⟨U,N,.func (di m q (iK st) (eL st) (aR st) .none kV doc B b z ct),a⟩) (c:codeIn K z q=av) (k:dh K (.ref f)=av):UB K mg j m q st :=
 ⟨R,f,_,mg_of X G n,⟨r,fi,ga,k⟩,LX l c k⟩
noncomputable def rX(kvs:ai (Key×A))(k:Key):ai (Key×A):=kvs.filter λj=>decide (j.1≠k)
section
variable{K:ba}{G:Hp}{O:ai ar}
theorem Vl{k:Key}:∀{j:ai (Key×V)} {kvs:ai (Key×A)},j.map (·.1)=kvs.map (·.1)->aV K G O (j.map (·.2)) (kvs.map (·.2))->(qR j k).map (·.1)=(rX kvs k).map (·.1)/\aV K G O ((qR j k).map (·.2)) ((rX kvs k).map (·.2))
 |[],[],_,_=>⟨rfl,.nil⟩
 |[],_::_,h,_=>by simp at h
 |_::_,[],h,_=>by simp at h
 |p::j,q::kvs,h,d=>by
  simp only[cK,qZ]at h;obtain⟨x,r,e,l,i⟩:=d.mJ;simp only[cK,qZ]at e;obtain⟨g,f⟩:=e;obtain⟨c,b⟩:=Vl (k:=k) h.2 (f ▸ i)
  by_cases B:q.1=k
  ·have N:p.1=k:=h.1.trans B;have a:qR (p::j) k=qR j k:=by simp[qR,N]
   have U:rX (q::kvs) k=rX kvs k:=by simp[rX,B]
   rw[a,U];exact⟨c,b⟩
  ·have N:¬p.1=k:=λz=>B (h.1.symm.trans z);have a:qR (p::j) k=p::qR j k:=by simp[qR,N]
   have U:rX (q::kvs) k=q::rX kvs k:=by simp[rX,B]
   rw[a,U];simp only[cK];exact⟨by rw[h.1,c],.cons (by rw[g];exact l) b⟩
end
section
variable{X:Cx}{W:WX}{o e:bg}{i:ax}{f:az}{cs:ai az}{fo fi:Ev->Mo A}{pos af lH:cn}
@[simp] def Dp(o k:A):Mo A:=λZ=>match kX Z o,lC k with
 | some (c,kvs),ag key=>(match gM kvs key with
  |some a=>ag (.ok a,Z.set c (.bE (rX kvs key)))
  | none=>ao)
 |_,_=>ao
open Classical in
@[simp] noncomputable def DT(fo fi:Ev->Mo A):Ev->Mo A:=λY=>mb (fo Y) λo Z=>if Bl Z o then mb (fi Y) (λk=>Dp o k) Z else ao
theorem aa9(ho:VE X W o fo)(hi:VE X W e fi)(m:M1 X o "pop" af e pos):VE X W (.Call (.Attribute o "pop" af) [e] [] pos) (DT fo fi):=by
 obtain⟨t,T,M⟩:=ho;obtain⟨u,S,L⟩:=hi;refine⟨_,aiT T S m,λG n A H J N Q w r h=>?_⟩;refine M G n A H J N _ w r (bP.mb h λx z v H1 G1 q E b l h1=>?_);split at h1
 ·rename_i hd;obtain⟨k0,amC,e0⟩:=hd;obtain⟨p,F,rfl,hk,g,R,q2,q3⟩:=zF b l e0;refine⟨p,rfl,.inl ⟨F,.inl R⟩,?_⟩;refine L G1 q z H1 J N _ b (r.ext E) (bP.mb h1 λy s u H2 G2 j D U d2 h2=>?_);unfold Dp at h2;split at h2
  ·rename_i c B key e1 e2;split at h2
   ·rename_i a ea;obtain⟨p',V,C,QS,g',P,i,f⟩:=zF U (l.ext D) e1;cases C;obtain⟨d,K,I⟩:=(IP i f).1 a ea;obtain⟨k1,k2⟩:=Vl (k:=key) i f;rw[JW d2 e2];exact⟨V,key,d,P,rfl,K,h2 d _ G2 j (Ext.refl _ _) (U.put (c:=.bE (rX B key)) QS g' ⟨g',_,dZ,k1,k2⟩) I⟩
   ·exact False.elim h2
  ·exact False.elim h2
 ·exact False.elim h1
@[simp] def DS(neg:bc)(cs:ai az)(i:ax)(f:az)(fi:Ev->Mo A):Ev->Mo A:=λY=>mb (fi Y) λk=>kS cs i f (λkvs Z=>match lC k with
 |some key=>ag (.ok (.bl (if neg then !(gM kvs key).isSome else(gM kvs key).isSome)),Z)
 | none=>ao) Y
theorem adV{te ty:TE}{neg:bc}(E:eU X.K cs f)(h1:eQ X.K (Den X.K) W ty fi)(h2:eQ X.K (Den X.K) W te (dY i)):eQ X.K (Den X.K) W (if neg then ac1 ty (IW X.K te f)else Mb ty (IW X.K te f)) (DS neg cs i f fi):=by
 have key:∀G z B H J U (Q:VK),Wd X.K G z B H->hW X.K G z J U->bP X.K (Den X.K) W G z J Q (DS neg cs i f fi U B)->ty J H λy g=>IW X.K te f J g λx c=>∃a o,x=.ref a/\pL c a y o/\Q (.bl (if neg then !o.isSome else o.isSome)) c:=by
  intro G z B H J U Q w r h;refine h1 G z B H J U _ w r (bP.mb h λy e v g L d n s I q=>?_);refine OB (R:=λx c Q=>∃a o,x=.ref a/\pL c a v o/\Q (.bl (if neg then !o.isSome else o.isSome)) c) h2 E (k:=λj B=>match lC y with
   |some key=>if kV key=v then ag (.ok (.bl (if neg then !(gM j key).isSome else(gM j key).isSome)),B)else ao
   | none=>ao) (λG z B H J b l j Q w hb k1 A h=>?_) L d e g J U Q s (r.ext n) ?_
  ·cases N:lC y with
   |none=>rw[N]at h;exact h.elim
   |some key =>
    rw[N]at h;simp only at h;split at h
    ·rename_i p;refine⟨b,kJ l key,rfl,by rw[<-p];exact pL.k hb,?_⟩;have F:(kJ l key).isSome=(gM j key).isSome:=by
      obtain⟨D,C⟩:=IP (k:=key) k1 A;cases m:gM j key with
      |none=>simp[C m]
      |some a=>obtain⟨M,t,_⟩:=D a m;simp[t]
     rw[F];exact h _ H G z (Ext.refl _ _) w (by simp only[Den])
    ·exact h.elim
  ·unfold kS at q ⊢;split
   ·rename_i s0 cls fs j eo;rw[eo]at q;simp only at q;cases N:lC y with
    |none=>rw[N]at q;exact q.elim
    |some key =>
     rw[N]at q;simp only at q ⊢;rw[a6 (JW I N).symm];exact q
   ·rename_i u;split at q
    ·rename_i eo;exact(u _ _ _ _ eo).elim
    ·exact q
 cases neg with
 |true=>exact key
 |false=>exact key
theorem aaU(N:X.A.units+1<dm)(hi:VE X W e fi)(U:VE X W o (dY i))(a:eU X.K cs f)(hb:bu o f X.env (bt o X.env)=bt o X.env:=by rfl)(h1:cw .In (.Attribute o f lH)=ak:=by rfl):VT X W (.Compare e [.In] [.Attribute o f lH] pos) (bD (DS ak cs i f fi)):=by
 obtain⟨t,B,q⟩:=hi;obtain⟨u,z,j⟩:=U;exact⟨_,ahA (ajA N B (JG z hb)) h1,OR (adV (neg:=ak) a q j)⟩
end
section
variable{X:Cx}{W:WX}{e:bg}{i:ax}{f:az}{cs:ai az}{lH:cn}
theorem aa6(c:bc){N af B j:cn}(o:X.calm=av)(he:VE X W e (dY i))(n:eU X.K cs f)(m:Gl X "list")(hm:X.mg "list" = ao)
  (hb:bu e f X.env (bt e X.env)=bt e X.env:=by rfl)
  (k:a5 [.Call (.Attribute (.Attribute e f lH) "values" af) [] [] j] X.env=[(ak,bt (.Call (.Attribute (.Attribute e f lH) "values" af) [] [] j) X.env)]:=by rfl)
  (U:bu (.Attribute e f lH) "values" X.env (bt (.Attribute e f lH) X.env)=bt (.Attribute e f lH) X.env:=by rfl) (d:(af.endLine==j.line)=av:=by rfl) :
  VE X W (.Call (.Name "list" N) [.Call (.Attribute (.Attribute e f lH) "values" af) [] [] j] [] B) (kS cs i f λkvs=>nG c (kvs.map (·.2))):=by
 obtain⟨t,p,s⟩:=he;refine⟨_,aiL o m hm (JG p hb) k U d,?_⟩;refine OB (R:=λx q Q=>∃a kvs,x=.ref a/\q a=ag (.dK kvs)/\∀(l:ar),q l=ao->Q (.ref l) (upd q l (.lst (kvs.map (·.2))))) s n λG r u H J b z kvs Q w hb k1 g h=>?_;exact⟨b,z,rfl,hb,λl hl=>yN w hl g h⟩
end
section
variable{P:a9}{w:bf}{K:ba}{mg:az->aq aj}{base:bo}
theorem cC.o{x:az}{st:bq}{N ps:ai az}{k:ax}{b:MS}(h:HasFn K mg x st)(S:cO N ps (aR st))
  (z:∀{f:ar} {j:aj} {A:bj} {outer:ai Env} {s:au} {H:Hp} {E:XK},cM k (A.deeper (cj x (aR st) s.heap.objs.size f j)) ->
   jU (mT P w K mg base N x (aR st) f j A outer s H E) (λ_=>E) (eL st) b)
  (bind:∀(kV doc pm:aj) (an:aq ar) (j ct:aj) (us:ai aj),us.length=ps.length->cq (di x x (iK st) (eL st) (aR st) .none kV doc pm an j ct) ⟨us,[]⟩=pure (ps.zip us):=by exact λ_ _ _ _ _ _ us hl=>(by first|exact WJ us hl λ_=>rfl|exact vO us hl λ_ _=>rfl|exact WI us hl λ_ _ _=>rfl|exact Lg us hl λ_ _ _ _=>rfl|exact q us hl λ_ _ _ _ _=>rfl)) :
  cC P w K mg base x (k+1) ps (cP N.length b):=cC.of h S bind λ_ _ _ _ _ _ _=>z
theorem cS.o{cls m qual:az}{st:bq}{N ps:ai az}{k:ax}{b:MS}(h:mB K mg cls m qual st)(S:cO N ps (aR st))
  (q:∀{f:ar} {j:aj} {A:bj} {outer:ai Env} {s:au} {H:Hp} {E:XK},cM k (A.deeper (cj qual (aR st) s.heap.objs.size f j)) ->
   jU (mT P w K mg base N qual (aR st) f j A outer s H E) (λ_=>E) (eL st) b)
  (bind:∀(kV doc pm:aj) (an:aq ar) (j ct:aj) (us:ai aj),us.length=ps.length->cq (di m qual (iK st) (eL st) (aR st) .none kV doc pm an j ct) ⟨us,[]⟩=pure (ps.zip us):=by exact λ_ _ _ _ _ _ us hl=>(by first|exact WJ us hl λ_=>rfl|exact vO us hl λ_ _=>rfl|exact WI us hl λ_ _ _=>rfl|exact Lg us hl λ_ _ _ _=>rfl)) :
  cS P w K mg base cls m (k+1) ps.length [] (cP N.length b):=cS.of h S bind λ_ _ _ _ _ _ _=>q
end
section
variable{X:Cx}{W:WX}
theorem fS(i:ax){x:az}{pos:cn}(z:decide X.N.Nodup=av:=by kernel_rfl)(hi:X.N[i]?=ag x:=by rfl)(j:Loc X.env.scope x:=by first|exact .inl rfl|exact .inr rfl)(q:X.fn x=av\/X.env.scope.names.lookup x=ag .local:=by first|exact .inl rfl|exact .inr rfl|assumption):VG X W (.Name x pos) (gN i):=aa1 (Pg z) hi j q
theorem cD(i:ax){x:az}{e:bg}{fe:Ev->Mo A}{pos pos':cn}(he:VE X W e fe)(B:decide X.N.Nodup=av:=by kernel_rfl)(hi:X.N[i]?=ag x:=by rfl)(j:Loc X.env.scope x:=by first|exact .inl rfl|exact .inr rfl)(q:dj e (ag (.Name x pos')) pos.line X.env=pure ak:=by rfl)(z:X.fn x=av\/X.env.scope.names.lookup x=ag .local:=by first|exact .inl rfl|exact .inr rfl|assumption) :
  VS X W (.Assign [.Name x pos'] e pos) (bS fe (gN i)):=aaW (Pg B) hi j he q z
theorem sU{elt tg iter:bg}{ifs:ai bg}{scope:b0}{pos:cn}{fi:Ev->Mo Src}{g:A->MS}{c:Ev->Mo bc}{e:Ev->Mo A}(q:bc)(j:ai az)(js:ai ax)(hi:VI X W tg iter fi)
  (hb:∀{cl C s H fp},VG (jP X scope j js cl C s H fp) AU tg g/\GK (jP X scope j js cl C s H fp) AU ifs c/\VE (jP X scope j js cl C s H fp) AU elt e)
  (B:X.calm=av:=by rfl) (ok:Bc scope X.env.scope X.N js=av:=by kernel_rfl)
  (z:∀x,cp iter X.env x=pure x:=by intro _;rfl):VE X W (.ListComp elt [⟨tg,iter,ifs,0⟩] scope pos) (mI q j.length js fi g c e):=aa3 q j js B (.of _ _ rfl rfl ok) hi (λ_ _ _ _ _=>hb) z
end
end V2
namespace M
open PySem V2
noncomputable section
def Xj:MS :=
 (bT (iR (aA bR (aA bR (aA bR (aA (kR ak a0) a0))))))
def NQ:ai A->Mo A:=cP 0 Xj
def SA:MS :=
 (aO (sZ ["Gaps"] "keep" aI aW)
  (aO (sZ ["Gaps"] "many" aI bR)
  (sZ ["Gaps"] "taken" aI bR)))
def NR:ai A->Mo A:=cP 2 SA
def Ga:MS :=
 (eI (bD (aC zA (aC cY (gO ["Gaps"] "many" aI) aW) (cI 1000000000)))
   (λ_ _=>ao)
   fH)
def UK:ai A->Mo A:=cP 2 Ga
def Gb:MS :=
 (bT (gO ["Gaps"] "many" aI))
def zR:ai A->Mo A:=cP 1 Gb
def Fy:MS :=
 (bT (gO ["Gaps"] "taken" aI))
def HQ:ai A->Mo A:=cP 1 Fy
def Fq:MS :=
 (aO (bS (aC cY aW cL) (gN 1))
   (bS (aC (mQ) aI gD) (gN 0)))
def RV:Ev->Mo bc :=
 (bD (aC zA aI bR))
def Fs:MS :=
 (aO (bS bR (gN 1))
  (aO (λY Z=>kC RV Fq ((λ_ _=>1000000) Y Z) Y Z)
  (bT aW)))
def UJ:ai A->Mo A:=cP 2 Fs
def GA:MS :=
 (eI (bD (aN (bA 4 tW) (aA (aC aY aI fC) (aA dA (aA (aC aY aW fC) (aA bW a0))))))
    (aO (jC (lA pW bX (aA (aN (bA 3 xO) (aA (aC aY (aC aY aI fC) dA) (aA aW (aA bW a0)))) a0)))
    (bS (aC cY dA cL) (gN 3)))
    (aO (jC (lA pW bX (aA (aN (bA 3 xO) (aA (aC aY (aC aY aW fC) bW) (aA aI (aA dA a0)))) a0)))
    (bS (aC cY bW cL) (gN 4))))
def CO:Ev->Mo bc :=
 (fG (bD (aC oB dA (aN lW (aA (aC aY aI fC) a0)))) (bD (aC oB bW (aN lW (aA (aC aY aW fC) a0)))))
def Xf:MS :=
 (aO (bS (kR av a0) (gN 2))
  (aO (bS bR (gN 3))
  (aO (bS bR (gN 4))
  (aO (λY Z=>kC CO GA ((λ_ _=>1000000) Y Z) Y Z)
  (bT bX)))))
def UC:ai A->Mo A:=cP 5 Xf
def FY:Ev->Mo A :=
 (aC zA (aC aY aI bR) aW)
def Ez:MS :=
 (bT (aN (bA 2 qC) (aA aI (aA (vN 0 "upto" ⟨91,53,91,84⟩ (yO "upto") [1] (λns a=>oV (mN FY ns) a) (aC aY aI fC)) a0))))
def sG:ai A->Mo A:=cP 2 Ez
def GD:Ev->Mo A :=
 (aC Um (aC aY aI bR) aW)
def Fj:MS :=
 (bT (aN (bA 2 qC) (aA aI (aA (vN 1 "below" ⟨94,53,94,85⟩ (yO "below") [1] (λns a=>oV (mN GD ns) a) (aC aY aI fC)) a0))))
def sH:ai A->Mo A:=cP 2 Fj
def SH:MS :=
 (aO (jC (aN (bA 2 NR) (aA aI (aA aW a0))))
  (aO (vS ["Gaps"] 0 "newest" uC)
  (vS ["Gaps"] 0 "laid" uC)))
def HU:ai A->Mo A:=cP 2 SH
def Xh:MS :=
 (aO (bS (aC cY (aC aY aI bR) (aC aY aW bR)) (gN 2))
  (aO (bS (aC cY (aC aY aI cL) (aC aY aW cL)) (gN 3))
  (aO (bS (aN pU (aA (aC aY aI gD) (aA (aC aY aW gD) a0))) (gN 4))
  (bT (iR (aA bX (aA dA (aA bW (aA (aN (bA 2 UC) (aA aI (aA aW a0))) a0)))))))))
def NO:ai A->Mo A:=cP 5 Xh
def Fi:MS :=
 (aO (eI (bD (aC oB bX aW))
   (bT (iR (aA bR (aA bR a0))))
   fH)
  (bT (aN (bA 2 DK) (aA (aN (bA 2 sH) (aA aI (aA aW a0))) (aA (aN (bA 2 sG) (aA aI (aA bX a0))) a0)))))
def UG:ai A->Mo A:=cP 3 Fi
def Gm:MS :=
 (bT (aN (bA 1 NM) (aA (kS ["Gaps"] 0 "newest" λkvs=>nG ak (kvs.map qL)) a0)))
def zS:ai A->Mo A:=cP 1 Gm
def SE:MS :=
 (aO (tD 0 "laid" (bS (aN (bA 2 NJ) (aA (aN (bA 2 HJ) (aA (DT (gO ["Gaps"] "laid" aI) bX) (aA aW a0))) (aA (gO ["Gaps"] "keep" aI) a0))) (gN 1)))
   (bS (aC cY bX cL) (gN 2)))
def SG:Ev->Mo bc :=
 (bD (DS ak ["Gaps"] 0 "laid" bX))
def Gn:MS :=
 (aO (λY Z=>kC SG SE ((λ_ _=>1000000) Y Z) Y Z)
  (tD 0 "laid" (vT aW (gO ["Gaps"] "laid" aI) bX)))
def NS:ai A->Mo A:=cP 3 Gn
def Gi:MS :=
 (bT (aC cY (kR ak (aA (bK "newest_pouch" [("Gaps",bJ 1 [] zS)] aI a0) a0)) (kS ["Gaps"] 0 "laid" λkvs=>nG ak (kvs.map (·.2)))))
def pK:ai A->Mo A:=cP 1 Gi
def ML:MS :=
 (aO (tD 0 "newest" (vT (aC cY (AB (gO ["Gaps"] "newest" aI) aW bR) bX) (gO ["Gaps"] "newest" aI) aW))
  (eI (bD (aC zA (kS ["Gaps"] 0 "newest" λkvs=>ret (.int kvs.length)) (gO ["Gaps"] "keep" aI)))
   (aO (jC (bK "lay" [("Gaps",bJ 3 [] NS)] aI (aA (bK "newest_pouch" [("Gaps",bJ 1 [] zS)] aI a0) (aA bR a0))))
   (vS ["Gaps"] 0 "newest" uC))
   fH))
def HS:ai A->Mo A:=cP 3 ML
def SD:MS :=
 (bS (aN (bA 2 NO) (aA aW (aA bX a0))) (gN 1))
def Gh:MS :=
 (aO (bS (aN (bA 0 NQ) a0) (gN 1))
  (aO (jX (fD (bK "parts" [("Gaps",bJ 1 [] pK)] aI a0)) (gN 2) SD)
  (bT aW)))
def pJ:ai A->Mo A:=cP 3 Gh
def Xq:Ev->Mo A :=
 (mI ak 1 [] (fD (aC aY bX fC)) (gN 0) mV (aC aY aI bR))
def MM:MS :=
 (jC (lA Dn aW (aA Xq a0)))
def Gp:MS :=
 (aO (bS (kR av a0) (gN 1))
  (aO (jX (fD (bK "parts" [("Gaps",bJ 1 [] pK)] aI a0)) (gN 2) MM)
  (bT (vM 1))))
def vD:ai A->Mo A:=cP 3 Gp
def Gj:Ev->Mo A :=
 (mI ak 1 [] (fD (bK "parts" [("Gaps",bJ 1 [] pK)] aI a0)) (gN 0) mV (aC aY aI cL))
def Gk:MS :=
 (bT (aN wX (aA Gj a0)))
def vC:ai A->Mo A:=cP 1 Gk
def Gf:Ev->Mo A :=
 (mI ak 1 [1] (fD (bK "parts" [("Gaps",bJ 1 [] pK)] aI a0)) (gN 0) mV (aN (PN (bA 2 sG)) (aA aI (aA aW a0))))
def Gg:MS :=
 (bT (aN (bA 1 HI) (aA Gf a0)))
def rC:ai A->Mo A:=cP 2 Gg
def Gq:Ev->Mo A :=
 (mI ak 1 [1] (fD (bK "parts" [("Gaps",bJ 1 [] pK)] aI a0)) (gN 0) mV (aN (PN (bA 2 sH)) (aA aI (aA aW a0))))
def Gr:MS :=
 (bT (aN (bA 1 HI) (aA Gq a0)))
def rD:ai A->Mo A:=cP 2 Gr
def RZ:MS :=
 (aO (eI (bD (aC oB bX cL))
   (λ_ _=>ao)
   fH)
  (aO (jC (bK "look_room" [("Gaps",bJ 2 [] UK)] aI (aA bX a0)))
  (aO (jC (bK "take" [("Gaps",bJ 3 [] HS)] aI (aA aW (aA bX a0))))
  (aO (sZ ["Gaps"] "many" aI (aC cY (gO ["Gaps"] "many" aI) bX))
  (sZ ["Gaps"] "taken" aI (aC cY (gO ["Gaps"] "taken" aI) cL))))))
def vB:ai A->Mo A:=cP 3 RZ
def Ge:MS :=
 (bT (aN lW (aA (bK "kept" [("Gaps",bJ 1 [] vD)] aI a0) a0)))
def HR:ai A->Mo A:=cP 1 Ge
def Fz:MS :=
 (bT (DR av (bK "kept" [("Gaps",bJ 1 [] vD)] aI a0)))
def rB:ai A->Mo A:=cP 1 Fz
def Fx:MS :=
 (aO (eI (bD (aC oB bX aW))
   (bT (iR (aA bR (aA bR a0))))
   fH)
  (bT (aN (bA 2 DK) (aA (bK "below" [("Gaps",bJ 2 [] rD)] aI (aA aW a0)) (aA (bK "upto" [("Gaps",bJ 2 [] rC)] aI (aA bX a0)) a0)))))
def vA:ai A->Mo A:=cP 3 Fx
def Fw:MS :=
 (bT (bK "between" [("Gaps",bJ 3 [] vA)] aI (aA aW (aA aW a0))))
def zQ:ai A->Mo A:=cP 2 Fw
def Fm:Ev->Mo A :=
 (mI ak 2 [] (fD aW) (lV 2 (fJ (gN 0) (fJ (gN 1) mP))) mV aW)
def Fn:MS :=
 (aO (bS (aN wX (aA Fm a0)) (gN 4))
  (aO (eI (fG (bD (aC iP (bK "length" [("Gaps",bJ 1 [] zR)] aI a0) bW)) (fG (bD (aC iP (bK "puts" [("Gaps",bJ 1 [] HQ)] aI a0) bX)) (bD (aN oU (aA (bK "length" [("Gaps",bJ 1 [] zR)] aI a0) (aA (cT "bool") a0))))))
   (bT (cB ak))
   fH)
  (aO (bS (aN (bA 1 UJ) (aA (aC (mQ) bX (aC cY dA cL)) a0)) (gN 5))
  (aO (eI (fY (bD (xZ pV pV (aN lW (aA (bK "numbers" [("Gaps",bJ 1 [] rB)] aI a0) a0)) (bK "held" [("Gaps",bJ 1 [] HR)] aI a0) (aC (kB) (aC cY (aC (kB) gD dA) gD) (aC cY fM gD)))))
   (bT (cB ak))
   fH)
  (aO (bS (bK "pouch" [("Gaps",bJ 1 [] pJ)] aI a0) (gN 6))
  (aO (eI (fG (fY (bD (aN oU (aA mW (aA (cT "tuple") a0))))) (fG (bD (aC iP (aC aY mW bR) bW)) (bD (aC iP (aC aY mW cL) (bK "off" [("Gaps",bJ 1 [] vC)] aI a0)))))
   (bT (cB ak))
   fH)
  (bT (xZ pV pV bR (aC aY mW cL) (aC (mQ) (aC (kB) (aN pU (aA bR (aA (aC (lE) fM cL) a0))) bW) dA)))))))))
def HL:ai A->Mo A:=cP 7 Fn
def Fl:MS :=
 (aO (bS (bK "pouch" [("Gaps",bJ 1 [] pJ)] aI a0) (gN 1))
  (aO (bS (bK "numbers" [("Gaps",bJ 1 [] rB)] aI a0) (gN 2))
  (aO (bS (aC cY (rK ak aW yF (vL fC)) (iR (aA (aN (BY ak) (aA (aC aY aW fC) a0)) a0))) (gN 3))
  (aO (bS (aN (BY ak) (aA bX a0)) (gN 4))
  (aO (jC (lA QX (aC aY aW fC) a0))
  (aO (jC (lA pW bX (aA bR a0)))
  (bT (yA (aC gK (bK "pouch" [("Gaps",bJ 1 [] pJ)] aI a0) dA) (yA (aC gK (bK "numbers" [("Gaps",bJ 1 [] rB)] aI a0) bW) (aC gK (aC aY aW fC) (kR ak a0)))))))))))
def HK:ai A->Mo A:=cP 5 Fl
def Fo:Ev->Mo A :=
 (mI ak 1 [] (fD (aC aY (bK "pouch" [("Gaps",bJ 1 [] pJ)] aI a0) fC)) (gN 0) mV (aC aY aI bR))
def Xp:Ev->Mo A :=
 (mI ak 2 [] (fD aW) (lV 2 (fJ (gN 0) (fJ (gN 1) mP))) mV aI)
def Xo:Ev->Mo A :=
 (mI ak 1 [3] (fD bX) (gN 0) (fG (bD (aC (BX av) aI aW)) (bD (aN oU (aA aI (aA (cT "bool") a0))))) aI)
def Fp:MS :=
 (aO (bS (bK "numbers" [("Gaps",bJ 1 [] rB)] aI a0) (gN 2))
  (aO (eI (fG (fY (bD (aN oU (aA bX (aA (cT "list") a0))))) (bD (aC iP bX (DR ak Fo))))
   (bT (cB ak))
   fH)
  (aO (bS Xp (gN 3))
  (bT (aC gK Xo (kR ak a0))))))
def UI:ai A->Mo A:=cP 4 Fp
def RX:MS :=
 (aO (bS (aN pU (aA bR (aA (aC (lE) (aC aY (aN (bA 2 HM) (aA aW (aA mD a0))) cL) fM) a0))) (gN 9))
    (aO (bS (bK "between" [("Gaps",bJ 3 [] vA)] aI (aA bW (aA mD a0))) (gN 10))
    (eI (fG (fY (bD (aN (bA 3 pI) (aA sP (aA sO (aA (aC (kB) gD dA) a0)))))) (bD (aC iP sP (aN (bA 3 UG) (aA vH (aA bW (aA mD a0)))))))
     (bT (cB ak))
     fH)))
def MK:MS :=
 (aO (bS (aN (bA 2 HM) (aA aW (aA bW a0))) (lV 2 (fJ (gN 5) (fJ (gN 6) mP))))
   (aO (eI (fG (fY (bD (aN (bA 3 pI) (aA (bK "upto" [("Gaps",bJ 2 [] rC)] aI (aA bW a0)) (aA mW (aA dA a0)))))) (fY (bD (aN (bA 3 pI) (aA (bK "below" [("Gaps",bJ 2 [] rD)] aI (aA bW a0)) (aA fM (aA dA a0)))))))
    (bT (cB ak))
    fH)
   (aO (bS (bK "pouch" [("Gaps",bJ 1 [] pJ)] aI a0) (gN 7))
   (aO (eI (fG (bD (aC iP (bK "upto" [("Gaps",bJ 2 [] rC)] aI (aA bW a0)) (aN (bA 2 sG) (aA vH (aA bW a0))))) (bD (aC iP (bK "below" [("Gaps",bJ 2 [] rD)] aI (aA bW a0)) (aN (bA 2 sH) (aA vH (aA bW a0))))))
    (bT (cB ak))
    fH)
   (aO (eI (fY (bD (aN (bA 3 pI) (aA (bK "counted" [("Gaps",bJ 2 [] zQ)] aI (aA bW a0)) (aA (aC (lE) mW fM) (aA (aC (kB) gD dA) a0))))))
    (bT (cB ak))
    fH)
   (aO (eI (bD (aC iP (bK "counted" [("Gaps",bJ 2 [] zQ)] aI (aA bW a0)) (bK "between" [("Gaps",bJ 3 [] vA)] aI (aA bW (aA bW a0)))))
    (bT (cB ak))
    fH)
   (jX (fD (rK ak bX yF (vL gD))) (gN 8) RX)))))))
def Fu:MS :=
 (aO (bS (bK "off" [("Gaps",bJ 1 [] vC)] aI a0) (gN 3))
  (aO (jX (fD bX) (gN 4) MK)
  (bT (cB av))))
def HN:ai A->Mo A:=cP 11 Fu
def RT:MS :=
 (aO (bS (aN (bA 2 xQ) (aA (aN (bA 2 DL) (aA aI (aA (aC cY cL (aC (iX) mD (aN pU (aA cL (aA mW a0))))) a0))) (aA mD a0))) (gN 9))
   (aO (bS (aN (bA 2 xP) (aA (aN (bA 2 xQ) (aA sO (aA cL a0))) (aA bX a0))) (gN 10))
   (aO (bS (aN (bA 1 UH) (aA (aN (bA 2 xQ) (aA sO (aA gD a0))) a0)) (gN 11))
   (aO (eI (rL (bD (aC gK xX cL)) (bD (aC gK (aC (iX) sO gD) bR)))
    (jC (bK "put" [("Gaps",bJ 3 [.int 1] vB)] bW (aA sP a0)))
    (jC (bK "put" [("Gaps",bJ 3 [] vB)] bW (aA sP (aA xX a0)))))
   (aO (jC (lA pW fM (aA (iR (aA sP (aA xX a0))) a0)))
   (aO (eI (rL (bD (aC gK (aC (iX) mD VJ) bR)) (fG (fY (bD (aN (bA 1 HK) (aA bW a0)))) (fY (bD (aN (bA 4 HL) (aA bW (aA fM (aA (aC cY mD cL) (aA dA a0)))))))))
    (bT (cB ak))
    fH)
   (eI (rL (bD (aC gK (aC (iX) mD (cI 20)) bR)) (fY (bD (aN (bA 3 HN) (aA bW (aA fM (aA (rK ak (aN (bA 3 zP) (aA fM (aA sO (aA bX a0)))) yF (vL fC)) a0)))))))
    (bT (cB ak))
    fH)))))))
def RU:MS :=
 (aO (bS (aN (bA 2 DL) (aA aI (aA bR a0))) (gN 1))
  (aO (bS (aC (iX) aW IK) (gN 2))
  (aO (bS (aC aY (kR ak (aA (cI 1000) (aA cL (aA gD (aA fC (aA DQ (aA IK (aA cL (aA gD a0))))))))) (aC (iX) (aC (mQ) aW IK) wC8)) (gN 3))
  (aO (bS (aN (FF "Gaps" 2 HU) (aA dA a0)) (gN 4))
  (aO (bS (kR av a0) (gN 5))
  (aO (bS (aN pU (aA bR (aA (aC (lE) (aN lW (aA aI a0)) cL) a0))) (gN 6))
  (aO (bS (aN Dl (aA (cI 60) (aA (aN pU (aA mW (aA (aC (iX) (aC (mQ) aW (cI 40)) (cI 61)) a0))) a0))) (gN 7))
  (aO (jX (IQ (aA vH a0)) (gN 8) RT)
  (aO (eI (fG (fY (bD (aN (bA 1 HK) (aA bW a0)))) (fG (fY (bD (aN (bA 4 HL) (aA bW (aA fM (aA vH (aA dA a0))))))) (fY (bD (aN (bA 2 UI) (aA bW (aA fM a0)))))))
   (bT (cB ak))
   fH)
  (bT (aN (bA 3 HN) (aA bW (aA fM (aA (aN (bA 3 zP) (aA fM (aA aW (aA bX a0)))) a0))))))))))))))
def Zx:ai A->Mo A:=cP 12 RU
end
abbrev Rg:=ax×ax×ai Rn×Po
structure tT(keep:ax)(x:Rg):Prop where
 gd:Gd x.2.2.1 x.2.2.2
 off:(keep:aw)*x.2.2.2.l<=x.1*x.2.2.2.s
 cnt:2 ^ x.1*(keep+1)<=x.2.1
 len:x.2.2.2.es.length<=2*keep+2
 nn:0<=x.2.2.2.s
def up1(keep:ax)(y x:Rg):Rg:=(x.1+1,y.2.1+x.2.1,y.2.2.1++x.2.2.1,Lr keep (iT y.2.2.2 x.2.2.2))
theorem tT.up{keep:ax}{x y:Rg}(z:1<=keep)(h:tT keep x)(g:tT keep y)(e:y.1=x.1):tT keep (up1 keep y x):=by
 have q:0<=y.2.2.2.s+x.2.2.2.s:=Int.add_nonneg g.nn h.nn;have j:=g.gd.merge h.gd;refine⟨j.lM keep (by omega),?_,?_,?_,q⟩
 ·show(keep:aw)*(y.2.2.2.l+x.2.2.2.l+(y.2.2.2.s+x.2.2.2.s)/keep)<=((x.1+1:ax):aw)*(y.2.2.2.s+x.2.2.2.s);have h1:=h.off;have h2:=g.off;rw[e]at h2;have N:=Int.mul_ediv_self_le (x:=y.2.2.2.s+x.2.2.2.s) (k:=keep) (by omega);have B:((x.1+1:ax):aw)*(y.2.2.2.s+x.2.2.2.s)=x.1*y.2.2.2.s+x.1*x.2.2.2.s+(y.2.2.2.s+x.2.2.2.s):=by
   rw[Int.natCast_add,Int.add_mul,TV];simp
  rw[B,TV,TV];omega
 ·show 2 ^ (x.1+1)*(keep+1)<=y.2.1+x.2.1;have h1:=h.cnt;have h2:=g.cnt;rw[e]at h2;rw[Nat.pow_succ,Nat.mul_assoc,Nat.mul_comm 2,<-Nat.mul_assoc];omega
 ·show(lM (y.2.2.2.l+x.2.2.2.l+(y.2.2.2.s+x.2.2.2.s)/keep) _).length<=_;have:=acC j.gf keep z;exact pC this (by omega)
def kK(keep:ax):ax->ai Rg->Rg->ai Rg
 |0,L,x=>L++[x]
 |f+1,L,x=>match L.find? λy=>y.1==x.1 with
  |none=>L++[x]
  |some y=>kK keep f (L.filter λz=>z.1 != x.1) (up1 keep y x)
noncomputable def uD(f:ai Rn->aw)(L:ai Rg):aw:=(L.map λx=>f x.2.2.1).sum
noncomputable def uF(L:ai Rg):ax:=(L.map λx=>x.2.1).sum
noncomputable def dN(L:ai Rg):aw:=(L.map λx=>x.2.2.2.l).sum
noncomputable def QE(L:ai Rg):ax:=(L.map λx=>x.2.2.2.es.length).sum
structure qB(keep:ax)(L:ai Rg):Prop where
 nd:(L.map (·.1)).Nodup
 ok:∀x∈L,tT keep x
theorem Pb(f:Rg->aw):∀{L:ai Rg} {y:Rg} {l:ax},(L.map (·.1)).Nodup->y∈L->y.1=l->((L.filter λz=>z.1 != l).map f).sum+f y=(L.map f).sum
 |z::L,y,l,nd,B,e=>by
  rw[cK,pE]at nd
  by_cases j:z.1=l
  ·have hL:L.filter (λz=>z.1 != l)=L:=List.filter_eq_self.mpr λw hw=>by
    have:w.1≠l:=λq=>nd.1 (by rw[j,<-q];exact TJ hw);simpa using this
   have:y=z:=by
    rcases dI.mp B with q|q
    ·exact q
    ·exact bp (by rw[j,<-e];exact TJ q) nd.1
   subst this;rw[List.filter_cons_of_neg (by simpa using j),hL,cK,lZ];omega
  ·have N:y∈L:=by
    rcases dI.mp B with q|q
    ·subst q;exact bp e j
    ·exact q
   rw[List.filter_cons_of_pos (by simpa using j),cK,lZ,cK,lZ];have:=Pb f nd.2 N e;omega
theorem Bd{keep:ax}(F:Rg->aw)(q:∀x y:Rg,F (up1 keep y x)=F y+F x):∀(f:ax) {L:ai Rg} {x:Rg},(L.map (·.1)).Nodup->((kK keep f L x).map F).sum=(L.map F).sum+F x
 |0,L,x,_=>by simp[kK]
 |f+1,L,x,nd=>by
  unfold kK;split
  ·simp
  ·rename_i y j;have hm:=Zp j;have he:y.1=x.1:=by simpa using List.find?_some j
   have B:((L.filter λz=>z.1 != x.1).map (·.1)).Nodup:=nd.sublist (Zs.map _);rw[Bd F q f B,q];have:=Pb F nd hm he;omega
theorem Qu{keep:ax}(B:1<=keep):∀(f:ax) {L:ai Rg} {x:Rg},L.length<=f->qB keep L->tT keep x->qB keep (kK keep f L x)
 |0,L,x,hl,h,g=>by
  have:L=[]:=zO (by omega);subst this;exact⟨by simp[kK],λy j=>by simp[kK]at j;subst j;exact g⟩
 |f+1,L,x,hl,h,g=>by
  unfold kK;split
  ·rename_i hn;refine⟨?_,λy j=>?_⟩
   ·rw[DD,MY];refine⟨h.nd,by simp,λa U b hb=>?_⟩;obtain⟨y,j,rfl⟩:=jA.mp U;have c:b=x.1:=by simpa using hb
    subst c;have:=List.find?_eq_none.mp hn y j;simpa using this
   ·rcases DC.mp j with q|q
    ·exact h.ok y q
    ·have:y=x:=by simpa using q
     subst this;exact g
  ·rename_i y j;have hm:=Zp j;have he:y.1=x.1:=by simpa using List.find?_some j
   refine Qu B f ?_ ⟨h.nd.sublist (Zs.map _),λz N=>h.ok z (Im.mp N).1⟩ (g.up B (h.ok y hm) he);have:(L.filter λz=>z.1 != x.1).length<L.length:=by
    refine Nat.lt_of_le_of_ne (Zq _ _) λq=>?_;have:=axI.mp q y hm;simp[he]at this
   omega
theorem Uz:∀{m:ax} {l:ai ax},l.Nodup->(∀x∈l,x<m)->l.length<=m
 |0,l,_,h=>by
  cases l with
  |nil=>simp
  |cons x r=>have:=h x kU;omega
 |m+1,l,nd,h=>by
  have:=Uz (m:=m) (nd.erase m) λx j=>by
   have h1:=h x (List.mem_of_mem_erase j);have h2:x≠m:=λq=>by subst q;exact nd.not_mem_erase j
   omega
  rw[List.length_erase]at this;split at this <;> omega
theorem qB.Ai{keep m:ax}{L:ai Rg}(h:qB keep L)(hm:∀x∈L,x.1<=m):(keep:aw)*dN L<=m*(L.map λx=>x.2.2.2.s).sum/\0<=(L.map λx=>x.2.2.2.s).sum:=by
 obtain⟨nd,ok⟩:=h;unfold dN
 induction L with
 |nil=>simp
 |cons x r ih =>
  obtain⟨h1,h2⟩:=ih (λy j=>hm y (fL _ j)) (pE.mp nd).2 (λy j=>ok y (fL _ j));have q:=ok x kU;have N:=q.off;have B:(x.1:aw)*x.2.2.2.s<=m*x.2.2.2.s:=Int.mul_le_mul_of_nonneg_right (by have:=hm x kU;omega) q.nn;have z:=q.nn;simp only[cK,lZ,TV];omega
theorem qB.alX{keep m:ax}{L:ai Rg}(h:qB keep L)(hm:∀x∈L,x.1<m):QE L<=m*(2*keep+2):=by
 have hl:L.length<=m:=by
  have:=Uz h.nd (m:=m) (λx q=>by obtain⟨y,j,e⟩:=jA.mp q;subst e;exact hm y j);simpa using this
 have:QE L<=L.length*(2*keep+2):=by
  obtain⟨nd,ok⟩:=h;clear hl hm;unfold QE
  induction L with
  |nil=>simp
  |cons x r ih =>
   have h1:=ih (pE.mp nd).2 (λy j=>ok y (fL _ j));have h2:=(ok x kU).len;simp only[cK,lZ,gZ];rw[Nat.add_mul,Nat.one_mul];omega
 exact pC this (Nat.mul_le_mul_right _ hl)
theorem alP{lv n keep b:ax}(h:2 ^ lv*(keep+1)<=n)(hb:n/(keep+1)<2 ^ b):lv<b:=by
 have h1:2 ^ lv<=n/(keep+1):=(Nat.le_div_iff_mul_le (by omega)).mpr h;exact(Nat.pow_lt_pow_iff_right (a:=2) (by decide)).mp (Nat.lt_of_le_of_lt h1 hb)
open PySem L2 V2
noncomputable def tQ:ai Rn->aw->aw
 |[],_=>0
 |r::rs,n=>if r.1=n then r.2 else tQ rs n
noncomputable def cH:ai Rn->aw->aw->ai Rn
 |[],n,t=>[(n,t)]
 |r::rs,n,t=>if r.1=n then(r.1,r.2+t)::rs else r::cH rs n t
theorem Qv:∀(rs:ai Rn) (n t m:aw),m∈(cH rs n t).map (·.1)->m∈rs.map (·.1)\/m=n
 |[],n,t,m,h=>by simp only[cH,cK,pG,qA]at h;exact .inr h
 |r::rs,n,t,m,h=>by
  simp only[cH]at h;split at h
  ·exact .inl (by simpa using h)
  ·simp only[cK,dI]at h ⊢
   rcases h with h|h
   ·exact .inl (.inl h)
   ·rcases Qv rs n t m h with q|q
    ·exact .inl (.inr q)
    ·exact .inr q
theorem Pq:∀(rs:ai Rn) (n t:aw),(rs.map (·.1)).Nodup->((cH rs n t).map (·.1)).Nodup
 |[],n,t,_=>by simp[cH]
 |r::rs,n,t,nd=>by
  simp only[cH];split
  ·simpa using nd
  ·rename_i e;rw[cK,pE]at nd ⊢;refine⟨λh=>?_,Pq rs n t nd.2⟩
   rcases Qv rs n t r.1 h with q|q
   ·exact nd.1 q
   ·exact e q
theorem Of:∀(rs:ai Rn) (n t:aw),1<=t->(∀r∈rs,1<=r.2)->∀r∈cH rs n t,1<=r.2
 |[],n,t,j,_,r,hr=>by simp only[cH,qA]at hr;subst hr;exact j
 |s::rs,n,t,j,h,r,hr=>by
  simp only[cH]at hr;split at hr
  ·rcases dI.mp hr with e|e
   ·subst e;have:=h s (by simp);show 1<=s.2+t;omega
   ·exact h r (by simp[e])
  ·rcases dI.mp hr with e|e
   ·subst e;exact h _ (by simp)
   ·exact Of rs n t j (λr hr=>h r (by simp[hr])) r e
noncomputable def eW(rs:ai Rn):ai (Key×A):=rs.map λr=>(.inl r.1,.int r.2)
theorem Lc{q:Key×A}{kvs:ai (Key×A)}{k:Key}(h:q.1=k):gM (q::kvs) k=ag q.2:=by simp[gM,h]
theorem Lb{q:Key×A}{kvs:ai (Key×A)}{k:Key}(h:q.1≠k):gM (q::kvs) k=gM kvs k:=by simp[gM,h]
theorem Kz:∀(rs:ai Rn) (n:aw),(gM (eW rs) (.inl n)).getD (.int 0)=.int (tQ rs n)
 |[],n=>rfl
 |r::rs,n=>by
  have ih:=Kz rs n;show(gM ((.inl r.1,.int r.2)::eW rs) (.inl n)).getD (.int 0)=.int (tQ (r::rs) n)
  by_cases h:r.1=n
  ·rw[Lc (by rw[h])];simp[tQ,h]
  ·rw[Lb (by intro z;exact h (by simpa using z)),ih];simp[tQ,h]
theorem ag1{q:Key×A}{kvs:ai (Key×A)}{k:Key}{a:A}(h:q.1≠k):kT (q::kvs) k a=q::kT kvs k a:=by
 unfold kT;have e:((q::kvs).any λj=>decide (j.1=k))=kvs.any λj=>decide (j.1=k):=by simp[h]
 rw[e];split
 ·simp[h]
 ·simp
theorem Od:∀(rs:ai Rn) (n t:aw),(rs.map (·.1)).Nodup->kT (eW rs) (.inl n) (.int (tQ rs n+t))=eW (cH rs n t)
 |[],n,t,_=>by simp[eW,kT,cH,tQ]
 |r::rs,n,t,nd=>by
  rw[cK,pE]at nd;have ih:=Od rs n t nd.2;show kT ((.inl r.1,.int r.2)::eW rs) (.inl n) _=_
  by_cases h:r.1=n
  ·subst h;have em:∀(l:ai Rn),r.1∉l.map (·.1)->(eW l).map (λj=>if j.1=(.inl r.1:Key)then(j.1,A.int (r.2+t))else j)=eW l:=by
    intro l
    induction l with
    |nil=>intro _;rfl
    |cons s l N =>
     intro hn;simp only[cK,dI,not_or]at hn;have B:¬s.1=r.1:=λz=>hn.1 z.symm;have:=N hn.2;simp only[eW,cK]at this ⊢;rw[this];simp[B]
   have q:=em rs nd.1;simp only[kT,tQ,a6,cH];simp[eW]at q ⊢;exact q
  ·rw[ag1 (by intro z;exact h (by simpa using z))];simp only[tQ,cH,a7 h,ih];rfl
theorem am5(rs:ai Rn):(eW rs).map qL=bF rs:=by simp[eW,qL,kA,bF,iJ]
theorem abG(rs:ai Rn):(eW rs).map (·.2)=(rs.map (·.2)).map A.int:=by simp[eW]
theorem nB{Z Z':aH}{a:A}(h:Z'.length=Z.length):trim Z (ag (.ok a,Z'))=aE a Z':=by
 simp only[trim];split
 ·rename_i j;rw[<-h,List.take_length]at j;rw[j.1]
 ·rfl
theorem Lp{Z:aH}{c:Cell}:trim Z (ag (.ok (.aG Z.length),Z++[c]))=aE (.aG Z.length) (Z++[c]):=by
 simp[trim,Cl]
def eZ(L:ai Rg):ai (Key×A):=L.map λx=>(.inl (x.1:aw),bQ x.2.2.2)
abbrev eA(keep:ax)(many tk:aw)(rs:ai Rn)(L:ai Rg):ai (az×Fd):=[("keep",.val (.int keep)),("many",.val (.int many)),("taken",.val (.int tk)),("newest",.bE (eW rs)),("laid",.bE (eZ L))]
abbrev cG(keep:ax)(many tk:aw)(rs:ai Rn)(L:ai Rg):Cell:=.ins "Gaps" (eA keep many tk rs L)
section
variable{Z Z':aH}{p keep:ax}{many tk:aw}{rs:ai Rn}{L:ai Rg}
theorem qK{m:az}{F:ai A->Mo A}{n i:ax}{das as:ai A}{fs:Ev->Mo (ai A)}{Y:Ev}{a:A}(h:Z[p]?=ag (cG keep many tk rs L))(hl:(eA keep many tk rs L).lookup m=ao)(B:(Y[i]?).join=(aF p))(q:fs Y Z=aE as Z)(hn:as.length+1+das.length=n)
  (z:F (.aG p::(as++das)) Z=aE a Z'):bK m [("Gaps",bJ n das F)] (dY i) fs Y Z=aE a Z':=by
 unfold bK;rw[dC (x:=A.aG p) (Z':=Z) (by simp[B])];have j:List.lookup ("Gaps" : az) [(("Gaps" : az),bJ n das F)]=ag (bJ n das F):=by simp[List.lookup]
 simp only[Dm,h,j,hl];rw[dC q];simp only[bJ];rw[a6 (by simp only[gZ];omega)];exact z
theorem JH(h:Z[p]?=ag (cG keep many tk rs L)){Y:Ev}(j:(Y[0]?).join=(aF p)):vV ["Gaps"] 0 "newest" Y Z=ag (p,("Gaps" : az),eA keep many tk rs L,Fd.bE (eW rs)):=by
 unfold vV;rw[j];simp only[h];rfl
theorem PF(h:Z[p]?=ag (cG keep many tk rs L)){Y:Ev}(j:(Y[0]?).join=(aF p)):vV ["Gaps"] 0 "laid" Y Z=ag (p,("Gaps" : az),eA keep many tk rs L,Fd.bE (eZ L)):=by
 unfold vV;rw[j];simp only[h];rfl
theorem aw6(h:Z[p]?=ag (cG keep many tk rs L)):zR [.aG p] Z=aE (.int many) Z:=by
 have l:(eA keep many tk rs L).lookup ("many" : az)=ag (.val (.int many)):=rfl;show trim Z (eS (Gb [aF p] Z))=_;simp[Gb,h,l]
theorem awR(h:Z[p]?=ag (cG keep many tk rs L)):HQ [.aG p] Z=aE (.int tk) Z:=by
 have l:(eA keep many tk rs L).lookup ("taken" : az)=ag (.val (.int tk)):=rfl;show trim Z (eS (Fy [aF p] Z))=_;simp[Fy,h,l]
theorem Zk(h:Z[p]?=ag (cG keep many tk rs L))(z:∀r∈rs,1<=r.2)(hl:rs.length<=63)(hw:whole rs<=1000000000):zS [.aG p] Z=aE (bQ (jN rs)) Z:=by
 show trim Z (eS (Gm [aF p] Z))=_;have e:kS ["Gaps"] 0 "newest" (λj=>nG ak (j.map qL)) [aF p] Z=aE (.lst (bF rs)) Z:=by
  unfold kS;rw[JH h rfl];simp only[am5];rfl
 unfold Gm;have q:=awX rs z hl hw Z;have B:aN (bA 1 NM) (aA (kS ["Gaps"] 0 "newest" λj=>nG ak (j.map qL)) a0) [aF p] Z=aE (bQ (jN rs)) Z:=by
  unfold aN aA;rw[dC (by rw[dC e];rfl)];simp only[bA];exact q
 unfold bT;rw[fN B];exact nB rfl
end
section
variable{Z Z' Z'':aH}{Y:Ev}
theorem orF{f g:Ev->Mo bc}(h:f Y Z=aE ak Z'):fG f g Y Z=g Y Z':=by
 unfold fG;rw[dC h];rfl
theorem qJ{f:Ev->Mo bc}{b:bc}(h:f Y Z=aE b Z'):fY f Y Z=aE (!b) Z':=by
 unfold fY;rw[dC h];rfl
theorem gE{f:Ev->Mo A}{b:bc}(h:f Y Z=aE (.bl b) Z'):bD f Y Z=aE b Z':=by
 unfold bD;rw[dC h];rfl
theorem AQ{g:A->A->Mo A}{q f2:Ev->Mo A}{a b:A}{j:aH}{c:A}(h1:q Y Z=aE a Z')(h2:f2 Y Z'=aE b Z'')(z:g a b Z''=aE c j):aC g q f2 Y Z=aE c j:=by
 unfold aC;rw[dC h1,dC h2,z]
theorem dM{g:A->A->Mo A}{j f2:Ev->Mo A}{a b c:A}(h1:j Y Z=aE a Z)(h2:f2 Y Z=aE b Z)(q:g a b Z=aE c Z):aC g j f2 Y Z=aE c Z:=AQ h1 h2 q
theorem qM{t:Ev->Mo bc}{s:MS}(h:t Y Z=aE ak Z'):eI t s fH Y Z=eR Y Z':=by
 unfold eI;rw[fN h];rfl
theorem iB{f:Ev->Mo A}{i:ax}{a:A}(h:f Y Z=aE a Z'):bS f (gN i) Y Z=eR (Y.set i (ag a)) Z':=by
 unfold bS;rw[fN h];rfl
theorem bC{i:ax}{a:A}(h:(Y[i]?).join=ag a):dY i Y Z=aE a Z:=by simp[h]
theorem aS{f:Ev->Mo A}{fs:Ev->Mo (ai A)}{a:A}{as:ai A}(h:f Y Z=aE a Z)(j:fs Y Z=aE as Z):aA f fs Y Z=aE (a::as) Z:=by
 unfold aA;rw[dC h,dC j];rfl
theorem bN:a0 Y Z=aE [] Z:=rfl
theorem gY{F:ai A->Mo A}{fs:Ev->Mo (ai A)}{n:ax}{as:ai A}{a:A}(h:fs Y Z=aE as Z)(hn:as.length=n)(j:F as Z=aE a Z'):aN (bA n F) fs Y Z=aE a Z':=by
 unfold aN;rw[dC h];unfold bA;rw[a6 hn];exact j
theorem xC{g:ai A->Mo A}{fs:Ev->Mo (ai A)}{Y:Ev}{Z Z':aH}{as:ai A}{a:A}(h:fs Y Z=aE as Z)(j:g as Z=aE a Z'):aN g fs Y Z=aE a Z':=by
 unfold aN;rw[dC h];exact j
theorem Em{f:Ev->Mo A}{fs:Ev->Mo (ai A)}{a:A}{as:ai A}(h:f Y Z=aE a Z')(j:fs Y Z'=aE as Z''):aA f fs Y Z=aE (a::as) Z'':=by
 unfold aA;rw[dC h,dC j];rfl
theorem mU{g:ai A->Mo A}{fs:Ev->Mo (ai A)}{as:ai A}{a:A}(h:fs Y Z=aE as Z')(j:g as Z'=aE a Z''):aN g fs Y Z=aE a Z'':=by
 unfold aN;rw[dC h];exact j
end
theorem Nc{Z:aH}{p:ax}{c:Cell}(h:Z[p]?=ag c):Z.set p c=Z:=by
 apply TM;intro j
 by_cases q:p=j
 ·subst q;rw[iD (dO.mp h).1,h]
 ·rw[kG q]
theorem Az{i:ax}{f:az}{g:MS}{Y Y':Ev}{Z:aH}{s:ax}{cls:az}{fs:ai (az×Fd)}{fd fd':Fd}{c c':Cell}(h1:Y[i]?=ag (aF s))(h2:Z[s]?=ag (.ins cls fs))(h:fs.lookup f=ag fd)(e:fd.cell=ag c)
  (b:g Y (fZ Z s cls f fs c)=eR Y' (fZ Z s cls f fs c')) (a:fd'.cell=ag c') (U:fd'=fd\/rE Z.length fd') (N:∀(j:ax) (d:A),Y'[j]?=ag (ag d)->Y[j]?=ag (ag d)\/Cl Z.length d):tD i f g Y Z=eR Y' (Z.set s (.ins cls (putD f fd' fs))):=by
 have z:s<Z.length:=(dO.mp h2).1;refine afL (r:=(.nx,Y',Z.set s (.ins cls (putD f fd' fs)))) ⟨s,cls,fs,fd,c,Z.set s (.ins cls (putD f (.val (.aG Z.length)) fs)),fd',c',h1,h2,h,e,b,by simp,iD z,a,λk x B q => .inl (by rw[kG (dX B)]at q;exact q),U,N,rfl,by rw[uV]⟩
theorem WA(lv:ax):∀L:ai Rg,gM (eZ L) (.inl (lv:aw))=(L.find? λy=>y.1==lv).map λy=>bQ y.2.2.2
 |[]=>rfl
 |x::L=>by
  have ih:=WA lv L;show gM ((.inl (x.1:aw),bQ x.2.2.2)::eZ L) (.inl (lv:aw))=_
  by_cases h:x.1=lv
  ·rw[Lc (by rw[h]),List.find?_cons_of_pos (by simpa using h)];rfl
  ·rw[Lb (by intro z;have j:(x.1:aw)=lv:=(by simpa using z);omega),ih,List.find?_cons_of_neg (by simpa using h)]
theorem asP(lv:ax)(L:ai Rg):rX (eZ L) (.inl (lv:aw))=eZ (L.filter λz=>z.1 != lv):=by
 unfold rX eZ;rw[List.filter_map];congr 1;apply List.filter_congr;intro x _
 by_cases h:x.1=lv
 ·simp[h]
 ·have:¬(x.1:aw)=lv:=by omega
  simp[h,this]
theorem ag0{lv:ax}{L:ai Rg}(h:(L.find? λy=>y.1==lv)=ao)(n:ax)(R:ai Rn)(q:Po):kT (eZ L) (.inl (lv:aw)) (bQ q)=eZ (L++[(lv,n,R,q)]):=by
 have hn:((eZ L).any λj=>decide (j.1=(.inl (lv:aw):Key)))=ak:=by
  rw[List.any_eq_false];intro j B;obtain⟨x,N,rfl⟩:=jA.mp B;have:=List.find?_eq_none.mp h x N;simp only[xF]at this;simp only[RH];intro z;have U:(x.1:aw)=lv:=by simpa using z
  omega
 unfold kT;rw[hn];simp[eZ]
section
variable{Z:aH}{p keep:ax}{many tk:aw}{rs:ai Rn}{L:ai Rg}
theorem al7(h:Z[p]?=ag (cG keep many tk rs L))(lv:ax)(j:aq A):SG [aF p,j,aB lv] Z=aE ((L.find? λy=>y.1==lv).isSome) Z:=by
 have e:DS ak ["Gaps"] 0 "laid" bX [aF p,j,aB lv] Z=aE (.bl (L.find? λy=>y.1==lv).isSome) Z:=by
  unfold DS;rw[dC (x:=A.int lv) (Z':=Z) (by simp)];unfold kS;rw[PF h rfl];simp only[lC,WA,Zh];rfl
 unfold SG;exact gE e
end
theorem Wb(n:ax)(rs:ai Rn):rE n (.bE (eW rs)):=by
 show eX n ((eW rs).map (·.2));rw[abG];exact uQ λa j=>by obtain⟨x,_,rfl⟩:=jA.mp j;simp only[Cl]
theorem Vz(n:ax)(q:Po):Cl n (bQ q):=by
 have z:eX n (encL q.es):=uQ λa j=>by
  obtain⟨e,_,rfl⟩:=jA.mp j;simp[bU,Cl,eX]
 simp[bQ,cQ,Cl,eX,z]
theorem Wa(n:ax)(L:ai Rg):rE n (.bE (eZ L)):=by
 show eX n ((eZ L).map (·.2));exact uQ λa q=>by
  obtain⟨z,j,rfl⟩:=jA.mp q;obtain⟨x,_,rfl⟩:=jA.mp j;exact Vz n _
section
variable{Z:aH}{p keep:ax}{many tk:aw}{rs:ai Rn}{L:ai Rg}
theorem Ob(j:ai Rg):putD "laid" (.bE (eZ j)) (eA keep many tk rs L)=eA keep many tk rs j:=rfl
theorem Oa(j:ai Rn):putD "newest" (.bE (eW j)) (eA keep many tk rs L)=eA keep many tk j L:=rfl
theorem Qm:(eA keep many tk rs L).lookup ("laid" : az)=ag (.bE (eZ L)):=rfl
theorem alS:(eA keep many tk rs L).lookup ("newest" : az)=ag (.bE (eW rs)):=rfl
theorem al6(h:Z[p]?=ag (cG keep many tk rs L))(m:1<=keep)(l:keep<1000000){x y:Rg}(e:(L.find? λz=>z.1==x.1)=ag y)(hz:y.2.2.2.es.length+x.2.2.2.es.length<=100000)(hm:(nF y.2.2.2.s x.2.2.2.s y.2.2.2.es x.2.2.2.es).length<=100000) :
  SE [aF p,ag (bQ x.2.2.2),aB x.1] Z=eR [aF p,ag (bQ (up1 keep y x).2.2.2),aB ((up1 keep y x).1)] (Z.set p (cG keep many tk rs (L.filter λz=>z.1 != x.1))):=by
 have o:=PF h (Y:=[aF p,ag (bQ x.2.2.2),aB x.1]) rfl;unfold SE;have k:tD 0 "laid" (bS (aN (bA 2 NJ) (aA (aN (bA 2 HJ) (aA (DT (gO ["Gaps"] "laid" aI) bX) (aA aW a0))) (aA (gO ["Gaps"] "keep" aI) a0))) (gN 1)) [aF p,ag (bQ x.2.2.2),aB x.1] Z=eR [aF p,ag (bQ (up1 keep y x).2.2.2),aB x.1] (Z.set p (cG keep many tk rs (L.filter λz=>z.1 != x.1))):=by
  rw[Az (Y':=[aF p,ag (bQ (up1 keep y x).2.2.2),aB x.1]) rfl h Qm rfl (fd':=.bE (eZ (L.filter λz=>z.1 != x.1))) (c':=.bE (eZ (L.filter λz=>z.1 != x.1))) ?_ rfl (.inr (Wa _ _)) ?_,Ob]
  ·have q:=QC (c:=.bE (eZ L)) o;have U:kX (fZ Z p "Gaps" "laid" (eA keep many tk rs L) (.bE (eZ L))) (.aG Z.length)=ag (Z.length,eZ L):=CK (QD o);have g:DT (gO ["Gaps"] "laid" aI) bX [aF p,ag (bQ x.2.2.2),aB x.1] (fZ Z p "Gaps" "laid" (eA keep many tk rs L) (.bE (eZ L)))=aE (bQ y.2.2.2) (fZ Z p "Gaps" "laid" (eA keep many tk rs L) (.bE (eZ (L.filter λz=>z.1 != x.1)))):=by
    unfold DT;rw[dC q,a6 ⟨_,_,U⟩];rw[dC (x:=A.int x.1) (Z':=fZ Z p "Gaps" "laid" (eA keep many tk rs L) (.bE (eZ L))) (by simp)];simp only[Dp,U,lC,WA,e,GO,asP];rw[Ay]
   have N:p<Z.length:=(dO.mp h).1;have i:gO ["Gaps"] "keep" aI [aF p,ag (bQ x.2.2.2),aB x.1] (fZ Z p "Gaps" "laid" (eA keep many tk rs L) (.bE (eZ (L.filter λz=>z.1 != x.1))))=aE (.int keep) (fZ Z p "Gaps" "laid" (eA keep many tk rs L) (.bE (eZ (L.filter λz=>z.1 != x.1)))):=by
    have f:(fZ Z p "Gaps" "laid" (eA keep many tk rs L) (.bE (eZ (L.filter λz=>z.1 != x.1))))[p]?=ag (.ins "Gaps" (putD "laid" (.val (.aG Z.length)) (eA keep many tk rs L))):=by
     rw[kP (by simpa using N),iD N]
    have hl:(putD "laid" (.val (.aG Z.length)) (eA keep many tk rs L)).lookup ("keep" : az)=ag (.val (.int keep)):=rfl;unfold gO;rw[dC (x:=A.aG p) (Z':=fZ Z p "Gaps" "laid" (eA keep many tk rs L) (.bE (eZ (L.filter λz=>z.1 != x.1)))) (by simp)];simp only[FH,f,hl];simp
   have em:aN (bA 2 HJ) (aA (DT (gO ["Gaps"] "laid" aI) bX) (aA aW a0)) [aF p,ag (bQ x.2.2.2),aB x.1] (fZ Z p "Gaps" "laid" (eA keep many tk rs L) (.bE (eZ L)))=aE (bQ (iT y.2.2.2 x.2.2.2)) (fZ Z p "Gaps" "laid" (eA keep many tk rs L) (.bE (eZ (L.filter λz=>z.1 != x.1)))):=by
    exact mU (Em g (aS (bC rfl) bN)) (aw2 _ _ _ _ _ _ _ _ _ hz)
   exact iB (a:=bQ (up1 keep y x).2.2.2) (mU (Em em (aS i bN)) (awO _ _ _ _ _ _ (by omega) (by omega) hm))
  ·intro j d B
   match j with
   |0=>exact .inl B
   |1 =>
    have:d=bQ (up1 keep y x).2.2.2:=by simpa using B.symm
    subst this;exact .inr (Vz _ _)
   |2=>exact .inl B
   |j+3=>simp at B
 rw[cA k];refine(iB (dM (bC (a:=A.int x.1) rfl) (b:=A.int 1) (by simp) (c:=A.int ((x.1+1:ax):aw)) (by simp))).trans ?_;rfl
end
section
variable{p keep:ax}{many tk:aw}{rs:ai Rn}
theorem JB{Z:aH}{c c':Cell}(h:Z[p]?=ag c):(Z.set p c')[p]?=ag c':=iD (dO.mp h).1
theorem Qt(a:1<=keep)(c:keep<=1000):∀(f n:ax) (L:ai Rg) (x:Rg) (Z:aH),Z[p]?=ag (cG keep many tk rs L)->L.length<=f->f<n->qB keep L->tT keep x ->
  ∃N B,kK keep f L x=N++[B]/\(N.find? λy=>y.1==B.1)=ao/\N.length<=L.length /\
   kC SG SE n [aF p,ag (bQ x.2.2.2),aB x.1] Z=eR [aF p,ag (bQ B.2.2.2),aB B.1] (Z.set p (cG keep many tk rs N))
 |f,0,L,x,Z,_,_,hn,_,_=>by omega
 |f,n+1,L,x,Z,h,hl,hn,gG,g=>by
  have U:=al7 h x.1 (ag (bQ x.2.2.2));cases j:L.find? λy=>y.1==x.1 with
  |none =>
   rw[j]at U;refine⟨L,x,?_,j,tV _,?_⟩
   ·cases f with
    |zero=>rfl
    |succ f=>unfold kK;rw[j]
   ·rw[FJ U,Nc h]
  |some y =>
   rw[j]at U;have hm:=Zp j;have he:y.1=x.1:=by simpa using List.find?_some j
   have b:=gG.ok y hm;have m:=b.len;have l:=g.len;have r:(L.filter λz=>z.1 != x.1).length<L.length:=by
    refine Nat.lt_of_le_of_ne (Zq _ _) λq=>?_;have:=axI.mp q y hm;simp[he]at this
   cases f with
   |zero=>omega
   |succ f =>
    have t:=al6 h a (by omega) j (x:=x) (by omega) (by unfold nF;have:=Py (s:=y.2.2.2.s) (t:=x.2.2.2.s) (y.2.2.2.es.length+x.2.2.2.es.length) 0 0 y.2.2.2.es x.2.2.2.es;omega);obtain⟨N,B,k,i,o,e⟩:=Qt a c f n (L.filter λz=>z.1 != x.1) (up1 keep y x) _ (JB h) (by omega) (by omega) ⟨gG.nd.sublist (Zs.map _),λz d=>gG.ok z (Im.mp d).1⟩ (g.up a b he);refine⟨N,B,?_,i,by omega,?_⟩
    ·unfold kK;rw[j];exact k
    ·rw[rW U t,e,uV]
theorem aw7(a:1<=keep)(N:keep<=1000){L:ai Rg}{x:Rg}{Z:aH}(h:Z[p]?=ag (cG keep many tk rs L))(hl:L.length<=1000)(gG:qB keep L)(g:tT keep x) :
  NS [.aG p,bQ x.2.2.2,.int x.1] Z=aE (.cV) (Z.set p (cG keep many tk rs (kK keep L.length L x))):=by
 obtain⟨z,B,k,i,n,f⟩:=Qt (p:=p) (many:=many) (tk:=tk) (rs:=rs) a N L.length 1000000 L x Z h cR (by omega) gG g;have m:p<Z.length:=(dO.mp h).1;show trim Z (eS (Gn [aF p,ag (bQ x.2.2.2),aB x.1] Z))=_;unfold Gn;rw[cA f];have h2:=JB (c':=cG keep many tk rs z) h;have o:=PF h2 (Y:=[aF p,ag (bQ B.2.2.2),aB B.1]) rfl;have e:tD 0 "laid" (vT aW (gO ["Gaps"] "laid" aI) bX) [aF p,ag (bQ B.2.2.2),aB B.1] (Z.set p (cG keep many tk rs z))=eR [aF p,ag (bQ B.2.2.2),aB B.1] (Z.set p (cG keep many tk rs (kK keep L.length L x))):=by
  rw[Az (Y':=[aF p,ag (bQ B.2.2.2),aB B.1]) rfl h2 Qm rfl (fd':=.bE (eZ (kK keep L.length L x))) (c':=.bE (eZ (kK keep L.length L x))) ?_ rfl (.inr (Wa _ _)) (λj d b => .inl b),Ob,uV];have q:=QC (c:=.bE (eZ z)) o;have l:kX (fZ (Z.set p (cG keep many tk rs z)) p "Gaps" "laid" (eA keep many tk rs z) (.bE (eZ z))) (.aG (Z.set p (cG keep many tk rs z)).length)=ag ((Z.set p (cG keep many tk rs z)).length,eZ z):=CK (QD o);have U:(eZ z).length<ay:=by rw[nD];simp[eZ];omega
  unfold vT;rw[fN (x:=bQ B.2.2.2) (Z':=fZ (Z.set p (cG keep many tk rs z)) p "Gaps" "laid" (eA keep many tk rs z) (.bE (eZ z))) (by simp),fN q];rw[fN (x:=A.int B.1) (Z':=fZ (Z.set p (cG keep many tk rs z)) p "Gaps" "laid" (eA keep many tk rs z) (.bE (eZ z))) (by simp)];simp only[OW,l,lC,a6 U,ag0 i B.2.1 B.2.2.1 B.2.2.2];rw[Ay,k]
 rw[e];simp only[EF];exact nB (by simp)
end
theorem JJ:∀(ps:ai Rn) (acc:aw),(gU acc ps).length<=2*ps.length
 |[],acc=>by simp[gU]
 |r::ps,acc=>by
  have ih:=JJ ps (acc+r.2);unfold gU;split <;> simp only[gZ,sD,DE] <;> omega
section
variable{Z:aH}{p keep:ax}{many tk:aw}{rs:ai Rn}{L:ai Rg}
theorem arP{Y:Ev}(h:Z[p]?=ag (cG keep many tk rs L))(z:(Y[0]?).join=(aF p)){n:aw}(h1:(Y[1]?).join=(aB n)):AB (gO ["Gaps"] "newest" aI) aW bR Y (fZ Z p "Gaps" "newest" (eA keep many tk rs L) (.bE (eW rs)))=aE (.int (tQ rs n)) (fZ Z p "Gaps" "newest" (eA keep many tk rs L) (.bE (eW rs))):=by
 have o:=JH h z;have q:=QC (c:=.bE (eW rs)) o;have j:kX (fZ Z p "Gaps" "newest" (eA keep many tk rs L) (.bE (eW rs))) (.aG Z.length)=ag (Z.length,eW rs):=CK (QD o);unfold AB;rw[dC q];rw[a6 ⟨_,_,j⟩];rw[dC (x:=.int n) (Z':=fZ Z p "Gaps" "newest" (eA keep many tk rs L) (.bE (eW rs))) (by simp[h1])];rw[dC (x:=.int 0) (Z':=fZ Z p "Gaps" "newest" (eA keep many tk rs L) (.bE (eW rs))) (by simp)];simp only[Dq,j,lC,Kz]
theorem Nz(h:Z[p]?=ag (cG keep many tk rs L))(nd:(rs.map (·.1)).Nodup)(hl:rs.length<1000)(n t:aw) :
  tD 0 "newest" (vT (aC cY (AB (gO ["Gaps"] "newest" aI) aW bR) bX) (gO ["Gaps"] "newest" aI) aW) [aF p,aB n,aB t] Z=eR [aF p,aB n,aB t] (Z.set p (cG keep many tk (cH rs n t) L)):=by
 have z:rs.length<ay:=by rw[nD];omega
 have o:=JH h (Y:=[aF p,aB n,aB t]) rfl;rw[Az (Y':=[aF p,aB n,aB t]) rfl h alS rfl (fd':=.bE (eW (cH rs n t))) (c':=.bE (eW (cH rs n t))) (by
  have q:=QC (c:=.bE (eW rs)) o;have U:kX (fZ Z p "Gaps" "newest" (eA keep many tk rs L) (.bE (eW rs))) (.aG Z.length)=ag (Z.length,eW rs):=CK (QD o);have N:(aC cY (AB (gO ["Gaps"] "newest" aI) aW bR) bX) [aF p,aB n,aB t] (fZ Z p "Gaps" "newest" (eA keep many tk rs L) (.bE (eW rs)))=aE (.int (tQ rs n+t)) (fZ Z p "Gaps" "newest" (eA keep many tk rs L) (.bE (eW rs))) :=
   dM (arP h rfl rfl) (bC (a:=.int t) rfl) (by simp)
  unfold vT;rw[fN N,fN q];rw[fN (x:=.int n) (Z':=fZ Z p "Gaps" "newest" (eA keep many tk rs L) (.bE (eW rs))) (by simp)];have b:(eW rs).length<ay:=by simpa[eW]using z
  simp only[OW,U,lC,a6 b,Od rs n t nd];rw[Ay]) rfl (.inr (Wb _ _)) (λj d B => .inl B),Oa]
theorem awQ(h:Z[p]?=ag (cG keep many tk rs L))(nd:(rs.map (·.1)).Nodup)(hl:rs.length<1000)(n t:aw)(B:(cH rs n t).length<=keep) :
  HS [.aG p,.int n,.int t] Z=aE (.cV) (Z.set p (cG keep many tk (cH rs n t) L)):=by
 show trim Z (eS (ML [aF p,aB n,aB t] Z))=_;unfold ML;rw[cA (Nz h nd hl n t)];have h2:=JB (c':=cG keep many tk (cH rs n t) L) h;have q:(eA keep many tk (cH rs n t) L).lookup ("keep" : az)=ag (.val (.int keep)):=rfl;have e:kS ["Gaps"] 0 "newest" (λj=>ret (.int j.length)) [aF p,aB n,aB t] (Z.set p (cG keep many tk (cH rs n t) L))=aE (.int (cH rs n t).length) (Z.set p (cG keep many tk (cH rs n t) L)):=by
  unfold kS;rw[JH h2 rfl];simp[eW]
 have z:gO ["Gaps"] "keep" aI [aF p,aB n,aB t] (Z.set p (cG keep many tk (cH rs n t) L))=aE (.int keep) (Z.set p (cG keep many tk (cH rs n t) L)):=by
  unfold gO;rw[dC (bC (a:=A.aG p) rfl)];simp only[FH,h2,q];simp
 rw[qM (gE (b:=ak) (dM e z (by simp;omega)))];simp only[EF];exact nB (by simp)
theorem Nj{c:ax}(q:∀r∈rs,1<=r.2)(hl:rs.length<=keep+1)(z:keep+1<=c):tT keep (0,c,rs,jN rs):=by
 have g:=LU q;have j:0<=(jN rs).s:=g.gf.s0;refine⟨g,?_,?_,?_,j⟩
 ·show(keep:aw)*0<=((0:ax):aw)*_;simp
 ·show 2 ^ 0*(keep+1)<=c;simpa using z
 ·show(gU 0 (dF rs)).length<=2*keep+2;have h1:=JJ (dF rs) 0;have h2:=AM rs;omega
theorem awP(d:1<=keep)(m:keep<=62)(h:Z[p]?=ag (cG keep many tk rs L))(nd:(rs.map (·.1)).Nodup)(hl:rs.length<1000)(n t:aw)(o:(cH rs n t).length=keep+1)(z:∀r∈cH rs n t,1<=r.2)(hw:whole (cH rs n t)<=1000000000)
  (gG:qB keep L) (hL:L.length<=1000) {c:ax} (f:keep+1<=c) :
  HS [.aG p,.int n,.int t] Z=aE (.cV) (Z.set p (cG keep many tk [] (kK keep L.length L (0,c,cH rs n t,jN (cH rs n t))))):=by
 show trim Z (eS (ML [aF p,aB n,aB t] Z))=_;unfold ML;rw[cA (Nz h nd hl n t)];have h2:=JB (c':=cG keep many tk (cH rs n t) L) h;have b:(eA keep many tk (cH rs n t) L).lookup ("keep" : az)=ag (.val (.int keep)):=rfl;have e:kS ["Gaps"] 0 "newest" (λj=>ret (.int j.length)) [aF p,aB n,aB t] (Z.set p (cG keep many tk (cH rs n t) L))=aE (.int (cH rs n t).length) (Z.set p (cG keep many tk (cH rs n t) L)):=by
  unfold kS;rw[JH h2 rfl];simp[eW]
 have i:gO ["Gaps"] "keep" aI [aF p,aB n,aB t] (Z.set p (cG keep many tk (cH rs n t) L))=aE (.int keep) (Z.set p (cG keep many tk (cH rs n t) L)):=by
  unfold gO;rw[dC (bC (a:=A.aG p) rfl)];simp only[FH,h2,b];simp
 have q:=aw7 d (by omega) h2 hL gG (Nj z (by omega) f);rw[uV]at q;have N:=Zk h2 z (by omega) hw;have em:(bK "lay" [("Gaps",bJ 3 [] NS)] aI (aA (bK "newest_pouch" [("Gaps",bJ 1 [] zS)] aI a0) (aA bR a0))) [aF p,aB n,aB t] (Z.set p (cG keep many tk (cH rs n t) L))=aE (.cV) (Z.set p (cG keep many tk (cH rs n t) (kK keep L.length L (0,c,cH rs n t,jN (cH rs n t))))) :=
  qK h2 rfl rfl (as:=[bQ (jN (cH rs n t)),.int 0]) (das:=[]) (aS (qK h2 rfl rfl (as:=[]) (das:=[]) bN rfl (by simpa using N)) (aS (by simp) bN)) rfl (by simpa using q)
 have B:=JB (c':=cG keep many tk (cH rs n t) (kK keep L.length L (0,c,cH rs n t,jN (cH rs n t)))) h;have k:(vS ["Gaps"] 0 "newest" uC) [aF p,aB n,aB t] (Z.set p (cG keep many tk (cH rs n t) (kK keep L.length L (0,c,cH rs n t,jN (cH rs n t)))))=eR [aF p,aB n,aB t] (Z.set p (cG keep many tk [] (kK keep L.length L (0,c,cH rs n t,jN (cH rs n t))))):=by
  generalize kK keep L.length L (0,c,cH rs n t,jN (cH rs n t))=L2 at B;have U:AS ["Gaps"] 0 [aF p,aB n,aB t] (Z.set p (cG keep many tk (cH rs n t) L2))=ag (p,("Gaps" : az),eA keep many tk (cH rs n t) L2):=by
   unfold AS;simp[B]
  have l:uC [aF p,aB n,aB t] (Z.set p (cG keep many tk (cH rs n t) L2))=aE (.aG (Z.set p (cG keep many tk (cH rs n t) L2)).length) (Z.set p (cG keep many tk (cH rs n t) L2)++[.bE []]):=by simp
  unfold vS;rw[U];simp only[l,arR,Fd.EG];rw[a6 ⟨rfl,rfl,by simp,Wb _ []⟩];show ag (Out.nx,_,(Z.set p _).set p (.ins "Gaps" (putD "newest" (.bE (eW [])) (eA keep many tk (cH rs n t) L2))))=_;rw[Oa,uV]
 have g:bD (aC zA (kS ["Gaps"] 0 "newest" λj=>ret (.int j.length)) (gO ["Gaps"] "keep" aI)) [aF p,aB n,aB t] (Z.set p (cG keep many tk (cH rs n t) L))=aE av (Z.set p (cG keep many tk (cH rs n t) L)):=gE (dM e i (by simp;omega));unfold eI;rw[fN g];simp only[kL];rw[cA (Y1:=[aF p,aB n,aB t]) (by unfold jC;rw[fN em]),k];simp only[EF];exact nB (by simp)
end
open Classical in
theorem AA{α:Type}{n:ax}{js:ai ax}{fi:Ev->Mo Src}{g:A->MS}{e:Ev->Mo A}{Y:Ev}{Z Z0:aH}{S:Src}(xs:ai α)(enc ab:α->A)(P:Ev->Prop)(inj:∀x y,enc x=enc y->ab x=ab y)
  (h0:fi Y Z=aE S Z0) (aK:∀ys,S.ok (Z0++[.lst ys])) (hP:P (tH n js Y)) (hS:S.ds=xs.map enc) (hl:xs.length<=1000000)
  (step:∀x∈xs,∀Y,P Y->∀ys,∃Y1,P Y1/\g (enc x) Y (Z0++[.lst ys])=eR Y1 (Z0++[.lst ys])/\e Y1 (Z0++[.lst ys])=aE (ab x) (Z0++[.lst ys]))
  (hc:∀x∈xs,Cl Z0.length (ab x)):mI ak n js fi g mV e Y Z=aE (.lst (xs.map ab)) Z0:=by
 let F:A->aq A:=λa=>if h:∃x,x∈xs/\enc x=a then ag (ab (Classical.choose h))else ao
 have hF:∀x∈xs,F (enc x)=ag (ab x):=λx hx=>by
  have h:∃y,y∈xs/\enc y=enc x:=⟨x,hx,rfl⟩;show(if h:∃y,y∈xs/\enc y=enc x then ag (ab (Classical.choose h))else ao)=_;rw[dif_pos h,inj _ _ (UR h).2]
 have ef:∀l:ai α,(∀x∈l,x∈xs)->(l.map enc).filterMap F=l.map ab:=by
  intro l
  induction l with
  |nil=>intro _;rfl
  |cons x r ih =>
   intro h;simp only[cK,TL,hF x (h x (by simp)),ih λy hy=>h y (by simp[hy])]
 have q:=OE (n:=n) (js:=js) (fi:=fi) (g:=g) (c:=mV) (e:=e) (Y:=Y) (Z:=Z) (Z0:=Z0) (S:=S) F P h0 aK hP (by rw[hS];simpa using hl) (λx hx Y hp ys=>by
  rw[hS]at hx;obtain⟨y,hy,rfl⟩:=jA.mp hx;obtain⟨Y1,h1,h2,h3⟩:=step y hy Y hp ys;exact⟨Y1,h1,h2,.inl ⟨ab y,hF y hy,by simp[mV],h3⟩⟩) (by
  rw[hS,ef xs λ_ h=>h];exact uQ λa ha=>by obtain⟨x,hx,rfl⟩:=jA.mp ha;exact hc x hx)
 rw[hS,ef xs λ_ h=>h]at q;exact q
theorem Ui(L:ai aw)(Z:aH):wX [.lst (L.map A.int)] Z=aE (.int L.sum) Z:=by
 simp[QG]
def bM(rs:ai Rn)(L:ai Rg):ai Po:=jN rs::L.map λx=>x.2.2.2
section
variable{Z:aH}{p keep:ax}{many tk:aw}{rs:ai Rn}{L:ai Rg}
theorem MX(h:Z[p]?=ag (cG keep many tk rs L))(z:∀r∈rs,1<=r.2)(hl:rs.length<=63)(hw:whole rs<=1000000000)(hL:L.length<=1000):pK [.aG p] Z=aE (.lst ((bM rs L).map bQ)) Z:=by
 have q:=Zk h z hl hw;show trim Z (eS (Gi [aF p] Z))=_;have a:bK "newest_pouch" [("Gaps",bJ 1 [] zS)] aI a0 [aF p] Z=aE (bQ (jN rs)) Z:=qK h rfl rfl (as:=[]) (das:=[]) bN rfl (by simpa using q);have U:kR ak (aA (bK "newest_pouch" [("Gaps",bJ 1 [] zS)] aI a0) a0) [aF p] Z=aE (.lst [bQ (jN rs)]) Z:=by
  unfold kR;rw[dC (aS a bN)];have h1:(1:ax)<=ay:=by decide
  simp[h1]
 have N:kS ["Gaps"] 0 "laid" (λj=>nG ak (j.map (·.2))) [aF p] Z=aE (.lst (L.map λx=>bQ x.2.2.2)) Z:=by
  unfold kS;rw[PF h rfl];simp[eZ,uZ]
 have B:=dM (g:=QY ak) (c:=.lst ((bM rs L).map bQ)) U N (by
  have:1+L.length<=ay:=by rw[nD];omega
  simp[bM,uZ];omega)
 unfold Gi bT;rw[fN B];exact nB rfl
theorem awW(h:Z[p]?=ag (cG keep many tk rs L))(N:∀r∈rs,1<=r.2)(hl:rs.length<=63)(hw:whole rs<=1000000000)(hL:L.length<=1000):vC [.aG p] Z=aE (.int (dN L)) Z:=by
 have B:=MX h N hl hw hL;show trim Z (eS (Gk [aF p] Z))=_;have d:bK "parts" [("Gaps",bJ 1 [] pK)] aI a0 [aF p] Z=aE (.lst ((bM rs L).map bQ)) Z:=qK h rfl rfl (as:=[]) (das:=[]) bN rfl (by simpa using B);have c:Gj [aF p] Z=aE (.lst ((bM rs L).map λq=>A.int q.l)) Z:=by
  refine AA (S:=srcOf (.lst ((bM rs L).map bQ)) ((bM rs L).map bQ)) (bM rs L) bQ (λq=>A.int q.l) (λj=>∃u,j=[u]) (λa b e=>by simp[bQ,cQ]at e;simp[e.2.1]) ?_ (λz=>rfl) ⟨ao,rfl⟩ rfl (by simp[bM];omega) (λq _ j ⟨u,e⟩ z=>by subst e;exact⟨[ag (bQ q)],⟨_,rfl⟩,by simp,by simp[bQ,cQ]⟩) (λq _=>by simp only[Cl]);unfold fD;rw[dC d];simp
 have U:aN wX (aA Gj a0) [aF p] Z=aE (.int (dN L)) Z:=mU (aS c bN) (by
  have e:(bM rs L).map (λq=>A.int q.l)=((bM rs L).map (·.l)).map A.int:=by simp[uZ]
  rw[e];have s:=Ui ((bM rs L).map (·.l)) Z;rw[s];simp[bM,jN,dN,uZ])
 unfold Gk bT;rw[fN U];exact nB rfl
end
theorem arX(N:ar)(g:A->Mo A)(a:A)(Z:aH)(ds:ai A)(m:ax)(h1:eG Z a=ag ds)(w:∀i d,ds[i]?=ag d->g d Z=aE (.bl (decide (m<=i))) Z):∀(k fuel st z:ax) (x:aq A),z-st<=k->k<fuel->st<=m->m<=z->z<=ds.length ->
  ∃U,kC (CQ N g) (MJ N g) fuel [ag a,ag (.adr N),aB st,aB z,x] Z=eR [ag a,ag (.adr N),aB m,aB m,U] Z:=by
 intro k
 induction k with
 |zero =>
  intro fuel st z x u v h2 p o;obtain⟨fuel,rfl⟩:∃n,fuel=n+1:=⟨fuel-1,by omega⟩;have e:st=m:=by omega
  have c:z=m:=by omega
  subst e c;exact⟨x,by rw[FJ (Z1:=Z) (by simp[CQ])]⟩
 |succ k ih =>
  intro fuel st z x u v h2 p o;obtain⟨fuel,rfl⟩:∃n,fuel=n+1:=⟨fuel-1,by omega⟩
  by_cases y:st<z
  ·have r:(st:aw)<(z:aw):=by omega
   have hd2:∀j,oJ j 2:=λj=>⟨by decide,by decide⟩
   obtain⟨B,t⟩:∃B:ax,B=(st+z)/2:=⟨_,rfl⟩;have f:((st:aw)+(z:aw))/2=(B:aw):=by omega
   have s:B<ds.length:=by omega
   have l:eM ds (B:aw)=ag ds[B]:=by rw[sA,dP s]
   have b:=w B _ (dP s);have h:(bS (aC (mQ) (aC cY bX dA) gD) (gN 4)) [ag a,ag (.adr N),aB st,aB z,x] Z=eR [ag a,ag (.adr N),aB st,aB z,aB B] Z:=by
    simp[hd2,f]
   by_cases hm:m<=B
   ·obtain⟨U,q⟩:=ih fuel st B (aB B) (by omega) (by omega) h2 hm (by omega);refine⟨U,?_⟩;rw[<-q];refine rW (Z1:=Z) (by simp[CQ,r]) ?_;rw[xA hm]at b;unfold MJ;rw[cA h];simp[h1,l,b]
   ·obtain⟨U,q⟩:=ih fuel (B+1) z (aB B) (by omega) (by omega) (by omega) p o;refine⟨U,?_⟩;rw[<-q];refine rW (Z1:=Z) (by simp[CQ,r]) ?_;rw[oF hm]at b;unfold MJ;rw[cA h];simp[h1,l,b]
  ·have e:st=m:=by omega
   have c:z=m:=by omega
   subst e c;exact⟨x,by rw[FJ (Z1:=Z) (by simp[CQ])]⟩
theorem Up(j:ar)(g:A->Mo A)(a:A)(Z:aH)(r:Rs A×aH)(h:pR (oV g a) Z=ag r):cP 5 (GC j g) [a,.adr j] Z=ag r:=by
 have h':oV g a Z=ag r:=by
  simp only[pR]at h
  revert h
  cases e:oV g a Z with
  |none=>intro h;cases h
  |some N =>
   obtain⟨x,Z'⟩:=N;cases x with
   |ok b=>intro h;exact h
   |exc b=>intro h;cases h
 obtain⟨ds,m,h1,h2,c,U,rfl⟩:=arY h';obtain⟨B,q⟩:=arX j g a Z ds m h1 U ds.length 1000000 0 ds.length ao (by omega) (by omega) (by omega) h2 cR;simp only[Jb]at q;show trim Z (eS (GC j g [ag a,ag (.adr j),ao,ao,ao] Z))=_;unfold GC;rw[cA (Y1:=[ag a,ag (.adr j),aB 0,ao,ao]) (Z':=Z) (by simp)];rw[cA (Y1:=[ag a,ag (.adr j),aB 0,aB ds.length,ao]) (Z':=Z) (by simp[h1])];rw[cA (Y1:=[ag a,ag (.adr j),aB m,aB m,B]) (Z':=Z) (f:=λz Z=>kC (CQ j g) (MJ j g) ((λ_ _=>1000000) z Z) z Z) q];simp
abbrev Nf(xs:ai E):Prop:=xs.Pairwise λa b=>a.1<=b.1
theorem Er{l s:aw}:∀{es:ai E} {lo q:aw} {B:aq aw},Ch l s lo q B es->Nf es/\(∀e∈es,lo<e.2.1)/\(∀p,B=ag p->∀e∈es,p<=e.1)/\es.Pairwise (λa b=>a.2.1<b.2.1)
 |[],_,_,_,_=>⟨.nil,by simp,by simp,.nil⟩
 |e::r,lo,q,B,h=>by
  obtain⟨h1,_,U,_,_,_,N⟩:=h;obtain⟨a,b,c,d⟩:=Er N;refine⟨zN.mpr ⟨λx j=>c e.1 rfl x j,a⟩,λx j=>?_,λp q x j=>?_,zN.mpr ⟨b,d⟩⟩
  ·rcases dI.mp j with z|z
   ·subst z;exact U
   ·have:=b x z;omega
  ·rcases dI.mp j with z|z
   ·subst z;exact h1 p q
   ·have:=h1 p q;have:=c e.1 rfl x z;omega
theorem Ie(s l d:aw)(ent:A)(es:ai E)(i:ax)(Z:aH)(j:eG Z ent=ag (encL es))(h:i<=es.length):qC [.tup [.int s,.int l,.int d,ent],.int i] Z=aE (.tup [.int (fP es i),.int (gH s es i)]) Z:=by
 have h2:(2:ax)<=ay:=by decide
 by_cases z:i=0
 ·subst z
  by_cases h1:es=[]
  ·subst h1;simp[qC,xH,j,encL,fP,gH,h2]
  ·have hl:0<es.length:=List.length_pos_iff.mpr h1;have B:eM (encL es) 0=ag (bU es[0]):=by rw[show(0:aw)=((0:ax):aw)by rfl,sA,mS,dP hl];rfl
   simp[qC,xH,j,B,hl,fP,gH,bU,h2]
 ·have N:i-1<es.length:=by omega
  have q:0<i:=by omega
  have U:eM (encL es) ((i:aw)-1)=ag (bU es[i-1]):=by rw[Xr _ _ q,mS,dP N];rfl
  by_cases hl:i<es.length
  ·have B:eM (encL es) (i:aw)=ag (bU es[i]):=by rw[sA,mS,dP hl];rfl
   simp[qC,xH,j,U,B,hl,q,fP,gH,bU,z,h2,N]
  ·have:i=es.length:=by omega
   subst this;simp[qC,xH,j,U,q,fP,gH,bU,z,h2,N]
theorem Pz{p:E->bc}:∀{es:ai E},es.Pairwise (λa b=>p a=av->p b=av)->∃m,m<=es.length/\∀(i:ax) (e:E),es[i]?=ag e->p e=decide (m<=i)
 |[],_=>⟨0,tV _,λi e h=>by simp at h⟩
 |x::z,h=>by
  obtain⟨h1,h2⟩:=zN.mp h;cases j:p x with
  |true =>
   refine⟨0,zK _,λi e he=>?_⟩;cases i with
   |zero=>simp at he;subst he;simp[j]
   |succ i=>simp at he;simp[h1 e (pF he) j]
  |false =>
   obtain⟨m,hm,q⟩:=Pz h2;refine⟨m+1,by simp;omega,λi e he=>?_⟩;cases i with
   |zero=>simp at he;subst he;simp[j]
   |succ i =>
    simp at he;rw[q i e he];simp
noncomputable def ah(x:aw)(j:bc)(e:E):bc:=decide (e.1<x)||(j&&decide (e.1=x))
theorem auP{s l d:aw}{es:ai E}(h:GF s l d es)(x:aw)(j:bc):∃m,m<=es.length/\∀(i:ax) (e:E),es[i]?=ag e->(!ah x j e)=decide (m<=i) :=
 Pz (p:=λe=>!ah x j e) ((Er h.ch).1.imp λ{a b} B q=>by
  have z:a.1<=b.1:=B;cases j <;> simp[ah]at q ⊢ <;> omega)
def At(R:ai Rn)(e:E)(p:aw):Prop:=bY R e.1<p/\p<=bZ R e.1/\e.2.1<=p/\p<=e.2.2
theorem Oj{R:ai Rn}:∀{es:ai E} {z:aw},Pl R z es->∃ps:ai aw,ps.length=es.length/\(∀p∈ps,z<p)/\ps.Pairwise (· < ·)/\∀(i:ax) (e:E),es[i]?=ag e->∃p,ps[i]?=ag p/\At R e p
 |[],_,_=>⟨[],rfl,(λ_ h=>by cases h),List.Pairwise.nil,(λi e h=>by simp at h)⟩
 |e::r,z,⟨p,h,c,b,a,U,N⟩=>by
  obtain⟨ps,n,B,m,l⟩:=Oj N;refine⟨p::ps,by simp[n],λq j=>?_,zN.mpr ⟨λq j=>B q j,m⟩,λi f he=>?_⟩
  ·rcases dI.mp j with x|x
   ·rw[x];exact h
   ·have:=B q x;omega
  ·cases i with
   |zero=>simp at he;subst he;exact⟨p,rfl,c,b,a,U⟩
   |succ i=>obtain⟨d,k,g⟩:=l i f (by simpa using he);exact⟨d,by simpa using k,g⟩
theorem Ol{R:ai Rn}{es:ai E}{z:aw}(h:Pl R z es){i:ax}{e:E}(he:es[i]?=ag e):∃p,z<p/\At R e p:=by
 obtain⟨U,_,N,_,B⟩:=Oj h;obtain⟨p,q,j⟩:=B i e he;exact⟨p,N p (pF q),j⟩
def qT(R:ai Rn)(x:aw)(j:bc):aw:=if j then bZ R x else bY R x
theorem bnd{R:ai Rn}{p:Po}(h:Gd R p)(x:aw)(j:bc)(m:ax)(hm:m<=p.es.length)(B:∀(i:ax) (e:E),p.es[i]?=ag e->(!ah x j e)=decide (m<=i)) :
  fP p.es m<=qT R x j/\qT R x j<=gH p.s p.es m/\0<=fP p.es m:=by
 have hl:∀(i:ax) (e:E),p.es[i]?=ag e->i<m->bZ R e.1<=qT R x j:=λi e he hi=>by
  have:=B i e he;have h2:decide (m<=i)=ak:=by simp;omega
  rw[h2]at this;unfold qT;cases j with
  |true =>
   have:e.1<=x:=by simp[ah]at this;omega
   simp only[kL];exact DU h.tn this
  |false =>
   have:e.1<x:=by simp[ah]at this;omega
   simp only[IG,pS];exact yB h.tn this
 have hh:∀(i:ax) (e:E),p.es[i]?=ag e->m<=i->qT R x j<=bY R e.1:=λi e he hi=>by
  have:=B i e he;have h2:decide (m<=i)=av:=by simp;omega
  rw[h2]at this;unfold qT;cases j with
  |true =>
   have:x<e.1:=by simp[ah]at this;omega
   simp only[kL];exact yB h.tn this
  |false =>
   have:x<=e.1:=by simp[ah]at this;omega
   simp only[IG,pS];exact AE h.tn this
 have N:0<=qT R x j:=by
  unfold qT;split
  ·exact HG (AD h.tn x) (sW h.tn x)
  ·exact AD h.tn x
 refine⟨?_,?_,?_⟩
 ·cases m with
  |zero=>simpa[fP]using N
  |succ m =>
   rw[tG _ _ (by omega)];obtain⟨q,_,c,b,a,U⟩:=Ol h.pl (dP (show m<p.es.length by omega));have:=hl m _ (dP (by omega)) (by omega);omega
 ·by_cases z:m<p.es.length
  ·rw[EV _ _ _ z];obtain⟨q,_,c,b,a,U⟩:=Ol h.pl (dP z);have:=hh m _ (dP z) cR;omega
  ·have e:m=p.es.length:=by omega
   rw[e,EW,h.sz];unfold qT;split
   ·exact IS h.tn x
   ·exact HG (sW h.tn x) (IS h.tn x)
 ·cases m with
  |zero=>simp[fP]
  |succ m =>
   rw[tG _ _ (by omega)];have:=(MF _ _ _ _ h.gf.ch _ (Io (show m<p.es.length by omega))).2.1;omega
theorem auO{s l d:aw}{es:ai E}(h:GF s l d es)(x:aw)(N:bc)(m:ax)(hm:m<=es.length)(c:∀(i:ax) (e:E),es[i]?=ag e->(!ah x N e)=decide (m<=i)) :
  gH s es m-fP es m<=l/\0<=fP es m/\0<=gH s es m:=by
 have hl:=h.l0;have D:=h.s0;cases m with
 |zero =>
  have h1:fP es 0=0:=rfl;rw[h1];cases es with
  |nil =>
   have:=(arM h).mpr rfl;have h2:gH s [] 0=s:=rfl;rw[h2];omega
  |cons e r =>
   have f:=(h.fst e r rfl).2;have h2:gH s (e::r) 0=e.2.2-1:=rfl;rw[h2];omega
 |succ k =>
  have q:k<es.length:=by omega
  rw[tG es k q];obtain⟨C,A,p,o⟩:=Wi es 0 0 ao k es[k] h.ch (dP q);have n:0<es[k].2.1:=((Er h.ch).2.1 es[k] (Io q))
  by_cases B:k+1<es.length
  ·rw[EV s es (k+1) B];obtain⟨y,w,v,g⟩:=o es[k+1] (dP B);rw[AV]at g;have a:=c k es[k] (dP q);have U:=c (k+1) es[k+1] (dP B);have b:ah x N es[k]=av:=by
    have:¬k+1<=k:=by omega
    rw[oF this]at a;simpa using a
   have j:ah x N es[k+1]=ak:=by
    rw[xA cR]at U;simpa using U
   have fO:es[k+1].1≠es[k].1:=λz=>by
    unfold ah at b j;rw[z]at j;rw[b]at j;cases j
   rcases g with z|z
   ·exact bp z fO
   ·omega
  ·have e:k+1=es.length:=by omega
   rw[e,EW];obtain⟨u,t⟩:=p e;omega
abbrev jK:Cell:=.tab "upto" ⟨91,53,91,84⟩ (yO "upto")
abbrev jL:Cell:=.tab "below" ⟨94,53,94,85⟩ (yO "below")
theorem abH{s l d:aw}{es:ai E}(hz:es.length<=1000)(x:aw)(m:ax)(hm:m<=es.length)(N:∀(i:ax) (e:E),es[i]?=ag e->(!ah x av e)=decide (m<=i))(ent:A)(Z:aH)(hT:Z[0]?=ag jK)(q:eG Z ent=ag (encL es)) :
  sG [.tup [.int s,.int l,.int d,ent],.int x] Z=aE (.tup [.int (fP es m),.int (gH s es m)]) Z:=by
 have U:oV (mN FY [x]) ent Z=aE (.int (m:aw)) Z:=by
  refine Uq q (by simpa using hm) (by simp;omega) λi a j=>?_;rw[mS]at j;cases e:es[i]? with
  |none=>rw[e]at j;cases j
  |some z =>
   rw[e]at j;cases j;have:=N i z e;rw[<-this];simp only[mN,pR,FY,ah]
   by_cases h1:z.1<x
   ·have h2:¬x<z.1:=by omega
    simp[bU,h1,h2]
   ·by_cases B:z.1=x
    ·have h2:¬x<z.1:=by omega
     simp[bU,h1,h2,B]
    ·have h2:x<z.1:=by omega
     simp[bU,h1,h2,B]
 have b:=Ie s l d ent es m Z q hm;have c:vN 0 "upto" ⟨91,53,91,84⟩ (yO "upto") [1] (λns a=>oV (mN FY ns) a) (aC aY aI fC) [ag (.tup [.int s,.int l,.int d,ent]),aB x] Z=aE (.int (m:aw)) Z:=by
  simp only[vN];rw[dC (x:=ent) (Z':=Z) (by simp)];rw[a6 hT];simp only[xD,pR];show(match (oV (mN FY [x]) ent Z)with
   |some (.exc _,_)=>ao
   | r=>r)=_
  rw[U]
 show trim Z (eS (Ez [ag (.tup [.int s,.int l,.int d,ent]),aB x] Z))=_;unfold Ez;simp[c,b]
theorem avR{s l d:aw}{es:ai E}(hz:es.length<=1000)(x:aw)(m:ax)(hm:m<=es.length)(B:∀(i:ax) (e:E),es[i]?=ag e->(!ah x ak e)=decide (m<=i))(ent:A)(Z:aH)(hT:Z[1]?=ag jL)(q:eG Z ent=ag (encL es)) :
  sH [.tup [.int s,.int l,.int d,ent],.int x] Z=aE (.tup [.int (fP es m),.int (gH s es m)]) Z:=by
 have N:oV (mN GD [x]) ent Z=aE (.int (m:aw)) Z:=by
  refine Uq q (by simpa using hm) (by simp;omega) λi a j=>?_;rw[mS]at j;cases e:es[i]? with
  |none=>rw[e]at j;cases j
  |some z =>
   rw[e]at j;cases j;have:=B i z e;rw[<-this];simp only[mN,pR,GD,ah]
   by_cases h1:z.1<x
   ·have h2:¬x<=z.1:=by omega
    simp[bU,h1,h2]
   ·have h2:x<=z.1:=by omega
    simp[bU,h1,h2]
 have b:=Ie s l d ent es m Z q hm;have U:vN 1 "below" ⟨94,53,94,85⟩ (yO "below") [1] (λns a=>oV (mN GD ns) a) (aC aY aI fC) [ag (.tup [.int s,.int l,.int d,ent]),aB x] Z=aE (.int (m:aw)) Z:=by
  simp only[vN];rw[dC (x:=ent) (Z':=Z) (by simp)];rw[a6 hT];simp only[xD,pR];show(match (oV (mN GD [x]) ent Z)with
   |some (.exc _,_)=>ao
   | r=>r)=_
  rw[N]
 show trim Z (eS (Fj [ag (.tup [.int s,.int l,.int d,ent]),aB x] Z))=_;unfold Fj;simp[U,b]
open Classical in
noncomputable def JS(x:aw)(cE:bc)(p:Po):ax:=if h:∃m,m<=p.es.length/\∀(i:ax) (e:E),p.es[i]?=ag e->(!ah x cE e)=decide (m<=i)then Classical.choose h else 0
noncomputable def iU(x:aw)(j:bc)(p:Po):aw:=fP p.es (JS x j p)
noncomputable def jF(x:aw)(j:bc)(p:Po):aw:=gH p.s p.es (JS x j p)
theorem EL{R:ai Rn}{p:Po}(h:Gd R p)(x:aw)(j:bc):JS x j p<=p.es.length/\∀(i:ax) (e:E),p.es[i]?=ag e->(!ah x j e)=decide (JS x j p<=i):=by
 have q:=auP h.gf x j;unfold JS;rw[dif_pos q];exact UR q
theorem UW{R:ai Rn}{p:Po}(h:Gd R p)(x:aw)(j:bc):0<=iU x j p/\iU x j p<=qT R x j/\qT R x j<=jF x j p/\jF x j p-iU x j p<=p.l:=by
 obtain⟨hm,q⟩:=EL h x j;obtain⟨U,N,B⟩:=bnd h x j _ hm q;obtain⟨z,_,_⟩:=auO h.gf x j _ hm q;exact⟨B,U,N,z⟩
theorem Ib{R:ai Rn}{p:Po}(h:Gd R p)(hz:p.es.length<=1000)(x:aw)(Z:aH)(hT:Z[0]?=ag jK)(ent:A)(j:eG Z ent=ag (encL p.es)):sG [.tup [.int p.s,.int p.l,.int p.d,ent],.int x] Z=aE (.tup [.int (iU x av p),.int (jF x av p)]) Z :=
 abH hz x _ (EL h x av).1 (EL h x av).2 ent Z hT j
theorem Ig{R:ai Rn}{p:Po}(h:Gd R p)(hz:p.es.length<=1000)(x:aw)(Z:aH)(hT:Z[1]?=ag jL)(ent:A)(j:eG Z ent=ag (encL p.es)):sH [.tup [.int p.s,.int p.l,.int p.d,ent],.int x] Z=aE (.tup [.int (iU x ak p),.int (jF x ak p)]) Z :=
 avR hz x _ (EL h x ak).1 (EL h x ak).2 ent Z hT j
noncomputable def L2S(l:ai ax):az:=⟨l.toArray⟩
@[simp] theorem aAA(l:ai ax):(L2S l).cps.toList=l:=rfl
noncomputable def σ(c:ax):ai (ai ax)->ai ax
 |[]=>[]
 |x::r=>x++r.flatMap λy=>c::y
open Classical in
theorem Le{α:Type}{n:ax}{js:ai ax}{fi:Ev->Mo Src}{g:A->MS}{e:Ev->Mo A}{Y:Ev}{Z Z0:aH}{S:Src}(xs:ai α)(enc ab:α->A)(P:Ev->Prop)(inj:∀x y,enc x=enc y->ab x=ab y)
  (h0:fi Y Z=aE S Z0) (aK:∀ys,S.ok (Z0++[.lst ys])) (hP:P (tH n js Y)) (hS:S.ds=xs.map enc) (hl:xs.length<=1000000)
  (step:∀x∈xs,∀Y,P Y->∀ys,∃Y1,P Y1/\g (enc x) Y (Z0++[.lst ys])=eR Y1 (Z0++[.lst ys])/\e Y1 (Z0++[.lst ys])=aE (ab x) (Z0++[.lst ys]))
  (hc:∀x∈xs,Cl Z0.length (ab x)):mI ak n js fi g mV e Y Z=aE (.lst (xs.map ab)) Z0:=by
 let F:A->aq A:=λa=>if h:∃x,x∈xs/\enc x=a then ag (ab (Classical.choose h))else ao
 have hF:∀x∈xs,F (enc x)=ag (ab x):=λx hx=>by
  have h:∃y,y∈xs/\enc y=enc x:=⟨x,hx,rfl⟩;show(if h:∃y,y∈xs/\enc y=enc x then ag (ab (Classical.choose h))else ao)=_;rw[dif_pos h,inj _ _ (UR h).2]
 have ef:∀l:ai α,(∀x∈l,x∈xs)->(l.map enc).filterMap F=l.map ab:=by
  intro l
  induction l with
  |nil=>intro _;rfl
  |cons x r ih =>
   intro h;simp only[cK,TL,hF x (h x (by simp)),ih λy hy=>h y (by simp[hy])]
 have q:=OE (n:=n) (js:=js) (fi:=fi) (g:=g) (c:=mV) (e:=e) (Y:=Y) (Z:=Z) (Z0:=Z0) (S:=S) F P h0 aK hP (by rw[hS];simpa using hl) (λx hx Y hp ys=>by
  rw[hS]at hx;obtain⟨y,hy,rfl⟩:=jA.mp hx;obtain⟨Y1,h1,h2,h3⟩:=step y hy Y hp ys;exact⟨Y1,h1,h2,.inl ⟨ab y,hF y hy,by simp[mV],h3⟩⟩) (by
  rw[hS,ef xs λ_ h=>h];exact uQ λa ha=>by obtain⟨x,hx,rfl⟩:=jA.mp ha;exact hc x hx)
 rw[hS,ef xs λ_ h=>h]at q;exact q
open PySem PyProof L2 V2
abbrev Sg:=ai aw
def Pe(s l:aw)(n i:ax)(p e:E):Prop:=(i=0->e.2.1=1/\e.2.2=1)/\(i+1=n->e.2.1=s/\e.2.2=s)/\(e.2.1<=e.2.2/\e.2.2-e.2.1<=l)/\(i≠0->(p.1<=e.1/\p.2.1<e.2.1/\p.2.2<e.2.2)/\oO l p e=av)
instance (s l:aw) (n i:ax) (p e:E):c2 (Pe s l n i p e):=by unfold Pe;infer_instance
theorem TB(a b j q:aw)(B:0<=a)(h1:a<=j)(h2:j<=b)(z:b-a<=q)(Z:aH):pI [.tup [.int a,.int b],.int j,.int q] Z=aE (.bl av) Z:=by
 simp[pI,Xm,B,h1,h2,z]
theorem Vu(n:aw)(L:A)(ok:aH->Prop)(Z:aH)(aK:ok Z):∀(rs:ai Rn) (u m:aw) (x y:aq A),∃z j,eY ok (lV 2 (fJ (gN 4) (fJ (gN 5) mP))) RW (bF rs) [ag L,aB n,aB u,aB m,x,y] Z
  = eR [ag L,aB n,aB (u+bY rs n),aB (m+bZ rs n),z,j] Z
 |[],u,m,x,y=>⟨x,y,by simp[bF,eY,aK,bZ,bY]⟩
 |r::rs,u,m,x,y=>by
  obtain⟨z,j,q⟩:=Vu n L ok Z aK rs (u+if r.1<n then r.2 else 0) (m+if r.1<=n then r.2 else 0) (aB r.1) (aB r.2);refine⟨z,j,?_⟩;have st:RW [ag L,aB n,aB u,aB m,aB r.1,aB r.2] Z=eR [ag L,aB n,aB (u+if r.1<n then r.2 else 0),aB (m+if r.1<=n then r.2 else 0),aB r.1,aB r.2] Z:=by
   by_cases h1:r.1<n <;> by_cases h2:r.1<=n <;> simp[RW,h1,h2]
  show eY ok _ _ (iJ r::bF rs) _ Z=_;rw[pX aK (Y0:=[ag L,aB n,aB u,aB m,aB r.1,aB r.2]) (Z0:=Z) (by simp[iJ]) st,q];simp only[bZ,bY,cK,lZ,Int.add_assoc]
theorem ak9(m:aw):m%4=0\/m%4=1\/m%4=2\/m%4=3:=by omega
theorem Vj:∀{a b:ai E},encL a=encL b->a=b
 |[],[],_=>rfl
 |[],_::_,h=>by simp[encL]at h
 |_::_,[],h=>by simp[encL]at h
 |⟨x,y,z⟩::a,⟨B,q,j⟩::b,h=>by
  simp only[encL,cK,qZ]at h;have e:=Vj (a:=a) (b:=b) h.2;have h1:=h.1;simp[bU]at h1;obtain⟨rfl,rfl,rfl⟩:=h1;rw[e]
theorem Vi{p q:Po}(h:bQ p=bQ q):p=q:=by
 cases p with
 |mk s l d es =>
  cases q with
  |mk s' j d' dR =>
   simp[bQ,cQ]at h;obtain⟨rfl,rfl,rfl,h⟩:=h;rw[Vj h]
noncomputable def gS(x y:aw):A:=.tup [.int x,.int y]
theorem Zi(ps:ai (aw×aw))(hz:ps.length<=100000)(Z:aH):HI [.lst (ps.map λp:aw×aw=>gS p.1 p.2)] Z=aE (.tup [.int (ps.map (·.1)).sum,.int (ps.map (·.2)).sum]) Z:=by
 have inj:∀x y:aw×aw,gS x.1 x.2=gS y.1 y.2->x=y:=λx y e=>by
  cases x;cases y;simp[gS]at e;simp[e]
 have z:Xd [dB (ps.map λp:aw×aw=>gS p.1 p.2)] Z=aE (.lst (ps.map λp=>A.int p.2)) Z :=
  Le (n:=1) (js:=[]) (fi:=fD aI) (g:=gN 0) (Y:=[dB (ps.map λp:aw×aw=>gS p.1 p.2)]) (Z:=Z) (Z0:=Z) (S:=srcOf (.lst (ps.map λp:aw×aw=>gS p.1 p.2)) (ps.map λp:aw×aw=>gS p.1 p.2)) ps (λp:aw×aw=>gS p.1 p.2) (λp:aw×aw=>A.int p.2) (λY=>∃y,Y=[y]) (λx y e=>by rw[inj x y e])
   (by simp) (λj=>by simp[srcOf]) ⟨ao,by simp[tH]⟩ rfl (by omega) (λp b Y B j=>by
    obtain⟨y,rfl⟩:=B;exact⟨[ag (gS p.1 p.2)],⟨_,rfl⟩,by simp,by simp[gS]⟩) (λx _=>by simp only[Cl])
 have q:Xc [dB (ps.map λp:aw×aw=>gS p.1 p.2)] Z=aE (.lst (ps.map λp=>A.int p.1)) Z :=
  Le (n:=1) (js:=[]) (fi:=fD aI) (g:=gN 0) (Y:=[dB (ps.map λp:aw×aw=>gS p.1 p.2)]) (Z:=Z) (Z0:=Z) (S:=srcOf (.lst (ps.map λp:aw×aw=>gS p.1 p.2)) (ps.map λp:aw×aw=>gS p.1 p.2)) ps (λp:aw×aw=>gS p.1 p.2) (λp:aw×aw=>A.int p.1) (λY=>∃y,Y=[y]) (λx y e=>by rw[inj x y e])
   (by simp) (λj=>by simp[srcOf]) ⟨ao,by simp[tH]⟩ rfl (by omega) (λp b Y B j=>by
    obtain⟨y,rfl⟩:=B;exact⟨[ag (gS p.1 p.2)],⟨_,rfl⟩,by simp,by simp[gS]⟩) (λx _=>by simp only[Cl])
 have U:intsOf (ps.map λp=>A.int p.1)=ag (ps.map (·.1)):=by
  have:=QG (ps.map (·.1));rw[xJ]at this;exact this
 have N:intsOf (ps.map λp=>A.int p.2)=ag (ps.map (·.2)):=by
  have:=QG (ps.map (·.2));rw[xJ]at this;exact this
 have a:(2:ax)<=ay:=by decide
 show trim Z (eS (RN [dB (ps.map λp:aw×aw=>gS p.1 p.2)] Z))=_;have e:RN [dB (ps.map λp:aw×aw=>gS p.1 p.2)] Z=ag (.ret (.tup [.int (ps.map (·.1)).sum,.int (ps.map (·.2)).sum]),[dB (ps.map λp:aw×aw=>gS p.1 p.2)],Z):=by
  unfold RN;generalize (ps.map λp=>A.int p.1)=f at q U;generalize (ps.map λp=>A.int p.2)=d at z N;generalize (ps.map λp:aw×aw=>gS p.1 p.2)=c at z q;simp[z,q,U,N,a]
 rw[e];simp only[uG];exact abY
noncomputable def pO(f:aw->bc->Po->aw)(x:aw)(j:bc)(ps:ai Po):aw:=(ps.map (f x j)).sum
section
variable{Z:aH}{p keep:ax}{many tk:aw}{rs:ai Rn}{L:ai Rg}
theorem axA(h:Z[p]?=ag (cG keep many tk rs L))(d:∀r∈rs,1<=r.2)(hl:rs.length<=63)(hw:whole rs<=1000000000)(hL:L.length<=1000)(m:∀q∈bM rs L,(∃R,Gd R q)/\q.es.length<=1000)(hT:Z[0]?=ag jK)(x:aw) :
  rC [.aG p,.int x] Z=aE (.tup [.int (pO iU x av (bM rs L)),.int (pO jF x av (bM rs L))]) Z:=by
 have U:=MX h d hl hw hL;have hlen:(bM rs L).length<=1001:=by simp[bM];omega
 show trim Z (eS (Gg [aF p,aB x] Z))=_;have k:bK "parts" [("Gaps",bJ 1 [] pK)] aI a0 [aF p,aB x] Z=aE (.lst ((bM rs L).map bQ)) Z:=qK h rfl rfl (as:=[]) (das:=[]) bN rfl (by simpa using U);have l:0<Z.length:=(dO.mp hT).1;have i:Gf [aF p,aB x] Z=aE (.lst ((bM rs L).map λq=>gS (iU x av q) (jF x av q))) Z:=by
  refine AA (S:=srcOf (.lst ((bM rs L).map bQ)) ((bM rs L).map bQ)) (bM rs L) bQ (λq=>gS (iU x av q) (jF x av q)) (λz=>∃u,z=[u,aB x]) (λa b e=>by rw[Vi e]) ?_ (λj=>rfl) ⟨ao,rfl⟩ rfl (by omega) (λq c z ⟨u,e⟩ j=>by
   subst e;obtain⟨⟨R,f⟩,n⟩:=m q c;have u:=Ib f (by omega) x (Z++[.lst j]) (by rw[kP l];exact hT) (.lst (encL q.es)) rfl;have B:sG [bQ q,.int x] (Z++[.lst j])=aE (.tup [.int (iU x av q),.int (jF x av q)]) (Z++[.lst j]):=u;generalize bQ q=P at B;exact⟨[ag P,aB x],⟨_,rfl⟩,by simp,by simp[bA,B,gS]⟩) (λq _=>by simp[gS,Cl,eX])
  unfold fD;rw[dC k];simp
 have N:=Zi ((bM rs L).map λq=>(iU x av q,jF x av q)) (by simp;omega) Z;simp only[xJ]at N;have g:aN (bA 1 HI) (aA Gf a0) [aF p,aB x] Z=aE (.tup [.int (pO iU x av (bM rs L)),.int (pO jF x av (bM rs L))]) Z:=mU (aS i bN) (by
  simp only[bA];exact N)
 unfold Gg bT;rw[fN g];exact nB rfl
theorem axB(h:Z[p]?=ag (cG keep many tk rs L))(d:∀r∈rs,1<=r.2)(hl:rs.length<=63)(hw:whole rs<=1000000000)(hL:L.length<=1000)(m:∀q∈bM rs L,(∃R,Gd R q)/\q.es.length<=1000)(hT:Z[1]?=ag jL)(x:aw) :
  rD [.aG p,.int x] Z=aE (.tup [.int (pO iU x ak (bM rs L)),.int (pO jF x ak (bM rs L))]) Z:=by
 have U:=MX h d hl hw hL;have hlen:(bM rs L).length<=1001:=by simp[bM];omega
 show trim Z (eS (Gr [aF p,aB x] Z))=_;have k:bK "parts" [("Gaps",bJ 1 [] pK)] aI a0 [aF p,aB x] Z=aE (.lst ((bM rs L).map bQ)) Z:=qK h rfl rfl (as:=[]) (das:=[]) bN rfl (by simpa using U);have l:1<Z.length:=(dO.mp hT).1;have i:Gq [aF p,aB x] Z=aE (.lst ((bM rs L).map λq=>gS (iU x ak q) (jF x ak q))) Z:=by
  refine AA (S:=srcOf (.lst ((bM rs L).map bQ)) ((bM rs L).map bQ)) (bM rs L) bQ (λq=>gS (iU x ak q) (jF x ak q)) (λz=>∃u,z=[u,aB x]) (λa b e=>by rw[Vi e]) ?_ (λj=>rfl) ⟨ao,rfl⟩ rfl (by omega) (λq c z ⟨u,e⟩ j=>by
   subst e;obtain⟨⟨R,f⟩,n⟩:=m q c;have u:=Ig f (by omega) x (Z++[.lst j]) (by rw[kP l];exact hT) (.lst (encL q.es)) rfl;have B:sH [bQ q,.int x] (Z++[.lst j])=aE (.tup [.int (iU x ak q),.int (jF x ak q)]) (Z++[.lst j]):=u;generalize bQ q=P at B;exact⟨[ag P,aB x],⟨_,rfl⟩,by simp,by simp[bA,B,gS]⟩) (λq _=>by simp[gS,Cl,eX])
  unfold fD;rw[dC k];simp
 have N:=Zi ((bM rs L).map λq=>(iU x ak q,jF x ak q)) (by simp;omega) Z;simp only[xJ]at N;have g:aN (bA 1 HI) (aA Gq a0) [aF p,aB x] Z=aE (.tup [.int (pO iU x ak (bM rs L)),.int (pO jF x ak (bM rs L))]) Z:=mU (aS i bN) (by
  simp only[bA];exact N)
 unfold Gr bT;rw[fN g];exact nB rfl
end
noncomputable def eT(ps:ai Po):ai aw:=(ps.map λq=>q.es.map (·.1)).flatten
theorem amN{Ψ:aH}{n0:ax}{acc:ai aw}(h:Ψ[n0]?=ag (.lst (acc.map A.int)))(q:Po)(hL:acc.length+q.es.length<=100000)(x:aq A) :
  MM [x,aF n0,ag (bQ q)] Ψ=eR [x,aF n0,ag (bQ q)] (Ψ.set n0 (.lst ((acc++q.es.map (·.1)).map A.int))):=by
 have f:Xq [x,aF n0,ag (bQ q)] Ψ=aE (.lst (q.es.map λe=>A.int e.1)) Ψ:=by
  refine AA (S:=srcOf (.lst (encL q.es)) (encL q.es)) q.es bU (λe=>A.int e.1) (λj=>∃u,j=[u]) (λa b e=>by simp[bU]at e;rw[e.1]) ?_ (λz=>rfl) ⟨ao,rfl⟩ rfl (by omega) (λe _ j ⟨u,N⟩ z=>by subst N;exact⟨[ag (bU e)],⟨_,rfl⟩,by simp,by simp[bU]⟩) (λe _=>by simp only[Cl]);unfold fD;rw[dC (dM (bC (a:=bQ q) rfl) (b:=A.int 3) (by simp) (c:=.lst (encL q.es)) (by simp[bQ,cQ]))];simp
 have U:oH Ψ (.aG n0)=ag (n0,acc.map A.int):=uR h;have hi:uJ Ψ (.aG n0):=wK (iV h);have B:acc.length+q.es.length<=ay:=by rw[nD];omega
 have d:acc.map A.int++q.es.map (λe=>A.int e.1)=(acc++q.es.map (·.1)).map A.int:=by simp[uZ]
 unfold MM jC;rw[fN (x:=A.cV) (Z':=Ψ.set n0 (.lst ((acc++q.es.map (·.1)).map A.int))) (by
  unfold lA;rw[dC (x:=A.aG n0) (Z':=Ψ) (by simp)];rw[a6 hi,dC (aS f bN)];rw[<-d];simp[U,B,EM])]
theorem Qx{n0:ax}(x:aq A)(ok:aH->Prop):∀(ps:ai Po) (acc:ai aw) (y:aq A) (Ψ:aH),Ψ[n0]?=ag (.lst (acc.map A.int))->acc.length+(eT ps).length<=100000->(∀Z',ok Z') ->
  ∃j,eY ok (gN 2) MM (ps.map bQ) [x,aF n0,y] Ψ=eR [x,aF n0,j] (Ψ.set n0 (.lst ((acc++eT ps).map A.int)))
 | [],acc,y,Ψ,h,_,aK=>⟨y,by
   rw[pG,zB (aK _)];simp[eT,Nc h]⟩
 |q::ps,acc,y,Ψ,h,z,aK=>by
  have hn:n0<Ψ.length:=(dO.mp h).1;have hl:(eT (q::ps)).length=q.es.length+(eT ps).length:=by simp[eT]
  have t:=amN h q (by omega) x;obtain⟨j,e⟩:=Qx x ok ps (acc++q.es.map (·.1)) (ag (bQ q)) (Ψ.set n0 (.lst ((acc++q.es.map (·.1)).map A.int))) (iD hn) (by simp;omega) aK;refine⟨j,?_⟩;rw[cK,pX (aK _) (Y0:=[x,aF n0,ag (bQ q)]) (Z0:=Ψ) (by simp) t,e,uV];simp[eT]
section
variable{Z:aH}{p keep:ax}{many tk:aw}{rs:ai Rn}{L:ai Rg}
theorem Zl(h:Z[p]?=ag (cG keep many tk rs L))(z:∀r∈rs,1<=r.2)(hl:rs.length<=63)(hw:whole rs<=1000000000)(hL:L.length<=1000)(hz:(eT (bM rs L)).length<=100000):vD [.aG p] Z=aE (.lst ((eT (bM rs L)).map A.int)) Z:=by
 have b:p<Z.length:=(dO.mp h).1;have h1:(Z++[Cell.lst []])[p]?=ag (cG keep many tk rs L):=by rw[kP b];exact h
 have q:=MX h1 z hl hw hL;show trim Z (eS (Gp [aF p,ao,ao] Z))=_;unfold Gp;rw[cA (Y1:=[aF p,aF Z.length,ao]) (Z':=Z++[.lst []]) (by simp)];have c:bK "parts" [("Gaps",bJ 1 [] pK)] aI a0 [aF p,aF Z.length,ao] (Z++[.lst []])=aE (.lst ((bM rs L).map bQ)) (Z++[.lst []]):=qK h1 rfl rfl (as:=[]) (das:=[]) bN rfl (by simpa using q);obtain⟨j,e⟩:=Qx (n0:=Z.length) (aF p) (srcOf (.lst ((bM rs L).map bQ)) ((bM rs L).map bQ)).ok (bM rs L) [] ao (Z++[.lst []]) (by simp) (by simpa using hz) (λ_=>rfl);have U:jX (fD (bK "parts" [("Gaps",bJ 1 [] pK)] aI a0)) (gN 2) MM [aF p,aF Z.length,ao] (Z++[.lst []])=eR [aF p,aF Z.length,j] ((Z++[Cell.lst []]).set Z.length (.lst ((eT (bM rs L)).map A.int))):=by
  unfold jX;rw[fN (x:=srcOf (.lst ((bM rs L).map bQ)) ((bM rs L).map bQ)) (Z':=Z++[.lst []]) (by unfold fD;rw[dC c];simp)];exact e
 rw[cA U];have es:(Z++[Cell.lst []]).set Z.length (.lst ((eT (bM rs L)).map A.int))=Z++[.lst ((eT (bM rs L)).map A.int)]:=by simp
 rw[es];have N:bT (vM 1) [aF p,aF Z.length,j] (Z++[.lst ((eT (bM rs L)).map A.int)])=ag (.ret (.lst ((eT (bM rs L)).map A.int)),[aF p,aF Z.length,j],Z++[.dead]):=by simp
 rw[N];simp only[uG];exact rM (by simp only[Cl];exact uQ λa B=>by obtain⟨x,_,rfl⟩:=jA.mp B;simp only[Cl])
theorem aw9(h:Z[p]?=ag (cG keep many tk rs L))(q:∀r∈rs,1<=r.2)(hl:rs.length<=63)(hw:whole rs<=1000000000)(hL:L.length<=1000)(hz:(eT (bM rs L)).length<=100000):HR [.aG p] Z=aE (.int (eT (bM rs L)).length) Z:=by
 have j:=Zl h q hl hw hL hz;show trim Z (eS (Ge [aF p] Z))=_;have B:bK "kept" [("Gaps",bJ 1 [] vD)] aI a0 [aF p] Z=aE (.lst ((eT (bM rs L)).map A.int)) Z:=qK h rfl rfl (as:=[]) (das:=[]) bN rfl (by simpa using j);have z:aN lW (aA (bK "kept" [("Gaps",bJ 1 [] vD)] aI a0) a0) [aF p] Z=aE (.int (eT (bM rs L)).length) Z:=mU (aS B bN) (by simp);unfold Ge bT;rw[fN z];exact nB rfl
theorem Am(ps:ai Po):(eT ps).length=(ps.map λq=>q.es.length).sum:=by
 induction ps with
 |nil=>rfl
 |cons q ps ih =>
  have:eT (q::ps)=q.es.map (·.1)++eT ps:=by simp[eT]
  rw[this,sD,ih];simp
theorem apM{b:ax}(j:1<=keep)(hr:rs.length<=keep)(gG:qB keep L)(hb:∀x∈L,x.1<b):(eT (bM rs L)).length<=(2*keep+2)*(b+2):=by
 have h1:=gG.alX hb;have h2:=JJ (dF rs) 0;have q:=AM rs;have e:(eT (bM rs L)).length=(gU 0 (dF rs)).length+QE L:=by
  rw[Am,bM,cK,lZ,xJ];rfl
 rw[e,Nat.mul_comm (2*keep+2),Nat.add_mul];omega
end
theorem awZ(e:E)(s l d:aw)(ent:A)(es:ai E)(i:ax)(Z:aH)(z:∀j,eG (Z++j) ent=ag (encL es))(h:i<=es.length):xO [bU e,.tup [.int s,.int l,.int d,ent],.int i] Z=aE (bU (e.1,e.2.1+fP es i,e.2.2+gH s es i)) Z:=by
 have B:(3:ax)<=ay:=by decide
 have N:eG Z ent=ag (encL es):=by simpa using z []
 have q:=Ie s l d ent es i Z N h;simp[xO,Fe,q,bU,B]
theorem axC(ent:A)(es fs:ai E)(i j:ax)(Z:aH)(hi:i<=es.length)(c:j<=fs.length)(q:eG Z ent=ag (encL es)):tW [ent,.int i,.lst (encL fs),.int j] Z=aE (.bl (jT (es.drop i) (fs.drop j))) Z:=by
 by_cases h1:i=es.length
 ·subst h1;simp[tW,CP,q,jT]
 ·have hl:i<es.length:=by omega
  have b:eM (encL es) (i:aw)=ag (bU es[i]):=by rw[tR,mS,dP hl];rfl
  have B:¬(i:aw)=(es.length:aw):=by omega
  by_cases h2:j=fs.length
  ·subst h2;have z:jT (es.drop i) []=av:=by rw[qY hl];rfl
   simp[tW,CP,q,z,B]
  ·have N:j<fs.length:=by omega
   have a:eM (encL fs) (j:aw)=ag (bU fs[j]):=by rw[tR,mS,dP N];rfl
   have U:¬(j:aw)=(fs.length:aw):=by omega
   have z:jT (es.drop i) (fs.drop j)=decide (es[i].1<=fs[j].1):=by rw[qY hl,qY N];rfl
   simp[tW,CP,q,z,B,U,b,a,bU]
theorem alC(ent:A)(N d k B c g:aw)(es fs:ai E)(i j:ax)(acc:ai E)(Z:aH)(hi:i<=es.length)(r:j<=fs.length)(t:acc.length<1000000)(p:∀n,eG (Z++n) ent=ag (encL es)) :
  GA [ag (.tup [.int N,.int d,.int k,ent]),ag (cQ B c g fs),aF Z.length,aB i,aB j] (Z++[.lst (encL acc)]) =
   if jT (es.drop i) (fs.drop j)then(match es[i]? with
    |some e=>ag (.nx,[ag (.tup [.int N,.int d,.int k,ent]),ag (cQ B c g fs),aF Z.length,aB (i+1:ax),aB j],Z++[.lst (encL (acc++[(e.1,e.2.1+fP fs j,e.2.2+gH B fs j)]))])
    | none=>ao)
   else(match fs[j]? with
    |some f=>ag (.nx,[ag (.tup [.int N,.int d,.int k,ent]),ag (cQ B c g fs),aF Z.length,aB i,aB (j+1:ax)],Z++[.lst (encL (acc++[(f.1,f.2.1+fP es i,f.2.2+gH N es i)]))])
    | none=>ao):=by
 have l:=p [.lst (encL acc)];have z:=axC ent es fs i j (Z++[.lst (encL acc)]) hi r l;have hl:uJ (Z++[.lst (encL acc)]) (.aG Z.length):=wK (iV (ds:=encL acc) (by simp));have m:oH (Z++[.lst (encL acc)]) (.aG Z.length)=ag (Z.length,encL acc):=uR (by simp);have o:acc.length<ay:=by rw[nD];omega
 have s:∀x:E,encL acc++[bU x]=encL (acc++[x]):=λx=>by simp[encL]
 cases a:jT (es.drop i) (fs.drop j)with
 |true =>
  have q:i<es.length:=by
   by_cases h:i<es.length
   ·exact h
   ·rw[List.drop_eq_nil_of_le (by omega)]at a;cases a
  have b:eM (encL es) (i:aw)=ag (bU es[i]):=by rw[tR,mS,dP q];rfl
  have U:=λZ=>Ic es[i] B c g fs j Z r;rw[a]at z;simp only[cQ]at U ⊢;simp[GA,l,z,U,b,hl,m,o,s,q]
 |false =>
  have q:j<fs.length\/fs.length<=j:=by omega
  rcases q with q|q
  ·have b:eM (encL fs) (j:aw)=ag (bU fs[j]):=by rw[tR,mS,dP q];rfl
   have U:=awZ fs[j] N d k ent es i (Z++[.lst (encL acc)]) (λn=>by rw[DG];exact p _) hi;rw[a]at z;simp only[cQ]at U ⊢;simp[GA,l,z,U,b,hl,m,o,s,q]
  ·have b:eM (encL fs) (j:aw)=ao:=by rw[tR,mS,NB q];rfl
   rw[a]at z;simp only[cQ]at ⊢;simp[GA,l,z,b,hl,m,q]
theorem Qa(ent:A)(B U b z N a:aw)(es fs:ai E)(i j:ax)(k:aq A)(Z:aH)(q:eG Z ent=ag (encL es)) :
  CO [ag (.tup [.int B,.int U,.int b,ent]),ag (cQ z N a fs),k,aB i,aB j] Z=aE (decide (i<es.length\/j<fs.length)) Z:=by
 by_cases h1:i<es.length
 ·simp[CO,cQ,q,h1]
 ·by_cases h2:j<fs.length
  ·simp[CO,cQ,q,h1,h2]
  ·simp[CO,cQ,q,h1,h2]
theorem alE(ent:A)(b e l a d h:aw)(es fs:ai E)(Z:aH)(o:∀s,eG (Z++s) ent=ag (encL es)):∀(m n i j:ax) (acc:ai E),i<=es.length->j<=fs.length->m=(es.length-i)+(fs.length-j)->m<n->acc.length+m<=1000000 ->
  kC CO GA n [ag (.tup [.int b,.int e,.int l,ent]),ag (cQ a d h fs),aF Z.length,aB i,aB j] (Z++[.lst (encL acc)]) =
   ag (.nx,[ag (.tup [.int b,.int e,.int l,ent]),ag (cQ a d h fs),aF Z.length,aB es.length,aB fs.length],Z++[.lst (encL (acc++dU b a m (fP es i) (fP fs j) (es.drop i) (fs.drop j)))]):=by
 intro m
 induction m with
 |zero =>
  intro n i j acc hi f hm hn t;obtain⟨n,rfl⟩:∃k,n=k+1:=⟨n-1,by omega⟩;have h1:i=es.length:=by omega
  have h2:j=fs.length:=by omega
  subst h1 h2;rw[FJ (Z1:=Z++[.lst (encL acc)]) (by rw[Qa _ _ _ _ _ _ _ _ _ _ _ _ _ (o _)];simp)];simp[dU]
 |succ m ih =>
  intro n i j acc hi f hm hn t;obtain⟨n,rfl⟩:∃k,n=k+1:=⟨n-1,by omega⟩;have g:CO [ag (.tup [.int b,.int e,.int l,ent]),ag (cQ a d h fs),aF Z.length,aB i,aB j] (Z++[.lst (encL acc)])=aE av (Z++[.lst (encL acc)]):=by
   rw[Qa _ _ _ _ _ _ _ _ _ _ _ _ _ (o _),xA (by omega)]
  have z:=alC ent b e l a d h es fs i j acc Z hi f (by omega) o
  by_cases c:i<es.length
  ·have r:es[i]?=ag es[i]:=dP c;have U:=qY c
   by_cases q:j<fs.length
   ·have p:fs[j]?=ag fs[j]:=dP q;have N:=qY q
    by_cases hle:es[i].1<=fs[j].1
    ·have B:jT (es.drop i) (fs.drop j)=av:=by rw[U,N];simp[jT,hle]
     rw[B,r]at z;rw[rW g z,ih n (i+1) j _ (by omega) f (by omega) (by omega) (by simp;omega),U,N,dU,a6 hle,tG _ _ c,EV _ _ _ q,<-N];simp
    ·have B:jT (es.drop i) (fs.drop j)=ak:=by rw[U,N];simp[jT];omega
     rw[B,p]at z;rw[rW g z,ih n i (j+1) _ hi (by omega) (by omega) (by omega) (by simp;omega),U,N,dU,a7 hle,tG _ _ q,EV _ _ _ c,<-U];simp
   ·have v:j=fs.length:=by omega
    subst v;have B:jT (es.drop i) (fs.drop fs.length)=av:=by rw[U,xK];rfl
    rw[B,r]at z;rw[rW g z,ih n (i+1) fs.length _ (by omega) f (by omega) (by omega) (by simp;omega),U,xK,dU,tG _ _ c,EW];simp
  ·have u:i=es.length:=by omega
   subst u;have q:j<fs.length:=by omega
   have p:fs[j]?=ag fs[j]:=dP q;have N:=qY q;have B:jT (es.drop es.length) (fs.drop j)=ak:=by rw[xK];rfl
   rw[B,p]at z;rw[rW g z,ih n es.length (j+1) _ hi (by omega) (by omega) (by omega) (by simp;omega),N,xK,dU,tG _ _ q,EW];simp
theorem axF(ent:A)(z N a j B U:aw)(es fs:ai E)(Z:aH)(c:∀b,eG (Z++b) ent=ag (encL es))(h:es.length+fs.length<=100000):UC [.tup [.int z,.int N,.int a,ent],cQ j B U fs] Z=aE (.aG Z.length) (Z++[.lst (encL (nF z j es fs))]):=by
 have q:=alE ent z N a j B U es fs Z c (es.length+fs.length) 1000000 0 0 [] AW AW (by omega) (by omega) (by simp;omega);have d:encL []=[]:=rfl;have l0:∀es,fP es 0=0:=λ_=>rfl;simp only[d,l0,List.drop_zero,DB,Int.ofNat_zero,Jb]at q;have e:(0:ax)<=ay:=zK _;simp[UC,Xf,q,nF];exact Lp
theorem aw1(ent:A)(z N a j B U:aw)(es fs:ai E)(Z:aH)(c:∀b,eG (Z++b) ent=ag (encL es))(h:es.length+fs.length<=100000):NO [.tup [.int z,.int N,.int a,ent],cQ j B U fs] Z=aE (.tup [.int (z+j),.int (N+B),.int (max a U),.aG Z.length]) (Z++[.lst (encL (nF z j es fs))]):=by
 have q:=axF ent z N a j B U es fs Z c h;have d:(4:ax)<=ay:=by decide
 simp only[cQ]at q ⊢;simp[NO,Xh,q,d];simp[trim,Cl,eX]
def gL(P:Po)(ps:ai Po):Po:=ps.foldl iT P
noncomputable abbrev tupP(P:Po)(ent:A):A:=.tup [.int P.s,.int P.l,.int P.d,ent]
noncomputable def AY(P:Po)(ps:ai Po):ax:=P.es.length+(ps.map λq=>q.es.length).sum
theorem alG(P q:Po):(iT P q).es.length=P.es.length+q.es.length:=by
 show(nF P.s q.s P.es q.es).length=_;unfold nF;rw[Py _ _ _ _ _ _ _ rfl]
theorem Oe(x:aq A)(ok:aH->Prop)(aK:∀Z',ok Z'):∀(ps:ai Po) (P:Po) (ent:A) (y:aq A) (Ψ:aH),(∀j,eG (Ψ++j) ent=ag (encL P.es))->AY P ps<=100000 ->
  ∃b N j,eY ok (gN 2) SD (ps.map bQ) [x,ag (tupP P ent),y] Ψ=eR [x,ag (tupP (gL P ps) N),b] (Ψ++j)/\(∀B,eG (Ψ++j++B) N=ag (encL (gL P ps).es)) /\
   (ps=[]\/∃c,N=.aG c/\Ψ.length<=c/\c<(Ψ++j).length/\(Ψ++j)[c]?=ag (.lst (encL (gL P ps).es)))
 |[],P,ent,y,Ψ,e,_=>⟨y,ent,[],by rw[pG,zB (aK _)];simp[gL],by simpa[gL]using e,.inl rfl⟩
 |q::ps,P,ent,y,Ψ,e,o=>by
  have hl:AY P (q::ps)=P.es.length+q.es.length+(ps.map λq=>q.es.length).sum:=by simp[AY];omega
  have m:NO [tupP P ent,bQ q] Ψ=aE (tupP (iT P q) (.aG Ψ.length)) (Ψ++[.lst (encL (iT P q).es)]):=aw1 ent P.s P.l P.d q.s q.l q.d P.es q.es Ψ e (by omega);have t:SD [x,ag (tupP P ent),ag (bQ q)] Ψ=eR [x,ag (tupP (iT P q) (.aG Ψ.length)),ag (bQ q)] (Ψ++[.lst (encL (iT P q).es)]):=iB (i:=1) (Y:=[x,ag (tupP P ent),ag (bQ q)]) (mU (aS (bC (a:=tupP P ent) rfl) (aS (bC (a:=bQ q) rfl) bN)) m);have g:∀j,(Ψ++[Cell.lst (encL (iT P q).es)]++j)[Ψ.length]?=ag (.lst (encL (iT P q).es)):=λj=>by simp
  obtain⟨b,N,j,U,f,n⟩:=Oe x ok aK ps (iT P q) (.aG Ψ.length) (ag (bQ q)) (Ψ++[.lst (encL (iT P q).es)]) (λj=>oM (iV (g j))) (by simp only[AY,alG];omega);refine⟨b,N,[.lst (encL (iT P q).es)]++j,?_,?_,.inr ?_⟩
  ·rw[cK,pX (aK _) (Y0:=[x,ag (tupP P ent),ag (bQ q)]) (Z0:=Ψ) (by simp) t,U];simp[gL]
  ·intro B;have:=f B;simpa[gL]using this
  ·rcases n with z|⟨c,h1,h2,k,h⟩
   ·subst z;have p:=f [];refine⟨Ψ.length,?_,tV _,by simp,by simp[gL]⟩;rw[pG,zB (aK _)]at U;simp[gL]at U;exact U.1.1.symm
   ·exact⟨c,h1,by simp at h2;omega,by simpa using k,by simpa[gL]using h⟩
noncomputable abbrev P0:Po:=⟨0,0,0,[]⟩
section
variable{Z:aH}{p keep:ax}{many tk:aw}{rs:ai Rn}{L:ai Rg}
theorem axG(Z:aH):NQ [] Z=aE (tupP P0 (.lst [])) Z:=by
 have j:(4:ax)<=ay:=by decide
 simp[NQ,Xj,j]
theorem awS(h:Z[p]?=ag (cG keep many tk rs L))(N:∀r∈rs,1<=r.2)(hl:rs.length<=63)(hw:whole rs<=1000000000)(hL:L.length<=1000)(hz:AY P0 (bM rs L)<=100000) :
  ∃c j,pJ [.aG p] Z=aE (tupP (gL P0 (bM rs L)) (.aG c)) (Z++j)/\Z.length<=c/\(Z++j)[c]?=ag (.lst (encL (gL P0 (bM rs L)).es)):=by
 have B:=MX h N hl hw hL;have g:bK "parts" [("Gaps",bJ 1 [] pK)] aI a0 [aF p,ag (tupP P0 (.lst [])),ao] Z=aE (.lst ((bM rs L).map bQ)) Z:=qK h rfl rfl (as:=[]) (das:=[]) bN rfl (by simpa using B);obtain⟨q,l,j,f,_,e⟩:=Oe (aF p) (srcOf (.lst ((bM rs L).map bQ)) ((bM rs L).map bQ)).ok (λ_=>rfl) (bM rs L) P0 (.lst []) ao Z (λ_=>rfl) hz
 rcases e with z|⟨c,rfl,h2,k,a⟩
 ·cases z
 ·refine⟨c,j,?_,h2,a⟩;show trim Z (eS (Gh [aF p,ao,ao] Z))=_;unfold Gh;rw[cA (Y1:=[aF p,ag (tupP P0 (.lst [])),ao]) (Z':=Z) (iB (i:=1) (Y:=[aF p,ao,ao]) (mU bN (by simpa[bA]using axG Z)))];have d:jX (fD (bK "parts" [("Gaps",bJ 1 [] pK)] aI a0)) (gN 2) SD [aF p,ag (tupP P0 (.lst [])),ao] Z=eR [aF p,ag (tupP (gL P0 (bM rs L)) (.aG c)),q] (Z++j):=by
   unfold jX;rw[fN (x:=srcOf (.lst ((bM rs L).map bQ)) ((bM rs L).map bQ)) (Z':=Z) (by unfold fD;rw[dC g];simp)];exact f
  rw[cA d];have b:bT aW [aF p,ag (tupP (gL P0 (bM rs L)) (.aG c)),q] (Z++j)=ag (.ret (tupP (gL P0 (bM rs L)) (.aG c)),[aF p,ag (tupP (gL P0 (bM rs L)) (.aG c)),q],Z++j):=by simp
  rw[b];simp only[uG];have U:¬c<Z.length:=by omega
  simp[trim,tupP,Cl,eX,U]
end
noncomputable def mM(a:E->bc):aw->ai E->aw
 |z,[]=>z
 |z,e::es=>if a e then mM a e.2.1 es else z
noncomputable def mO(a:E->bc)(s:aw):ai E->aw
 |[]=>s
 |e::es=>if a e then mO a s es else e.2.2-1
def Mon(a:E->bc):Prop:=(∀e f:E,e.1=f.1->a e=a f)/\∀e f:E,e.1<=f.1->a f=av->a e=av
theorem ak8(x:aw)(j:bc):Mon (ah x j):=⟨λe f h=>by simp[ah,h],λe f h q=>by cases j <;> simp[ah]at q ⊢ <;> omega⟩
theorem MN{a:E->bc}(U:Mon a)(s t:aw):∀(n:ax) (es fs:ai E) (c8 j:aw),es.length+fs.length<=n ->
  mM a (c8+j) (dU s t n c8 j es fs)=mM a c8 es+mM a j fs/\mO a (s+t) (dU s t n c8 j es fs)=mO a s es+mO a t fs
 |0,es,fs,c8,j,h=>by
  have h1:es=[]:=zO (by omega);have h2:fs=[]:=zO (by omega);subst h1;subst h2;exact⟨rfl,rfl⟩
 |n+1,[],[],c8,j,_=>⟨rfl,rfl⟩
 |n+1,e::es,[],c8,j,h=>by
  obtain⟨N,B⟩:=MN U s t n es [] e.2.1 j (by simp at h ⊢;omega);simp only[dU,mM,mO]at N B ⊢;rw[U.1 (e.1,e.2.1+j,e.2.2+t) e rfl]
  by_cases q:a e=av
  ·simp only[q,kL,N,B,and_self]
  ·simp only[a7 q];constructor <;> first|trivial|omega
 |n+1,[],f::fs,c8,j,h=>by
  obtain⟨N,B⟩:=MN U s t n [] fs c8 f.2.1 (by simp at h ⊢;omega);simp only[dU,mM,mO]at N B ⊢;rw[U.1 (f.1,f.2.1+c8,f.2.2+s) f rfl,NG f.2.1 c8]
  by_cases q:a f=av
  ·simp only[q,kL,N,B,and_self]
  ·simp only[a7 q];constructor <;> first|trivial|omega
 |n+1,e::es,f::fs,c8,j,h=>by
  simp only[dU]
  by_cases hle:e.1<=f.1
  ·obtain⟨N,B⟩:=MN U s t n es (f::fs) e.2.1 j (by simp at h ⊢;omega);rw[a6 hle];simp only[mM,mO]at N B ⊢;rw[U.1 (e.1,e.2.1+j,e.2.2+(f.2.2-1)) e rfl]
   by_cases q:a e=av
   ·simp only[q,kL,N,B,and_self]
   ·have b:¬a f=av:=λz=>q (U.2 e f hle z);simp only[a7 q,a7 b];constructor <;> first|trivial|omega
  ·obtain⟨N,B⟩:=MN U s t n (e::es) fs c8 f.2.1 (by simp at h ⊢;omega);rw[a7 hle];simp only[mM,mO]at N B ⊢;rw[U.1 (f.1,f.2.1+c8,f.2.2+(e.2.2-1)) f rfl,NG f.2.1 c8]
   by_cases q:a f=av
   ·simp only[q,kL,N,B,and_self]
   ·have b:¬a e=av:=λz=>q (U.2 f e (by omega) z);simp only[a7 q,a7 b];constructor <;> first|trivial|omega
theorem Yh{a:E->bc}(s:aw):∀(es:ai E) (m:ax) (z:aw),m<=es.length->(∀(i:ax) (e:E),es[i]?=ag e->(!a e)=decide (m<=i)) ->
  mM a z es=(if m=0 then z else(es[m-1]?.getD (0,0,0)).2.1)/\mO a s es=gH s es m
 |[],m,z,hm,_=>by
  have:m=0:=by simpa using hm
  subst this;exact⟨rfl,rfl⟩
 |e::es,0,z,hm,h=>by
  have j:=h 0 e rfl;have q:a e=ak:=by simpa using j
  simp[mM,mO,q,gH]
 |e::es,m+1,z,hm,h=>by
  have j:=h 0 e rfl;have q:a e=av:=by simpa using j
  obtain⟨N,B⟩:=Yh s es m e.2.1 (by simpa using hm) (λi f U=>by have:=h (i+1) f (by simpa using U);simpa using this);simp only[mM,mO,q,kL,N,B];refine⟨?_,by simp[gH]⟩;cases m with
  |zero=>simp
  |succ k=>simp
theorem Qi{R:ai Rn}{p:Po}(h:Gd R p)(x:aw)(j:bc):iU x j p=mM (ah x j) 0 p.es/\jF x j p=mO (ah x j) p.s p.es:=by
 obtain⟨hm,q⟩:=EL h x j;obtain⟨h1,h2⟩:=Yh p.s p.es _ 0 hm q;rw[h1,h2];exact⟨rfl,rfl⟩
noncomputable def allR(R:ai Rn)(rs:ai (ai Rn)):ai Rn:=rs.foldl (· ++ ·) R
theorem Yb:∀(xs:ai (ai Rn×Po)) (R:ai Rn) (P:Po),Gd R P->(∀x∈xs,Gd x.1 x.2)->Gd (allR R (xs.map (·.1))) (gL P (xs.map (·.2)))
 |[],R,P,h,_=>h
 |x::xs,R,P,h,g=>Yb xs (R++x.1) (iT P x.2) (h.merge (g x (by simp))) λy j=>g y (by simp[j])
theorem Xy(x:aw)(j:bc):∀(xs:ai (ai Rn×Po)) (R:ai Rn) (P:Po),Gd R P->(∀x∈xs,Gd x.1 x.2) ->
  mM (ah x j) 0 (gL P (xs.map (·.2))).es=mM (ah x j) 0 P.es+pO iU x j (xs.map (·.2))/\mO (ah x j) (gL P (xs.map (·.2))).s (gL P (xs.map (·.2))).es=mO (ah x j) P.s P.es+pO jF x j (xs.map (·.2))
 |[],R,P,h,_=>by simp[gL,pO]
 |y::xs,R,P,h,g=>by
  have q:=g y (by simp);obtain⟨b,a⟩:=Xy x j xs (R++y.1) (iT P y.2) (h.merge q) λy c=>g y (by simp[c]);obtain⟨B,z⟩:=MN (ak8 x j) P.s y.2.s (P.es.length+y.2.es.length) P.es y.2.es 0 0 cR;obtain⟨U,N⟩:=Qi q x j;have e:mM (ah x j) 0 (iT P y.2).es=mM (ah x j) 0 P.es+mM (ah x j) 0 y.2.es:=B;have d:mO (ah x j) (iT P y.2).s (iT P y.2).es=mO (ah x j) P.s P.es+mO (ah x j) y.2.s y.2.es:=z;have f:gL P ((y::xs).map (·.2))=gL (iT P y.2) (xs.map (·.2)):=rfl;rw[f,b,a,e,d,<-U,<-N];simp only[pO,cK,lZ];constructor <;> first|trivial|omega
theorem Xz:∀(ps:ai Po) (P:Po),(gL P ps).l=P.l+(ps.map (·.l)).sum
 |[],P=>by simp[gL]
 |q::ps,P=>by
  have:=Xz ps (iT P q);have e:(iT P q).l=P.l+q.l:=rfl;show(gL (iT P q) ps).l=_;rw[this,e];simp;omega
theorem JQ(s t:aw):∀(n:ax) (es fs:ai E) (c8 j:aw),es.length+fs.length<=n->((dU s t n c8 j es fs).map (·.1)).Perm (es.map (·.1)++fs.map (·.1))
 |0,es,fs,c8,j,h=>by
  have h1:es=[]:=zO (by omega);have h2:fs=[]:=zO (by omega);subst h1;subst h2;simp[dU]
 |n+1,[],[],c8,j,_=>by simp[dU]
 |n+1,e::es,[],c8,j,h=>by
  have i:=JQ s t n es [] e.2.1 j (by simp at h ⊢;omega);simp only[dU,cK,Ip];exact i.cons _
 |n+1,[],f::fs,c8,j,h=>by
  have i:=JQ s t n [] fs c8 f.2.1 (by simp at h ⊢;omega);simp only[dU,cK,pG,DB]at i ⊢;exact i.cons _
 |n+1,e::es,f::fs,c8,j,h=>by
  simp only[dU];split
  ·have i:=JQ s t n es (f::fs) e.2.1 j (by simp at h ⊢;omega);simp only[cK,Ip]at i ⊢;exact i.cons _
  ·have i:=JQ s t n (e::es) fs c8 f.2.1 (by simp at h ⊢;omega);simp only[cK,Ip]at i ⊢;exact(i.cons _).trans (List.perm_middle (l₁:=e.1::es.map λx:E=>x.1) (l₂:=fs.map λx:E=>x.1) (a:=f.1)).symm
theorem SK:∀(ps:ai Po) (P:Po),((gL P ps).es.map (·.1)).Perm (P.es.map (·.1)++eT ps)
 |[],P=>by simp[gL,eT]
 |q::ps,P=>by
  have i:=SK ps (iT P q);have e:((iT P q).es.map (·.1)).Perm (P.es.map (·.1)++q.es.map (·.1)):=JQ P.s q.s _ P.es q.es 0 0 cR;show((gL (iT P q) ps).es.map (·.1)).Perm _;refine i.trans ((e.append_right _).trans ?_);simp[eT]
structure rA(F:ai Rn->aw):Prop where
 app:∀a b,F (a++b)=F a+F b
 one:∀n s t,F [(n,s+t)]=F [(n,s)]+F [(n,t)]
theorem rA.nil{F:ai Rn->aw}(h:rA F):F []=0:=by have:=h.app [] [];simp at this;omega
theorem rA.cons{F:ai Rn->aw}(h:rA F)(r:Rn)(R:ai Rn):F (r::R)=F [r]+F R:=h.app [r] R
theorem JT:rA whole:=⟨IJ,λn s t=>by simp[whole]⟩
theorem alV(x:aw):rA (bY · x):=⟨λa b=>WL a b x,λn s t=>by simp only[bY,cK,pG,lZ,List.sum_nil];split <;> omega⟩
theorem alU(x:aw):rA (bZ · x):=⟨λa b=>WK a b x,λn s t=>by simp only[bZ,cK,pG,lZ,List.sum_nil];split <;> omega⟩
theorem rA.add{F:ai Rn->aw}(h:rA F)(n t:aw):∀rs:ai Rn,F (cH rs n t)=F rs+F [(n,t)]
 |[]=>by simp[cH,h.nil]
 |r::rs=>by
  have ih:=h.add n t rs;unfold cH;split
  ·rename_i e;rw[h.cons (r.1,r.2+t),h.cons r,h.one,e];have:F [(n,r.2)]=F [r]:=by rw[<-e]
   omega
  ·rw[h.cons r,ih,h.cons r rs];omega
theorem rA.all{F:ai Rn->aw}(h:rA F):∀(xs:ai (ai Rn)) (R:ai Rn),F (allR R xs)=F R+(xs.map F).sum
 |[],R=>by simp[allR]
 |x::xs,R=>by
  have:=h.all xs (R++x);show F (allR (R++x) xs)=_;rw[this,h.app];simp;omega
theorem Yd(n t:aw):∀rs:ai Rn,(cH rs n t).length<=rs.length+1
 |[]=>by simp[cH]
 |r::rs=>by
  have:=Yd n t rs;unfold cH;split
  ·simp
  ·simp;omega
theorem Oi{R S:ai Rn}(h1:∀x,bY R x=bY S x)(h2:∀x,bZ R x=bZ S x):∀(es:ai E) (z:aw),Pl R z es->Pl S z es
 |[],_,_=>trivial
 |e::es,z,⟨p,a,U,N,B,q,j⟩=>⟨p,a,by rw[<-h1];exact U,by rw[<-h2];exact N,B,q,Oi h1 h2 es p j⟩
theorem Pl.mem{R:ai Rn}:∀{es:ai E} {z:aw},Pl R z es->∀e∈es,bY R e.1<bZ R e.1
 |e::es,z,⟨p,a1,a2,U,N,B,j⟩,f,hf=>by
  rcases dI.mp hf with q|q
  ·subst q;omega
  ·exact Pl.mem j f q
theorem Lk:∀{R:ai Rn} {x:aw},bY R x<bZ R x->x∈R.map (·.1)
 |[],x,h=>by simp[bY,bZ]at h
 |r::R,x,h=>by
  obtain⟨q,j⟩:=rN r R x;rw[q,j]at h
  by_cases e:r.1=x
  ·simp[e]
  ·have:bY R x<bZ R x:=by
    by_cases l:r.1<x
    ·rw[a6 l,a6 (by omega)]at h;omega
    ·rw[a7 l,a7 (by omega)]at h;omega
   exact fL _ (Lk this)
structure eK(keep:ax)(rs:ai Rn)(L:ai Rg)(row:ai Rn):Prop where
 k1:1<=keep
 kb:keep<=60\/L=[]
 nd:(rs.map (·.1)).Nodup
 pos:∀r∈rs,1<=r.2
 rl:rs.length<=keep
 gG:qB keep L
 sums:∀F,rA F->F rs+uD F L=F row
 OZ:∃c,rs.length<=c/\c+uF L=row.length
 tn:∀r∈row,1<=r.2
 ED:row.length<=60
 w:whole row<=1000000000
theorem ajZ{keep:ax}(j:1<=keep):eK keep [] [] []:=⟨j,.inr rfl,by simp,by simp,by simp,⟨by simp,by simp⟩,λF q=>by simp[uD,q.nil],⟨0,by simp,rfl⟩,by simp,by simp,by decide⟩
section
variable{keep:ax}{rs row:ai Rn}{L:ai Rg}
theorem agT(gG:qB keep L)(x:Rg)(j:x∈L):x.2.1<=uF L:=by
 have h:∀l:ai Rg,x∈l->x.2.1<=uF l:=by
  intro l
  induction l with
  |nil=>intro h;cases h
  |cons y l ih =>
   intro h;simp only[uF,cK,lZ]at *
   rcases dI.mp h with q|q
   ·subst q;omega
   ·have:=ih q;omega
 exact h L j
theorem alW(gG:qB keep L):L.length<=uF L:=by
 have h:∀l:ai Rg,(∀x∈l,1<=x.2.1)->l.length<=uF l:=by
  intro l
  induction l with
  |nil=>intro _;simp[uF]
  |cons x l ih =>
   intro h;have:=ih λy j=>h y (by simp[j]);have:=h x (by simp);simp only[uF,cK,lZ,gZ]at *;omega
 refine h L λx q=>?_;have:=(gG.ok x q).cnt;have:0<2 ^ x.1:=Nat.two_pow_pos _;have:1<=2 ^ x.1*(keep+1):=Nat.mul_pos this (by omega);omega
theorem eK.hl(o:eK keep rs L row):rs.length<=60:=by
 obtain⟨c,h1,h2⟩:=o.OZ;have:=o.ED;omega
theorem eK.hL(o:eK keep rs L row):L.length<=60:=by
 obtain⟨c,h1,h2⟩:=o.OZ;have:=o.ED;have:=alW o.gG;omega
theorem Mj(gG:qB keep L):0<=uD whole L:=by
 have h:∀l:ai Rg,(∀x∈l,tT keep x)->0<=uD whole l:=by
  intro l
  induction l with
  |nil=>intro _;simp[uD]
  |cons x l ih =>
   intro h;have:=ih λy j=>h y (by simp[j]);have g:=h x (by simp);have h1:=g.nn;rw[g.gd.sz]at h1;simp only[uD,cK,lZ]at *;omega
 exact h L gG.ok
theorem eK.hw(o:eK keep rs L row):whole rs<=1000000000:=by
 have:=o.sums whole JT;have:=Mj o.gG;have:=o.w;omega
theorem eK.lv(o:eK keep rs L row){b:ax}(hb:row.length/(keep+1)<2 ^ b):∀x∈L,x.1<b:=λx j=>by
 obtain⟨c,h1,h2⟩:=o.OZ;have z:=agT o.gG x j;have q:=(o.gG.ok x j).cnt;exact alP (n:=row.length) (by omega) hb
theorem eK.held(o:eK keep rs L row){b:ax}(hb:row.length/(keep+1)<2 ^ b):(eT (bM rs L)).length<=(2*keep+2)*(b+2):=apM o.k1 o.rl o.gG (o.lv hb)
theorem eK.nums(o:eK keep rs L row):(eT (bM rs L)).length<=976:=by
 rcases o.kb with h|h
 ·have q:=o.held (b:=6) (by
   have h1:row.length/(keep+1)<=row.length:=Nat.div_le_self _ _;have:=o.ED;omega)
  have:(2*keep+2)*(6+2)<=122*8:=Nat.mul_le_mul_right 8 (by omega);omega
 ·subst h;rw[Am];have h2:=JJ (dF rs) 0;have j:=AM rs;have:=o.hl;show(List.map (λq=>q.es.length) [jN rs]).sum<=_;show(gU 0 (dF rs)).length+0<=_;omega
theorem eK.Qp(o:eK keep rs L row):AY P0 (bM rs L)<=976:=by
 have:=o.nums;rw[Am]at this;simpa[AY]using this
theorem eK.parts(o:eK keep rs L row):∀q∈bM rs L,(∃R,Gd R q)/\q.es.length<=1000:=λq B=>by
 have h1:q.es.length<=126:=by
  rcases dI.mp B with z|z
  ·subst z;have h2:=JJ (dF rs) 0;have N:=AM rs;have:=o.hl;show(gU 0 (dF rs)).length<=_;omega
  ·obtain⟨y,j,rfl⟩:=jA.mp z
   rcases o.kb with k|k
   ·have:=(o.gG.ok y j).len;show y.2.2.2.es.length<=_;omega
   ·subst k;cases j
 refine⟨?_,by omega⟩
 rcases dI.mp B with z|z
 ·subst z;exact⟨rs,LU o.pos⟩
 ·obtain⟨y,j,rfl⟩:=jA.mp z;exact⟨_,(o.gG.ok y j).gd⟩
abbrev All(rs:ai Rn)(L:ai Rg):Po:=gL P0 (bM rs L)
def vF(rs:ai Rn)(L:ai Rg):ai (ai Rn×Po):=(rs,jN rs)::L.map λx=>(x.2.2.1,x.2.2.2)
theorem Ke:(vF rs L).map (·.2)=bM rs L:=by simp[vF,bM,uZ]
theorem Kd(o:eK keep rs L row):∀x∈vF rs L,Gd x.1 x.2:=λx q=>by
 rcases dI.mp q with z|z
 ·subst z;exact LU o.pos
 ·obtain⟨y,j,rfl⟩:=jA.mp z;exact(o.gG.ok y j).gd
theorem Uh:Gd [] P0:=by
 have h:=LU (R:=[]) (by simp);have e:dF []=[]:=zO (Nat.le_zero.mp (AM []));have j:jN []=P0:=by simp[jN,e,gU,whole]
 rwa[j]at h
theorem eK.gd(o:eK keep rs L row):Gd row (All rs L):=by
 have g:=Yb (vF rs L) [] P0 Uh (Kd o);rw[Ke]at g;have e:∀F,rA F->F (allR [] ((vF rs L).map (·.1)))=F row:=λF j=>by
  rw[j.all,j.nil,<-o.sums F j];simp[vF,uD,uZ]
 have h1:∀x,bY (allR [] ((vF rs L).map (·.1))) x=bY row x:=λx=>e _ (alV x);have h2:∀x,bZ (allR [] ((vF rs L).map (·.1))) x=bZ row x:=λx=>e _ (alU x);exact⟨λr hr=>by have:=o.tn r hr;omega,g.gf,by rw[g.sz];exact e _ JT,Oi h1 h2 _ _ g.pl⟩
theorem eK.lo(o:eK keep rs L row)(x:aw)(j:bc):pO iU x j (bM rs L)=iU x j (All rs L)/\pO jF x j (bM rs L)=jF x j (All rs L):=by
 obtain⟨h1,h2⟩:=Xy x j (vF rs L) [] P0 Uh (Kd o);rw[Ke]at h1 h2;obtain⟨z,q⟩:=Qi o.gd x j;rw[z,q,h1,h2];simp[mM,mO]
theorem eK.off(o:eK keep rs L row):(All rs L).l=dN L:=by
 rw[Xz];simp[bM,jN,dN,uZ]
theorem eK.size(o:eK keep rs L row):(All rs L).s=whole row:=o.gd.sz
theorem eK.Ai(o:eK keep rs L row){b:ax}(hb:row.length/(keep+1)<2 ^ b):(keep:aw)*dN L<=((b-1:ax):aw)*whole row:=by
 obtain⟨h1,h2⟩:=o.gG.Ai (m:=b-1) (λx j=>by have:=o.lv hb x j;omega);have e:(L.map λx=>x.2.2.2.s).sum=uD whole L:=by
  unfold uD;congr 1;exact GX λx j=>(o.gG.ok x j).gd.sz
 rw[e]at h1;have z:=o.sums whole JT;have q:0<=whole rs:=(LU o.pos).gf.s0;refine HG h1 (Int.mul_le_mul_of_nonneg_left (by omega) (by omega))
theorem eK.Ah(o:eK keep rs L row):0<=dN L:=by rw[<-o.off];exact o.gd.gf.l0
theorem eK.mem(o:eK keep rs L row):∀n∈eT (bM rs L),n∈row.map (·.1):=λn hn=>by
 have p:=SK (bM rs L) P0;have:n∈(All rs L).es.map (·.1):=p.mem_iff.mpr (by simpa using hn);obtain⟨e,he,rfl⟩:=jA.mp this;exact Lk (o.gd.pl.mem e he)
end
theorem af0{Z:aH}{k:ax}{rs:ai Rn}(g:Z[k]?=ag (.lst (bF rs))):res Z 6 (.aG k)=ag (.lst (bF rs)):=by
 have h:(bF rs).all (cJ 8)=av:=by simp[bF,iJ,cJ]
 rw[JC g,EK _ h];rfl
theorem Zm{Z:aH}{r:ax}{rs:ai Rn}(hr:Z[r]?=ag (.lst (bF rs)))(n:aw):HM [.aG r,.int n] Z=aE (.tup [.int (bY rs n),.int (bZ rs n)]) Z:=by
 have j:eG Z (.aG r)=ag (bF rs):=oM (iV hr);obtain⟨B,z,q⟩:=Vu n (.aG r) (λZ'=>eG Z' (.aG r)=ag (bF rs)) Z j rs 0 0 ao ao;have h2:(2:ax)<=ay:=by decide
 simp only[TU]at q;show trim Z (eS (Ft [aF r,aB n,ao,ao,ao,ao] Z))=_;unfold Ft;rw[cA (Y1:=[aF r,aB n,aB 0,ao,ao,ao]) (Z':=Z) (by simp)];rw[cA (Y1:=[aF r,aB n,aB 0,aB 0,ao,ao]) (Z':=Z) (by simp)];rw[cA (Y1:=[aF r,aB n,aB (bY rs n),aB (bZ rs n),B,z]) (Z':=Z) (by
  rw[CA (S:=srcOf (.aG r) (bF rs)) (Z':=Z) (by simp[j])];exact q)]
 simp[h2]
theorem av3{Z:aH}{r:ax}{R:ai Rn}(hr:Z[r]?=ag (.lst (bF R)))(c kind:aw)(D:0<=c)(x:c<8589934592)(k:ax)(L:k<6)(is:ai aw)(hi:is.length<=6)(t s:aq A):∃(v:aw) (I:aq A),
  GH [aF r,aB c,aB kind,aF Z.length,aB k,t,s] (Z++[.lst (is.map A.int)])
   = eR [aF r,aB c,aB kind,aF Z.length,aB k,I,aB v] (Z++[.lst ((is++[v]).map A.int)]):=by
 have m:=λZ=>GS c (80+(k:aw)) Z D x (by omega) (by omega);have h:=JR c (80+(k:aw));have u:=PU c (80+(k:aw));generalize wI c (80+(k:aw))=st at m h u;have j:=λZ=>Zj st kind Z h (by omega);generalize yL st kind=f at j;have y:eV (Z++[.lst (is.map A.int)]) (.aG Z.length)=ag (is.map A.int):=iV (by simp);have N:=wK y;have b:oH (Z++[.lst (is.map A.int)]) (.aG Z.length)=ag (Z.length,is.map A.int):=uR (by simp);have U:is.length<ay:=by rw[nD];omega
 have a:∀v:aw,(is++[v]).map A.int=is.map A.int++[A.int v]:=λv=>by simp
 have C:=ag2 R;have i:cJ 8 (.lst [])=av:=rfl;have he:gA 8 (.lst (bF R)) (.lst [])=R.isEmpty:=by cases R <;> rfl
 have G:r<Z.length:=(dO.mp hr).1;have d:(Z++[Cell.lst (is.map A.int)])[r]?=ag (.lst (bF R)):=by rw[kP G];exact hr
 have z:eV (Z++[.lst (is.map A.int)]) (.aG r)=ag (bF R):=iV d;have B:=oM z;have ne:iP (.aG r) (.lst []) (Z++[.lst (is.map A.int)])=aE (.bl (!R.isEmpty)) (Z++[.lst (is.map A.int)]):=by
  simp[iP,wY,af0 d,lN i,C,i,he]
 have E:(4:ax)<=ay:=by decide
 have F:oJ st 4096:=⟨by decide,by decide⟩;cases l:R.isEmpty with
 |true =>
  rw[l]at ne;refine⟨f,aB st,?_⟩;rw[a];simp[GH,bA,m,j,ne,N,b,U,z,B]
 |false =>
  rw[l]at ne
  by_cases o:(k:aw)<5
  ·have K:0<R.length:=by cases R <;> simp_all
   have p:(0:aw)<(R.length:aw):=by omega
   obtain⟨n,hn⟩:=Zu (TX st (show(R.length:aw)≠0 by omega));have H:n<R.length:=by
    have:=NF st p;omega
   have g:eM (bF R) (n:aw)=ag (iJ R[n]):=by rw[sA];simp[bF,H]
   have hlen:(bF R).length=R.length:=by simp[bF]
   generalize R[n]=q at g;obtain⟨w,hw⟩:∃w:aw,eM [A.int 0,.int 0,.int 1,.int (-1)] (st/4096%4)=(aB w):=by
    rcases ak9 (st/4096)with e|e|e|e <;> rw[e]
    ·exact⟨_,GI _ 0⟩
    ·exact⟨_,GI _ 1⟩
    ·exact⟨_,GI _ 2⟩
    ·exact⟨_,GI _ 3⟩
   refine⟨q.1+w,aB st,?_⟩;rw[a];simp[GH,bA,m,j,ne,o,hlen,p,K,hn,g,iJ,F,E,hw,N,b,U,z,B]
  ·refine⟨f,aB st,?_⟩;rw[a];simp[GH,bA,m,j,ne,o,N,b,U,z,B]
theorem Zo{Z:aH}{r:ax}{R:ai Rn}(hr:Z[r]?=ag (.lst (bF R)))(c kind:aw)(k:0<=c)(h:c<8589934592):∃is:ai aw,is.length=6/\zP [.aG r,.int c,.int kind] Z=aE (.lst (is.map A.int)) Z:=by
 obtain⟨Y1,f,m,N,B,z,is,rfl,rfl,hl⟩:=Ea (ok:=λ_=>True) (g:=gN 4) (b:=GH)
  (λi U Z'=>∃(N B z:aq A) (is:ai aw),U=[aF r,aB c,aB kind,aF Z.length,N,B,z]/\Z'=Z++[.lst (is.map A.int)]/\is.length=i) (λ_ _ _ _=>trivial)
  ((List.range 6).map λ(i:ax)=>A.int (0+(i:aw))) 0 [aF r,aB c,aB kind,aF Z.length,ao,ao,ao] (Z++[.lst []]) ⟨ao,ao,ao,[],rfl,rfl,rfl⟩
  (by
   rintro i x U Z' d ⟨N,B,z,is,rfl,rfl,hl⟩;have hi:i<6:=by simpa using(dO.mp d).1
   obtain rfl:A.int (0+(i:aw))=x:=by
    have:=(dO.mp d).2;simpa using this
   rw[CW]at hl ⊢;obtain⟨v,n,q⟩:=av3 hr c kind k h i hi is (by omega) B z;rw[TU];exact⟨_,_,_,_,rfl,.inl q,_,_,_,is++[v],rfl,rfl,by simp[hl]⟩)
 simp only[CW,lJ,List.length_range]at hl;refine⟨is,hl,?_⟩;show trim Z (eS (RY [aF r,aB c,aB kind,ao,ao,ao,ao] Z))=_;have e:RY [aF r,aB c,aB kind,ao,ao,ao,ao] Z=ag (.ret (.lst (is.map A.int)),[aF r,aB c,aB kind,aF Z.length,N,B,z],Z++[.dead]):=by
  unfold RY;rw[cA (Y1:=[aF r,aB c,aB kind,aF Z.length,ao,ao,ao]) (Z':=Z++[.lst []]) (by simp[nG])];rw[cA (Y1:=[aF r,aB c,aB kind,aF Z.length,N,B,z]) (Z':=Z++[.lst (is.map A.int)]) (by
   rw[CA (S:=yI 0 6) (Z':=Z++[.lst []]) (Nk (j:=6) (by simp) (by unfold AH;omega))];exact m)]
  simp
 rw[e];simp only[uG];exact rM (by simp only[Cl];exact uQ λa l=>by obtain⟨i,_,rfl⟩:=jA.mp l;simp only[Cl])
structure iM(Z:aH)(p keep:ax)(rs row:ai Rn)(L:ai Rg):Prop where
 h:Z[p]?=ag (cG keep (whole row) row.length rs L)
 o:eK keep rs L row
 u:Z[0]?=ag jK
 b:Z[1]?=ag jL
theorem oZ{Z:aH}{i:ax}{c:Cell}(h:Z[i]?=ag c)(j:aH):(Z++j)[i]?=ag c:=by
 rw[kP (dO.mp h).1];exact h
section
variable{Z:aH}{p keep:ax}{rs row:ai Rn}{L:ai Rg}
theorem iM.app(a:iM Z p keep rs row L)(j:aH):iM (Z++j) p keep rs row L:=⟨oZ a.h j,a.o,oZ a.u j,oZ a.b j⟩
theorem iM.lt(a:iM Z p keep rs row L):p<Z.length:=(dO.mp a.h).1
noncomputable abbrev lB(x:aw)(j:bc)(P:Po):A:=.tup [.int (iU x j P),.int (jF x j P)]
noncomputable def CL(x y:aw)(P:Po):aw:=if y<x then 0 else max 0 (iU y av P-jF x ak P)
noncomputable def FX(x y:aw)(P:Po):aw:=if y<x then 0 else jF y av P-iU x ak P
noncomputable abbrev kY(x y:aw)(P:Po):A:=.tup [.int (CL x y P),.int (FX x y P)]
theorem Ws{x y:aw}(h:y<x)(P:Po):kY x y P=.tup [.int 0,.int 0]:=by simp only[kY,CL,FX,a6 h]
theorem Wt{x y:aw}(h:¬y<x)(P:Po):kY x y P=.tup [.int (max 0 (iU y av P-jF x ak P)),.int (jF y av P-iU x ak P)]:=by simp only[kY,CL,FX,a7 h]
theorem Xu(a b c d:aw)(Z:aH):DK [.tup [.int a,.int b],.tup [.int c,.int d]] Z=aE (.tup [.int (max 0 (c-b)),.int (d-a)]) Z:=by
 have h2:(2:ax)<=ay:=by decide
 simp[DK,Xk,h2]
theorem Ka(a:iM Z p keep rs row L)(x:aw):rC [.aG p,.int x] Z=aE (lB x av (All rs L)) Z:=by
 have q:=axA a.h a.o.pos (by have:=a.o.hl;omega) a.o.hw (by have:=a.o.hL;omega) a.o.parts a.u x;obtain⟨z,j⟩:=a.o.lo x av;rw[q,z,j]
theorem Kc(a:iM Z p keep rs row L)(x:aw):rD [.aG p,.int x] Z=aE (lB x ak (All rs L)) Z:=by
 have q:=axB a.h a.o.pos (by have:=a.o.hl;omega) a.o.hw (by have:=a.o.hL;omega) a.o.parts a.b x;obtain⟨z,j⟩:=a.o.lo x ak;rw[q,z,j]
theorem aaI(a:iM Z p keep rs row L):vC [.aG p] Z=aE (.int (dN L)) Z:=awW a.h a.o.pos (by have:=a.o.hl;omega) a.o.hw (by have:=a.o.hL;omega)
theorem axU(a:iM Z p keep rs row L):HR [.aG p] Z=aE (.int (eT (bM rs L)).length) Z:=aw9 a.h a.o.pos (by have:=a.o.hl;omega) a.o.hw (by have:=a.o.hL;omega) (by have:=a.o.nums;omega)
theorem NW(a:iM Z p keep rs row L):∃c j,pJ [.aG p] Z=aE (tupP (All rs L) (.aG c)) (Z++j)/\Z.length<=c/\(Z++j)[c]?=ag (.lst (encL (All rs L).es)):=awS a.h a.o.pos (by have:=a.o.hl;omega) a.o.hw (by have:=a.o.hL;omega) (by have:=a.o.Qp;omega)
theorem iM.call(a:iM Z p keep rs row L){m:az}{F:ai A->Mo A}{n i:ax}{as das:ai A}{fs:Ev->Mo (ai A)}{Y:Ev}{v:A}{Z':aH}(hl:(eA keep (whole row) row.length rs L).lookup m=ao)(h0:(Y[i]?).join=(aF p))(j:fs Y Z=aE as Z)(hn:as.length+1+das.length=n)
  (q:F (.aG p::(as++das)) Z=aE v Z'):bK m [("Gaps",bJ n das F)] (dY i) fs Y Z=aE v Z':=qK a.h hl h0 j hn q
theorem Kb(a:iM Z p keep rs row L)(x y:aw):vA [.aG p,.int x,.int y] Z=aE (kY x y (All rs L)) Z:=by
 have h2:(2:ax)<=ay:=by decide
 show trim Z (eS (Fx [aF p,aB x,aB y] Z))=_;unfold Fx
 by_cases j:y<x
 ·have e:(eI (bD (aC oB bX aW)) (bT (iR (aA bR (aA bR a0)))) fH) [aF p,aB x,aB y] Z=ag (.ret (.tup [.int 0,.int 0]),[aF p,aB x,aB y],Z):=by
   simp[j,h2]
  rw[Ng e];rw[Ws j];exact nB rfl
 ·rw[cA (Y1:=[aF p,aB x,aB y]) (Z':=Z) (by simp[j])];have B:bK "below" [("Gaps",bJ 2 [] rD)] aI (aA aW a0) [aF p,aB x,aB y] Z=aE (lB x ak (All rs L)) Z:=a.call rfl rfl (as:=[.int x]) (das:=[]) (aS (bC rfl) bN) rfl (by simpa using Kc a x);have z:bK "upto" [("Gaps",bJ 2 [] rC)] aI (aA bX a0) [aF p,aB x,aB y] Z=aE (lB y av (All rs L)) Z:=a.call rfl rfl (as:=[.int y]) (das:=[]) (aS (bC rfl) bN) rfl (by simpa using Ka a y);have q:=gY (n:=2) (F:=DK) (aS B (aS z bN)) rfl (Xu _ _ _ _ Z);unfold bT;rw[fN q];rw[Wt j];exact nB rfl
theorem axV(a:iM Z p keep rs row L)(x:aw):zQ [.aG p,.int x] Z=aE (kY x x (All rs L)) Z:=by
 show trim Z (eS (Fw [aF p,aB x] Z))=_;have j:bK "between" [("Gaps",bJ 3 [] vA)] aI (aA aW (aA aW a0)) [aF p,aB x] Z=aE (kY x x (All rs L)) Z:=a.call rfl rfl (as:=[.int x,.int x]) (das:=[]) (aS (bC rfl) (aS (bC rfl) bN)) rfl (by simpa using Kb a x x);unfold Fw bT;rw[fN j];exact nB rfl
theorem axW{R:ai Rn}{P:Po}(g:Gd R P)(hz:P.es.length<=1000)(N:Z[0]?=ag jK)(hb:Z[1]?=ag jL){ent:A}(B:eG Z ent=ag (encL P.es))(x y:aw):UG [tupP P ent,.int x,.int y] Z=aE (kY x y P) Z:=by
 have h2:(2:ax)<=ay:=by decide
 have z:sH [tupP P ent,.int x] Z=_:=Ig g hz x Z hb ent B;have q:sG [tupP P ent,.int y] Z=_:=Ib g hz y Z N ent B;show trim Z (eS (Fi [ag (tupP P ent),aB x,aB y] Z))=_;generalize tupP P ent=T at z q;unfold Fi
 by_cases j:y<x
 ·have e:(eI (bD (aC oB bX aW)) (bT (iR (aA bR (aA bR a0)))) fH) [ag T,aB x,aB y] Z=ag (.ret (.tup [.int 0,.int 0]),[ag T,aB x,aB y],Z):=by
   simp[j,h2]
  rw[Ng e];rw[Ws j];exact nB rfl
 ·rw[cA (Y1:=[ag T,aB x,aB y]) (Z':=Z) (by simp[j])];have b:aN (bA 2 sH) (aA aI (aA aW a0)) [ag T,aB x,aB y] Z=aE (lB x ak P) Z:=gY (aS (bC rfl) (aS (bC rfl) bN)) rfl z;have a:aN (bA 2 sG) (aA aI (aA bX a0)) [ag T,aB x,aB y] Z=aE (lB y av P) Z:=gY (aS (bC rfl) (aS (bC rfl) bN)) rfl q;have U:=gY (n:=2) (F:=DK) (aS b (aS a bN)) rfl (Xu _ _ _ _ Z);unfold bT;rw[fN U];rw[Wt j];exact nB rfl
end
open PyProof.Rows (step_dedup)
theorem PX{ns:ai aw}:∀{acc:ai aw} {x:aw},x∈ns.foldl c6 acc<->x∈acc\/x∈ns:=by
 induction ns with
 |nil=>intro acc x;simp
 |cons n ns ih =>
  intro acc x;rw[List.foldl_cons,ih];unfold c6;split
  ·rename_i h;simp only[TN,xF]at h;obtain⟨y,j,e⟩:=h;subst e;constructor
   ·rintro(q|q)
    ·exact .inl q
    ·exact .inr (by simp[q])
   ·rintro(q|q)
    ·exact .inl q
    ·rcases dI.mp q with r|r
     ·exact .inl (by rw[r];exact j)
     ·exact .inr r
  ·simp[or_assoc]
theorem Ao{ns:ai aw}:∀{acc:ai aw},acc.Nodup->(ns.foldl c6 acc).Nodup:=by
 induction ns with
 |nil=>intro acc h;exact h
 |cons n ns ih =>
  intro acc h;rw[List.foldl_cons];refine ih ?_;unfold c6;split
  ·exact h
  ·rename_i q;refine MY.mpr ⟨h,by simp,λa j b hb=>?_⟩;simp only[qA]at hb;subst hb;intro e;subst e;exact q (by simp only[TN,xF];exact⟨a,j,rfl⟩)
theorem alY(ns:ai aw):∀acc:ai aw,(ns.foldl c6 acc).length<=acc.length+ns.length:=by
 induction ns with
 |nil=>intro acc;simp
 |cons n ns ih =>
  intro acc;rw[List.foldl_cons];refine pC (ih _) ?_;unfold c6;split <;> simp <;> omega
theorem Ek(a:ai aw):(nO a).length<=a.length:=by
 have:=alY a [];simpa[nO]using this
theorem adE{a b:ai aw}(h:∀x,x∈a<->x∈b):sortI (nO a)=sortI (nO b):=by
 refine XM ?_ (XN _);refine(sortI_perm _).trans ?_;refine(List.perm_ext_iff_of_nodup (Ao (by simp)) (Ao (by simp))).mpr λx=>?_;rw[PX,PX];simp[h x]
noncomputable def eE(rs:ai Rn)(L:ai Rg):ai aw:=sortI (nO (eT (bM rs L)))
theorem Ld{c:bc}{f:Ev->Mo A}{Y:Ev}{Z Z':aH}{a:A}{ns:ai aw}(h:f Y Z=aE a Z')(hi:eV Z' a=ag (ns.map A.int))(hl:ns.length<4000)(hd:(nO ns).length<64):DR c f Y Z=nG c ((sortI (nO ns)).map A.int) Z':=by
 unfold DR;rw[dC h];have j:(eV Z' a).bind intsOf=ag ns:=by rw[hi];exact QG _
 simp only[j];rw[a6 ⟨hl,by omega⟩]
section
variable{Z Z':aH}{p keep:ax}{rs row:ai Rn}{L:ai Rg}
theorem axT(a:iM Z p keep rs row L):vD [.aG p] Z=aE (.lst ((eT (bM rs L)).map A.int)) Z:=Zl a.h a.o.pos (by have:=a.o.hl;omega) a.o.hw (by have:=a.o.hL;omega) (by have:=a.o.nums;omega)
theorem Ml:∀{l m:ai aw},l.Nodup->(∀x∈l,x∈m)->l.length<=m.length
 |[],m,_,_=>by simp
 |x::l,m,nd,h=>by
  have z:=pE.mp nd;have q:=h x (by simp);have:=Ml (l:=l) (m:=m.erase x) z.2 λy j=>(List.mem_erase_of_ne (λe=>z.1 (by rw[<-e];exact j))).mpr (h y (by simp[j]));rw[List.length_erase_of_mem q]at this;have B:0<m.length:=List.length_pos_of_mem q;simp;omega
theorem eK.Vp(o:eK keep rs L row):(nO (eT (bM rs L))).length<64:=by
 have h:=Ml (l:=nO (eT (bM rs L))) (m:=row.map (·.1)) (Ao (by simp)) λx j=>by
  have h2:=(PX (acc:=[])).mp j;exact o.mem x (by simpa using h2)
 have:=o.ED;rw[lJ]at h;omega
theorem UU(a:iM Z p keep rs row L):rB [.aG p] Z=aE (.aG Z.length) (Z++[.lst ((eE rs L).map A.int)]):=by
 have q:bK "kept" [("Gaps",bJ 1 [] vD)] aI a0 [aF p] Z=aE (.lst ((eT (bM rs L)).map A.int)) Z:=a.call rfl rfl (as:=[]) (das:=[]) bN rfl (by simpa using axT a);have j:=Ld (c:=av) q rfl (by have:=a.o.nums;omega) a.o.Vp;show trim Z (eS (Fz [aF p] Z))=_;unfold Fz bT;rw[fN (x:=A.aG Z.length) (Z':=Z++[.lst ((eE rs L).map A.int)]) (by rw[j];rfl)];exact Lp
theorem wZ{f:Ev->Mo A}{Y:Ev}{a:A}(h:f Y Z=aE a Z'):jC f Y Z=eR Y Z':=by
 unfold jC;rw[fN h]
theorem JD{s:ax}{Y:Ev}{fs:ai (az×Fd)}{f:az}{fv:Ev->Mo A}{b:A}(j:(Y[0]?).join=(aF s))(h:Z[s]?=ag (.ins "Gaps" fs))(hl:fs.length<1000)(hv:fv Y Z=aE b Z):sZ ["Gaps"] f aI fv Y Z=eR Y (Z.set s (.ins "Gaps" (putD f (.val b) fs))):=by
 unfold sZ;rw[fN hv];rw[fN (x:=A.aG s) (Z':=Z) (by simp[j])];simp only[h];rw[a6 ⟨by simp,hl⟩]
theorem ajX(o:eK keep rs L row)(n t:aw)(N:1<=t)(hr:row.length<60)(hw:whole row+t<=1000000000)(many tk:aw)(h:Z[p]?=ag (cG keep many tk rs L)) :
  ∃b g,eK keep b g (row++[(n,t)])/\HS [.aG p,.int n,.int t] Z=aE (.cV) (Z.set p (cG keep many tk b g)):=by
 obtain⟨c,s,u⟩:=o.OZ;have m:=Yd n t rs;have B:=Of rs n t N o.pos;have w:=o.rl;have hl:=o.hl;have f:whole (row++[(n,t)])<=1000000000:=by rw[IJ];simp[whole]at hw ⊢;omega
 have d:∀r∈row++[(n,t)],1<=r.2:=λr hr=>by
  rcases DC.mp hr with q|q
  ·exact o.tn r q
  ·have:r=(n,t):=by simpa using q
   subst this;exact N
 have hlen:(row++[(n,t)]).length<=60:=by simp;omega
 by_cases U:(cH rs n t).length<=keep
 ·refine⟨cH rs n t,L,⟨o.k1,o.kb,Pq rs n t o.nd,B,U,o.gG,λF j=>?_,⟨c+1,by omega,by simp;omega⟩,d,hlen,f⟩,awQ h o.nd (by omega) n t U⟩;rw[j.add,j.app,<-o.sums F j];omega
 ·have k:keep<=60:=by omega
  have a:keep+1<=c+1:=by omega
  have z:whole (cH rs n t)<=1000000000:=by
   have h1:=JT.add n t rs;have h2:=o.sums whole JT;have v:=Mj o.gG;have:whole [(n,t)]=t:=by simp[whole]
   omega
  have i:tT keep (0,c+1,cH rs n t,jN (cH rs n t)):=Nj B (by omega) a;have q:=awP o.k1 (by omega) h o.nd (by omega) n t (by omega) B z o.gG (by have:=o.hL;omega) a;refine⟨[],_,⟨o.k1,.inl k,by simp,by simp,by simp,Qu o.k1 _ cR o.gG i,λF j=>?_,⟨0,by simp,?_⟩,d,hlen,f⟩,q⟩
  ·have e:=Bd (keep:=keep) (λx=>F x.2.2.1) (λx y=>j.app _ _) L.length (x:=(0,c+1,cH rs n t,jN (cH rs n t))) o.gG.nd;show F []+((kK keep L.length L _).map λx=>F x.2.2.1).sum=_;rw[e,j.nil,j.app,<-o.sums F j];show 0+(uD F L+F (cH rs n t))=_;rw[j.add];omega
  ·have e:=Bd (keep:=keep) (λx=>(x.2.1:aw)) (λx y=>by simp[up1]) L.length (x:=(0,c+1,cH rs n t,jN (cH rs n t))) o.gG.nd;have cs:∀l:ai Rg,(l.map λx=>(x.2.1:aw)).sum=(uF l:aw):=by
    intro l
    induction l with
    |nil=>rfl
    |cons x l ih=>simp only[uF,cK,lZ]at ih ⊢;rw[ih];simp
   rw[cs,cs]at e;simp only[sD,gZ,DE];simp only at e;omega
theorem aw5{many tk:aw}(h:Z[p]?=ag (cG keep many tk rs L))(t:aw)(hm:many+t<=1000000000):UK [.aG p,.int t] Z=aE (.cV) Z:=by
 have l:(eA keep many tk rs L).lookup ("many" : az)=ag (.val (.int many)):=rfl;have j:¬1000000000<many+t:=by omega
 show trim Z (eS (Ga [aF p,aB t] Z))=_;simp[Ga,h,l,j]
theorem agW{keep:ax}{many j tk:aw}{rs:ai Rn}{L:ai Rg}:putD "many" (.val (.int j)) (eA keep many tk rs L)=eA keep j tk rs L:=rfl
theorem agU{keep:ax}{many tk OJ:aw}{rs:ai Rn}{L:ai Rg}:putD "taken" (.val (.int OJ)) (eA keep many tk rs L)=eA keep many OJ rs L:=rfl
theorem axR(a:iM Z p keep rs row L)(n t:aw)(f:1<=t)(hr:row.length<60)(hw:whole row+t<=1000000000)(g:2<=p) :
  ∃j z,iM (Z.set p (cG keep (whole (row++[(n,t)])) (row++[(n,t)]).length j z)) p keep j (row++[(n,t)]) z/\vB [.aG p,.int n,.int t] Z=aE (.cV) (Z.set p (cG keep (whole (row++[(n,t)])) (row++[(n,t)]).length j z)):=by
 obtain⟨j,z,d,q⟩:=ajX a.o n t f hr hw _ _ a.h;have N:=a.lt;have i:whole (row++[(n,t)])=whole row+t:=by rw[IJ];simp[whole]
 have k:(((row++[(n,t)]).length:ax):aw)=(row.length:aw)+1:=by simp
 refine⟨j,z,⟨iD N,d,by rw[kG (by omega)];exact a.u,by rw[kG (by omega)];exact a.b⟩,?_⟩;rw[i,k];have c:=aw5 a.h t hw;have h2:(Z.set p (cG keep (whole row) row.length j z))[p]?=ag (cG keep (whole row) row.length j z):=iD N;have U:(Z.set p (cG keep (whole row+t) row.length j z))[p]?=ag (cG keep (whole row+t) row.length j z):=iD N;have B:¬t<1:=by omega
 show trim Z (eS (RZ [aF p,aB n,aB t] Z))=_;unfold RZ;rw[cA (Y1:=[aF p,aB n,aB t]) (Z':=Z) (by simp[B])];rw[cA (wZ (a.call (by rfl) (by rfl) (as:=[.int t]) (das:=[]) (by simp) (by rfl) (by simpa using c)))];rw[cA (wZ (a.call (by rfl) (by rfl) (as:=[.int n,.int t]) (das:=[]) (by simp) (by rfl) (by simpa using q)))];have e:(eA keep (whole row) row.length j z).lookup ("many" : az)=ag (.val (.int (whole row))):=rfl;rw[cA (JD (b:=.int (whole row+t)) rfl h2 (by simp) (by simp[h2,e]))];rw[agW,uV];have lt:(eA keep (whole row+t) row.length j z).lookup ("taken" : az)=ag (.val (.int row.length)):=rfl;rw[JD (b:=.int (row.length+1)) rfl U (by simp) (by simp[U,lt])];rw[agU,uV];simp only[EF];exact nB (by simp)
end
theorem QV(Z:aH)(c:Cell):(Z++[c])[Z.length]?=ag c:=by simp
theorem OV(Z:aH)(c d:Cell):(Z++[c]).set Z.length d=Z++[d]:=by simp
theorem Uu{Z:aH}{keep:ax}{f:az}{fs:ai (az×Fd)}(hl:fs.length<1000):(vS ["Gaps"] 0 f uC) [aF Z.length,aB keep] (Z++[.ins "Gaps" fs])=eR [aF Z.length,aB keep] (Z++[.ins "Gaps" (putD f (.bE []) fs)]):=by
 have j:AS ["Gaps"] 0 [aF Z.length,aB keep] (Z++[.ins "Gaps" fs])=ag (Z.length,("Gaps" : az),fs):=by
  unfold AS;simp
 have q:uC [aF Z.length,aB keep] (Z++[.ins "Gaps" fs])=aE (.aG (Z++[Cell.ins "Gaps" fs]).length) ((Z++[.ins "Gaps" fs])++[.bE []]):=by simp
 unfold vS;rw[j];simp only[q,QV,Fd.EG];rw[a6 ⟨rfl,rfl,hl,by simp[rE,eX]⟩,OV]
theorem aw3(Z:aH)(keep:ax):FF "Gaps" 2 HU [.int keep] Z=aE (.aG Z.length) (Z++[cG keep 0 0 [] []]):=by
 have base:NR [.aG Z.length,.int keep] (Z++[.ins "Gaps" []])=aE (.cV) (Z++[.ins "Gaps" [("keep",.val (.int keep)),("many",.val (.int 0)),("taken",.val (.int 0))]]):=by
  show trim _ (eS (SA [aF Z.length,aB keep] (Z++[.ins "Gaps" []])))=_;unfold SA;rw[cA (JD (b:=.int keep) (by rfl) (QV _ _) (by simp) (by simp)),OV];rw[cA (JD (b:=.int 0) (by rfl) (QV _ _) (by exact(show(1:ax)<1000 by decide)) (by simp)),OV];rw[JD (b:=.int 0) (by rfl) (QV _ _) (by exact(show(2:ax)<1000 by decide)) (by simp),OV];simp only[EF];rw[nB (by simp)];rfl
 have e:HU [.aG Z.length,.int keep] (Z++[.ins "Gaps" []])=aE (.cV) (Z++[cG keep 0 0 [] []]):=by
  show trim _ (eS (SH [aF Z.length,aB keep] (Z++[.ins "Gaps" []])))=_;unfold SH;rw[cA (wZ (a:=.cV) (Z':=Z++[.ins "Gaps" [("keep",.val (.int keep)),("many",.val (.int 0)),("taken",.val (.int 0))]]) (by simp[bA,base]))];rw[cA (Uu (by simp))];rw[Uu (by exact(show(4:ax)<1000 by decide))];simp only[EF];rw[nB (by simp)];rfl
 unfold FF;rw[a6 (by rfl)];rw[e]
theorem Uy(Z:aH):∀(fuel n f:ax),n<fuel->∃b:ax,n<2 ^ b/\kC RV Fq fuel [aB n,aB f] Z=eR [aB 0,aB ((f+b:ax):aw)] Z
 |0,n,f,h=>by omega
 |fuel+1,0,f,_=>⟨0,by simp,by rw[FJ (Z1:=Z) (by simp[RV])];simp⟩
 |fuel+1,n+1,f,h=>by
  obtain⟨b,hb,q⟩:=Uy Z fuel ((n+1)/2) (f+1) (by omega);refine⟨b+1,by rw[Nat.pow_succ];omega,?_⟩;have B:oJ ((n:aw)+1) 2:=⟨by decide,by decide⟩;have N:(0:aw)<((n+1:ax):aw):=by omega
  have z:(((n+1:ax):aw)/2)=(((n+1)/2:ax):aw):=by omega
  have j:(f:aw)+1=((f+1:ax):aw):=by omega
  rw[rW (Z1:=Z) (Z2:=Z) (Y1:=[aB (((n+1)/2:ax):aw),aB ((f+1:ax):aw)]) (by simp only[RV];exact gE (dM (a:=.int ((n+1:ax):aw)) (bC rfl) (b:=.int 0) (by simp) (by simp))) (by
   unfold Fq;rw[cA (iB (i:=1) (dM (bC rfl) (b:=.int 1) (by simp) (c:=.int ((f+1:ax):aw)) (by rw[<-j];simp)))];rw[iB (i:=0) (dM (a:=.int ((n+1:ax):aw)) (bC rfl) (b:=.int 2) (by simp) (c:=.int (((n+1)/2:ax):aw)) (by rw[<-z];simp[B]))];rfl),q]
  rw[show f+1+b=f+(b+1)by omega]
theorem axE(n:ax)(hn:n<1000000)(Z:aH):∃b:ax,n<2 ^ b/\UJ [.int n] Z=aE (.int b) Z:=by
 obtain⟨b,hb,q⟩:=Uy Z 1000000 n 0 hn;refine⟨b,hb,?_⟩;show trim Z (eS (Fs [aB n,ao] Z))=_;unfold Fs;rw[cA (Y1:=[aB n,aB 0]) (Z':=Z) (by simp)];simp only[CW,Jb]at q;rw[cA (Y1:=[aB 0,aB b]) (Z':=Z) q];simp
theorem MC{i j:aw}(q:0<=j)(h1:j<=1000000000):kI i j/\kI j i:=by
 have a : -(2 ^ 64)<j:=by omega
 have b:j<2 ^ 64:=by omega
 exact⟨.inr ⟨a,b⟩,.inl ⟨a,b⟩⟩
theorem Wm{i j:aw}(q:0<j)(h1:j<=1001):oJ i j:=⟨q,by omega⟩
theorem JP{i j:aw}(h:kI i j)(Z:aH):kB (.int i) (.int j) Z=aE (.int (i*j)) Z:=by
 simp only[kB,gI];simp[h]
theorem Vn{i j:aw}(h:oJ i j)(Z:aH):mQ (.int i) (.int j) Z=aE (.int (i/j)) Z:=by
 simp only[mQ,gI];simp[h]
theorem rO{Z Z' Z'':aH}{Y:Ev}{f g:Ev->Mo bc}(h:f Y Z=aE ak Z')(h2:g Y Z'=aE ak Z''):fG f g Y Z=aE ak Z'':=by rw[orF h,h2]
theorem Wf{Z Z1 Z2 j:aH}{Y:Ev}{g g':A->A->Mo A}{z f2 q:Ev->Mo A}{x y u:A}(h1:z Y Z=aE x Z1)(h2:f2 Y Z1=aE y Z2)(U:g x y Z2=aE (.bl av) Z2)(N:q Y Z2=aE u j)(B:g' y u j=aE (.bl av) j):xZ g g' z f2 q Y Z=aE (.bl av) j:=by
 unfold xZ;rw[dC h1,dC h2,dC U];simp[N,B]
theorem adA{Z:aH}{r:ax}{row:ai Rn}(hr:Z[r]?=ag (.lst (bF row)))(hl:row.length<=1000){Y:Ev}(h1:(Y[1]?).join=(aF r)):aN wX (aA Fm a0) Y Z=aE (.int (whole row)) Z:=by
 have z:Fm Y Z=aE (.lst (row.map λq=>A.int q.2)) Z:=by
  refine AA (S:=srcOf (.aG r) (bF row)) row iJ (λq=>A.int q.2) (λY=>∃u v,Y=[u,v]) (λa b e=>by simp[iJ]at e;simp[e.2]) ?_ (λj=>oM (iV (oZ hr _))) ⟨ao,ao,rfl⟩ rfl (by omega) (λq _ Y ⟨u,v,e⟩ j=>by subst e;exact⟨[aB q.1,aB q.2],⟨_,_,rfl⟩,by simp[iJ],by simp⟩) (λq _=>by simp only[Cl]);unfold fD;rw[dC (bC h1)];simp[oM (iV hr)]
 refine mU (aS z bN) ?_;have e:row.map (λq=>A.int q.2)=(row.map (·.2)).map A.int:=by simp[uZ]
 rw[e,Ui];rfl
section
variable{Z:aH}{p r keep:ax}{rs row:ai Rn}{L:ai Rg}
theorem aaH(a:iM Z p keep rs row L)(hr:Z[r]?=ag (.lst (bF row)))(hk:keep<=1000):HL [.aG p,.aG r,.int row.length,.int keep] Z=aE (.bl av) Z:=by
 have T:=a.o.ED;have kM:=a.o.k1;have U:=a.o.w;obtain⟨b,hb,P⟩:=axE (row.length/(keep+1)) (by have:=Nat.div_le_self row.length (keep+1);omega) Z;have v:=a.o.held hb;have t:=a.o.Ai hb;have u:=a.o.Ah;show trim Z (eS (Fn [aF p,aF r,aB row.length,aB keep,ao,ao,ao] Z))=_;unfold Fn;rw[cA (iB (i:=4) (adA hr (by omega) rfl))];simp only[List.set];generalize j:[ag (A.aG p),aF r,aB row.length,aB keep,aB (whole row),ao,ao]=q;have E:bK "length" [("Gaps",bJ 1 [] zR)] aI a0 q Z=aE (.int (whole row)) Z:=a.call rfl (by subst j;rfl) (as:=[]) (das:=[]) bN rfl (by simpa using aw6 a.h);have e2:bK "puts" [("Gaps",bJ 1 [] HQ)] aI a0 q Z=aE (.int row.length) Z:=a.call rfl (by subst j;rfl) (as:=[]) (das:=[]) bN rfl (by simpa using awR a.h);have I:(fG (bD (aC iP (bK "length" [("Gaps",bJ 1 [] zR)] aI a0) bW)) (fG (bD (aC iP (bK "puts" [("Gaps",bJ 1 [] HQ)] aI a0) bX)) (bD (aN oU (aA (bK "length" [("Gaps",bJ 1 [] zR)] aI a0) (aA (cT "bool") a0)))))) q Z=aE ak Z :=
  rO (gE (dM E (bC (a:=.int (whole row)) (by subst j;rfl)) (by simp))) (rO (gE (dM e2 (bC (a:=.int row.length) (by subst j;rfl)) (by simp))) (gE (mU (aS E (aS (a:=.ty "bool") (by simp) bN)) (by simp))))
 rw[cA (qM I)];have d1:oJ (row.length:aw) ((keep:aw)+1):=Wm (by omega) (by omega);have ed:(row.length:aw)/((keep:aw)+1)=((row.length/(keep+1):ax):aw):=by simp
 have e3:aC (mQ) bX (aC cY dA cL) q Z=aE (.int ((row.length/(keep+1):ax):aw)) Z :=
  dM (bC (a:=.int row.length) (by subst j;rfl)) (dM (bC (a:=.int keep) (by subst j;rfl)) (b:=.int 1) (by simp) (c:=.int ((keep:aw)+1)) (by simp)) (by rw[<-ed];exact Vn d1 _)
 rw[cA (iB (i:=5) (gY (n:=1) (F:=UJ) (aS e3 bN) rfl P))];subst j;simp only[List.set];generalize j:[ag (A.aG p),aF r,aB row.length,aB keep,aB (whole row),aB b,ao]=q;have M:=UU a;have D:bK "numbers" [("Gaps",bJ 1 [] rB)] aI a0 q Z=aE (.aG Z.length) (Z++[.lst ((eE rs L).map A.int)]):=a.call rfl (by subst j;rfl) (as:=[]) (das:=[]) bN rfl (by simpa using M);have B:=a.app [.lst ((eE rs L).map A.int)];have C:(Z++[Cell.lst ((eE rs L).map A.int)])[Z.length]?=ag (.lst ((eE rs L).map A.int)):=by simp
 generalize Bo:Z++[Cell.lst ((eE rs L).map A.int)]=Z1 at D B C;have Q:=iV C;have S:(eE rs L).length<=(eT (bM rs L)).length:=by
  unfold eE;rw[AG];exact Ek _
 have e5:aN lW (aA (bK "numbers" [("Gaps",bJ 1 [] rB)] aI a0) a0) q Z=aE (.int (eE rs L).length) Z1:=mU (Em D bN) (by simp[Q]);have e6:bK "held" [("Gaps",bJ 1 [] HR)] aI a0 q Z1=aE (.int (eT (bM rs L)).length) Z1:=B.call rfl (by subst j;rfl) (as:=[]) (das:=[]) bN rfl (by simpa using axU B);have Sj:kI 2 (keep:aw):=(MC (by decide) (by decide)).2;have f:kI (2*(keep:aw)+2) ((b:aw)+2):=(MC (by omega) (by omega)).2;have e7:aC (kB) (aC cY (aC (kB) gD dA) gD) (aC cY fM gD) q Z1=aE (.int ((2*(keep:aw)+2)*((b:aw)+2))) Z1 :=
  dM (a:=.int (2*(keep:aw)+2)) (b:=.int ((b:aw)+2)) (dM (a:=.int (2*(keep:aw))) (b:=.int 2) (dM (a:=.int 2) (b:=.int (keep:aw)) (by simp) (bC (by subst j;rfl)) (JP Sj _)) (by simp) (by simp)) (dM (a:=.int (b:aw)) (b:=.int 2) (bC (by subst j;rfl)) (by simp) (by simp)) (JP f _)
 have hh:((eT (bM rs L)).length:aw)<=(2*(keep:aw)+2)*((b:aw)+2):=by
  have:=Int.ofNat_le.mpr v;simpa using this
 rw[cA (qM (qJ (b:=av) (gE (Wf e5 e6 (by simp;omega) e7 (by simp;exact hh)))))];obtain⟨c,z,K,lS,lQ⟩:=NW B;have X:bK "pouch" [("Gaps",bJ 1 [] pJ)] aI a0 q Z1=aE (tupP (All rs L) (.aG c)) (Z1++z):=B.call rfl (by subst j;rfl) (as:=[]) (das:=[]) bN rfl (by simpa using K);rw[cA (iB (i:=6) X)];have G:=B.app z;subst j;simp only[List.set];have V:tupP (All rs L) (.aG c)=.tup [.int (whole row),.int (dN L),.int (All rs L).d,.aG c]:=by
  show A.tup [.int (All rs L).s,.int (All rs L).l,.int (All rs L).d,.aG c]=_;rw[a.o.size,a.o.off]
 rw[V];generalize j:[ag (A.aG p),aF r,aB row.length,aB keep,aB (whole row),aB b,ag (.tup [.int (whole row),.int (dN L),.int (All rs L).d,.aG c])]=q;have N:dY 6 q (Z1++z)=aE (.tup [.int (whole row),.int (dN L),.int (All rs L).d,.aG c]) (Z1++z):=bC (by subst j;rfl);have W:bK "off" [("Gaps",bJ 1 [] vC)] aI a0 q (Z1++z)=aE (.int (dN L)) (Z1++z):=G.call rfl (by subst j;rfl) (as:=[]) (das:=[]) bN rfl (by simpa using aaI G);have y:aC aY mW cL q (Z1++z)=aE (.int (dN L)) (Z1++z):=dM N (b:=.int 1) (by simp) (by simp);have H:(fG (fY (bD (aN oU (aA mW (aA (cT "tuple") a0))))) (fG (bD (aC iP (aC aY mW bR) bW)) (bD (aC iP (aC aY mW cL) (bK "off" [("Gaps",bJ 1 [] vC)] aI a0))))) q (Z1++z)=aE ak (Z1++z) :=
  rO (qJ (b:=av) (gE (mU (aS N (aS (a:=.ty "tuple") (by simp) bN)) (by simp)))) (rO (gE (dM (dM N (b:=.int 0) (by simp) (c:=.int (whole row)) (by simp)) (bC (a:=.int (whole row)) (by subst j;rfl)) (by simp))) (gE (dM y W (by simp))))
 rw[cA (qM H)];have g:max 0 ((b:aw)-1)=((b-1:ax):aw):=by omega
 have e:kI (max 0 ((b:aw)-1)) (whole row):=(MC (by have:=a.o.gd.gf.s0;rw[a.o.size]at this;exact this) U).1;have d2:oJ (max 0 ((b:aw)-1)*whole row) (keep:aw):=Wm (by omega) (by omega);have m:(aC (mQ) (aC (kB) (aN pU (aA bR (aA (aC (lE) fM cL) a0))) bW) dA) q (Z1++z)=aE (.int (max 0 ((b:aw)-1)*whole row/keep)) (Z1++z) :=
  dM (dM (mU (aS (a:=.int 0) (by simp) (aS (dM (bC (a:=.int b) (by subst j;rfl)) (b:=.int 1) (by simp) (c:=.int (b-1)) (by simp)) bN)) (a:=.int (max 0 ((b:aw)-1))) (by simp)) (bC (a:=.int (whole row)) (by subst j;rfl)) (c:=.int (max 0 ((b:aw)-1)*whole row)) (JP e _)) (bC (a:=.int keep) (by subst j;rfl)) (Vn d2 _)
 have R:dN L<=max 0 ((b:aw)-1)*whole row/keep:=by
  rw[g];refine(Int.le_ediv_iff_mul_le (by omega)).mpr ?_;rw[Int.mul_comm];exact t
 have k:xZ pV pV bR (aC aY mW cL) (aC (mQ) (aC (kB) (aN pU (aA bR (aA (aC (lE) fM cL) a0))) bW) dA) q (Z1++z)=aE (.bl av) (Z1++z):=Wf (Z1:=Z1++z) (x:=.int 0) (by simp) y (by simp;exact u) m (by simp;exact R);unfold bT;rw[fN k];simp only[uG];rw[<-Bo,DG];exact rM (by simp only[Cl])
end
theorem Xx{Z Z1 Z2:aH}{Y:Ev}{f g:Ev->Mo A}(h:f Y Z=aE (.bl av) Z1)(h2:g Y Z1=aE (.bl av) Z2):yA f g Y Z=aE (.bl av) Z2:=by
 unfold yA;rw[dC h];simp[h2]
theorem Nd{Z j:aH}{c:ax}(h:Z.length<=c)(x:Cell):(Z++j).set c x=Z++j.set (c-Z.length) x:=List.set_append_right _ _ h
theorem Wu{g:A->ai A->Mo A}{fo:Ev->Mo A}{f:Ev->Mo (ai A)}{Y:Ev}{Z Z1 Z2:aH}{o v:A}{as ds:ai A}(h1:fo Y Z=aE o Z)(hi:eV Z o=ag ds)(h2:f Y Z=aE as Z1)(j:g o as Z1=aE v Z2):lA g fo f Y Z=aE v Z2:=by
 unfold lA;rw[dC h1,a6 (wK hi),dC h2,j]
theorem ab3{P:Po}{ent:A}{Ψ:aH}(z:eG Ψ ent=ag (encL P.es)){Y:Ev}(h1:(Y[1]?).join=ag (tupP P ent)) :
  (aC cY (rK ak aW yF (vL fC)) (iR (aA (aN (BY ak) (aA (aC aY aW fC) a0)) a0))) Y Ψ=aE (bQ P) Ψ:=by
 have N:(4:ax)<=ay:=by decide
 have U:(1:ax)<=ay:=by decide
 have j:dY 1 Y Ψ=aE (tupP P ent) Ψ:=bC h1;have f:rK ak aW yF (vL fC) Y Ψ=aE (.tup [.int P.s,.int P.l,.int P.d]) Ψ:=by
  unfold rK;rw[dC j];have B:xB [A.int P.s,.int P.l,.int P.d,ent] ao (ag 3)=[.int P.s,.int P.l,.int P.d]:=rfl;have q:¬HT.cW 4 4 (ag 3)=4:=by decide
  simp[B,q]
 have e:aC aY aW fC Y Ψ=aE ent Ψ:=dM j (b:=.int 3) (by simp) (by simp);have c:iR (aA (aN (BY ak) (aA (aC aY aW fC) a0)) a0) Y Ψ=aE (.tup [.lst (encL P.es)]) Ψ:=by
  unfold iR;rw[dC (aS (mU (aS e bN) (a:=.lst (encL P.es)) (by simp[z])) bN)];simp[U]
 exact dM f c (by simp[N,bQ,cQ])
theorem au1{P:Po}{ent:A}{Ψ:aH}{c:ax}{ds:ai A}(j:Ψ[c]?=ag (.lst ds))(he:ent=.aG c){Y:Ev}(h1:(Y[1]?).join=ag (tupP P ent)):lA QX (aC aY aW fC) a0 Y Ψ=aE (.cV) (Ψ.set c (.lst [])):=by
 subst he;exact Wu (dM (bC h1) (b:=.int 3) (by simp) (c:=.aG c) (by simp)) (iV j) bN (by simp[uR j])
theorem Xs{Ψ:aH}{n i:ax}{ds:ai A}{fv:Ev->Mo A}{y:A}(hn:Ψ[n]?=ag (.lst ds))(hl:ds.length<100000){Y:Ev}(h1:(Y[i]?).join=(aF n))(hv:fv Y Ψ=aE y Ψ):lA pW (dY i) (aA fv a0) Y Ψ=aE (.cV) (Ψ.set n (.lst (ds++[y]))) :=
 Wu (bC h1) (iV hn) (aS hv bN) (by
  have:ds.length<ay:=by rw[nD];omega
  simp[uR hn,this])
section
variable{Z:aH}{p r keep:ax}{rs row:ai Rn}{L:ai Rg}
theorem awB(a:iM Z p keep rs row L){Y:Ev}{c:ax}{P:Po}(B:(Y[0]?).join=(aF p))(h1:(Y[1]?).join=ag (tupP P (.aG c)))(k:(Y[3]?).join=ag (bQ (All rs L)))(i:(Y[4]?).join=ag (.lst ((eE rs L).map A.int)))(h:Z[c]?=ag (.lst [])) :
  ∃j,(yA (aC gK (bK "pouch" [("Gaps",bJ 1 [] pJ)] aI a0) dA) (yA (aC gK (bK "numbers" [("Gaps",bJ 1 [] rB)] aI a0) bW) (aC gK (aC aY aW fC) (kR ak a0)))) Y Z=aE (.bl av) (Z++j):=by
 obtain⟨o,j,d,_,g⟩:=NW a;have N:=a.app j;have e:=UU N;have m:bK "pouch" [("Gaps",bJ 1 [] pJ)] aI a0 Y Z=aE (tupP (All rs L) (.aG o)) (Z++j):=a.call rfl B (as:=[]) (das:=[]) bN rfl (by simpa using d);have l:bK "numbers" [("Gaps",bJ 1 [] rB)] aI a0 Y (Z++j)=aE (.aG (Z++j).length) ((Z++j)++[.lst ((eE rs L).map A.int)]):=N.call rfl B (as:=[]) (das:=[]) bN rfl (by simpa using e);have f:((Z++j)++[Cell.lst ((eE rs L).map A.int)])[(Z++j).length]?=ag (.lst ((eE rs L).map A.int)):=by simp
 have n:((Z++j)++[Cell.lst ((eE rs L).map A.int)])[c]?=ag (.lst []):=oZ (oZ h _) _;have q:cJ 8 (bQ (All rs L))=av:=ag5 ..;have z:cJ 8 (.lst ((eE rs L).map A.int))=av:=by simp[cJ]
 have U:cJ 8 (.lst [])=av:=rfl;refine⟨j++[.lst ((eE rs L).map A.int)],?_⟩;rw[<-DG];exact Xx (AQ m (bC k) (QW (af1 g) (lN q) q)) (Xx (AQ l (bC i) (QW (by rw[JC f,EK _ (by simp)];rfl) (lN z) z)) (AQ (dM (bC h1) (b:=.int 3) (by simp) (c:=.aG c) (by simp)) (b:=.lst []) (by simp) (QW (by rw[JC n,EK _ (by simp)];rfl) (lN U) U)))
theorem aaG(a:iM Z p keep rs row L):HK [.aG p] Z=aE (.bl av) Z:=by
 obtain⟨c,j,h,m,U⟩:=NW a;have fQ:c<(Z++j).length:=(dO.mp U).1;have d:=a.app j;have k:=UU d;show trim Z (eS (Fl [aF p,ao,ao,ao,ao] Z))=_;unfold Fl;have u:bK "pouch" [("Gaps",bJ 1 [] pJ)] aI a0 [aF p,ao,ao,ao,ao] Z=aE (tupP (All rs L) (.aG c)) (Z++j):=a.call rfl rfl (as:=[]) (das:=[]) bN rfl (by simpa using h);rw[cA (iB (i:=1) u)];simp only[List.set];have t:bK "numbers" [("Gaps",bJ 1 [] rB)] aI a0 [aF p,ag (tupP (All rs L) (.aG c)),ao,ao,ao] (Z++j)=aE (.aG (Z++j).length) ((Z++j)++[.lst ((eE rs L).map A.int)]):=d.call rfl rfl (as:=[]) (das:=[]) bN rfl (by simpa using k);rw[cA (iB (i:=2) t)];simp only[List.set];have N:=oZ U [.lst ((eE rs L).map A.int)];have B:((Z++j)++[Cell.lst ((eE rs L).map A.int)])[(Z++j).length]?=ag (.lst ((eE rs L).map A.int)):=by simp
 have e:Z.length<=(Z++j).length:=by simp
 have f:(Z++j)++[Cell.lst ((eE rs L).map A.int)]=Z++(j++[Cell.lst ((eE rs L).map A.int)]):=DG ..;generalize (Z++j).length=n at B e fQ ⊢;generalize j++[Cell.lst ((eE rs L).map A.int)]=z at f;rw[f]at N B ⊢;have fO:c≠n:=by omega
 rw[cA (iB (i:=3) (ab3 (oM (iV N)) rfl))];simp only[List.set];have s:aN (BY ak) (aA bX a0) [aF p,ag (tupP (All rs L) (.aG c)),aF n,ag (bQ (All rs L)),ao] (Z++z)=aE (.lst ((eE rs L).map A.int)) (Z++z):=mU (aS (bC (a:=.aG n) rfl) bN) (by simp[oM (iV B)]);rw[cA (iB (i:=4) s)];simp only[List.set];rw[cA (wZ (au1 N rfl rfl))];have l:((Z++z).set c (.lst []))[n]?=ag (.lst ((eE rs L).map A.int)):=by rw[kG fO];exact B
 have r:(eE rs L).length<=976:=by
  have:=a.o.nums;have h2:(eE rs L).length<=(eT (bM rs L)).length:=by
   unfold eE;rw[AG];exact Ek _
  omega
 rw[cA (wZ (Xs l (by simp;omega) (i:=2) (y:=.int 0) rfl (by simp)))];have b:(((Z++z).set c (.lst [])).set n (.lst ((eE rs L).map A.int++[.int 0])))[c]?=ag (.lst []):=by
  rw[kG (dX fO),iD (dO.mp N).1]
 rw[Nd m,Nd e]at b ⊢;obtain⟨g,q⟩:=awB (a.app _) (Y:=[aF p,ag (tupP (All rs L) (.aG c)),aF n,ag (bQ (All rs L)),dB ((eE rs L).map A.int)]) rfl rfl rfl rfl b;unfold bT;rw[fN q];simp only[uG];rw[DG];exact rM (by simp only[Cl])
end
theorem arV{Z:aH}(n:aw)(L:ai aw):BX av (.int n) (.lst (L.map A.int)) Z=aE (.bl (!decide (n∈L))) Z:=by
 have j:cJ 8 (.lst (L.map A.int))=av:=by simp[cJ]
 have N:res Z 6 (.int n)=(aB n):=lN (by simp[cJ]);have q:res Z 6 (.lst (L.map A.int))=ag (.lst (L.map A.int)):=lN j;have U:cJ 7 (.int n)=av:=by simp[cJ]
 have a:((L.map A.int).any λd=>gA 7 d (.int n))=decide (n∈L):=by
  rw[List.any_map];have b:∀m:aw,((λd=>gA 7 d (.int n)) ∘ A.int) m=decide (m=n):=λm=>by
   simp only[Function.comp,gA]
   by_cases B:m=n
   ·simp[B]
   ·simp[B]
  rw[show((λd=>gA 7 d (.int n)) ∘ A.int)=λm=>decide (m=n)from funext b];clear q j
  induction L with
  |nil=>rfl
  |cons m L ih =>
   rw[NC,ih]
   by_cases hm:m=n
   ·simp[hm]
   ·have:¬n=m:=λz=>hm z.symm;simp[hm,this]
 unfold BX;rw[N,q];simp only[U,j,Bool.and_self,kL,a]
section
variable{Z:aH}{p r keep:ax}{rs row:ai Rn}{L:ai Rg}
theorem eK.told(o:eK keep rs L row):sortI (nO ((All rs L).es.map (·.1)))=eE rs L:=by
 unfold eE;refine adE λx=>?_;have h:=(SK (bM rs L) P0).mem_iff (a:=x);simpa using h
theorem eK.Gz(o:eK keep rs L row):(All rs L).es.length<=976:=by
 have h:=(SK (bM rs L) P0).length_eq;have:=o.nums;simp at h;show(gL P0 (bM rs L)).es.length<=_;omega
theorem alI{l:ai aw}{n:aw}(h:n∈sortI (nO l)):n∈l:=by
 have h1:=(sortI_perm _).mem_iff.mp h;have h2:=(PX (acc:=[])).mp h1;simpa using h2
theorem axS(a:iM Z p keep rs row L)(hr:Z[r]?=ag (.lst (bF row))):UI [.aG p,.aG r] Z=aE (.bl av) Z:=by
 have I:=UU a;have M:=a.o.ED;have eO:=a.o.Qp;show trim Z (eS (Fp [aF p,aF r,ao,ao] Z))=_;unfold Fp;have X:bK "numbers" [("Gaps",bJ 1 [] rB)] aI a0 [aF p,aF r,ao,ao] Z=aE (.aG Z.length) (Z++[.lst ((eE rs L).map A.int)]):=a.call rfl rfl (as:=[]) (das:=[]) bN rfl (by simpa using I);rw[cA (iB (i:=2) X)];simp only[List.set];have f:=a.app [.lst ((eE rs L).map A.int)];have N:(Z++[Cell.lst ((eE rs L).map A.int)])[Z.length]?=ag (.lst ((eE rs L).map A.int)):=by simp
 have F:=oZ hr [.lst ((eE rs L).map A.int)];generalize Bo:Z++[Cell.lst ((eE rs L).map A.int)]=j at f N F;generalize hn:Z.length=n at N;obtain⟨c,z,H,lS,w⟩:=NW f;have yX:=a.o.Gz;have W:aC aY (bK "pouch" [("Gaps",bJ 1 [] pJ)] aI a0) fC [aF p,aF r,aF n,ao] j=aE (.aG c) (j++z):=AQ (Z'':=j++z) (f.call rfl rfl (as:=[]) (das:=[]) bN rfl (by simpa using H)) (b:=.int 3) (by simp) (by simp);have V:Fo [aF p,aF r,aF n,ao] j=aE (.lst ((All rs L).es.map λe=>A.int e.1)) (j++z):=by
  refine AA (S:=srcOf (.aG c) (encL (All rs L).es)) (All rs L).es bU (λe=>A.int e.1) (λY=>∃u,Y=[u]) (λa b e=>by simp[bU]at e;rw[e.1]) ?_ (λB=>oM (iV (oZ w _))) ⟨ao,rfl⟩ rfl (by omega) (λe _ Y ⟨u,U⟩ B=>by subst U;exact⟨[ag (bU e)],⟨_,rfl⟩,by simp,by simp[bU]⟩) (λe _=>by simp only[Cl]);unfold fD;rw[dC W];simp[oM (iV w)]
 have P:(All rs L).es.map (λe=>A.int e.1)=((All rs L).es.map (·.1)).map A.int:=by simp[uZ]
 have E:=Ld (c:=ak) V (ns:=(All rs L).es.map (·.1)) (by rw[P];rfl) (by simp;omega) (by
  have h:=cy List.length a.o.told;unfold eE at h;rw[AG,AG]at h;rw[h];exact a.o.Vp)
 rw[a.o.told]at E;have y:cJ 8 (.lst ((eE rs L).map A.int))=av:=by simp[cJ]
 have d:=oZ N z;have t:=oZ F z;have G:(fG (fY (bD (aN oU (aA bX (aA (cT "list") a0))))) (bD (aC iP bX (DR ak Fo)))) [aF p,aF r,aF n,ao] j=aE ak (j++z) :=
  rO (Z':=j) (qJ (b:=av) (gE (mU (Z':=j) (aS (bC (a:=.aG n) rfl) (aS (a:=.ty "list") (by simp) bN)) (by simp[mZ,N])))) (gE (AQ (bC (a:=.aG n) rfl) (b:=.lst ((eE rs L).map A.int)) (by rw[E];rfl) (LW (by rw[JC d,EK _ (by simp)];rfl) (lN y) y)))
 rw[cA (qM G)];have D:Xp [aF p,aF r,aF n,ao] (j++z)=aE (.lst (row.map λq=>A.int q.1)) (j++z):=by
  refine AA (S:=srcOf (.aG r) (bF row)) row iJ (λq=>A.int q.1) (λY=>∃u v,Y=[u,v]) (λa b e=>by simp[iJ]at e;simp[e.1]) ?_ (λB=>oM (iV (oZ t _))) ⟨ao,ao,rfl⟩ rfl (by omega) (λq _ Y ⟨u,v,e⟩ B=>by subst e;exact⟨[aB q.1,aB q.2],⟨_,_,rfl⟩,by simp[iJ],by simp⟩) (λq _=>by simp only[Cl]);unfold fD;rw[dC (bC (a:=.aG r) rfl)];simp[oM (iV t)]
 have T:row.map (λq=>A.int q.1)=(row.map (·.1)).map A.int:=by simp[uZ]
 rw[T]at D;rw[cA (iB (i:=3) D)];simp only[List.set];have R:Xo [aF p,aF r,aF n,dB ((row.map (·.1)).map A.int)] (j++z)=aE (.lst []) (j++z):=by
  have C:∀l:ai A,l.filterMap (λ_=>(ao:aq A))=[]:=λl=>by induction l with
   |nil=>rfl
   |cons x l ih=>simp[TL,ih]
  have q:=OE (n:=1) (js:=[3]) (fi:=fD bX) (g:=gN 0) (c:=fG (bD (aC (BX av) aI aW)) (bD (aN oU (aA aI (aA (cT "bool") a0))))) (e:=dY 0) (Y:=[aF p,aF r,aF n,dB ((row.map (·.1)).map A.int)]) (Z:=j++z) (Z0:=j++z) (S:=srcOf (.aG n) ((eE rs L).map A.int)) (λ_=>ao) (λY=>∃u,Y=[u,dB ((row.map (·.1)).map A.int)]) (by
   unfold fD;rw[dC (bC (a:=.aG n) rfl)];simp[oM (iV d)]) (λB=>oM (iV (oZ d _))) ⟨ao,rfl⟩ (by
   show((eE rs L).map A.int).length<=_;have h2:(eE rs L).length<=(eT (bM rs L)).length:=by
    unfold eE;rw[AG];exact Ek _
   have:=a.o.nums;simp;omega) (λx K Y ⟨u,U⟩ B=>by
   subst U;obtain⟨m,hm,rfl⟩:=jA.mp K;have BH:=a.o.mem m (alI hm);refine⟨[aB m,dB ((row.map (·.1)).map A.int)],⟨_,rfl⟩,by simp,.inr ⟨rfl,?_⟩⟩;generalize (j++z)++[Cell.lst B]=s;exact rO (Z':=s) (gE (dM (bC (a:=.int m) rfl) (bC (a:=.lst ((row.map (·.1)).map A.int)) rfl) (by rw[arV];simp only[BH,decide_true,Bool.not_true]))) (gE (mU (Z':=s) (aS (bC (a:=.int m) rfl) (aS (a:=.ty "bool") (by simp) bN)) (by simp)))) (by rw[C];simp[eX])
  rw[C]at q;exact q
 have k:cJ 8 (.lst [])=av:=rfl;have Q:=AQ (g:=gK) (f2:=kR ak a0) (b:=.lst []) (Z'':=j++z) R (by simp) (QW (Z:=j++z) (lN k) (lN k) k);unfold bT;rw[fN Q];simp only[uG];rw[<-Bo,DG];exact rM (by simp only[Cl])
end
theorem av4{f:Ev->Mo A}{i j:ax}{a b:A}{Y:Ev}{Z Z':aH}(h:f Y Z=aE (.tup [a,b]) Z'):bS f (lV 2 (fJ (gN i) (fJ (gN j) mP))) Y Z=eR ((Y.set i (ag a)).set j (ag b)) Z':=by
 unfold bS;rw[fN h];simp
theorem Wr{R:ai Rn}{P:Po}(g:Gd R P)(hl:0<=P.l)(x y:aw):0<=CL x y P/\CL x y P<=max 0 (bZ R y-bY R x)/\max 0 (bZ R y-bY R x)<=FX x y P/\FX x y P-CL x y P<=2*P.l:=by
 obtain⟨b,B,z,a⟩:=UW g x ak;obtain⟨U,q,j,N⟩:=UW g y av;simp only[qT,kL,IG,pS]at B z q j;unfold CL FX
 by_cases h:y<x
 ·rw[a6 h,a6 h];have:=yB g.tn h;omega
 ·rw[a7 h,a7 h];have h1:=AE g.tn (show x<=y by omega);have h2:=sW g.tn y;omega
section
variable{Z:aH}{p r keep:ax}{rs row:ai Rn}{L:ai Rg}
theorem auU(a:iM Z p keep rs row L)(hr:Z[r]?=ag (.lst (bF row))){c:ax}(n:Z[c]?=ag (.lst (encL (All rs L).es)))(hz:(All rs L).es.length<=1000)(N:A)(x y:aw)(f e:aq A) :
  RX [aF p,aF r,ag N,aB (dN L),aB x,aB (bY row x),aB (bZ row x),ag (tupP (All rs L) (.aG c)),aB y,f,e] Z
   = eR [aF p,aF r,ag N,aB (dN L),aB x,aB (bY row x),aB (bZ row x),ag (tupP (All rs L) (.aG c)),aB y,aB (max 0 (bZ row y-bY row x)),ag (kY x y (All rs L))] Z:=by
 have l:=Zm hr y;have g:=a.o.off;obtain⟨D,C,w,h⟩:=Wr a.o.gd (by rw[g];exact a.o.Ah) x y;rw[g]at h;have m:=Kb a x y;have U:=axW a.o.gd hz a.u a.b (oM (iV n)) x y;generalize tupP (All rs L) (.aG c)=T at U ⊢;unfold RX;generalize j:[ag (A.aG p),aF r,ag N,aB (dN L),aB x,aB (bY row x),aB (bZ row x),ag T,aB y,f,e]=z;have v:aN pU (aA bR (aA (aC (lE) (aC aY (aN (bA 2 HM) (aA aW (aA mD a0))) cL) fM) a0)) z Z=aE (.int (max 0 (bZ row y-bY row x))) Z :=
  mU (Z':=Z) (aS (a:=.int 0) (by simp) (aS (dM (dM (gY (aS (bC (a:=.aG r) (by subst j;rfl)) (aS (bC (a:=.int y) (by subst j;rfl)) bN)) rfl l) (b:=.int 1) (by simp) (c:=.int (bZ row y)) (by simp)) (bC (a:=.int (bY row x)) (by subst j;rfl)) (c:=.int (bZ row y-bY row x)) (by simp)) bN)) (by simp)
 rw[cA (iB (i:=9) v)];subst j;simp only[List.set];generalize j:[ag (A.aG p),aF r,ag N,aB (dN L),aB x,aB (bY row x),aB (bZ row x),ag T,aB y,aB (max 0 (bZ row y-bY row x)),e]=z;have s:bK "between" [("Gaps",bJ 3 [] vA)] aI (aA bW (aA mD a0)) z Z=aE (kY x y (All rs L)) Z:=a.call rfl (by subst j;rfl) (as:=[.int x,.int y]) (das:=[]) (aS (bC (by subst j;rfl)) (aS (bC (by subst j;rfl)) bN)) rfl (by simpa using m);rw[cA (iB (i:=10) s)];subst j;simp only[List.set];have hm:kI 2 (dN L):=(MC (by decide) (by decide)).2;have d:pI [kY x y (All rs L),.int (max 0 (bZ row y-bY row x)),.int (2*dN L)] Z=_:=TB _ _ _ (2*dN L) D C w h Z;generalize max 0 (bZ row y-bY row x)=k at d ⊢;have q:cJ 8 (kY x y (All rs L))=av:=by simp[kY,cJ]
 generalize kY x y (All rs L)=B at d U q ⊢;have t:(fG (fY (bD (aN (bA 3 pI) (aA sP (aA sO (aA (aC (kB) gD dA) a0)))))) (bD (aC iP sP (aN (bA 3 UG) (aA vH (aA bW (aA mD a0))))))) [ag (A.aG p),aF r,ag N,aB (dN L),aB x,aB (bY row x),aB (bZ row x),ag T,aB y,aB k,ag B] Z=aE ak Z :=
  rO (Z':=Z) (qJ (b:=av) (gE (gY (aS (bC (a:=B) rfl) (aS (bC (a:=.int k) rfl) (aS (dM (a:=.int 2) (b:=.int (dN L)) (by simp) (bC rfl) (JP hm _)) bN))) rfl d))) (gE (dM (bC (a:=B) rfl) (gY (aS (bC (a:=T) rfl) (aS (bC (a:=.int x) rfl) (aS (bC (a:=.int y) rfl) bN))) rfl U) (LW (lN q) (lN q) q)))
 rw[qM t]
end
theorem Vr(ns:ai aw)(n:ax):xB (ns.map A.int) ao (ag (n:aw))=(ns.take n).map A.int:=by
 unfold xB;rw[HT.afM,HT.afN];simp[List.map_take,List.take_eq_take_iff]
section
variable{Z:aH}{p r keep:ax}{rs row:ai Rn}{L:ai Rg}
theorem Rf(a:iM Z p keep rs row L)(hr:Z[r]?=ag (.lst (bF row))){c:ax}(d:Z[c]?=ag (.lst (encL (All rs L).es)))(N:A)(x:aw)(ok:aH->Prop)(aK:ok Z):∀(ys:ai aw) (z j q:aq A),∃U b B,
  eY ok (gN 8) RX (ys.map A.int) [aF p,aF r,ag N,aB (dN L),aB x,aB (bY row x),aB (bZ row x),ag (tupP (All rs L) (.aG c)),z,j,q] Z
   = eR [aF p,aF r,ag N,aB (dN L),aB x,aB (bY row x),aB (bZ row x),ag (tupP (All rs L) (.aG c)),U,b,B] Z
 |[],z,j,q=>⟨z,j,q,by rw[pG,zB aK]⟩
 |y::ys,z,j,q=>by
  have t:=auU a hr d (by have:=a.o.Gz;omega) N x y j q;obtain⟨U,b,B,e⟩:=Rf a hr d N x ok aK ys (aB y) (aB (max 0 (bZ row y-bY row x))) (ag (kY x y (All rs L)));refine⟨U,b,B,?_⟩;rw[cK,pX aK (Y0:=[aF p,aF r,ag N,aB (dN L),aB x,aB (bY row x),aB (bZ row x),ag (tupP (All rs L) (.aG c)),aB y,j,q]) (Z0:=Z) (by simp) t,e]
theorem auT(a:iM Z p keep rs row L)(hr:Z[r]?=ag (.lst (bF row)))(ns:ai aw)(x:aw)(o5 o6 y h g k:aq A):∃q Al Ak Aj m s l,
  MK [aF p,aF r,dB (ns.map A.int),aB (dN L),aB x,o5,o6,y,h,g,k] Z
   = eR [aF p,aF r,dB (ns.map A.int),aB (dN L),aB x,Al,Ak,Aj,m,s,l] (Z++q):=by
 have E:=a.o.off;have qc:=Zm hr x;obtain⟨u1,P,M,K⟩:=UW a.o.gd x av;obtain⟨d1,V,S,R⟩:=UW a.o.gd x ak;rw[E]at K R;simp only[qT,kL,IG,pS]at P M V S;obtain⟨b1,b2,X,W⟩:=Wr a.o.gd (by rw[E];exact a.o.Ah) x x;rw[E]at W;have hle:=sW a.o.gd.tn x;rw[show max 0 (bZ row x-bY row x)=bZ row x-bY row x by omega]at b2 X;unfold MK;rw[cA (av4 (i:=5) (j:=6) (gY (n:=2) (F:=HM) (aS (bC (a:=.aG r) rfl) (aS (bC (a:=.int x) rfl) bN)) rfl qc))];simp only[List.set];obtain⟨c,q,qp,lS,Q⟩:=NW a;refine⟨q,?_⟩;have f:=a.app q;have QJ:=oZ hr q;have up:∀(z:Ev),(z[0]?).join=(aF p)->(z[4]?).join=(aB x)->bK "upto" [("Gaps",bJ 2 [] rC)] aI (aA bW a0) z Z=aE (lB x av (All rs L)) Z:=λz d N=>a.call rfl d (as:=[.int x]) (das:=[]) (aS (bC N) bN) rfl (by simpa using Ka a x);have bl:∀(z:Ev),(z[0]?).join=(aF p)->(z[4]?).join=(aB x)->bK "below" [("Gaps",bJ 2 [] rD)] aI (aA bW a0) z Z=aE (lB x ak (All rs L)) Z:=λz d N=>a.call rfl d (as:=[.int x]) (das:=[]) (aS (bC N) bN) rfl (by simpa using Kc a x);have up1:∀(z:Ev),(z[0]?).join=(aF p)->(z[4]?).join=(aB x)->bK "upto" [("Gaps",bJ 2 [] rC)] aI (aA bW a0) z (Z++q)=aE (lB x av (All rs L)) (Z++q):=λz d N=>f.call rfl d (as:=[.int x]) (das:=[]) (aS (bC N) bN) rfl (by simpa using Ka f x);have G:∀(z:Ev),(z[0]?).join=(aF p)->(z[4]?).join=(aB x)->bK "below" [("Gaps",bJ 2 [] rD)] aI (aA bW a0) z (Z++q)=aE (lB x ak (All rs L)) (Z++q):=λz d N=>f.call rfl d (as:=[.int x]) (das:=[]) (aS (bC N) bN) rfl (by simpa using Kc f x);have Vv:∀(z:Ev),(z[0]?).join=(aF p)->(z[4]?).join=(aB x)->bK "counted" [("Gaps",bJ 2 [] zQ)] aI (aA bW a0) z (Z++q)=aE (kY x x (All rs L)) (Z++q):=λz d N=>f.call rfl d (as:=[.int x]) (das:=[]) (aS (bC N) bN) rfl (by simpa using axV f x);have H:∀(z:Ev),(z[0]?).join=(aF p)->(z[4]?).join=(aB x)->bK "between" [("Gaps",bJ 3 [] vA)] aI (aA bW (aA bW a0)) z (Z++q)=aE (kY x x (All rs L)) (Z++q):=λz d N=>f.call rfl d (as:=[.int x,.int x]) (das:=[]) (aS (bC N) (aS (bC N) bN)) rfl (by simpa using Kb f x x);have I:(All rs L).es.length<=1000:=by have:=a.o.Gz;omega
 have sc:=oM (iV Q);have qu:sG [tupP (All rs L) (.aG c),.int x] (Z++q)=aE (lB x av (All rs L)) (Z++q):=Ib a.o.gd I x (Z++q) f.u (.aG c) sc;have qd:sH [tupP (All rs L) (.aG c),.int x] (Z++q)=aE (lB x ak (All rs L)) (Z++q):=Ig a.o.gd I x (Z++q) f.b (.aG c) sc;have p1:pI [lB x av (All rs L),.int (bZ row x),.int (dN L)] Z=aE (.bl av) Z:=TB _ _ _ _ u1 P M K Z;have p2:pI [lB x ak (All rs L),.int (bY row x),.int (dN L)] Z=aE (.bl av) Z:=TB _ _ _ _ d1 V S R Z;have p3:pI [kY x x (All rs L),.int (bZ row x-bY row x),.int (2*dN L)] (Z++q)=aE (.bl av) (Z++q):=TB _ _ _ _ b1 b2 X W (Z++q);have t:cJ 8 (lB x av (All rs L))=av:=by simp[lB,cJ]
 have v:cJ 8 (lB x ak (All rs L))=av:=by simp[lB,cJ]
 have w:cJ 8 (kY x x (All rs L))=av:=by simp[kY,cJ]
 have hm:kI 2 (dN L):=(MC (by decide) (by decide)).2;have D:=Rf f QJ Q (.lst (ns.map A.int)) x (srcOf (.lst ((ns.take 2).map A.int)) ((ns.take 2).map A.int)).ok rfl (ns.take 2) h g k;generalize hU:lB x av (All rs L)=U at *;generalize hB:lB x ak (All rs L)=B at *;generalize hC:kY x x (All rs L)=C at *;have e1:bK "pouch" [("Gaps",bJ 1 [] pJ)] aI a0 [aF p,aF r,dB (ns.map A.int),aB (dN L),aB x,aB (bY row x),aB (bZ row x),y,h,g,k] Z=aE (tupP (All rs L) (.aG c)) (Z++q):=a.call rfl rfl (as:=[]) (das:=[]) bN rfl (by simpa using qp);generalize tupP (All rs L) (.aG c)=T at *;have t1:(fG (fY (bD (aN (bA 3 pI) (aA (bK "upto" [("Gaps",bJ 2 [] rC)] aI (aA bW a0)) (aA mW (aA dA a0)))))) (fY (bD (aN (bA 3 pI) (aA (bK "below" [("Gaps",bJ 2 [] rD)] aI (aA bW a0)) (aA fM (aA dA a0))))))) [aF p,aF r,dB (ns.map A.int),aB (dN L),aB x,aB (bY row x),aB (bZ row x),y,h,g,k] Z=aE ak Z :=
  rO (Z':=Z) (qJ (b:=av) (gE (gY (aS (up _ rfl rfl) (aS (bC (a:=.int (bZ row x)) rfl) (aS (bC (a:=.int (dN L)) rfl) bN))) rfl p1))) (qJ (b:=av) (gE (gY (aS (bl _ rfl rfl) (aS (bC (a:=.int (bY row x)) rfl) (aS (bC (a:=.int (dN L)) rfl) bN))) rfl p2)))
 rw[cA (qM t1),cA (iB (i:=7) e1)];simp only[List.set];have t2:(fG (bD (aC iP (bK "upto" [("Gaps",bJ 2 [] rC)] aI (aA bW a0)) (aN (bA 2 sG) (aA vH (aA bW a0))))) (bD (aC iP (bK "below" [("Gaps",bJ 2 [] rD)] aI (aA bW a0)) (aN (bA 2 sH) (aA vH (aA bW a0)))))) [aF p,aF r,dB (ns.map A.int),aB (dN L),aB x,aB (bY row x),aB (bZ row x),ag T,h,g,k] (Z++q)=aE ak (Z++q) :=
  rO (Z':=Z++q) (gE (dM (up1 _ rfl rfl) (gY (aS (bC (a:=T) rfl) (aS (bC (a:=.int x) rfl) bN)) rfl qu) (LW (lN t) (lN t) t))) (gE (dM (G _ rfl rfl) (gY (aS (bC (a:=T) rfl) (aS (bC (a:=.int x) rfl) bN)) rfl qd) (LW (lN v) (lN v) v)))
 have t3:(fY (bD (aN (bA 3 pI) (aA (bK "counted" [("Gaps",bJ 2 [] zQ)] aI (aA bW a0)) (aA (aC (lE) mW fM) (aA (aC (kB) gD dA) a0)))))) [aF p,aF r,dB (ns.map A.int),aB (dN L),aB x,aB (bY row x),aB (bZ row x),ag T,h,g,k] (Z++q)=aE ak (Z++q) :=
  qJ (b:=av) (gE (gY (aS (Vv _ rfl rfl) (aS (dM (bC (a:=.int (bZ row x)) rfl) (bC (a:=.int (bY row x)) rfl) (c:=.int (bZ row x-bY row x)) (by simp)) (aS (dM (a:=.int 2) (b:=.int (dN L)) (by simp) (bC rfl) (JP hm _)) bN))) rfl p3))
 have t4:(bD (aC iP (bK "counted" [("Gaps",bJ 2 [] zQ)] aI (aA bW a0)) (bK "between" [("Gaps",bJ 3 [] vA)] aI (aA bW (aA bW a0))))) [aF p,aF r,dB (ns.map A.int),aB (dN L),aB x,aB (bY row x),aB (bZ row x),ag T,h,g,k] (Z++q)=aE ak (Z++q) :=
  gE (dM (Vv _ rfl rfl) (H _ rfl rfl) (LW (lN w) (lN w) w))
 rw[cA (qM t2),cA (qM t3),cA (qM t4)];obtain⟨m,s,l,e⟩:=D;refine⟨aB (bY row x),aB (bZ row x),ag T,m,s,l,?_⟩;have es:rK ak bX yF (vL gD) [aF p,aF r,dB (ns.map A.int),aB (dN L),aB x,aB (bY row x),aB (bZ row x),ag T,h,g,k] (Z++q)=aE (.lst ((ns.take 2).map A.int)) (Z++q):=by
  unfold rK;rw[dC (bC (a:=.lst (ns.map A.int)) rfl)];have QU:xB (ns.map A.int) ao (ag 2)=(ns.take 2).map A.int:=Vr ns 2;simp[QU]
 unfold jX;rw[fN (x:=srcOf (.lst ((ns.take 2).map A.int)) ((ns.take 2).map A.int)) (Z':=Z++q) (by unfold fD;rw[dC es];simp)];exact e
theorem Pa(ns:ai aw)(ok:aH->Prop)(aK:∀Z',ok Z'):∀(xs:ai aw) {Z:aH} (a:iM Z p keep rs row L) (hr:Z[r]?=ag (.lst (bF row))) (c N B z q j U:aq A),∃b h F G H u v s,
  eY ok (gN 4) MK (xs.map A.int) [aF p,aF r,dB (ns.map A.int),aB (dN L),c,N,B,z,q,j,U] Z
   = eR [aF p,aF r,dB (ns.map A.int),aB (dN L),h,F,G,H,u,v,s] (Z++b)
 |[],Z,a,hr,c,N,B,z,q,j,U=>⟨[],c,N,B,z,q,j,U,by rw[pG,zB (aK _)];simp⟩
 |x::xs,Z,a,hr,c,N,B,z,q,j,U=>by
  obtain⟨b,E,D,C,y,w,g,t⟩:=auT a hr ns x N B z q j U;obtain⟨d,o,n,m,l,k,i,f,e⟩:=Pa ns ok aK xs (a.app b) (oZ hr b) (aB x) E D C y w g;refine⟨b++d,o,n,m,l,k,i,f,?_⟩;rw[cK,pX (aK _) (Y0:=[aF p,aF r,dB (ns.map A.int),aB (dN L),aB x,N,B,z,q,j,U]) (Z0:=Z) (by simp) t,e,DG]
theorem aaJ(a:iM Z p keep rs row L)(hr:Z[r]?=ag (.lst (bF row)))(ns:ai aw):HN [.aG p,.aG r,.lst (ns.map A.int)] Z=aE (.bl av) Z:=by
 show trim Z (eS (Fu [aF p,aF r,dB (ns.map A.int),ao,ao,ao,ao,ao,ao,ao,ao] Z))=_;unfold Fu;have g:bK "off" [("Gaps",bJ 1 [] vC)] aI a0 [aF p,aF r,dB (ns.map A.int),ao,ao,ao,ao,ao,ao,ao,ao] Z=aE (.int (dN L)) Z:=a.call rfl rfl (as:=[]) (das:=[]) bN rfl (by simpa using aaI a);rw[cA (iB (i:=3) g)];simp only[List.set];obtain⟨j,b,U,N,B,z,q,c,e⟩:=Pa (p:=p) (r:=r) (keep:=keep) (rs:=rs) (row:=row) (L:=L) ns (srcOf (.lst (ns.map A.int)) (ns.map A.int)).ok (λ_=>rfl) ns a hr ao ao ao ao ao ao ao;have f:jX (fD bX) (gN 4) MK [aF p,aF r,dB (ns.map A.int),aB (dN L),ao,ao,ao,ao,ao,ao,ao] Z=eR [aF p,aF r,dB (ns.map A.int),aB (dN L),b,U,N,B,z,q,c] (Z++j):=by
  unfold jX;rw[fN (x:=srcOf (.lst (ns.map A.int)) (ns.map A.int)) (Z':=Z) (by unfold fD;rw[dC (bC (a:=.lst (ns.map A.int)) rfl)];simp)];exact e
 rw[cA f];have d:bT (cB av) [aF p,aF r,dB (ns.map A.int),aB (dN L),b,U,N,B,z,q,c] (Z++j)=ag (.ret (.bl av),[aF p,aF r,dB (ns.map A.int),aB (dN L),b,U,N,B,z,q,c],Z++j):=by simp
 rw[d];simp only[uG];exact rM (by simp only[Cl])
end
theorem Gw{f g:Ev->Mo bc}{Y:Ev}{Z Z':aH}(h:f Y Z=aE ak Z'):rL f g Y Z=aE ak Z':=by
 unfold rL;rw[dC h];rfl
theorem Gv{f g:Ev->Mo bc}{Y:Ev}{Z Z':aH}(h:f Y Z=aE av Z'):rL f g Y Z=g Y Z':=by
 unfold rL;rw[dC h];rfl
theorem Rj{t:Ev->Mo bc}{f g:MS}{Y:Ev}{Z Z':aH}{b:bc}(h:t Y Z=aE b Z'):eI t f g Y Z=if b then f Y Z' else g Y Z':=by
 unfold eI;rw[fN h]
abbrev gC(keep:ax)(rs row:ai Rn)(L:ai Rg):aH:=[jK,jL,cG keep (whole row) row.length rs L,.lst (bF row)]
theorem SJ{keep:ax}{rs row:ai Rn}{L:ai Rg}(o:eK keep rs L row):iM (gC keep rs row L) 2 keep rs row L:=⟨rfl,o,rfl,rfl⟩
abbrev sJ(ns:ai aw)(z0 kd:aw)(keep:ax)(cs m:aw)(q j z B:aq A):Ev:=[ag (.jM ns),aB z0,aB kd,aB keep,aF 2,aF 3,aB cs,aB m,q,j,z,B]
section
variable{ns:ai aw}{z0 kd cs m:aw}{keep:ax}{rs row:ai Rn}{L:ai Rg}
theorem Aq(f:Ev->Mo A)(Y:Ev)(Z:aH)(v k:aw)(j:0<k)(h:f Y Z=aE (.int v) Z):bD (aC gK (aC (iX) f (cI k)) bR) Y Z=aE (v%k==0) Z :=
 gE (dM (dM h (b:=.int k) (by simp) (c:=.int (v%k)) (by simp[j])) (b:=.int 0) (by simp) (by simp))
theorem abW(o:eK keep rs L row)(hk:keep<=1000)(BL:0<=cs)(Tf:cs<=62)(hi:row.length<60)(hw:whole row<=1000000*row.length)(F R S:aq A):∃B N n t UX UZ UY,eK keep B N (row++[(n,t)])/\whole (row++[(n,t)])<=1000000*(row++[(n,t)]).length /\
  RT (sJ ns z0 kd keep cs m (aB row.length) F R S) (gC keep rs row L)=eR (sJ ns z0 kd keep cs m (aB row.length) UX UZ UY) (gC keep B (row++[(n,t)]) N):=by
 have Sh:(0:aw)<max 1 cs:=by omega
 have azI:=TX (row.length:aw) (show max 1 cs≠0 by omega);have azH:=NF (row.length:aw) Sh;have P:=λz=>Zn ns (1+(row.length:aw)%max 1 cs) z (by omega) (by omega);have c0:=Wl ns (1+(row.length:aw)%max 1 cs);have c1:=Wk ns (1+(row.length:aw)%max 1 cs);generalize CJ ns (1+(row.length:aw)%max 1 cs)=f at P c0 c1;have K:=λz=>GS f row.length z c0 (by omega) (by omega) (by omega);have s0:=JR f row.length;have s1:=PU f row.length;generalize wI f row.length=st at K s0 s1;have V:=λz=>GS st 1 z s0 (by omega) (by omega) (by omega);have X:=JR st 1;have n1:=PU st 1;generalize wI st 1=g at V X n1;have T:=λz=>GS st 2 z s0 (by omega) (by omega) (by omega);have e:=JR st 2;generalize wI st 2=U at T e;have I:=λz=>Zj g kd z X (by omega);generalize yL g kd=n at I;have G:=λz=>awN U z e;have KG:=acA U e;have w:=ab9 U e;generalize AF U=t at G KG w;obtain⟨B,N,a',qp⟩:=axR (SJ o) n t KG hi (by omega) (tV 2);have W:=a'.o;have v:whole (row++[(n,t)])<=1000000*(row++[(n,t)]).length:=by
  rw[IJ];have:whole [(n,t)]=t:=by simp[whole]
  simp;omega
 refine⟨B,N,n,t,aB st,aB n,aB t,W,v,?_⟩;have D:vB [.aG 2,.int n,.int t] (gC keep rs row L)=aE (.cV) [jK,jL,cG keep (whole (row++[(n,t)])) (row++[(n,t)]).length B N,.lst (bF row)]:=qp;unfold RT;have e1:aN (bA 2 xQ) (aA (aN (bA 2 DL) (aA aI (aA (aC cY cL (aC (iX) mD (aN pU (aA cL (aA mW a0))))) a0))) (aA mD a0)) (sJ ns z0 kd keep cs m (aB row.length) F R S) (gC keep rs row L)=aE (.int st) (gC keep rs row L) :=
  gY (aS (gY (aS (bC (a:=.jM ns) rfl) (aS (dM (a:=.int 1) (by simp) (dM (bC (a:=.int row.length) rfl) (xC (aS (a:=.int 1) (by simp) (aS (bC (a:=.int cs) rfl) bN)) (a:=.int (max 1 cs)) (by simp)) (c:=.int ((row.length:aw)%max 1 cs)) (by simp only[iX,gI];simp[Sh])) (c:=.int (1+(row.length:aw)%max 1 cs)) (by simp)) bN)) rfl (P _)) (aS (bC (a:=.int row.length) rfl) bN)) rfl (K _)
 rw[cA (iB (i:=9) e1)];simp only[sJ,List.set];rw[cA (iB (i:=10) (Z':=gC keep rs row L) (a:=.int n) (gY (as:=[.int g,.int kd]) (aS (gY (as:=[.int st,.int 1]) (aS (bC (by rfl)) (aS (by rfl) bN)) (by rfl) (V _)) (aS (bC (by rfl)) bN)) (by rfl) (I _)))];simp only[List.set];rw[cA (iB (i:=11) (Z':=gC keep rs row L) (a:=.int t) (gY (as:=[.int U]) (aS (gY (as:=[.int st,.int 2]) (aS (bC (by rfl)) (aS (by rfl) bN)) (by rfl) (T _)) bN) (by rfl) (G _)))];simp only[List.set];generalize j:[ag (A.jM ns),aB z0,aB kd,aB keep,aF 2,aF 3,aB cs,aB m,aB row.length,aB st,aB n,aB t]=Y;have E:=(SJ o).h;have ep:(eI (rL (bD (aC gK xX cL)) (bD (aC gK (aC (iX) sO gD) bR)))
    (jC (bK "put" [("Gaps",bJ 3 [.int 1] vB)] bW (aA sP a0)))
    (jC (bK "put" [("Gaps",bJ 3 [] vB)] bW (aA sP (aA xX a0))))) Y (gC keep rs row L)=eR Y [jK,jL,cG keep (whole (row++[(n,t)])) (row++[(n,t)]).length B N,.lst (bF row)]:=by
  have v11:dY 11 Y (gC keep rs row L)=aE (.int t) (gC keep rs row L):=bC (by subst j;rfl);have v10:dY 10 Y (gC keep rs row L)=aE (.int n) (gC keep rs row L):=bC (by subst j;rfl);have et:bD (aC gK xX cL) Y (gC keep rs row L)=aE (t==1) (gC keep rs row L):=gE (dM v11 (b:=.int 1) (by simp) (by simp));have em:=Aq sO Y (gC keep rs row L) st 2 (by decide) (bC (by subst j;rfl))
  by_cases h1:t=1
  ·subst h1;rw[Rj ((Gv (Z':=gC keep rs row L) (by rw[et];rfl)).trans em)]
   by_cases h2:st%2=0
   ·rw[a6 (by simp[h2])];exact wZ (qK E rfl (by subst j;rfl) (as:=[.int n]) (das:=[.int 1]) (aS v10 bN) rfl D)
   ·rw[a7 (by simp[h2])];exact wZ (qK E rfl (by subst j;rfl) (as:=[.int n,.int 1]) (das:=[]) (aS v10 (aS v11 bN)) rfl D)
  ·rw[Rj (Gw (Z':=gC keep rs row L) (by rw[et];simp[h1]))];exact wZ (qK E rfl (by subst j;rfl) (as:=[.int n,.int t]) (das:=[]) (aS v10 (aS v11 bN)) rfl D)
 rw[cA ep];have x:(2:ax)<=ay:=by decide
 have ea:lA pW fM (aA (iR (aA sP (aA xX a0))) a0) Y [jK,jL,cG keep (whole (row++[(n,t)])) (row++[(n,t)]).length B N,.lst (bF row)]=aE (.cV) (gC keep B (row++[(n,t)]) N):=by
  have q:=Xs (Ψ:=[jK,jL,cG keep (whole (row++[(n,t)])) (row++[(n,t)]).length B N,.lst (bF row)]) (n:=3) (i:=5) (ds:=bF row) (fv:=iR (aA sP (aA xX a0))) (y:=iJ (n,t)) rfl (by simp[bF];omega) (Y:=Y) (by subst j;rfl) (by subst j;simp[x,iJ]);rw[q];simp[bF]
 rw[cA (wZ ea)];have C:=SJ W;have k:(gC keep B (row++[(n,t)]) N)[3]?=ag (.lst (bF (row++[(n,t)]))):=rfl;have H:=aaG C;have u:=aaH C k hk;have hlen:(((row++[(n,t)]).length:ax):aw)=(row.length:aw)+1:=by simp
 rw[hlen]at u;obtain⟨is,_,Q⟩:=Zo k st kd s0 (by omega);have M:=aaJ C k (is.take 3);generalize hΨ:gC keep B (row++[(n,t)]) N=Ψ at H u Q M;have l:dY 8 Y Ψ=aE (.int row.length) Ψ:=bC (by subst j;rfl);have r:dY 4 Y Ψ=aE (.aG 2) Ψ:=bC (by subst j;rfl);have p:dY 5 Y Ψ=aE (.aG 3) Ψ:=bC (by subst j;rfl);have t6:(rL (bD (aC gK (aC (iX) mD VJ) bR)) (fG (fY (bD (aN (bA 1 HK) (aA bW a0)))) (fY (bD (aN (bA 4 HL) (aA bW (aA fM (aA (aC cY mD cL) (aA dA a0))))))))) Y Ψ=aE ak Ψ:=by
  have em:=Aq mD Y Ψ row.length 6 (by decide) l
  by_cases d:(row.length:aw)%6=0
  ·rw[Gv (Z':=Ψ) (by rw[em];simp[d])];exact rO (Z':=Ψ) (qJ (b:=av) (gE (gY (aS r bN) rfl H))) (qJ (b:=av) (gE (gY (aS r (aS p (aS (dM l (b:=.int 1) (by simp) (c:=.int ((row.length:aw)+1)) (by simp)) (aS (bC (a:=.int keep) (by subst j;rfl)) bN)))) rfl u)))
  ·exact Gw (by rw[em];simp[d])
 rw[cA (qM t6)];have s:(rL (bD (aC gK (aC (iX) mD (cI 20)) bR)) (fY (bD (aN (bA 3 HN) (aA bW (aA fM (aA (rK ak (aN (bA 3 zP) (aA fM (aA sO (aA bX a0)))) yF (vL fC)) a0))))))) Y Ψ=aE ak Ψ:=by
  have em:=Aq mD Y Ψ row.length 20 (by decide) l
  by_cases d:(row.length:aw)%20=0
  ·rw[Gv (Z':=Ψ) (by rw[em];simp[d])];have es:rK ak (aN (bA 3 zP) (aA fM (aA sO (aA bX a0)))) yF (vL fC) Y Ψ=aE (.lst ((is.take 3).map A.int)) Ψ:=by
    have ec:aN (bA 3 zP) (aA fM (aA sO (aA bX a0))) Y Ψ=aE (.lst (is.map A.int)) Ψ:=gY (aS p (aS (bC (a:=.int st) (by subst j;rfl)) (aS (bC (a:=.int kd) (by subst j;rfl)) bN))) rfl Q;unfold rK;rw[dC ec];have QU:xB (is.map A.int) ao (ag 3)=(is.take 3).map A.int:=Vr is 3;simp[QU]
   exact qJ (b:=av) (gE (gY (aS r (aS p (aS es bN))) rfl M))
  ·exact Gw (by rw[em];simp[d])
 rw[qM s]
end
theorem amP(v:aw)(j:0<=v)(h1:v<8):∃keep:ax,1<=keep/\keep<=1000/\eM [A.int 1000,.int 1,.int 2,.int 3,.int 4,.int 5,.int 1,.int 2] v=(aB keep):=by
 obtain⟨n,rfl⟩:=Zu j;rw[sA];have hn:n<8:=by omega
 match n,hn with
 |0,_=>exact⟨1000,by decide,by decide,rfl⟩
 |1,_=>exact⟨1,by decide,by decide,rfl⟩
 |2,_=>exact⟨2,by decide,by decide,rfl⟩
 |3,_=>exact⟨3,by decide,by decide,rfl⟩
 |4,_=>exact⟨4,by decide,by decide,rfl⟩
 |5,_=>exact⟨5,by decide,by decide,rfl⟩
 |6,_=>exact⟨1,by decide,by decide,rfl⟩
 |7,_=>exact⟨2,by decide,by decide,rfl⟩
theorem amA(ns:ai aw)(KR:ns.length<=63):∃W,Zx [.jM ns] [jK,jL]=aE (.bl av) W:=by
 have P:=λZ=>Zn ns 0 Z (by decide) (by decide);have Q:=Wl ns 0;have y:=Wk ns 0;generalize CJ ns 0=z0 at P Q y;have d5:oJ z0 5:=⟨by decide,by decide⟩;have w:oJ z0 40:=⟨by decide,by decide⟩;obtain⟨keep,X,I,V⟩:=amP (z0/5%8) (by omega) (by omega);generalize BL:max 0 ((ns.length:aw)-1)=cs;have C:0<=cs:=by omega
 have Tf:cs<=62:=by omega
 generalize hm:min 60 (max cs (z0/40%61))=m;have hm0:0<=m:=by omega
 have Sj:m<=60:=by omega
 have D:∀Z,eG Z (.jM ns)=ag (ns.map A.int):=λ_=>rfl;obtain⟨Y1,R,M,k,U,d,f,N,row,L,rfl,rfl,o,hl,hw⟩:=Ea (ok:=λ_=>True) (g:=gN 8) (b:=RT)
  (λi h Z'=>∃(k U d f:aq A) (N row:ai Rn) (L:ai Rg),h=sJ ns z0 (z0%5) keep cs m k U d f/\Z'=gC keep N row L/\eK keep N L row/\row.length=i/\whole row<=1000000*row.length) (λ_ _ _ _=>trivial)
  ((List.range m.toNat).map λ(i:ax)=>A.int (0+(i:aw))) 0 (sJ ns z0 (z0%5) keep cs m ao ao ao ao) (gC keep [] [] []) ⟨ao,ao,ao,ao,[],[],[],rfl,rfl,ajZ X,rfl,by simp[whole]⟩
  (by
   rintro i x h Z' K ⟨k,U,d,f,N,row,L,rfl,rfl,o,hl,hw⟩;have hi:i<m.toNat:=by simpa using(dO.mp K).1
   obtain rfl:A.int (0+(i:aw))=x:=by
    have:=(dO.mp K).2;simpa using this
   rw[CW]at hl ⊢;obtain⟨gF,L',n,t,UX,UZ,UY,a1,a2,q⟩:=abW (ns:=ns) (z0:=z0) (kd:=z0%5) (cs:=cs) (m:=m) o I C Tf (by omega) hw U d f;refine⟨sJ ns z0 (z0%5) keep cs m (aB i) U d f,gC keep N row L,_,_,by simp[sJ],.inl (by rw[<-hl];exact q),aB row.length,UX,UZ,UY,gF,row++[(n,t)],L',rfl,rfl,a1,by simp[hl],a2⟩)
 simp only[CW,lJ,List.length_range]at hl M;have a:=SJ o;have hr:(gC keep N row L)[3]?=ag (.lst (bF row)):=rfl;have E:=aaG a;have s:=aaH a hr I;have v:(row.length:aw)=m:=by omega
 rw[v]at s;have F:=axS a hr;obtain⟨is,_,H⟩:=Zo hr z0 (z0%5) Q (by omega);have G:=aaJ a hr is;have mk:FF "Gaps" 2 HU [.int keep] [jK,jL]=aE (.aG 2) [jK,jL,cG keep 0 0 [] []]:=aw3 [jK,jL] keep;refine⟨[jK,jL],?_⟩;show trim [jK,jL] (eS (RU [ag (.jM ns),ao,ao,ao,ao,ao,ao,ao,ao,ao,ao,ao] [jK,jL]))=_
 suffices hh:∃l,RU [ag (.jM ns),ao,ao,ao,ao,ao,ao,ao,ao,ao,ao,ao] [jK,jL]=ag (.ret (.bl av),l,[jK,jL]++[cG keep (whole row) row.length N L,.lst (bF row)])by
  obtain⟨l,e⟩:=hh;rw[e];simp only[uG];exact rM (Z:=[jK,jL]) (by simp only[Cl])
 refine⟨sJ ns z0 (z0%5) keep cs m k U d f,?_⟩;have h8:(8:ax)<=ay:=by decide
 unfold RU;rw[cA (iB (i:=1) (Z':=[jK,jL]) (a:=.int z0) (gY (as:=[.jM ns,.int 0]) (aS (bC (by rfl)) (aS (by rfl) bN)) (by rfl) (P _)))];simp only[List.set];rw[cA (iB (i:=2) (Z':=[jK,jL]) (a:=.int (z0%5)) (dM (bC (a:=.int z0) (by rfl)) (b:=.int 5) (by rfl) (by simp)))];simp only[List.set];rw[cA (iB (i:=3) (Z':=[jK,jL]) (a:=.int keep) (dM (a:=.lst [A.int 1000,.int 1,.int 2,.int 3,.int 4,.int 5,.int 1,.int 2]) (by simp[h8]) (dM (a:=.int (z0/5)) (dM (bC (a:=.int z0) (by rfl)) (b:=.int 5) (by rfl) (by simp[d5])) (b:=.int 8) (by rfl) (c:=.int (z0/5%8)) (by simp)) (by simp[V])))];simp only[List.set];rw[cA (iB (i:=4) (Z':=[jK,jL,cG keep 0 0 [] []]) (a:=.aG 2) (xC (aS (bC (a:=.int keep) (by rfl)) bN) mk))];simp only[List.set];rw[cA (iB (i:=5) (Z':=gC keep [] [] []) (a:=.aG 3) (by rfl))];simp only[List.set];rw[cA (iB (i:=6) (Z':=gC keep [] [] []) (a:=.int cs) (xC (aS (a:=.int 0) (by rfl) (aS (dM (xC (aS (bC (a:=.jM ns) (by rfl)) bN) (a:=.int ns.length) (by simp[D])) (b:=.int 1) (by rfl) (c:=.int ((ns.length:aw)-1)) (by simp)) bN)) (by simp[BL])))];simp only[List.set];rw[cA (iB (i:=7) (Z':=gC keep [] [] []) (a:=.int m) (xC (aS (a:=.int 60) (by rfl) (aS (xC (aS (bC (a:=.int cs) (by rfl)) (aS (dM (a:=.int (z0/40)) (dM (bC (a:=.int z0) (by rfl)) (b:=.int 40) (by rfl) (by simp[w])) (b:=.int 61) (by rfl) (c:=.int (z0/40%61)) (by simp)) bN)) (a:=.int (max cs (z0/40%61))) (by simp)) bN)) (by simp[hm])))];simp only[List.set];rw[cA (Y1:=sJ ns z0 (z0%5) keep cs m k U d f) (Z':=gC keep N row L) (by
  rw[CA (S:=yI 0 m.toNat) (Z':=gC keep [] [] []) (Nk (j:=m) (aS (bC (a:=.int m) (by rfl)) bN) (by unfold AH;omega))];exact M)]
 generalize z:sJ ns z0 (z0%5) keep cs m k U d f=h;generalize u:gC keep N row L=B at E s F H G;have r:dY 4 h B=aE (.aG 2) B:=bC (by subst z;rfl);have p:dY 5 h B=aE (.aG 3) B:=bC (by subst z;rfl);have T:(fG (fY (bD (aN (bA 1 HK) (aA bW a0)))) (fG (fY (bD (aN (bA 4 HL) (aA bW (aA fM (aA vH (aA dA a0))))))) (fY (bD (aN (bA 2 UI) (aA bW (aA fM a0))))))) h B=aE ak B :=
  rO (Z':=B) (qJ (b:=av) (gE (gY (aS r bN) rfl E))) (rO (Z':=B) (qJ (b:=av) (gE (gY (aS r (aS p (aS (bC (a:=.int m) (by subst z;rfl)) (aS (bC (a:=.int keep) (by subst z;rfl)) bN)))) rfl s))) (qJ (b:=av) (gE (gY (aS r (aS p bN)) rfl F))))
 rw[cA (qM T)];have ef:aN (bA 3 HN) (aA bW (aA fM (aA (aN (bA 3 zP) (aA fM (aA aW (aA bX a0)))) a0))) h B=aE (.bl av) B :=
  gY (aS r (aS p (aS (gY (aS p (aS (bC (a:=.int z0) (by subst z;rfl)) (aS (bC (a:=.int (z0%5)) (by subst z;rfl)) bN))) rfl H) bN))) rfl G
 unfold bT;rw[fN ef,<-u];rfl
end M
namespace Iu
open PySem L2 V2 PyProof.Rows M
noncomputable def top(i:ax):bq:=PySem.Challenge.pw_rankpouch_k41_gaps_bounds.main.body.getD i (.Pass ⟨0,0,0,0⟩)
abbrev XW:bq:=top 6
abbrev YC:bq:=top 9
abbrev XT:bq:=top 10
abbrev XS:bq:=top 11
abbrev YF:bq:=top 13
abbrev XU:bq:=top 14
abbrev YB:bq:=top 15
abbrev YA:bq:=top 15
abbrev XZ:bq:=top 16
abbrev XY:bq:=top 16
abbrev YE:bq:=top 17
abbrev XX:bq:=top 18
abbrev YG:bq:=top 19
abbrev XQ:bq:=top 20
abbrev YD:bq:=top 21
abbrev yG:bq:=top 23
abbrev yH:bq:=top 25
abbrev YH:bq:=top 27
abbrev YI:bq:=top 28
abbrev XR:bq:=top 29
abbrev AI:bq:=top 30
abbrev YO:bq:=top 37
abbrev YU:bq:=top 38
abbrev YN:bq:=top 39
abbrev YJ:bq:=top 40
abbrev YS:bq:=top 41
abbrev YM:bq:=top 42
abbrev YR:bq:=top 43
abbrev YV:bq:=top 44
abbrev YL:bq:=top 45
abbrev YK:bq:=top 46
abbrev YQ:bq:=top 47
abbrev YT:bq:=top 48
abbrev EA:bq:=inClass (top 32) 0
abbrev AJ:bq:=inClass (top 32) 1
abbrev ZC:bq:=inClass (top 32) 3
abbrev ZD:bq:=inClass (top 32) 4
abbrev YY:bq:=inClass (top 32) 5
abbrev ZE:bq:=inClass (top 32) 6
abbrev YZ:bq:=inClass (top 32) 7
abbrev YX:bq:=inClass (top 33) 3
abbrev YW:bq:=inClass (top 33) 4
abbrev EB:bq:=inClass (top 35) 0
abbrev ZG:bq:=inClass (top 35) 2
abbrev ZL:bq:=inClass (top 35) 4
abbrev ZK:bq:=inClass (top 35) 5
abbrev ZI:bq:=inClass (top 35) 6
abbrev ZH:bq:=inClass (top 35) 7
abbrev ZM:bq:=inClass (top 35) 8
abbrev ZJ:bq:=inClass (top 35) 9
abbrev ZF:bq:=inClass (top 35) 10
abbrev ZN:bq:=inClass (top 35) 11
abbrev vR:bq:=top 49
structure cZ(mg:az->aq aj):Prop where
 bool:mg "bool" = ao
 enumerate:mg "enumerate" = ao
 int:mg "int" = ao
 isinstance:mg "isinstance" = ao
 len:mg "len" = ao
 list:mg "list" = ao
 max:mg "max" = ao
 min:mg "min" = ao
 range:mg "range" = ao
 set:mg "set" = ao
 sorted:mg "sorted" = ao
 sum:mg "sum" = ao
 tuple:mg "tuple" = ao
section
variable(P:a9)(w:bf)(K:ba)(mg:az->aq aj)(base:bo)
abbrev Zc:=cC P w K mg base "near_enough" 1 ["before", "entry", "slack"] NN
abbrev Hn:=cC P w K mg base "goes_first" 1 ["entries", "at", "others", "other_at"] tW
abbrev SQ:=cC P w K mg base "bounds_ahead" 1 ["pouch", "at"] qC
abbrev Hg:=cC P w K mg base "apart" 1 ["ahead", "through"] DK
abbrev Hf:=cC P w K mg base "summed" 1 ["bounds"] HI
abbrev SN:=cC P w K mg base "_law_mix" 1 ["_law_cell_here", "_law_k"] xQ
abbrev He:=cC P w K mg base "_law_number" 1 ["_law_cell_here", "_law_kind"] xP
abbrev Yl:=cC P w K mg base "_law_times" 1 ["_law_cell_here"] UH
abbrev Yk:=cC P w K mg base "_law_counts" 1 ["_law_row", "_law_number_here"] HM
abbrev Yj:=cC P w K mg base "_law_pair" 1 ["_law_found", "_law_due", "_law_apart"] pI
abbrev Zb:=cC P w K mg base "_law_figures" 1 ["_law_number_here"] UJ
abbrev Hm:=cC P w K mg base "moved" 2 ["entry", "pouch", "at"] xO
abbrev Za:=cC P w K mg base "kept_entries" 2 ["entries", "slack"] NP
abbrev Yz:=cC P w K mg base "_law_cell" 2 ["_law_script", "_law_k"] DL
abbrev Yy:=cC P w K mg base "_law_asked_for" 2 ["_law_row", "_law_cell_here", "_law_kind"] zP
abbrev Yx:=cC P w K mg base "merged_entries" 3 ["one", "other"] UD
abbrev Yw:=cC P w K mg base "merged_entries" 3 ["one", "other"] UC
abbrev Yv:=cC P w K mg base "thinned" 3 ["pouch", "keep"] NJ
abbrev Yu:=cC P w K mg base "merged" 4 ["one", "other"] HJ
abbrev Yt:=cC P w K mg base "merged" 4 ["one", "other"] NO
abbrev Hl:=cC P w K mg base "below_asks" 3 ["pouch", "number"] sH
abbrev Hk:=cC P w K mg base "upto_asks" 3 ["pouch", "number"] sG
abbrev Ys:=cC P w K mg base "between" 4 ["pouch", "one", "other"] UG
abbrev Yr:=cS P w K mg base "Gaps" "newest_pouch" 4 1 [] zS
abbrev MP:=cS P w K mg base "Gaps" "parts" 5 1 [] pK
abbrev Hj:=cS P w K mg base "Gaps" "look_room" 1 2 [] UK
abbrev Hi:=cS P w K mg base "Gaps" "take" 6 3 [] HS
abbrev Yq:=cS P w K mg base "Gaps" "between" 7 3 [] vA
abbrev Hh:=cS P w K mg base "Gaps" "numbers" 7 1 [] rB
abbrev SO:=cS P w K mg base "Gaps" "pouch" 6 1 [] pJ
abbrev Yp:=cC P w K mg base "_law_sized" 8 ["_law_pouch", "_law_row", "_law_puts", "_law_keep"] HL
abbrev Yo:=cC P w K mg base "_law_spoiled" 8 ["_law_pouch"] HK
abbrev Yn:=cC P w K mg base "_law_kept" 8 ["_law_pouch", "_law_row"] UI
abbrev Ym:=cC P w K mg base "_law_counted" 9 ["_law_pouch", "_law_row", "_law_numbers"] HN
end
section
variable{P:a9}{w:bf}{K:ba}{mg:az->aq aj}{base:bo}
theorem aeB:cO ["before", "entry", "slack"] ["before", "entry", "slack"] (aR XW):=dH
theorem as5(B:cZ mg)(h:HasFn K mg "near_enough" XW):Zc P w K mg base :=
 cC.o h aeB λhr=>(bB (cN (Kn (sS (nE hr.units) (bL (vv 1) aJ bG) (bL (vv 0) aJ bG) (dG _)) (OC (sS tE (bL (vv 1) aJ bG) (aZ (dS ak) (aZ (dS ak) (bL (vv 0) aJ bG) (vv 2)) aJ) (dG _))))))
theorem aeH:cO ["row", "length", "at", "run", "times"] ["row"] (aR YC):=dH
theorem atB(B:cZ mg)(h:HasFn K mg "look_row" YC)(j:∃t,mg "LONGEST" = ag (.int 1000000000 t)):cC P w K mg base "look_row" 1 ["row"] UE :=
 cC.o h aeH λhr=>(aT (cD 1 aJ)
  (aT (rJ aX.passes rfl (Kl rfl B.enumerate (vv 0)) (vJ rfl (mG (fS 2) (mG (fS 3) vI)))
   (aT (cD 4 (bL (vv 3) aJ bG))
   (aT (cD 1 (aZ (dS ak) (vv 1) (vv 4)))
   (bB (fF (VW.vt (kZ (eN qI (vv 4) aJ (dG _)) (nU (eN EH (vv 1) (Kq rfl j) (dG _)))))
    (bB VM)
    fX)))))
  (bB (cN (vv 1)))))
theorem ad9:cO ["row", "times_of", "number", "times"] ["row"] (aR XT):=dH
theorem as3(B:cZ mg)(h:HasFn K mg "packed" XT):cC P w K mg base "packed" 1 ["row"] NL :=
 cC.o h ad9 λhr=>(aT (cD 1 IM)
  (aT (rJ aX.passes rfl (mF (vv 0)) (vJ rfl (mG (fS 2) (mG (fS 3) vI)))
   (bB (OA (cM.yC hr) (vv 1) (vv 2) (aZ (dS ak) (Ks (cM.yC hr) (vv 1) (vv 2) aJ ⟨rfl,rfl,rfl,rfl⟩) (vv 3)))))
  (bB (cN (sU ak ["number"] [1] (mF (fA (avK rfl ak) rfl B.sorted boot_sorted (aD (vv 1) aM))) ⟨(fS 0),uB,(mH (aD (vv 0) (aD (abA (cM.yC hr) (vv 1) (vv 0) bG) aM)))⟩)))))
theorem aeL:cO [] [] (aR YF):=dH
theorem atM(B:cZ mg)(h:HasFn K mg "empty" YF):cC P w K mg base "empty" 1 [] NQ:=by
 refine cC.of h aeL (λ_ _ _ _ _ _ j hl=>Lh j hl rfl) (λ_ _ _ _ _ _ _ hr=>?_);exact(bB (cN (mH (aD aJ (aD aJ (aD aJ (aD (nW ak aM) aM)))))))
theorem aeK:cO ["entries", "at", "others", "other_at"] ["entries", "at", "others", "other_at"] (aR YE):=dH
theorem atH(B:cZ mg)(h:HasFn K mg "goes_first" YE):Hn P w K mg base :=
 cC.o h aeK λhr=>(aT (fF (eN (nE hr.units) (vv 1) (fA oY rfl B.len PySem.boot_len (aD (vv 0) aM)) (dG _))
   (bB (cN mY))
   fX)
  (bB (cN (Kn (sS (nE hr.units) (vv 3) (fA oY rfl B.len PySem.boot_len (aD (vv 2) aM)) (dG _)) (OC (sS tE (bL (bL (vv 0) (vv 1) bG) aJ bG) (bL (bL (vv 2) (vv 3) bG) aJ bG) (dG _)))))))
theorem aeM:cO ["pouch", "at", "entries", "low", "high"] ["pouch", "at"] (aR YG):=dH
theorem atN(B:cZ mg)(h:HasFn K mg "bounds_ahead" YG):SQ P w K mg base :=
 cC.o h aeM λhr=>(aT (cD 2 (bL (vv 0) aJ bG))
  (aT (cD 3 (Kp (eN EH (vv 1) aJ (dG _)) (bL (bL (vv 2) (aZ pP (vv 1) aJ) bG) aJ bG) aJ))
  (aT (cD 4 (Kp (eN qI (vv 1) (fA oY rfl B.len PySem.boot_len (aD (vv 2) aM)) (dG _)) (aZ pP (bL (bL (vv 2) (vv 1) bG) aJ bG) aJ) (bL (vv 0) aJ bG)))
  (bB (cN (mH (aD (vv 3) (aD (vv 4) aM))))))))
theorem aeP:cO ["ahead", "through"] ["ahead", "through"] (aR YI):=dH
theorem atQ(B:cZ mg)(h:HasFn K mg "apart" YI):Hg P w K mg base :=
 cC.o h aeP λhr=>(bB (cN (mH (aD (fA (zG rfl) rfl B.max CM (aD aJ (aD (aZ pP (bL (vv 1) aJ bG) (bL (vv 0) aJ bG)) aM))) (aD (aZ pP (bL (vv 1) aJ bG) (bL (vv 0) aJ bG)) aM)))))
theorem ad7:cO ["bounds"] ["bounds"] (aR XR):=dH
theorem asZ(B:cZ mg)(h:HasFn K mg "summed" XR):Hf P w K mg base :=
 cC.o h ad7 λhr=>(bB (cN (mH (aD (fA (RL rfl) rfl B.sum boot_sum (aD (sU ak ["pair"] [] (mF (vv 0)) ⟨(fS 0),uB,(bL (vv 0) aJ bG)⟩) aM)) (aD (fA (RL rfl) rfl B.sum boot_sum (aD (sU ak ["pair"] [] (mF (vv 0)) ⟨(fS 0),uB,(bL (vv 0) aJ bG)⟩) aM)) aM)))))
theorem ae9:cO ["self", "keep"] ["self", "keep"] (aR EA):=dH
theorem avU(B:cZ mg)(q:eU K ["Gaps"] "keep")(N:eU K ["Gaps"] "many")(z:eU K ["Gaps"] "taken")(f:ar)(j:aj)(A:bj)(outer:ai Env)(s:au)(H:Hp)(E:XK)(hr:cM 0 (A.deeper (cj "Pouch.__init__" (aR EA) s.heap.objs.size f j))) :
  jU (mT P w K mg base ["self", "keep"] "Pouch.__init__" (aR EA) f j A outer s H E) (λ_=>E) (eL EA) SA:=by
 exact(aT (xY (vv 0) (vv 1) q)
  (aT (xY (vv 0) aJ N)
  (bB (xY (vv 0) aJ z))))
theorem asU(B:cZ mg)(z:eU K ["Gaps"] "keep")(U:eU K ["Gaps"] "many")(N:eU K ["Gaps"] "taken"){j:az}(h:UB K mg j "__init__" "Pouch.__init__" EA):DJ P w K mg base j "__init__" 1 2 NR:=DJ.of h ae9 (λ_ _ _ _ _ _ q hl=>vO q hl bG) (avU B z U N)
theorem ae6:cO ["self", "more"] ["self", "more"] (aR ZC):=dH
theorem auB(B:cZ mg)(q:∃t,mg "LONGEST" = ag (.int 1000000000 t))(j:eU K ["Gaps"] "many"){cls:az}(h:mB K mg cls "look_room" "Pouch.look_room" ZC):cS P w K mg base cls "look_room" 1 2 [] UK :=
 cS.o h ae6 λhr=>(bB (fF (eN EH (aZ (dS ak) (sQ (vv 0) j) (vv 1)) (Kq rfl q) (dG _))
   (bB VM)
   fX))
theorem ae7:cO ["self"] ["self"] (aR ZD):=dH
theorem auC(B:cZ mg)(j:eU K ["Gaps"] "many"){cls:az}(h:mB K mg cls "length" "Pouch.length" ZD):cS P w K mg base cls "length" 1 1 [] zR :=
 cS.o h ae7 λhr=>(bB (cN (sQ (vv 0) j)))
theorem ae4:cO ["self"] ["self"] (aR YY):=dH
theorem at8(B:cZ mg)(j:eU K ["Gaps"] "taken"){cls:az}(h:mB K mg cls "puts" "Pouch.puts" YY):cS P w K mg base cls "puts" 1 1 [] HQ :=
 cS.o h ae4 λhr=>(bB (cN (sQ (vv 0) j)))
theorem aeV:cO ["_law_cell_here", "_law_k", "_law_first"] ["_law_cell_here", "_law_k"] (aR YO):=dH
theorem atY(B:cZ mg)(h:HasFn K mg "_law_mix" YO):SN P w K mg base :=
 cC.o h aeV λhr=>(aT (cD 2 (aZ lO (aZ pQ (aZ (dS ak) (vv 0) aJ) (aZ (dS ak) aJ (aZ pQ aJ (vv 1)))) aJ))
  (bB (cN (aZ lO (aZ (dS ak) (aZ (dS ak) (aZ pQ (aZ tF (vv 2) aJ) aJ) (aZ pQ (vv 2) (aZ (dS ak) (aZ pQ (vv 1) (vv 1)) aJ))) (vv 1)) aJ))))
theorem aeU:cO ["_law_cell_here", "_law_kind"] ["_law_cell_here", "_law_kind"] (aR YN):=dH
theorem atX(B:cZ mg)(h:HasFn K mg "_law_number" YN):He P w K mg base :=
 cC.o h aeU λhr=>(aT (fF (eN (nE hr.units) (vv 1) aJ (dG _))
   (bB (cN (aZ lO (vv 0) aJ)))
   fX)
  (aT (fF (eN (nE hr.units) (vv 1) aJ (dG _))
   (bB (cN (aZ pP (aZ lO (vv 0) aJ) aJ)))
   fX)
  (aT (fF (eN (nE hr.units) (vv 1) aJ (dG _))
   (bB (cN (aZ pP (aZ lO (aZ pQ (vv 0) aJ) (aZ (dS ak) (aZ pQ aJ (aZ PL aJ aJ)) aJ)) (aZ PL aJ aJ))))
   fX)
  (aT (fF (eN (nE hr.units) (vv 1) aJ (dG _))
   (bB (cN aJ))
   fX)
  (bB (cN (bL (nW ak (aD (aZ (dS ak) (aZ pQ (vv 0) (aZ PL aJ aJ)) aJ) (aD (aZ pP aJ (aZ pQ (vv 0) (aZ PL aJ aJ))) (aD (vv 0) (aD (aZ pP aJ (vv 0)) aM))))) (aZ lO (vv 0) aJ) bG)))))))
theorem aeQ:cO ["_law_cell_here"] ["_law_cell_here"] (aR YJ):=dH
theorem atR(B:cZ mg)(h:HasFn K mg "_law_times" YJ):Yl P w K mg base :=
 cC.o h aeQ λhr=>(bB (cN (bL (nW ak (aD aJ (aD aJ (aD (aZ (dS ak) aJ (aZ lO (aZ tF (vv 0) aJ) aJ)) (aD (aZ (dS ak) aJ (aZ lO (aZ tF (vv 0) aJ) aJ)) aM))))) (aZ lO (vv 0) aJ) bG)))
theorem aeY:cO ["_law_row", "_law_number_here", "_law_under", "_law_many", "_law_value", "_law_times_here"] ["_law_row", "_law_number_here"] (aR YS):=dH
theorem at1(B:cZ mg)(h:HasFn K mg "_law_counts" YS):Yk P w K mg base :=
 cC.o h aeY λhr=>(aT (cD 2 aJ)
  (aT (cD 3 aJ)
  (aT (rJ aX.passes rfl (mF (vv 0)) (vJ rfl (mG (fS 4) (mG (fS 5) vI)))
   (aT (fF (eN qI (vv 4) (vv 1) (dG _))
    (bB (cD 2 (aZ (dS ak) (vv 2) (vv 5))))
    fX)
   (bB (fF (eN tE (vv 4) (vv 1) (dG _))
    (bB (cD 3 (aZ (dS ak) (vv 3) (vv 5))))
    fX))))
  (bB (cN (mH (aD (vv 2) (aD (vv 3) aM))))))))
theorem aeT:cO ["_law_found", "_law_due", "_law_apart"] ["_law_found", "_law_due", "_law_apart"] (aR YM):=dH
theorem atW(B:cZ mg)(h:HasFn K mg "_law_pair" YM):Yj P w K mg base :=
 cC.o h aeT λhr=>(aT (fF (VW.vt (kZ (mX (jW (fA xE rfl B.isinstance zH (aD (vv 0) (aD (vK rfl B.tuple PyProof.Rows.boot_tuple) aM))))) (nU (eN (rP hr.units) (fA oY rfl B.len PySem.boot_len (aD (vv 0) aM)) aJ (dG _)))))
   (bB (cN mY))
   fX)
  (aT (fF (VW.vt (kZ (mX (jW (fA xE rfl B.isinstance zH (aD (bL (vv 0) aJ bG) (aD (vK rfl B.int PyProof.Rows.boot_int) aM))))) (nU (mX (jW (fA xE rfl B.isinstance zH (aD (bL (vv 0) aJ bG) (aD (vK rfl B.int PyProof.Rows.boot_int) aM))))))))
   (bB (cN mY))
   fX)
  (aT (fF (VW.vt (kZ (jW (fA xE rfl B.isinstance zH (aD (bL (vv 0) aJ bG) (aD (vK rfl B.bool Ho) aM)))) (nU (jW (fA xE rfl B.isinstance zH (aD (bL (vv 0) aJ bG) (aD (vK rfl B.bool Ho) aM)))))))
   (bB (cN mY))
   fX)
  (bB (cN (VX (abC tE tE tE aJ (bL (vv 0) aJ bG) (vv 1) (bL (vv 0) aJ bG)) (OC (sS tE (aZ pP (bL (vv 0) aJ bG) (bL (vv 0) aJ bG)) (vv 2) (dG _)))))))))
theorem aeX:cO ["_law_number_here", "_law_found"] ["_law_number_here"] (aR YR):=dH
theorem at0(B:cZ mg)(h:HasFn K mg "_law_figures" YR):Zb P w K mg base :=
 cC.o h aeX λhr=>(aT (cD 1 aJ)
  (aT (IL (λ_ _=>1000000) aX.passes (eN EH (vv 0) aJ (dG _))
   (aT (cD 1 (aZ (dS ak) (vv 1) aJ))
   (bB (cD 0 (aZ tF (vv 0) aJ)))))
  (bB (cN (vv 1)))))
theorem ad8:cO ["row", "places", "length", "number", "times"] ["row"] (aR XS):=dH
theorem as2(B:cZ mg)(h:HasFn K mg "places_of" XS)(j:cC P w K mg base "packed" 1 ["row"] NL):cC P w K mg base "places_of" 2 ["row"] NK :=
 cC.o h ad8 λhr=>(aT (cD 1 IM)
  (aT (cD 2 aJ)
  (aT (rJ aX.passes rfl (mF (dD aX j hr.m rfl (aD (vv 0) aM))) (vJ rfl (mG (fS 3) (mG (fS 4) vI)))
   (aT (OA (cM.yC hr) (vv 1) (vv 3) (mH (aD (aZ (dS ak) (vv 2) aJ) (aD (aZ (dS ak) (vv 2) (vv 4)) aM))))
   (bB (cD 2 (aZ (dS ak) (vv 2) (vv 4))))))
  (bB (cN (vv 1))))))
theorem aeC:cO ["entry", "pouch", "at", "ahead"] ["entry", "pouch", "at"] (aR XX):=dH
theorem as6(B:cZ mg)(h:HasFn K mg "moved" XX)(j:SQ P w K mg base):Hm P w K mg base :=
 cC.o h aeC λhr=>(aT (cD 3 (dD aX j hr.m rfl (aD (vv 1) (aD (vv 2) aM))))
  (bB (cN (mH (aD (bL (vv 0) aJ bG) (aD (aZ (dS ak) (bL (vv 0) aJ bG) (bL (vv 3) aJ bG)) (aD (aZ (dS ak) (bL (vv 0) aJ bG) (bL (vv 3) aJ bG)) aM)))))))
theorem aeJ:cO ["entries", "slack", "kept", "last", "at", "entry"] ["entries", "slack"] (aR YD):=dH
theorem atF(B:cZ mg)(h:HasFn K mg "kept_entries" YD)(j:Zc P w K mg base):Za P w K mg base :=
 cC.o h aeJ λhr=>(aT (cD 2 (nW av aM))
  (aT (cD 3 (aZ pP (fA oY rfl B.len PySem.boot_len (aD (vv 0) aM)) aJ))
  (aT (rJ aX.passes rfl (Kl rfl B.enumerate (vv 0)) (vJ rfl (mG (fS 4) (mG (fS 5) vI)))
   (bB (fF (VW.vt (kZ (eN (nE hr.units) (vv 4) aJ (dG _)) (kZ (eN (nE hr.units) (vv 4) (vv 3) (dG _)) (nU (mX (jW (dD aX j hr.m rfl (aD (bL (vv 2) (Ko aJ) bG) (aD (bL (vv 0) (aZ (dS ak) (vv 4) aJ) bG) (aD (vv 1) aM))))))))))
    (bB (mE (sT PySem.F.plainAttrs_list PySem.F.slot_list_append PySem.F.type_list_append uH uI (vv 2) (aD (vv 5) aM))))
    fX)))
  (bB (cN (vf 2))))))
theorem Nh:cO ["entries", "holds", "start", "end", "middle"] ["entries", "holds"] (aR AI):=dH
theorem Wz(B:cZ mg){qual:az}{params:ck}{body:bg}{scope:b0}{y:az}{cs:ai az}{fb:Ev->Mo A}(c:HC scope y cs)(e:∀(u:aj) cl N c' b,cq (kla_fn "<lambda>" qual params body scope cl N (.ref c') b) ⟨[u],[]⟩=pure [(y,u)])(q:Zt P w K mg base qual body scope y cs fb) :
  ∀(j:ar) (cX:ai (az×aw)),cX.map (·.1)=cs->∀(f:ar) (z:aj) (A:bj) (outer:ai Env) (s:au) (H:Hp) (E:XK),cM 1 (A.deeper (cj "first_where" (aR AI) s.heap.objs.size f z))->uY s.heap H j qual params body scope cX ->
   jU (mT P w K mg base ["entries", "holds", "start", "end", "middle"] "first_where" (aR AI) f z A outer s H E) (λ_=>E) (eL AI) (GC j (mN fb (cX.map (·.2)))):=by
 intro j cX U f z A outer s H E hr d;subst U;have S:=c;have a:=q;exact(aT (cD 2 aJ)
  (aT (cD 3 (fA oY rfl B.len PySem.boot_len (aD (vv 0) aM)))
  (aT (IL (λ_ _=>1000000) aX.passes (eN qI (vv 2) (vv 3) (dG _))
   (aT (cD 4 (aZ tF (aZ (dS ak) (vv 2) (vv 3)) aJ))
   (bB (fF (jW (aa4 (i:=1) rfl d S hr.m e a rfl oIr (bL (vv 0) (vv 4) bG)))
    (bB (cD 3 (vv 4)))
    (bB (cD 2 (aZ (dS ak) (vv 4) aJ)))))))
  (bB (cN (vv 2))))))
theorem ae0:cO ["_law_script", "_law_k", "_law_cell_here"] ["_law_script", "_law_k"] (aR YU):=dH
theorem at4(B:cZ mg)(h:HasFn K mg "_law_cell" YU)(j:SN P w K mg base):Yz P w K mg base :=
 cC.o h ae0 λhr=>(aT (cD 2 aJ)
  (aT (fF (eN qI (vv 1) (fA oY rfl B.len PySem.boot_len (aD (vv 0) aM)) (dG _))
   (bB (cD 2 (aZ lO (bL (vv 0) (vv 1) bG) aJ)))
   fX)
  (bB (cN (dD aX j hr.m rfl (aD (vv 2) (aD (aZ (dS ak) (vv 1) aJ) aM)))))))
theorem ae1:cO ["_law_row", "_law_cell_here", "_law_kind", "_law_found", "_law_k", "_law_step", "_law_number_here"] ["_law_row", "_law_cell_here", "_law_kind"] (aR YV):=dH
theorem at5(B:cZ mg)(h:HasFn K mg "_law_asked_for" YV)(j:SN P w K mg base)(q:He P w K mg base):Yy P w K mg base :=
 cC.o h ae1 λhr=>(aT (cD 3 (nW av aM))
  (aT (rJ aX.passes rfl (Kk rfl B.range (aD aJ aM)) (fS 4)
   (aT (cD 5 (dD aX j hr.m rfl (aD (vv 1) (aD (aZ (dS ak) aJ (vv 4)) aM))))
   (aT (cD 6 (dD aX q hr.m rfl (aD (vv 5) (aD (vv 2) aM))))
   (aT (fF (VW.vt (NZ (eN (rP hr.units) (vv 0) (nW ak aM) (dG _)) (NY (eN qI (vv 4) aJ (dG _)))))
    (bB (cD 6 (aZ (dS ak) (bL (bL (vv 0) (aZ lO (vv 5) (fA oY rfl B.len PySem.boot_len (aD (vv 0) aM))) bG) aJ bG) (bL (nW ak (aD aJ (aD aJ (aD aJ (aD (Ko aJ) aM))))) (aZ lO (aZ tF (vv 5) aJ) aJ) bG))))
    fX)
   (bB (mE (sT PySem.F.plainAttrs_list PySem.F.slot_list_append PySem.F.type_list_append uH uI (vv 3) (aD (vv 6) aM))))))))
  (bB (cN (vf 3)))))
theorem aeA:cO ["row", "entries", "number", "stands"] ["row"] (aR XU):=dH
theorem as4(B:cZ mg)(h:HasFn K mg "of_row" XU)(j:cC P w K mg base "look_row" 1 ["row"] UE)(q:cC P w K mg base "places_of" 2 ["row"] NK):cC P w K mg base "of_row" 3 ["row"] NM :=
 cC.o h aeA λhr=>(aT (cD 1 (nW av aM))
  (aT (rJ aX.passes rfl (aa0 (dD aX q hr.m rfl (aD (vv 0) aM))) (vJ rfl (mG (fS 2) (mG (fS 3) vI)))
   (aT (mE (sT PySem.F.plainAttrs_list PySem.F.slot_list_append PySem.F.type_list_append uH uI (vv 1) (aD (mH (aD (vv 2) (aD (bL (vv 3) aJ bG) (aD (bL (vv 3) aJ bG) aM)))) aM)))
   (bB (fF (eN (rP hr.units) (bL (vv 3) aJ bG) (bL (vv 3) aJ bG) (dG _))
    (bB (mE (sT PySem.F.plainAttrs_list PySem.F.slot_list_append PySem.F.type_list_append uH uI (vv 1) (aD (mH (aD (vv 2) (aD (bL (vv 3) aJ bG) (aD (bL (vv 3) aJ bG) aM)))) aM))))
    fX))))
  (bB (cN (mH (aD (dD aX j hr.m rfl (aD (vv 0) aM)) (aD aJ (aD aJ (aD (vf 1) aM)))))))))
theorem aeE:cO ["one", "other", "entries", "at", "other_at"] ["one", "other"] (aR XZ):=dH
theorem as8(B:cZ mg)(h:HasFn K mg "merged_entries" XZ)(q:Hn P w K mg base)(j:Hm P w K mg base):Yx P w K mg base :=
 cC.o h aeE λhr=>(aT (cD 2 (nW av aM))
  (aT (cD 3 aJ)
  (aT (cD 4 aJ)
  (aT (IL (λ_ _=>1000000) aX.passes (VW.vt (kZ (eN qI (vv 3) (fA oY rfl B.len PySem.boot_len (aD (bL (vv 0) aJ bG) aM)) (dG _)) (nU (eN qI (vv 4) (fA oY rfl B.len PySem.boot_len (aD (bL (vv 1) aJ bG) aM)) (dG _)))))
   (bB (fF (jW (dD aX q hr.m rfl (aD (bL (vv 0) aJ bG) (aD (vv 3) (aD (bL (vv 1) aJ bG) (aD (vv 4) aM))))))
    (aT (mE (sT PySem.F.plainAttrs_list PySem.F.slot_list_append PySem.F.type_list_append uH uI (vv 2) (aD (dD aX j hr.m rfl (aD (bL (bL (vv 0) aJ bG) (vv 3) bG) (aD (vv 1) (aD (vv 4) aM)))) aM)))
    (bB (cD 3 (aZ (dS ak) (vv 3) aJ))))
    (aT (mE (sT PySem.F.plainAttrs_list PySem.F.slot_list_append PySem.F.type_list_append uH uI (vv 2) (aD (dD aX j hr.m rfl (aD (bL (bL (vv 1) aJ bG) (vv 4) bG) (aD (vv 0) (aD (vv 3) aM)))) aM)))
    (bB (cD 4 (aZ (dS ak) (vv 4) aJ)))))))
  (bB (cN (vf 2)))))))
theorem aeD:cO ["one", "other", "entries", "at", "other_at"] ["one", "other"] (aR XY):=dH
theorem as7(B:cZ mg)(h:HasFn K mg "merged_entries" XY)(q:Hn P w K mg base)(j:Hm P w K mg base):Yw P w K mg base :=
 cC.o h aeD λhr=>(aT (cD 2 (nW av aM))
  (aT (cD 3 aJ)
  (aT (cD 4 aJ)
  (aT (IL (λ_ _=>1000000) aX.passes (VW.vt (kZ (eN qI (vv 3) (fA oY rfl B.len PySem.boot_len (aD (bL (vv 0) aJ bG) aM)) (dG _)) (nU (eN qI (vv 4) (fA oY rfl B.len PySem.boot_len (aD (bL (vv 1) aJ bG) aM)) (dG _)))))
   (bB (fF (jW (dD aX q hr.m rfl (aD (bL (vv 0) aJ bG) (aD (vv 3) (aD (bL (vv 1) aJ bG) (aD (vv 4) aM))))))
    (aT (mE (sT PySem.F.plainAttrs_list PySem.F.slot_list_append PySem.F.type_list_append uH uI (vv 2) (aD (dD aX j hr.m rfl (aD (bL (bL (vv 0) aJ bG) (vv 3) bG) (aD (vv 1) (aD (vv 4) aM)))) aM)))
    (bB (cD 3 (aZ (dS ak) (vv 3) aJ))))
    (aT (mE (sT PySem.F.plainAttrs_list PySem.F.slot_list_append PySem.F.type_list_append uH uI (vv 2) (aD (dD aX j hr.m rfl (aD (bL (bL (vv 1) aJ bG) (vv 4) bG) (aD (vv 0) (aD (vv 3) aM)))) aM)))
    (bB (cD 4 (aZ (dS ak) (vv 4) aJ)))))))
  (bB (cN (vv 2)))))))
theorem ad6:cO ["pouch", "keep", "size", "slack"] ["pouch", "keep"] (aR XQ):=dH
theorem asY(B:cZ mg)(h:HasFn K mg "thinned" XQ)(j:Za P w K mg base):Yv P w K mg base :=
 cC.o h ad6 λhr=>(aT (cD 2 (bL (vv 0) aJ bG))
  (aT (cD 3 (aZ (dS ak) (bL (vv 0) aJ bG) (aZ tF (vv 2) (vv 1))))
  (bB (cN (mH (aD (vv 2) (aD (vv 3) (aD (aZ (dS ak) (bL (vv 0) aJ bG) aJ) (aD (dD aX j hr.m rfl (aD (bL (vv 0) aJ bG) (aD (vv 3) aM))) aM)))))))))
theorem ad5:cO ["pouch", "number"] ["pouch", "number"] (aR yG):=dH
theorem asX(B:cZ mg)(h:HasFn K mg "upto" yG)(N:SQ P w K mg base)(g:HasFn K mg "first_where" AI)(q:MQ K mg base "upto"):cC P w K mg base "upto" 3 ["pouch", "number"] sG:=by
 refine cC.ofT h q ad5 (λ_ _ _ _ _ _ j hl=>vO j hl bG) (λc l b U f A outer s H E hr=>?_);exact(bB (cN (dD aX N hr.m rfl (aD (vv 0) (aD (Kr (k:=0) (js:=[1]) (cs:=["number"]) (y := "entry") (fb:=FY) (bfw:=GC) (kf:=1) b U q.blt rfl rfl rfl (NI.of (aR yG) ["pouch", "number"] rfl rfl (by decide +kernel)) g rfl Nh (λ_ _ _ _ _ _ j hl=>vO j hl bG) (λe=>Wz B e (λ_ _ _ _ _=>rfl) (λf i cl A outer s H hr=>(sS EH (bL (vv 0) aJ bG) (vv 1) (dG _)))) (λd ns a z r h=>M.Up d _ a z r h) hr.m rfl (bL (vv 0) aJ bG)) aM)))))
theorem aeO:cO ["pouch", "number"] ["pouch", "number"] (aR yH):=dH
theorem atP(B:cZ mg)(h:HasFn K mg "below" yH)(N:SQ P w K mg base)(g:HasFn K mg "first_where" AI)(q:MQ K mg base "below"):cC P w K mg base "below" 3 ["pouch", "number"] sH:=by
 refine cC.ofT h q aeO (λ_ _ _ _ _ _ j hl=>vO j hl bG) (λc l b U f A outer s H E hr=>?_);exact(bB (cN (dD aX N hr.m rfl (aD (vv 0) (aD (Kr (k:=1) (js:=[1]) (cs:=["number"]) (y := "entry") (fb:=GD) (bfw:=GC) (kf:=1) b U q.blt rfl rfl rfl (NI.of (aR yH) ["pouch", "number"] rfl rfl (by decide +kernel)) g rfl Nh (λ_ _ _ _ _ _ j hl=>vO j hl bG) (λe=>Wz B e (λ_ _ _ _ _=>rfl) (λf i cl A outer s H hr=>(sS akF (bL (vv 0) aJ bG) (vv 1) (dG _)))) (λd ns a z r h=>M.Up d _ a z r h) hr.m rfl (bL (vv 0) aJ bG)) aM)))))
theorem afJ:cO ["self", "keep"] ["self", "keep"] (aR EB):=dH
theorem avV(B:cZ mg)(N:DJ P w K mg base "RankPouch" "__init__" 1 2 NR)(q:eU K ["Gaps"] "laid")(z:eU K ["Gaps"] "newest")(f:ar)(j:aj)(A:bj)(outer:ai Env)(s:au)(H:Hp)(E:XK)(hr:cM 2 (A.deeper (cj "Gaps.__init__" (aR EB) s.heap.objs.size f j))) :
  jU (mT P w K mg base ["self", "keep"] "Gaps.__init__" (aR EB) f j A outer s H E) (λ_=>E) (eL EB) SH:=by
 exact(aT (mE (abF aX N rfl hr.m (aD (vv 0) (aD (vv 1) aM))))
  (aT (VP (xY (vv 0) IM z))
  (bB (VP (xY (vv 0) IM q)))))
theorem asS(B:cZ mg)(N:DJ P w K mg base "RankPouch" "__init__" 1 2 NR)(q:eU K ["Gaps"] "laid")(z:eU K ["Gaps"] "newest"){cls:az}(h:Jd K mg cls "Gaps.__init__" EB):GR P w K mg base cls 3 2 HU:=GR.of h afJ (λ_ _ _ _ _ _ j hl=>vO j hl bG) (avV B N q z)
theorem aeG:cO ["one", "other", "size", "slack", "depth"] ["one", "other"] (aR YB):=dH
theorem atA(B:cZ mg)(h:HasFn K mg "merged" YB)(j:Yx P w K mg base):Yu P w K mg base :=
 cC.o h aeG λhr=>(aT (cD 2 (aZ (dS ak) (bL (vv 0) aJ bG) (bL (vv 1) aJ bG)))
  (aT (cD 3 (aZ (dS ak) (bL (vv 0) aJ bG) (bL (vv 1) aJ bG)))
  (aT (cD 4 (fA (zG rfl) rfl B.max CM (aD (bL (vv 0) aJ bG) (aD (bL (vv 1) aJ bG) aM))))
  (bB (cN (mH (aD (vv 2) (aD (vv 3) (aD (vv 4) (aD (dD aX j hr.m rfl (aD (vv 0) (aD (vv 1) aM))) aM))))))))))
theorem aeF:cO ["one", "other", "size", "slack", "depth"] ["one", "other"] (aR YA):=dH
theorem as9(B:cZ mg)(h:HasFn K mg "merged" YA)(j:Yw P w K mg base):Yt P w K mg base :=
 cC.o h aeF λhr=>(aT (cD 2 (aZ (dS ak) (bL (vv 0) aJ bG) (bL (vv 1) aJ bG)))
  (aT (cD 3 (aZ (dS ak) (bL (vv 0) aJ bG) (bL (vv 1) aJ bG)))
  (aT (cD 4 (fA (zG rfl) rfl B.max CM (aD (bL (vv 0) aJ bG) (aD (bL (vv 1) aJ bG) aM))))
  (bB (cN (mH (aD (vv 2) (aD (vv 3) (aD (vv 4) (aD (dD aX j hr.m rfl (aD (vv 0) (aD (vv 1) aM))) aM))))))))))
theorem aeN:cO ["pouch", "one", "other"] ["pouch", "one", "other"] (aR YH):=dH
theorem atO(B:cZ mg)(h:HasFn K mg "between" YH)(z:Hg P w K mg base)(j:Hl P w K mg base)(q:Hk P w K mg base):Ys P w K mg base :=
 cC.o h aeN λhr=>(aT (fF (eN qI (vv 2) (vv 1) (dG _))
   (bB (cN (mH (aD aJ (aD aJ aM)))))
   fX)
  (bB (cN (dD aX z hr.m rfl (aD (dD aX j hr.m rfl (aD (vv 0) (aD (vv 1) aM))) (aD (dD aX q hr.m rfl (aD (vv 0) (aD (vv 2) aM))) aM))))))
theorem afF:cO ["self"] ["self"] (aR ZK):=dH
theorem auJ(B:cZ mg)(q:cC P w K mg base "of_row" 3 ["row"] NM)(j:eU K ["Gaps"] "newest"){cls:az}(h:mB K mg cls "newest_pouch" "Gaps.newest_pouch" ZK):cS P w K mg base cls "newest_pouch" 4 1 [] zS :=
 cS.o h afF λhr=>(bB (cN (dD aX q hr.m rfl (aD (aa8 ak rfl (vv 0) j rfl B.list) aM))))
theorem afG:cO ["self", "part", "level"] ["self", "part", "level"] (aR ZL):=dH
theorem auK(B:cZ mg)(z:Yu P w K mg base)(N:Yv P w K mg base)(q:eU K ["Gaps"] "keep")(j:eU K ["Gaps"] "laid"){cls:az}(h:mB K mg cls "lay" "Gaps.lay" ZL):cS P w K mg base cls "lay" 5 3 [] NS :=
 cS.o h afG λhr=>(aT (IL (λ_ _=>1000000) aX.passes (aaU (cM.yC hr) (vv 2) (vv 0) j)
   (aT (VN (i:=0) (f := "laid") (cD 1 (dD aX N hr.m rfl (aD (dD aX z hr.m rfl (aD (aa9 (sQ (vv 0) j) (vv 2) ⟨rfl,rfl,rfl,rfl⟩) (aD (vv 1) aM))) (aD (sQ (vv 0) q) aM)))))
   (bB (cD 2 (aZ (dS ak) (vv 2) aJ)))))
  (bB (VN (i:=0) (f := "laid") (OA (cM.yC hr) (sQ (vv 0) j) (vv 2) (vv 1)))))
theorem afD:cO ["self"] ["self"] (aR ZI):=dH
theorem auH(B:cZ mg)(j:eU K ["Gaps"] "laid")(q:Yr P w K mg base){cls:az}(h:mB K mg cls "parts" "Gaps.parts" ZI):cS P w K mg base cls "parts" 5 1 [] pK :=
 cS.o h afD λhr=>(bB (cN (aZ (dS ak) (nW ak (aD (jJ aX (bV.cons q hr.m bV.nil) (vv 0)) aM)) (aa6 ak rfl (vv 0) j rfl B.list))))
theorem afB:cO ["self", "number", "times"] ["self", "number", "times"] (aR ZG):=dH
theorem auF(B:cZ mg)(q:eU K ["Gaps"] "keep")(j:eU K ["Gaps"] "newest")(z:cS P w K mg base "Gaps" "lay" 5 3 [] NS)(N:Yr P w K mg base){cls:az}(h:mB K mg cls "take" "Gaps.take" ZG):cS P w K mg base cls "take" 6 3 [] HS :=
 cS.o h afB λhr=>(aT (VN (i:=0) (f := "newest") (OA (cM.yC hr) (sQ (vv 0) j) (vv 1) (aZ (dS ak) (Ks (cM.yC hr) (sQ (vv 0) j) (vv 1) aJ ⟨rfl,rfl,rfl,rfl⟩) (vv 2))))
  (bB (fF (eN EH (aa7 (vv 0) j rfl B.len) (sQ (vv 0) q) (dG _))
   (aT (mE (nV aX (bV.cons z hr.m bV.nil) (vv 0) (aD (jJ aX (bV.cons N hr.m bV.nil) (vv 0)) (aD aJ aM))))
   (bB (VP (xY (vv 0) IM j))))
   fX)))
theorem afC:cO ["self", "whole", "part"] ["self"] (aR ZH):=dH
theorem auG(B:cZ mg)(q:cC P w K mg base "empty" 1 [] NQ)(z:Yt P w K mg base)(j:MP P w K mg base){cls:az}(h:mB K mg cls "pouch" "Gaps.pouch" ZH):cS P w K mg base cls "pouch" 6 1 [] pJ :=
 cS.o h afC λhr=>(aT (cD 1 (abB aX q hr.m rfl))
  (aT (rJ aX.passes rfl (mF (jJ aX (bV.cons j hr.m bV.nil) (vv 0))) (fS 2)
   (bB (cD 1 (dD aX z hr.m rfl (aD (vv 1) (aD (vv 2) aM))))))
  (bB (cN (vv 1)))))
theorem afH:cO ["self", "numbers", "part"] ["self"] (aR ZM):=dH
theorem auL(B:cZ mg)(j:MP P w K mg base){cls:az}(h:mB K mg cls "kept" "Gaps.kept" ZM):cS P w K mg base cls "kept" 6 1 [] vD :=
 cS.o h afH λhr=>(aT (cD 1 (nW av aM))
  (aT (rJ aX.passes rfl (mF (jJ aX (bV.cons j hr.m bV.nil) (vv 0))) (fS 2)
   (bB (mE (sT PySem.F.plainAttrs_list PySem.F.slot_list_extend PySem.F.type_list_extend ak5 alN (vv 1) (aD (sU ak ["entry"] [] (mF (bL (vv 2) aJ bG)) ⟨(fS 0),uB,(bL (vv 0) aJ bG)⟩) aM)))))
  (bB (cN (vf 1)))))
theorem afE:cO ["self"] ["self"] (aR ZJ):=dH
theorem auI(B:cZ mg)(j:MP P w K mg base){cls:az}(h:mB K mg cls "off" "Gaps.off" ZJ):cS P w K mg base cls "off" 6 1 [] vC :=
 cS.o h afE λhr=>(bB (cN (fA (RL rfl) rfl B.sum boot_sum (aD (sU ak ["part"] [] (mF (jJ aX (bV.cons j hr.m bV.nil) (vv 0))) ⟨(fS 0),uB,(bL (vv 0) aJ bG)⟩) aM))))
theorem afA:cO ["self", "number"] ["self", "number"] (aR ZF):=dH
theorem auE(B:cZ mg)(z:Hf P w K mg base)(j:Hk P w K mg base)(q:MP P w K mg base){cls:az}(h:mB K mg cls "upto" "Gaps.upto" ZF):cS P w K mg base cls "upto" 6 2 [] rC :=
 cS.o h afA λhr=>(bB (cN (dD aX z hr.m rfl (aD (sU ak ["part"] [1] (mF (jJ aX (bV.cons q hr.m bV.nil) (vv 0))) ⟨(fS 0),uB,(Kt (ps:=["pouch", "number"]) j.calm (by exact hr.mono (by first|decide|omega)) (by exact rfl) (aD (vv 0) (aD (vv 1) aM)))⟩) aM))))
theorem afI:cO ["self", "number"] ["self", "number"] (aR ZN):=dH
theorem auM(B:cZ mg)(z:Hf P w K mg base)(j:Hl P w K mg base)(q:MP P w K mg base){cls:az}(h:mB K mg cls "below" "Gaps.below" ZN):cS P w K mg base cls "below" 6 2 [] rD :=
 cS.o h afI λhr=>(bB (cN (dD aX z hr.m rfl (aD (sU ak ["part"] [1] (mF (jJ aX (bV.cons q hr.m bV.nil) (vv 0))) ⟨(fS 0),uB,(Kt (ps:=["pouch", "number"]) j.calm (by exact hr.mono (by first|decide|omega)) (by exact rfl) (aD (vv 0) (aD (vv 1) aM)))⟩) aM))))
theorem Ni:cO ["self", "number", "times"] ["self", "number", "times"] (aR AJ):=dH
theorem Xa(B:cZ mg)(q:eU K ["Gaps"] "many")(j:eU K ["Gaps"] "taken")(N:Hj P w K mg base)(U:Hi P w K mg base)(f:ar)(z:aj)(A:bj)(outer:ai Env)(s:au)(H:Hp)(E:XK)(hr:cM 6 (A.deeper (cj "Pouch.put" (aR AJ) s.heap.objs.size f z))) :
  jU (mT P w K mg base ["self", "number", "times"] "Pouch.put" (aR AJ) f z A outer s H E) (λ_=>E) (eL AJ) RZ:=by
 exact(aT (fF (eN qI (vv 2) aJ (dG _))
   (bB VM)
   fX)
  (aT (mE (nV aX (bV.cons N hr.m bV.nil) (vv 0) (aD (vv 2) aM)))
  (aT (mE (nV aX (bV.cons U hr.m bV.nil) (vv 0) (aD (vv 1) (aD (vv 2) aM))))
  (aT (xY (vv 0) (aZ (dS ak) (sQ (vv 0) q) (vv 2)) q)
  (bB (xY (vv 0) (aZ (dS ak) (sQ (vv 0) j) aJ) j))))))
theorem at9(B:cZ mg)(U:eU K ["Gaps"] "many")(N:eU K ["Gaps"] "taken")(j:Hj P w K mg base)(q:Hi P w K mg base){cls:az}{tk:Tok}(h:UA K mg cls "put" "Pouch.put" AJ #[.int 1 tk]):cS P w K mg base cls "put" 7 3 [] vB:=cS.ofD (ds:=[]) (dvs:=[]) h .nil (λ_ _ => .nil) Ni (λ_ _ _ _ _ _ _ z hl=>match z,hl with|[_,_,_],_=>⟨_,rfl,rfl⟩) (Xa B U N j q)
theorem asQ(B:cZ mg)(U:eU K ["Gaps"] "many")(N:eU K ["Gaps"] "taken")(j:Hj P w K mg base)(q:Hi P w K mg base){cls:az}{tk:Tok}(h:UA K mg cls "put" "Pouch.put" AJ #[.int 1 tk]):cS P w K mg base cls "put" 7 3 [.int 1] vB:=cS.ofD (ds:=[.int 1 tk]) (dvs:=[.int 1]) h (.cons ⟨_,rfl⟩ .nil) (λ_ _ => .cons (by simp only[V2.Den]) .nil) Ni (λ_ _ _ _ _ _ _ z hl=>match z,hl with|[_,_],_=>⟨_,rfl,rfl⟩) (Xa B U N j q)
theorem ae8:cO ["self"] ["self"] (aR ZE):=dH
theorem auD(B:cZ mg)(j:cS P w K mg base "Gaps" "kept" 6 1 [] vD){cls:az}(h:mB K mg cls "held" "Pouch.held" ZE):cS P w K mg base cls "held" 7 1 [] HR :=
 cS.o h ae8 λhr=>(bB (cN (fA oY rfl B.len PySem.boot_len (aD (jJ aX (bV.cons j hr.m bV.nil) (vv 0)) aM))))
theorem ae5:cO ["self"] ["self"] (aR YZ):=dH
theorem auA(B:cZ mg)(j:cS P w K mg base "Gaps" "kept" 6 1 [] vD){cls:az}(h:mB K mg cls "numbers" "Pouch.numbers" YZ):cS P w K mg base cls "numbers" 7 1 [] rB :=
 cS.o h ae5 λhr=>(bB (cN (Km av rfl rfl B.sorted rfl B.set (jJ aX (bV.cons j hr.m bV.nil) (vv 0)))))
theorem ae3:cO ["self", "one", "other"] ["self", "one", "other"] (aR YX):=dH
theorem at7(B:cZ mg)(j:Hg P w K mg base)(q:cS P w K mg base "Gaps" "below" 6 2 [] rD)(z:cS P w K mg base "Gaps" "upto" 6 2 [] rC){cls:az}(h:mB K mg cls "between" "RankPouch.between" YX):cS P w K mg base cls "between" 7 3 [] vA :=
 cS.o h ae3 λhr=>(aT (fF (eN qI (vv 2) (vv 1) (dG _))
   (bB (cN (mH (aD aJ (aD aJ aM)))))
   fX)
  (bB (cN (dD aX j hr.m rfl (aD (nV aX (bV.cons q hr.m bV.nil) (vv 0) (aD (vv 1) aM)) (aD (nV aX (bV.cons z hr.m bV.nil) (vv 0) (aD (vv 2) aM)) aM))))))
theorem ae2:cO ["self", "number"] ["self", "number"] (aR YW):=dH
theorem at6(B:cZ mg)(j:Yq P w K mg base){cls:az}(h:mB K mg cls "counted" "RankPouch.counted" YW):cS P w K mg base cls "counted" 8 2 [] zQ :=
 cS.o h ae2 λhr=>(bB (cN (nV aX (bV.cons j hr.m bV.nil) (vv 0) (aD (vv 1) (aD (vv 1) aM)))))
theorem aeS:cO ["_law_pouch", "_law_row", "_law_puts", "_law_keep", "_law_total", "_law_bits", "_law_told"] ["_law_pouch", "_law_row", "_law_puts", "_law_keep"] (aR YL):=dH
theorem atV(B:cZ mg)(h:HasFn K mg "_law_sized" YL)(N:Zb P w K mg base)(U:cS P w K mg base "Gaps" "held" 7 1 [] HR)(j:cS P w K mg base "Gaps" "length" 1 1 [] zR)(q:Hh P w K mg base)(b:cS P w K mg base "Gaps" "off" 6 1 [] vC)(z:SO P w K mg base)(a:cS P w K mg base "Gaps" "puts" 1 1 [] HQ):Yp P w K mg base :=
 cC.o h aeS λhr=>(aT (cD 4 (fA (RL rfl) rfl B.sum boot_sum (aD (sU ak ["_law_number_here", "_law_times_here"] [] (mF (vv 1)) ⟨(vJ rfl (mG (fS 0) (mG (fS 1) vI))),uB,(vv 1)⟩) aM)))
  (aT (fF (VW.vt (kZ (eN (rP hr.units) (jJ aX (bV.cons j hr.m bV.nil) (vv 0)) (vv 4) (dG _)) (kZ (eN (rP hr.units) (jJ aX (bV.cons a hr.m bV.nil) (vv 0)) (vv 2) (dG _)) (nU (jW (fA xE rfl B.isinstance zH (aD (jJ aX (bV.cons j hr.m bV.nil) (vv 0)) (aD (vK rfl B.bool Ho) aM))))))))
   (bB (cN mY))
   fX)
  (aT (cD 5 (dD aX N hr.m rfl (aD (aZ tF (vv 2) (aZ (dS ak) (vv 3) aJ)) aM)))
  (aT (fF (mX (aaV tE tE (fA oY rfl B.len PySem.boot_len (aD (jJ aX (bV.cons q hr.m bV.nil) (vv 0)) aM)) (jJ aX (bV.cons U hr.m bV.nil) (vv 0)) (aZ pQ (aZ (dS ak) (aZ pQ aJ (vv 3)) aJ) (aZ (dS ak) (vv 5) aJ))))
   (bB (cN mY))
   fX)
  (aT (cD 6 (jJ aX (bV.cons z hr.m bV.nil) (vv 0)))
  (aT (fF (VW.vt (kZ (mX (jW (fA xE rfl B.isinstance zH (aD (vv 6) (aD (vK rfl B.tuple PyProof.Rows.boot_tuple) aM))))) (kZ (eN (rP hr.units) (bL (vv 6) aJ bG) (vv 4) (dG _)) (nU (eN (rP hr.units) (bL (vv 6) aJ bG) (jJ aX (bV.cons b hr.m bV.nil) (vv 0)) (dG _))))))
   (bB (cN mY))
   fX)
  (bB (cN (abD tE tE aJ (bL (vv 6) aJ bG) (aZ tF (aZ pQ (fA (zG rfl) rfl B.max CM (aD aJ (aD (aZ pP (vv 5) aJ) aM))) (vv 4)) (vv 3)))))))))))
theorem aeR:cO ["_law_pouch", "_law_told", "_law_numbers", "_law_kept_here", "_law_many"] ["_law_pouch"] (aR YK):=dH
theorem atU(B:cZ mg)(h:HasFn K mg "_law_spoiled" YK)(j:Hh P w K mg base)(q:SO P w K mg base):Yo P w K mg base :=
 cC.o h aeR λhr=>(aT (cD 1 (jJ aX (bV.cons q hr.m bV.nil) (vv 0)))
  (aT (cD 2 (jJ aX (bV.cons j hr.m bV.nil) (vv 0)))
  (aT (cD 3 (aZ (dS ak) (VV ak (vv 1) VU (VR aJ)) (mH (aD (Ku (Wo ak) rfl B.list SV (aD (bL (vv 1) aJ bG) aM)) aM))))
  (aT (cD 4 (Ku (Wo ak) rfl B.list SV (aD (vv 2) aM)))
  (aT (mE (abE PySem.F.plainAttrs_list PySem.F.slot_list_clear PySem.F.type_list_clear ak6 alO (bL (vv 1) aJ bG)))
  (aT (mE (sT PySem.F.plainAttrs_list PySem.F.slot_list_append PySem.F.type_list_append uH uI (vv 2) (aD aJ aM)))
  (bB (cN (VX (sS (nE hr.units) (jJ aX (bV.cons q hr.m bV.nil) (vv 0)) (vv 3) (dG _)) (VX (sS (nE hr.units) (jJ aX (bV.cons j hr.m bV.nil) (vv 0)) (vv 4) (dG _)) (OC (sS (nE hr.units) (bL (vv 1) aJ bG) (nW ak aM) (dG _)))))))))))))
theorem aeW:cO ["_law_pouch", "_law_row", "_law_numbers", "_law_there"] ["_law_pouch", "_law_row"] (aR YQ):=dH
theorem atZ(B:cZ mg)(h:HasFn K mg "_law_kept" YQ)(j:Hh P w K mg base)(q:SO P w K mg base):Yn P w K mg base :=
 cC.o h aeW λhr=>(aT (cD 2 (jJ aX (bV.cons j hr.m bV.nil) (vv 0)))
  (aT (fF (VW.vt (kZ (mX (jW (fA xE rfl B.isinstance zH (aD (vv 2) (aD (vK rfl B.list SV) aM))))) (nU (eN (rP hr.units) (vv 2) (Km ak rfl rfl B.sorted rfl B.set (sU ak ["_law_entry"] [] (mF (bL (jJ aX (bV.cons q hr.m bV.nil) (vv 0)) aJ bG)) ⟨(fS 0),uB,(bL (vv 0) aJ bG)⟩)) (dG _)))))
   (bB (cN mY))
   fX)
  (aT (cD 3 (sU ak ["_law_number_here", "_law_times_here"] [] (mF (vv 1)) ⟨(vJ rfl (mG (fS 0) (mG (fS 1) vI))),uB,(vv 0)⟩))
  (bB (cN (sS (nE hr.units) (sU ak ["_law_number_here"] [3] (mF (vv 2)) ⟨(fS 0),(aaZ (VW.vt (kZ (eN (akE hr.units) (vv 0) (vv 1) rfl) (nU (jW (fA xE rfl B.isinstance zH (aD (vv 0) (aD (vK rfl B.bool Ho) aM)))))))),(vv 0)⟩) (nW ak aM) (dG _)))))))
theorem aeZ:cO ["_law_pouch", "_law_row", "_law_numbers", "_law_apart", "_law_number_here", "_law_under", "_law_many", "_law_told", "_law_other", "_law_due", "_law_found"] ["_law_pouch", "_law_row", "_law_numbers"] (aR YT):=dH
theorem at3(B:cZ mg)(h:HasFn K mg "_law_counted" YT)(q:Yk P w K mg base)(j:Yj P w K mg base)(e:Ys P w K mg base)(b:Hl P w K mg base)(c:Hk P w K mg base)(N:cS P w K mg base "Gaps" "below" 6 2 [] rD)(U:Yq P w K mg base)(z:cS P w K mg base "Gaps" "counted" 8 2 [] zQ)(f:cS P w K mg base "Gaps" "off" 6 1 [] vC)(d:SO P w K mg base)(a:cS P w K mg base "Gaps" "upto" 6 2 [] rC):Ym P w K mg base :=
 cC.o h aeZ λhr=>(aT (cD 3 (jJ aX (bV.cons f hr.m bV.nil) (vv 0)))
  (aT (rJ aX.passes rfl (mF (vv 2)) (fS 4)
   (aT (aaY (dD aX q hr.m rfl (aD (vv 1) (aD (vv 4) aM))) (vJ rfl (mG (fS 5) (mG (fS 6) vI))))
   (aT (fF (VW.vt (kZ (mX (jW (dD aX j hr.m rfl (aD (nV aX (bV.cons a hr.m bV.nil) (vv 0) (aD (vv 4) aM)) (aD (vv 6) (aD (vv 3) aM)))))) (nU (mX (jW (dD aX j hr.m rfl (aD (nV aX (bV.cons N hr.m bV.nil) (vv 0) (aD (vv 4) aM)) (aD (vv 5) (aD (vv 3) aM)))))))))
    (bB (cN mY))
    fX)
   (aT (cD 7 (jJ aX (bV.cons d hr.m bV.nil) (vv 0)))
   (aT (fF (VW.vt (kZ (eN (rP hr.units) (nV aX (bV.cons a hr.m bV.nil) (vv 0) (aD (vv 4) aM)) (dD aX c hr.m rfl (aD (vv 7) (aD (vv 4) aM))) (dG _)) (nU (eN (rP hr.units) (nV aX (bV.cons N hr.m bV.nil) (vv 0) (aD (vv 4) aM)) (dD aX b hr.m rfl (aD (vv 7) (aD (vv 4) aM))) (dG _)))))
    (bB (cN mY))
    fX)
   (aT (fF (mX (jW (dD aX j hr.m rfl (aD (nV aX (bV.cons z hr.m bV.nil) (vv 0) (aD (vv 4) aM)) (aD (aZ pP (vv 6) (vv 5)) (aD (aZ pQ aJ (vv 3)) aM))))))
    (bB (cN mY))
    fX)
   (aT (fF (eN (rP hr.units) (nV aX (bV.cons z hr.m bV.nil) (vv 0) (aD (vv 4) aM)) (nV aX (bV.cons U hr.m bV.nil) (vv 0) (aD (vv 4) (aD (vv 4) aM))) (dG _))
    (bB (cN mY))
    fX)
   (bB (rJ aX.passes rfl (mF (VV ak (vv 2) VU (VR aJ))) (fS 8)
    (aT (cD 9 (fA (zG rfl) rfl B.max CM (aD aJ (aD (aZ pP (bL (dD aX q hr.m rfl (aD (vv 1) (aD (vv 8) aM))) aJ bG) (vv 5)) aM))))
    (aT (cD 10 (nV aX (bV.cons U hr.m bV.nil) (vv 0) (aD (vv 4) (aD (vv 8) aM))))
    (bB (fF (VW.vt (kZ (mX (jW (dD aX j hr.m rfl (aD (vv 10) (aD (vv 9) (aD (aZ pQ aJ (vv 3)) aM)))))) (nU (eN (rP hr.units) (vv 10) (dD aX e hr.m rfl (aD (vv 7) (aD (vv 4) (aD (vv 8) aM)))) (dG _)))))
     (bB (cN mY))
     fX)))))))))))))
  (bB (cN mY))))
theorem aeI:cO ["_law_script", "_law_first", "_law_kind", "_law_keep", "_law_pouch", "_law_row", "_law_cells", "_law_many", "_law_k", "_law_cell_here", "_law_number_here", "_law_times_here"] ["_law_script"] (aR vR):=dH
theorem atE{f:ar}{fd:b8}(B:cZ mg)(F:sF K "law" "law" vR f fd)(q:Yy P w K mg base)(z:Yz P w K mg base)(N:Ym P w K mg base)(b:Yn P w K mg base)(j:SN P w K mg base)(g:He P w K mg base)(U:Yp P w K mg base)(a:Yo P w K mg base)(c:Yl P w K mg base)(d:GR P w K mg base "Gaps" 3 2 HU)(e:cS P w K mg base "Gaps" "put" 7 3 [] vB)(h:cS P w K mg base "Gaps" "put" 7 3 [.int 1] vB):hJ P w K mg base (nS P w) 10 f fd ["_law_script"] (qH K 1 Zx):=by
 refine Uv F aeI (λ_ _ _ _ _ _ _ hr=>?_);exact(aT (cD 1 (dD aX z hr.m rfl (aD (vv 0) (aD aJ aM))))
  (aT (cD 2 (aZ lO (vv 1) aJ))
  (aT (cD 3 (bL (nW ak (aD aJ (aD aJ (aD aJ (aD aJ (aD aJ (aD aJ (aD aJ (aD aJ aM))))))))) (aZ lO (aZ tF (vv 1) aJ) aJ) bG))
  (aT (cD 4 (aa2 d hr.m rfl (aD (vv 3) aM)))
  (aT (cD 5 (nW av aM))
  (aT (cD 6 (fA (zG rfl) rfl B.max CM (aD aJ (aD (aZ pP (fA oY rfl B.len PySem.boot_len (aD (vv 0) aM)) aJ) aM))))
  (aT (cD 7 (fA (avL rfl) rfl B.min boot_min (aD aJ (aD (fA (zG rfl) rfl B.max CM (aD (vv 6) (aD (aZ lO (aZ tF (vv 1) aJ) aJ) aM))) aM))))
  (aT (rJ aX.passes rfl (Kk rfl B.range (aD (vv 7) aM)) (fS 8)
   (aT (cD 9 (dD aX j hr.m rfl (aD (dD aX z hr.m rfl (aD (vv 0) (aD (aZ (dS ak) aJ (aZ lO (vv 8) (fA (zG rfl) rfl B.max CM (aD aJ (aD (vv 6) aM))))) aM))) (aD (vv 8) aM))))
   (aT (cD 10 (dD aX g hr.m rfl (aD (dD aX j hr.m rfl (aD (vv 9) (aD aJ aM))) (aD (vv 2) aM))))
   (aT (cD 11 (dD aX c hr.m rfl (aD (dD aX j hr.m rfl (aD (vv 9) (aD aJ aM))) aM)))
   (aT (fF (VW.vt (NZ (eN (nE hr.units) (vv 11) aJ (dG _)) (NY (eN (nE hr.units) (aZ lO (vv 9) aJ) aJ (dG _)))))
    (bB (mE (nV aX (bV.cons h hr.m bV.nil) (vv 4) (aD (vv 10) aM))))
    (bB (mE (nV aX (bV.cons e hr.m bV.nil) (vv 4) (aD (vv 10) (aD (vv 11) aM))))))
   (aT (mE (sT PySem.F.plainAttrs_list PySem.F.slot_list_append PySem.F.type_list_append uH uI (vv 5) (aD (mH (aD (vv 10) (aD (vv 11) aM))) aM)))
   (aT (fF (VW.vt (NZ (eN (nE hr.units) (aZ lO (vv 8) aJ) aJ (dG _)) (NY (VW.vt (kZ (mX (jW (dD aX a hr.m rfl (aD (vv 4) aM)))) (nU (mX (jW (dD aX U hr.m rfl (aD (vv 4) (aD (vv 5) (aD (aZ (dS ak) (vv 8) aJ) (aD (vv 3) aM)))))))))))))
    (bB (cN mY))
    fX)
   (bB (fF (VW.vt (NZ (eN (nE hr.units) (aZ lO (vv 8) aJ) aJ (dG _)) (NY (mX (jW (dD aX N hr.m rfl (aD (vv 4) (aD (vv 5) (aD (VV ak (dD aX q hr.m rfl (aD (vv 5) (aD (vv 9) (aD (vv 2) aM)))) VU (VR aJ)) aM)))))))))
    (bB (cN mY))
    fX)))))))))
  (aT (fF (VW.vt (kZ (mX (jW (dD aX a hr.m rfl (aD (vv 4) aM)))) (kZ (mX (jW (dD aX U hr.m rfl (aD (vv 4) (aD (vv 5) (aD (vv 7) (aD (vv 3) aM))))))) (nU (mX (jW (dD aX b hr.m rfl (aD (vv 4) (aD (vv 5) aM)))))))))
   (bB (cN mY))
   fX)
  (bB (cN (dD aX N hr.m rfl (aD (vv 4) (aD (vv 5) (aD (dD aX q hr.m rfl (aD (vv 5) (aD (vv 1) (aD (vv 2) aM)))) aM)))))))))))))))
end
theorem all_mk{l:OpenLaw}{w:bf}{K:ba}{h:bo}{mg:az->aq aj}{fa fl:ar}{od an:aq ar}{sl:bh (aq aj)}{oc kV dc pm F ct:aj}(X:K.In h)(G:h.Ns a8 mg)(E:mg "law" = ag (.ref fa))
  (al:nsIn K a8 "law" = ag (ag (.ref fl))) (ll:K.lookup fl=ag ⟨oc,od,.func (di "law" "law" (iK vR) (eL vR) (aR vR) .none kV dc pm an F ct),sl⟩) (lc:codeIn K F "law" = av) (lk:dh K (.ref fl)=av)
  {k n U:ar} {aj7 aj4 S:aq ar} {adK adF:bh (aq aj)} {VL:bh aj} {akA amQ asV ahU W:aj} (Gx:nsIn K a8 "upto" = ag (ag (.ref k))) (Qk:K.lookup k=ag ⟨akA,aj4,.func (di "upto" "upto" (iK yG) (eL yG) (aR yG) .none amQ asV ahU S (.ref n) W),adF⟩) (T:codeIn K (.ref n) "upto" = av) (amE:dh K (.ref k)=av)
  {i m N:ar} {aj8 aj5 R:aq ar} {adL adG:bh (aq aj)} {VQ:bh aj} {akB amR asW ahV V:aj} (Gy:nsIn K a8 "below" = ag (ag (.ref i))) (Ql:K.lookup i=ag ⟨akB,aj5,.func (di "below" "below" (iK yH) (eL yH) (aR yH) .none amR asW ahV R (.ref m) V),adG⟩) (au0:codeIn K (.ref m) "below" = av) (amF:dh K (.ref i)=av)
  (B:cZ mg)
  (ap8:HasFn K mg "near_enough" XW)
  (aqE:HasFn K mg "look_row" YC)
  (ap6:HasFn K mg "packed" XT)
  (ap5:HasFn K mg "places_of" XS)
  (aqH:HasFn K mg "empty" YF)
  (ap7:HasFn K mg "of_row" XU)
  (aqD:HasFn K mg "merged" YB)
  (aqC:HasFn K mg "merged" YA)
  (aqB:HasFn K mg "merged_entries" XZ)
  (aqA:HasFn K mg "merged_entries" XY)
  (aqG:HasFn K mg "goes_first" YE)
  (ap9:HasFn K mg "moved" XX)
  (aqI:HasFn K mg "bounds_ahead" YG)
  (ap3:HasFn K mg "thinned" XQ)
  (aqF:HasFn K mg "kept_entries" YD)
  (aqJ:HasFn K mg "between" YH)
  (aqL:HasFn K mg "apart" YI)
  (ap4:HasFn K mg "summed" XR)
  (FD:HasFn K mg "first_where" AI)
  (aqR:HasFn K mg "_law_mix" YO)
  (aqW:HasFn K mg "_law_cell" YU)
  (aqQ:HasFn K mg "_law_number" YN)
  (aqM:HasFn K mg "_law_times" YJ)
  (aqU:HasFn K mg "_law_counts" YS)
  (aqP:HasFn K mg "_law_pair" YM)
  (aqT:HasFn K mg "_law_figures" YR)
  (aqX:HasFn K mg "_law_asked_for" YV)
  (aqO:HasFn K mg "_law_sized" YL)
  (aqN:HasFn K mg "_law_spoiled" YK)
  (aqS:HasFn K mg "_law_kept" YQ)
  (aqV:HasFn K mg "_law_counted" YT)
  (FE:∃t,mg "LONGEST" = ag (.int 1000000000 t))
  {j:ar} (q:nsIn K a8 "Gaps" = ag (ag (.ref j))) (z:nR K j)
  (ak3:c4 K (.ref j) "keep" = ag ao)
  (ak2:c4 K (.ref j) "laid" = ag ao)
  (ak1:c4 K (.ref j) "many" = ag ao)
  (ak0:c4 K (.ref j) "newest" = ag ao)
  (akZ:c4 K (.ref j) "taken" = ag ao)
  {ab8:Tok} (Nx:SX K j "put" "Pouch.put" AJ #[.int 1 ab8])
  (agI:lY K j "look_room" "Pouch.look_room" ZC)
  (agJ:lY K j "length" "Pouch.length" ZD)
  (agC:lY K j "puts" "Pouch.puts" YY)
  (agM:lY K j "held" "Pouch.held" ZE)
  (agG:lY K j "numbers" "Pouch.numbers" YZ)
  (agO:lY K j "between" "RankPouch.between" YX)
  (agN:lY K j "counted" "RankPouch.counted" YW)
  (agQ:TY K j "Gaps.__init__" EB)
  (agB:lY K j "take" "Gaps.take" ZG)
  (agK:lY K j "lay" "Gaps.lay" ZL)
  (agH:lY K j "newest_pouch" "Gaps.newest_pouch" ZK)
  (agE:lY K j "parts" "Gaps.parts" ZI)
  (agD:lY K j "pouch" "Gaps.pouch" ZH)
  (agL:lY K j "kept" "Gaps.kept" ZM)
  (agF:lY K j "off" "Gaps.off" ZJ)
  (agA:lY K j "upto" "Gaps.upto" ZF)
  (agP:lY K j "below" "Gaps.below" ZN)
  (apX:UB K mg "RankPouch" "__init__" "Pouch.__init__" EA)
  (L:nsIn K a8 "below_asks" = ag (ag (.ref i)))
  (Q:nsIn K a8 "upto_asks" = ag (ag (.ref k)))
  {a:ai ar}
  (al0:K.lookup n=ag ⟨.type "code",aj7,.fields VL,adK⟩)
  (al2:K.lookup m=ag ⟨.type "code",aj8,.fields VQ,adL⟩)
  (Rq:VL[11]?=ag (.ref U)) (Sv:Cp VL n U=av)
  (Rr:VQ[11]?=ag (.ref N)) (Sw:Cp VQ m N=av)
  (hsub:U∈a/\N∈a) (hnd:[U,N].Nodup) (hall:∀P∈a,P=U\/P=N)
  : ∃fd:b8,(∀(s:au) (v:aj),BindsTo s fd ⟨[v],[]⟩ [("_law_script",v)])/\(∀P∈a,∃c,codeHdIn K c P=av)/\∀base:bo,K.In base->base.Ns a8 mg->vE base mg->hJ l.prog w K mg base zU 10 fa fd ["_law_script"] (OP K a):=by
 have e:=E.symm.trans (mg_of X G al);cases e;have x:eU K ["Gaps"] "keep":=ME q z ak3 (MD);have C:eU K ["Gaps"] "laid":=ME q z ak2 (MD);have d:eU K ["Gaps"] "many":=ME q z ak1 (MD);have D:eU K ["Gaps"] "newest":=ME q z ak0 (MD);have g:eU K ["Gaps"] "taken":=ME q z akZ (MD);have FL:=LX (st:=vR) ll lc lk;have ap2:HasFn K mg "upto" yG:=fU X G Gx Qk T amE;obtain⟨Lv,Ls⟩:=Lx (st:=yG) Gx Qk al0 Rq Sv;have aqK:HasFn K mg "below" yH:=fU X G Gy Ql au0 amF;obtain⟨Lw,Lu⟩:=Lx (st:=yH) Gy Ql al2 Rr Sw;refine⟨di "law" "law" (iK vR) (eL vR) (aR vR) .none kV dc pm an F ct,λs v => .of_eq rfl,?_,λbase KB GB BB=>?_⟩
 ·intro P hP
  rcases hall P hP with e|e
  ·rw[e];exact⟨_,Ls⟩
  ·rw[e];exact⟨_,Lu⟩
 have SR:MQ K mg base "upto":=⟨KB,GB,BB,_,_,Lv,Ls⟩;have SS:MQ K mg base "below":=⟨KB,GB,BB,_,_,Lw,Lu⟩;have Jj:=@as5 l.prog w K mg base B ap8;have Jo:=@atB l.prog w K mg base B aqE FE;have Jh:=@as3 l.prog w K mg base B ap6;have Jq:=@atM l.prog w K mg base B aqH;have HX:=@atH l.prog w K mg base B aqG;have p:=@atN l.prog w K mg base B aqI;have HY:=@atQ l.prog w K mg base B aqL;have HW:=@asZ l.prog w K mg base B ap4;have A:=@atY l.prog w K mg base B aqR;have IA:=@atX l.prog w K mg base B aqQ;have Js:=@atR l.prog w K mg base B aqM;have UN:=@at1 l.prog w K mg base B aqU;have HZ:=@atW l.prog w K mg base B aqP;have Ju:=@at0 l.prog w K mg base B aqT;have NH:=@asU l.prog w K mg base B x d g _ apX;have zM:=@auB l.prog w K mg base B FE d _ (agI.has X G q z);have TC:=@auC l.prog w K mg base B d _ (agJ.has X G q z);have Ih:=@at8 l.prog w K mg base B g _ (agC.has X G q z);have Jg:=@as2 l.prog w K mg base B ap5 Jh;have zT:=@as6 l.prog w K mg base B ap9 p;have Jp:=@atF l.prog w K mg base B aqF Jj;have UP:=@at4 l.prog w K mg base B aqW A;have UQ:=@at5 l.prog w K mg base B aqX A IA;have Ji:=@as4 l.prog w K mg base B ap7 Jo Jg;have Jl:=@as8 l.prog w K mg base B aqB HX zT;have Jk:=@as7 l.prog w K mg base B aqA HX zT;have Jf:=@asY l.prog w K mg base B ap3 Jp;have I:=@asX l.prog w K mg base B ap2 p FD SR;have r:=I.alias (y := "upto_asks") ((mg_of X G Q).trans (mg_of X G Gx).symm);have H:=@atP l.prog w K mg base B aqK p FD SS;have o:=H.alias (y := "below_asks") ((mg_of X G L).trans (mg_of X G Gy).symm);have Ir:=@asS l.prog w K mg base B NH C D _ (agQ.has X G q);have Jn:=@atA l.prog w K mg base B aqD Jl;have Jm:=@as9 l.prog w K mg base B aqC Jk;have Jr:=@atO l.prog w K mg base B aqJ HY o r;have GV:=@auJ l.prog w K mg base B Ji D _ (agH.has X G q z);have Ij:=@auK l.prog w K mg base B Jn Jf x C _ (agK.has X G q z);have b:=@auH l.prog w K mg base B C GV _ (agE.has X G q z);have zL:=@auF l.prog w K mg base B x D Ij GV _ (agB.has X G q z);have f:=@auG l.prog w K mg base B Jq Jm b _ (agD.has X G q z);have GW:=@auL l.prog w K mg base B b _ (agL.has X G q z);have GU:=@auI l.prog w K mg base B b _ (agF.has X G q z);have CY:=@auE l.prog w K mg base B HW r b _ (agA.has X G q z);have DA:=@auM l.prog w K mg base B HW o b _ (agP.has X G q z);have Ii:=@at9 l.prog w K mg base B d g zM zL _ _ (Nx.has X G q z);have Hy:=@asQ l.prog w K mg base B d g zM zL _ _ (Nx.has X G q z);have Ik:=@auD l.prog w K mg base B GW _ (agM.has X G q z);have u:=@auA l.prog w K mg base B GW _ (agG.has X G q z);have CZ:=@at7 l.prog w K mg base B HY DA CY _ (agO.has X G q z);have UM:=@atV l.prog w K mg base B aqO Ju Ik TC u GU f Ih;have UL:=@atU l.prog w K mg base B aqN u f;have Jt:=@atZ l.prog w K mg base B aqS u f;have TF:=@at6 l.prog w K mg base B CZ _ (agN.has X G q z);have UO:=@at3 l.prog w K mg base B aqV UN HZ Jr o r DA CZ TF GU f CY;exact al8 [(U, "upto",⟨91,53,91,84⟩,yO "upto"),(N, "below",⟨94,53,94,85⟩,yO "below")] hnd (by simp only[dI,xI,vW,forall_eq_or_imp,forall_eq];exact hsub) (by simp only[dI,xI,vW,forall_eq_or_imp,forall_eq];exact⟨⟨_,Lv⟩,⟨_,Lw⟩⟩) (atE B FL UQ UP UO Jt A IA UM UL Js Ir Ii Hy) M.amA
theorem walk{l:OpenLaw}{q:a9}{loose:ai az}{XP:(az->aq aj)->bo->Prop}{YP:bf->bo->Prop}{d:DefRec}{K:Params->ba}{j:ai ar}(hn:l.most=ag 63)(b:d.params.defaults=[])
  (B:∀(w:bf) (h:bo),YP w h->(K w.params).In h/\∀P∈j,h.get? P=ag (tabObj #[])) (N:∀w:bf,noTabs (K w.params)=av)
  (F:∀(w:bf) (mg:az->aq aj) (fa:ar) (h:bo),(K w.params).In h->h.Ns a8 mg->mg d.name=ag (.ref fa) ->
   ∃fd:b8,(∀(s:au) (u:aj),BindsTo s fd ⟨[u],[]⟩ [("_law_script",u)])/\(∀P∈j,∃c,codeHdIn (K w.params) c P=av)/\∀base:bo,(K w.params).In base->base.Ns a8 mg->vE base mg->hJ l.prog w (K w.params) mg base zU 10 fa fd ["_law_script"] (OP (K w.params) j)) :
  PySem.W.WalkO q loose XP YP l.row.toRowW d [] (λf vs=>PySem.call f vs) :=
 L2.aaQ (n:=63) (k:=10) (x := "_law_script") (CX:=λ_=>zU) (sp:=λw=>OP (K w.params) j) hn (by decide) b ⟨rfl,by decide,by decide⟩ B N F (λ_ _ a ns hl _ U hS=>⟨a,ns,rfl,hS,hl,U,λ_=>rfl⟩) λ_ _ _ _ _ z=>z
end Iu
open PySem PySem.W PyProof.Rows
namespace HD
open PySem PySem.W PyProof.Rows
noncomputable def OX(B:cc->aq Builtin)(p:a9)(w:bf)(lo:ax)(j:aq aj):ax->SharedT->Thread->aq SharedT
 |0,_,_=>ao
 |m+1,x,th=>bif through th then ag x else bif stepOk lo j th then(stepT (denote B) p w x th).bind (λy=>OX B p w lo j m y.1 y.2)else ao
theorem afT{B:cc->aq Builtin}{p:a9}{w:bf}{lo:ax}{j:aq aj}(m:ax) :
  ∀(x y:SharedT) (th:Thread),OX B p w lo j m x th=ag y->topRun B p w lo j m x.abs th=ag y.abs:=by
 induction m with
 |zero=>intro x y th z;cases z
 |succ m ih =>
  intro x y th z;unfold OX at z;unfold topRun;cases a:through th <;> rw[a]at z
  ·cases b:stepOk lo j th <;> rw[b]at z
   ·cases z
   ·obtain⟨u,N,q⟩:=Hr.mp (show(stepT (denote B) p w x th).bind _=ag y from z);dsimp only;rw[stepT_spec (s':=u.1) (t':=u.2) N];exact ih _ _ _ q
  ·cases z;rfl
noncomputable def grow:ai cb->BT->ax->BT
 |[],T,_=>T
 |o::l,T,n=>grow l (T.ins n o) (n+1)
noncomputable def boot(w:bf)(os:OsState):SharedT:=⟨grow (da w.params).objs.toList .nil 0,11,(da w.params).life,#[],boot_drawn,boot_toks,os⟩
noncomputable def ends(p:a9)(N:ax)(w:bf)(os:OsState):aq SharedT:=OX treeTable p w 11 (ag (.ref 6)) N (boot w os) (topStub p)
theorem avN(w:bf):((da w.params).isNs a8&&(#[]:bh GenState).size==0,(da w.params).objs.size,(da w.params).nsMap a8 "__annotations__")=(av,11,ag (Value.ref 6)):=by kernel_rfl
theorem boot_abs(w:bf)(os:OsState):(boot w os).abs=⟨da w.params,#[],boot_drawn,boot_toks,os⟩:=by kernel_rfl
noncomputable def fits(p:a9)(h:bo)(y:SharedT):bc:=staticsOk (importedModules p.main.body) h y.abs.heap&&namesBound p y.abs.heap&&gensDone y.abs&&laidKept h y.abs.heap
theorem left{p q:a9}{loose:ai az}{Xt:au->bc}{α:Type}{Yf:au->α}{Ya:bf->α}{N:ax}{U:bc}
  (plain:opening p=plainProg p.main.scope.names) (e:Nat.ble 600 N=av) (fence:∀s,fenceModules? p s=ag s)
  (tests:∀(w:bf) (os:OsState),(ends p N w os).map (fits p (da w.params))=ag av)
  (Ax:∀(w:bf) (os:OsState),(ends p N w os).map (λy=>openSeen q loose (importedModules p.main.body) Xt U y.abs)=ag (openGood q loose))
  (hook:∀(w:bf) (os:OsState),(ends p N w os).map (λy=>Yf y.abs)=ag (Ya w)) :
  LeftO p q loose Xt Yf Ya N U:=by
 intro w;obtain⟨⟨g,h,i,tk,os⟩,d,B⟩:=CT.mp (boot_open plain e fence w);simp only[Hq]at B;obtain⟨rfl,rfl,rfl,rfl⟩:=B;have bs:=avN w;simp only[Hq]at bs;obtain⟨y,z,f⟩:=CT.mp (tests w os);have b:=Ax w os;have a:=hook w os;rw[z]at b a;have j:=afT _ _ _ _ z;rw[boot_abs]at j;have c:topFrom treeTable p w N ⟨da w.params,#[],boot_drawn,boot_toks,os⟩=ag y.abs:=by
  unfold topFrom;dsimp only;rw[bs.1,bs.2.1,bs.2.2,j];show(match fits p (da w.params) y with|true=>ag y.abs|false=>ao)=ag y.abs;rw[f]
 show((fencedOpening treeTable p w N).bind (topFrom treeTable p w N)).map _=_;rw[d,Option.bind_some,c,GO,kO,Hq];exact⟨kE b,kE a⟩
set_option maxRecDepth 100000
set_option compiler.extract_closed false
set_option genSizeOf false
set_option bootstrap.genMatcherCode false
set_option maxHeartbeats 0
noncomputable def amO(ds:ai ax)(l:ai bq):ai bq:=@List.rec bq (λ_=>ax->ai bq) (λ_=>[]) (λs _ f i=>@Bool.rec (λ_=>ai bq) (s::f (Nat.succ i)) (f (Nat.succ i)) (ds.any (Nat.beq i))) l 0
noncomputable def kept:a9:={PySem.Challenge.pw_rankpouch_k41_gaps_bounds with main:={PySem.Challenge.pw_rankpouch_k41_gaps_bounds.main with body:=amO [1,5,7,12,22,31,34,36] PySem.Challenge.pw_rankpouch_k41_gaps_bounds.main.body} }
noncomputable def seenX(s:au):bc:=xlAt kept [] s&&recOk (RowW.records (OpenRow.toRowW (OpenLaw.row PySem.Challenge.rw_rankpouch_k41_gaps_bounds))) s
theorem said:OpenLaw.wellSaid PySem.Challenge.rw_rankpouch_k41_gaps_bounds=av:=by kernel_rfl
theorem plain:opening PySem.Challenge.pw_rankpouch_k41_gaps_bounds=plainProg PySem.Challenge.pw_rankpouch_k41_gaps_bounds.main.scope.names:=by kernel_rfl
theorem fence(s:au):fenceModules? PySem.Challenge.pw_rankpouch_k41_gaps_bounds s=ag s:=by kernel_rfl
theorem tests(w:bf)(os:OsState):(ends PySem.Challenge.pw_rankpouch_k41_gaps_bounds 6972 w os).map (fits PySem.Challenge.pw_rankpouch_k41_gaps_bounds (da w.params))=ag av:=by kernel_rfl
theorem Ax(w:bf)(os:OsState):(ends PySem.Challenge.pw_rankpouch_k41_gaps_bounds 6972 w os).map (λy=>openSeen kept [Str.ofString "upto_asks",Str.ofString "below_asks"] (importedModules PySem.Challenge.pw_rankpouch_k41_gaps_bounds.main.body) seenX av y.abs)=ag (openGood kept [Str.ofString "upto_asks",Str.ofString "below_asks"]):=by kernel_rfl
end HD
open PySem PySem.W PyProof.Rows
local macro_rules
 | `(tactic| o_head $H) => `(tactic| refine holds_open (q := HD.kept) (loose := [Str.ofString "upto_asks", Str.ofString "below_asks"]) (N := 6972) (Xt := HD.seenX)
   (XP := XL HD.kept []) (Yf := Hook.obs $H) (Ya := Hook.val $H) (YP := Hook.says $H)
   ?_ (Hook.of $H) (Hook.keeps $H) (fun s e => xl_of s (Bool.and_eq_true_iff.mp e).1) XL.keeps
   (by rfl) (by rfl) (by rfl) (fun s e => recFacts_of (Bool.and_eq_true_iff.mp e).2)
   (by rfl) (by assumption) (by decide +kernel) ⟨rfl, rfl, rfl, rfl, rfl, by decide +kernel⟩ ?_ ?_)
set_option maxRecDepth 100000 in
set_option maxHeartbeats 0 in
theorem PySem.Challenge.cw_rankpouch_k41_gaps_bounds_holds : PySem.Challenge.rw_rankpouch_k41_gaps_bounds.Holds := by
 w_on
 refine holds_law HD.said λsaid=>?_
 k_head
 ·clear said
  refine HD.left HD.plain (by kernel_rfl) HD.fence HD.tests HD.Ax ?_
  intro w os
  kernel_rfl
 ·clear said
  w_witness2
 clear said
 k_fill
 refine Iu.walk (l:=PySem.Challenge.rw_rankpouch_k41_gaps_bounds) rfl rfl (λw h ρ=>⟨PySem.W.km_in_of ρ,PySem.W.km_tabs_of ρ⟩) (λw=>by kernel_rfl) ?F
 case F =>
  intro w mg fa h KX G KS
  refine' Iu.all_mk KX G KS ?_ ?_ ?_ ?_ ?_ ?_ ?_ ?_ ?_ ?_ ?_ ?_ ⟨rQ KX G ?_,rQ KX G ?_,rQ KX G ?_,rQ KX G ?_,rQ KX G ?_,rQ KX G ?_,rQ KX G ?_,rQ KX G ?_,rQ KX G ?_,rQ KX G ?_,rQ KX G ?_,rQ KX G ?_,rQ KX G ?_⟩ (L2.fU KX G ?_ ?_ ?_ ?_) (L2.fU KX G ?_ ?_ ?_ ?_) (L2.fU KX G ?_ ?_ ?_ ?_) (L2.fU KX G ?_ ?_ ?_ ?_) (L2.fU KX G ?_ ?_ ?_ ?_) (L2.fU KX G ?_ ?_ ?_ ?_) (L2.fU KX G ?_ ?_ ?_ ?_) (L2.fU KX G ?_ ?_ ?_ ?_) (L2.fU KX G ?_ ?_ ?_ ?_) (L2.fU KX G ?_ ?_ ?_ ?_) (L2.fU KX G ?_ ?_ ?_ ?_) (L2.fU KX G ?_ ?_ ?_ ?_) (L2.fU KX G ?_ ?_ ?_ ?_) (L2.fU KX G ?_ ?_ ?_ ?_) (L2.fU KX G ?_ ?_ ?_ ?_) (L2.fU KX G ?_ ?_ ?_ ?_) (L2.fU KX G ?_ ?_ ?_ ?_) (L2.fU KX G ?_ ?_ ?_ ?_) (L2.fU KX G ?_ ?_ ?_ ?_) (L2.fU KX G ?_ ?_ ?_ ?_) (L2.fU KX G ?_ ?_ ?_ ?_) (L2.fU KX G ?_ ?_ ?_ ?_) (L2.fU KX G ?_ ?_ ?_ ?_) (L2.fU KX G ?_ ?_ ?_ ?_) (L2.fU KX G ?_ ?_ ?_ ?_) (L2.fU KX G ?_ ?_ ?_ ?_) (L2.fU KX G ?_ ?_ ?_ ?_) (L2.fU KX G ?_ ?_ ?_ ?_) (L2.fU KX G ?_ ?_ ?_ ?_) (L2.fU KX G ?_ ?_ ?_ ?_) (L2.fU KX G ?_ ?_ ?_ ?_) (V2.auS KX G ?_) ?_ ⟨?_,?_,?_,?_⟩ ?_ ?_ ?_ ?_ ?_ (V2.ak4 ?_ ?_ ?_ ?_ ?_ ?_) (V2.nZ ?_ ?_ ?_ ?_ ?_) (V2.nZ ?_ ?_ ?_ ?_ ?_) (V2.nZ ?_ ?_ ?_ ?_ ?_) (V2.nZ ?_ ?_ ?_ ?_ ?_) (V2.nZ ?_ ?_ ?_ ?_ ?_) (V2.nZ ?_ ?_ ?_ ?_ ?_) (V2.nZ ?_ ?_ ?_ ?_ ?_) (V2.anD ?_ ?_ ?_ ?_ ?_ ?_ ?_) (V2.nZ ?_ ?_ ?_ ?_ ?_) (V2.nZ ?_ ?_ ?_ ?_ ?_) (V2.nZ ?_ ?_ ?_ ?_ ?_) (V2.nZ ?_ ?_ ?_ ?_ ?_) (V2.nZ ?_ ?_ ?_ ?_ ?_) (V2.nZ ?_ ?_ ?_ ?_ ?_) (V2.nZ ?_ ?_ ?_ ?_ ?_) (V2.nZ ?_ ?_ ?_ ?_ ?_) (V2.nZ ?_ ?_ ?_ ?_ ?_) (V2.avW KX G ?_ ?_ ?_ ?_ ?_ ?_ ?_) ?_ ?_ ?_ ?_ ?Rq ?Sv ?Rr ?Sw ?hsub ?hnd ?hall <;> try first|exact(show(_)[_]?=ag (Value.ref _)from rfl)|k_is|kernel_rfl|k_exc
  (case hsub=>decide)
  (case hnd=>decide)
  (case hall=>intro P hP;first|simpa using hP|(simp at hP;omega)|(simp only[dI,xI,vW]at hP;rcases hP with e|e <;> simp[e];done)|(simp only[dI,xI,vW]at hP;rcases hP with e|e|e <;> simp[e]))
