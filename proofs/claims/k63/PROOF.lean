import PyProof.Rows.All
import KE.KDictOf
import KE.KIsAll
import KE.KItemsList
import KE.KLam
import KE.KNestM
import KE.KSortTup
import KE.LcSums
import PySem.Challenge.RW_rankpouch_k63_often_joined
set_option Elab.async false
set_option linter.all false
set_option maxRecDepth 100000
set_option compiler.extract_closed false
set_option genSizeOf false
set_option bootstrap.genMatcherCode false
noncomputable section
namespace HD
abbrev pP:=PySem.Challenge.pw_rankpouch_k63_often_joined
open PySem PySem.W PyProof.Rows
noncomputable def inClass (s : Stmt) (j : Nat) : Stmt:=match s with
  | .ClassDef _ _ _ body _ _ _ _ _ _ _=>body.getD j (.Pass ⟨0,0,0,0⟩)
  | _=>.Pass ⟨0,0,0,0⟩
noncomputable def defArgs (s : Stmt) : Arguments:=match s with
  | .FunctionDef _ a _ _ _ _ _ _ _ _=>a
  | _=>{ posonlyargs:=[],args:=[],vararg:=none,kwonlyargs:=[],kw_defaults:=[],kwarg:=none,defaults:=[] }
noncomputable def defBody (s : Stmt) : List Stmt:=match s with
  | .FunctionDef _ _ b _ _ _ _ _ _ _=>b
  | _=>[]
noncomputable def defScope (s : Stmt) : Scope:=match s with
  | .FunctionDef _ _ _ _ _ _ sc _ _ _=>sc
  | _=>{ kind:=.function,names:=[],isGenerator:=false,isCoroutine:=false }
noncomputable def runT (B : String → Option Builtin) (p : Program) (w : World) (lo : Nat) (an : Option Value) : Nat → SharedT → Thread → Option SharedT
  | 0,_,_=>none
  | m + 1,x,th=>bif through th then some x else bif stepOk lo an th then (stepT (denote B) p w x th).bind (fun y=>runT B p w lo an m y.1 y.2) else none
theorem run_of {B : String → Option Builtin} {p : Program} {w : World} {lo : Nat} {an : Option Value} (m : Nat) :
    ∀ (x y : SharedT) (th : Thread),runT B p w lo an m x th = some y → topRun B p w lo an m x.abs th = some y.abs:=by
  induction m with
  | zero=>intro x y th z; cases z
  | succ m ih =>
    intro x y th z
    unfold runT at z; unfold topRun
    cases a : through th <;> rw [a] at z
    · cases b : stepOk lo an th <;> rw [b] at z
      · cases z
      · obtain ⟨u,hu,z'⟩:=Option.bind_eq_some_iff.mp (show (stepT (denote B) p w x th).bind _ = some y from z)
        dsimp only
        rw [stepT_spec (s':=u.1) (t':=u.2) hu]
        exact ih _ _ _ z'
    · cases z; rfl
noncomputable def grow : List Obj → BT → Nat → BT
  | [],T,_=>T
  | o :: l,T,n=>grow l (T.ins n o) (n + 1)
noncomputable def SS (s : String) (t : Nat) : Value:=.str (Str.ofString s) t
noncomputable def en (w : World) (s : String) (t : Nat) (v : Value) : DictEntry:=⟨reduceHash (w.params.strHash (Str.ofString s).cps),SS s t,v⟩
noncomputable def ob (c : String) (d : Data) : Obj:=⟨.type c,none,d,#[]⟩
noncomputable def tp (l : List Value) : Obj:=ob "tuple" (.seq ⟨l⟩ 0)
noncomputable def di (l : List DictEntry) (n : Nat) : Obj:=ob "dict" (.dict ⟨l⟩ n)
noncomputable def fl (l : List Value) : Obj:=⟨.none,none,.fields ⟨l⟩,#[]⟩
noncomputable def nn (i : Nat) : Value:=.int i 0
noncomputable def bm (b : String) (v : Value) : Obj:=ob "builtin_function_or_method" (.fields ⟨[.builtin b,v]⟩)
noncomputable def co (n q : String) (t l k f x : Nat) (b : Bool) (r : List Value) (u : Nat) : Obj:=ob "code" (.fields ⟨[SS n t,SS q (t + 1),SS "/claim/cut.py" (t + 2),nn l,nn k,nn 0,nn 0,nn f,.ref x,.bool b,nn 181,.ref (x + 1),.none] ++ r ++ [nn u,nn l,SS "/claim/cut.py" (u + 1)]⟩)
noncomputable def fr (c n : Nat) (m : Value) : Obj:=⟨.type "frame",none,.plain,⟨[some (.ref c),some (.ref 3),some (.ref n),none,some m,none,some (.ref 0)]⟩⟩
noncomputable def fu (st : Stmt) (n q : String) (g : Nat) (m c : Value) : Data:=.func ⟨Str.ofString n,Str.ofString q,defArgs st,.stmts (defBody st),defScope st,g,[],.none,.none,.none,m,none,c,.none,0⟩
noncomputable def ty (n : String) (b : Value) (mr : List Value) (c ns a t : Nat) (su : List Value) : Obj:=⟨.type "type",none,.cls { name:=Str.ofString n,bases:=[b],mro:=.ref c :: mr,ns:=ns,qualname:=Str.ofString n,subclasses:=su },⟨[some (.ref a),none,some (SS n t),some (SS n (t + 8)),some (.builtin "ValueError.__new__"),some (.bool true)]⟩⟩
noncomputable def mr0 : List Value:=[.type "ValueError",.type "Exception",.type "BaseException",.type "object"]
noncomputable def n3 : List Value:=[.none,.none,.none]
noncomputable def su (c : Nat) : List Obj:=[ob "super" (.fields ⟨[.ref c,.ref c,.ref c]⟩),bm "object.__init_subclass__" (.ref c)]
noncomputable def kW (st : Stmt) : List Obj:=[tp [],fl [],tp [SS "k" 190],tp [],⟨.none,none,fu st "_wall" "_wall" 0 .none .none,#[]⟩,co "_wall" "_wall" 187 1 1 3 15 true [.ref 17,.ref 18,.ref 19] 191,ob "function" (fu st "_wall" "_wall" 3 (SS "__main__" 164) (.ref 20))]
section
variable (w : World) (m : Value) (n : String)
noncomputable def e0 (l t : Nat) : List DictEntry:=[en w "__module__" (t + 7) m,en w "__firstlineno__" (t + 11) (.int l (t + 10))]
noncomputable def e1 (l t : Nat) : List DictEntry:=[en w "__module__" (t + 7) m,en w "__qualname__" (t + 9) (SS n (t + 8)),en w "__firstlineno__" (t + 11) (.int l (t + 10))]
noncomputable def k0 (l a t : Nat) (b : Value) : List Obj:=[tp [b],bm "type.__prepare__" (.type "type"),di (e1 w m n l t ++ [en w "__static_attributes__" (t + 12) (.ref (a + 7))]) 4,tp [],fl [],co n n (t + 2) l 0 0 (a + 3) false n3 (t + 5),fr (a + 5) (a + 2) m,tp []]
noncomputable def kR (l a t : Nat) (ss : List Value) : List Obj:=k0 w m n l a t (.type "ValueError") ++ [di (e0 w m l t ++ [en w "__static_attributes__" (t + 12) (.ref (a + 7)),en w "__weakref__" (t + 14) (.ref (a + 10)),en w "__doc__" (t + 15) .none]) 3,ty n (.type "ValueError") mr0 (a + 9) (a + 8) a t ss,ob "getset_descriptor" (.fields ⟨[SS "__weakref__" (t + 13),.ref (a + 9),.builtin "ExceptionGroup.__weakref__",.none]⟩)] ++ su (a + 9)
noncomputable def kA (r l a t : Nat) : List Obj:=k0 w m n l a t (.ref r) ++ [di (e0 w m l t ++ [en w "__static_attributes__" (t + 12) (.ref (a + 7)),en w "__doc__" (t + 13) .none]) 2,ty n (.ref r) (.ref r :: mr0) (a + 9) (a + 8) a t []] ++ su (a + 9)
noncomputable def kB (f : String) (st : Stmt) (r l k a t : Nat) : List Obj:=[tp [.ref r],bm "type.__prepare__" (.type "type"),di (e1 w m n l t ++ [en w "__init__" (t + 19) (.ref (a + 13)),en w "__static_attributes__" (t + 21) (.ref (a + 14))]) 5,tp [],fl [nn k,nn 4,.ref (a + 12)],co n n (t + 2) l 0 0 (a + 3) false n3 (t + 5),fr (a + 5) (a + 2) m,
  tp [],fl [],tp [SS "self" (t + 15),SS f (t + 16)],tp [],⟨.none,none,fu st "__init__" (n ++ ".__init__") 0 .none .none,#[]⟩,co "__init__" (n ++ ".__init__") (t + 12) k 2 3 (a + 7) true [.ref (a + 9),.ref (a + 10),.ref (a + 11)] (t + 17),ob "function" (fu st "__init__" (n ++ ".__init__") 3 m (.ref (a + 12))),tp [SS f (t + 20)],
  di (e0 w m l t ++ [en w "__init__" (t + 19) (.ref (a + 13)),en w "__static_attributes__" (t + 21) (.ref (a + 14)),en w "__doc__" (t + 22) .none]) 2,ty n (.ref r) (.ref r :: mr0) (a + 16) (a + 15) a t []] ++ su (a + 16)
noncomputable def gl (es : List DictEntry) (k : Nat) : Obj:=di ([en w "__name__" 165 m,en w "__doc__" 166 .none,en w "__package__" 167 .none,en w "__loader__" 168 (.builtin "__main__.__loader__#opaque"),en w "__spec__" 169 .none,en w "__annotations__" 170 (.ref 6),en w "__builtins__" 171 (.ref 4),en w "__file__" 173 (SS "/claim/cut.py" 172),en w "__cached__" 174 .none] ++ es) k
end
noncomputable def bt (w : World) : List Obj:=(boot_heap w.params).objs.toList
noncomputable def hd4 (l : List Value) : List Obj:=[tp [],fl l,co "<module>" "<module>" 182 1 0 0 11 false n3 185,fr 13 3 (SS "__main__" 164)]
noncomputable def stT (w : World) (os : OsState) (l : List Obj) (n k : Nat) : SharedT:=⟨grow l .nil 0,n,(boot_heap w.params).life,#[],boot_drawn,k,os⟩
noncomputable def boot (w : World) (os : OsState) : SharedT:=stT w os (bt w) 11 boot_toks
noncomputable def sa (w : World) (os : OsState) : SharedT:=stT w os (bt w ++ hd4 []) 15 187
noncomputable def env0 (p : Program) : Env:={ scope:=p.main.scope,locals:=mainNs,globals:=mainNs,cells:=[],code:=.ref 13,frame:=some 14 }
noncomputable def c0 (p : Program) : Code:=.body (behindTheImports p) (env0 p)
noncomputable def pp0 : Pos:=⟨0,0,0,0⟩
noncomputable def thr (p : Program) (k : Nat) (q : Pos) : Thread:=restOf ((behindTheImports p).drop k) (env0 p) (c0 p) q [topFrame pp0]
theorem boot_size (w : World) : ((boot_heap w.params).isNs mainGlobals && (#[] : Array GenState).size == 0,(boot_heap w.params).objs.size,(boot_heap w.params).nsMap mainGlobals "__annotations__") = (true,11,some (Value.ref 6)):=by kernel_rfl
theorem boot_abs (w : World) (os : OsState) : (boot w os).abs = ⟨boot_heap w.params,#[],boot_drawn,boot_toks,os⟩:=by kernel_rfl
noncomputable def fits (p : Program) (h : Heap) (y : SharedT) : Bool:=staticsOk (importedModules p.main.body) h y.abs.heap && namesBound p y.abs.heap && gensDone y.abs && laidKept h y.abs.heap
noncomputable def ends (p : Program) (N : Nat) (w : World) (x : SharedT) (k : Nat) (q : Pos) : Option SharedT:=runT treeTable p w 11 (some (.ref 6)) N x (thr p k q)
noncomputable def seg1 (p : Program) (n : Nat) (w : World) (x : SharedT) (k : Nat) : Option (Flow × SharedT × Code × Pos):=segRunT treeTable p w 11 (some (.ref 6)) 1 n x (piecesOf ((behindTheImports p).take k) (env0 p) (c0 p) pp0 [topFrame pp0])
noncomputable def getT (y : SharedT) (a : Addr) : Option Obj:=match Nat.blt a y.n with
  | true=>alive ((y.tree.get a).getD default)
  | false=>none
theorem get_abs (y : SharedT) (a : Addr) : y.abs.heap.get? a = getT y a:=by
  have e:=absHeap_at y.tree y.n y.life a
  unfold getT
  show (absHeap y.tree y.n y.life).get? a = _
  by_cases h : a < y.n
  · rw [show Nat.blt a y.n = true from by simpa [Nat.blt_eq] using h]
    unfold Heap.get?
    rw [e,if_pos h]
    generalize (y.tree.get a).getD default = o
    obtain ⟨c,d,dt,sl⟩:=o
    cases dt <;> rfl
  · rw [show Nat.blt a y.n = false from Bool.eq_false_iff.mpr (by simpa [Nat.blt_eq] using h)]
    exact abs_get_none h
theorem gets (l : List Addr) (y : SharedT) : l.map (getT y) = l.map y.abs.heap.get?:=List.map_congr_left fun a _=>(get_abs y a).symm
theorem obsK {K : Params → Frag} {as : List Addr} {e : ∀ P,as = (K P).map (·.1)} (y : SharedT) : as.map (getT y) = (kHook K as e).obs y.abs:=gets as y
theorem obsM {K : Params → Frag} {as ts : List Addr} {e : ∀ P,as = (K P).map (·.1)} (y : SharedT) : (as.map (getT y),ts.map (getT y)) = (kmHook K as e ts).obs y.abs:=by
  rw [gets,gets]; rfl
theorem left {p q : Program} {loose : List Str} {Xt : Shared → Bool} {α : Type} {Yf : Shared → α} {Ya : World → α} {N N2 n1 k : Nat} {g0 : Bool} {mid : World → OsState → SharedT} {po : Pos} {YT : SharedT → α}
    (plain : opening p = plainProg p.main.scope.names) (hN : Nat.ble 600 N = true) (hN2 : 12 + (1 + (n1 + N2)) = N) (fence : ∀ s,fenceModules? p s = some s)
    (pre : ∀ (w : World) (os : OsState),topGo treeTable p w 11 (some (.ref 6)) 12 (boot w os).abs (topStub p) = some ((sa w os).abs,⟨denote treeTable (c0 p),c0 p,pp0,[topFrame pp0]⟩))
    (blk : ∀ (w : World) (os : OsState),segRun treeTable p w 11 (some (.ref 6)) 1 1 (sa w os).abs (blockOf (behindTheImports p) (env0 p) (c0 p) pp0 [topFrame pp0]) = some (.next,(sa w os).abs,c0 p,pp0))
    (one : ∀ (w : World) (os : OsState),seg1 p n1 w (sa w os) k = some (.next,mid w os,c0 p,po))
    (tests : ∀ (w : World) (os : OsState),(ends p N2 w (mid w os) k po).map (fits p (boot_heap w.params)) = some true)
    (looks : ∀ (w : World) (os : OsState),(ends p N2 w (mid w os) k po).map (fun y=>openSeen q loose (importedModules p.main.body) Xt g0 y.abs) = some (openGood q loose))
    (hY : ∀ y,YT y = Yf y.abs)
    (hook : ∀ (w : World) (os : OsState),(ends p N2 w (mid w os) k po).map YT = some (Ya w)) :
    LeftO p q loose Xt Yf Ya N g0:=by
  intro w
  obtain ⟨⟨hp,ge,dr,tk,os⟩,ho,hq⟩:=Option.map_eq_some_iff.mp (boot_open plain hN fence w)
  simp only [Prod.mk.injEq] at hq
  obtain ⟨rfl,rfl,rfl,rfl⟩:=hq
  have bs:=boot_size w
  simp only [Prod.mk.injEq] at bs
  obtain ⟨y,hy,a1⟩:=Option.map_eq_some_iff.mp (tests w os)
  have a2:=looks w os
  have a3:=hook w os
  rw [show YT = fun y=>Yf y.abs from funext hY,hy] at a3
  rw [hy] at a2
  have r1:=run_of _ _ _ _ hy
  have r2:=piece_app (segRun_of (one w os)) r1
  rw [List.take_append_drop] at r2
  have rr:=go_top (pre w os) (piece_block (blk w os) r2)
  rw [boot_abs,hN2] at rr
  have tt : topFrom treeTable p w N ⟨boot_heap w.params,#[],boot_drawn,boot_toks,os⟩ = some y.abs:=by
    unfold topFrom; dsimp only
    rw [bs.1,bs.2.1,bs.2.2,rr]
    show (match fits p (boot_heap w.params) y with | true=>some y.abs | false=>none) = some y.abs
    rw [a1]
  show ((fencedOpening treeTable p w N).bind (topFrom treeTable p w N)).map _ = _
  rw [ho,Option.bind_some,tt,Option.map_some,Option.some.injEq,Prod.mk.injEq]
  exact ⟨Option.some.inj a2,Option.some.inj a3⟩
set_option maxRecDepth 100000
set_option maxHeartbeats 0
noncomputable def keptOf (ds : List Nat) (l : List Stmt) : List Stmt:=@List.rec Stmt (fun _=>Nat → List Stmt) (fun _=>[]) (fun s _ f i=>@Bool.rec (fun _=>List Stmt) (s :: f (Nat.succ i)) (f (Nat.succ i)) (ds.any (Nat.beq i))) l 0
noncomputable def kept : Program:={ pP with main:={ pP.main with body:=keptOf [1,11,13,18,28,36,39,42,44] pP.main.body } }
noncomputable def seenX (s : Shared) : Bool:=xlAt kept [] s && recOk (RowW.records (OpenRow.toRowW (OpenLaw.row PySem.Challenge.rw_rankpouch_k63_often_joined))) s
noncomputable def bd (i : Nat) : Stmt:=pP.main.body.getD i (.Pass pp0)
noncomputable def em : Value:=SS "rankpouch.errors" 194
noncomputable def mid (w : World) (os : OsState) : SharedT:=stT w os ((bt w).take 3 ++ gl w em [en w "_wall" 193 (.ref 21),en w "RankError" 213 (.ref 31),en w "NoRow" 238 (.ref 51),en w "NoPlace" 254 (.ref 63),en w "NoPouch" 279 (.ref 82),en w "NoSize" 295 (.ref 94),en w "Wrong" 320 (.ref 113),en w "NoTimes" 336 (.ref 125),en w "Unlike" 352 (.ref 137),en w "NoText" 377 (.ref 156)] 19 :: (bt w).drop 4 ++ hd4 [nn 1,nn 0,.ref 20,nn 5,nn 0,.ref 27,nn 7,nn 0,.ref 40,nn 12,nn 0,.ref 59,nn 14,nn 0,.ref 71,nn 19,nn 0,.ref 90,nn 21,nn 0,.ref 102,nn 26,nn 0,.ref 121,nn 28,nn 0,.ref 133,nn 30,nn 0,.ref 145] ++ kW (bd 0) ++ kR w em "RankError" 5 22 196 [.ref 51,.ref 63,.ref 82,.ref 94,.ref 113,.ref 125,.ref 137,.ref 156] ++ kB w em "NoRow" "at" (inClass (bd 3) 0) 31 7 9 35 214 ++ kA w em "NoPlace" 31 12 54 239 ++ kB w em "NoPouch" "at" (inClass (bd 5) 0) 31 14 16 66 255 ++ kA w em "NoSize" 31 19 85 280 ++ kB w em "Wrong" "at" (inClass (bd 7) 0) 31 21 23 97 296 ++ kA w em "NoTimes" 31 26 116 321 ++ kA w em "Unlike" 31 28 128 337 ++ kB w em "NoText" "row" (inClass (bd 10) 0) 31 30 32 140 353) 159 378
noncomputable def po : Pos:=⟨30,0,34,22⟩
theorem said : OpenLaw.wellSaid PySem.Challenge.rw_rankpouch_k63_often_joined = true:=by kernel_rfl
theorem plain : opening pP = plainProg pP.main.scope.names:=by kernel_rfl
theorem fence (s : Shared) : fenceModules? pP s = some s:=by kernel_rfl
theorem pre (w : World) (os : OsState) : topGo treeTable pP w 11 (some (.ref 6)) 12 (boot w os).abs (topStub pP) = some ((sa w os).abs,⟨denote treeTable (c0 pP),c0 pP,pp0,[topFrame pp0]⟩):=by kernel_rfl
theorem blk (w : World) (os : OsState) : segRun treeTable pP w 11 (some (.ref 6)) 1 1 (sa w os).abs (blockOf (behindTheImports pP) (env0 pP) (c0 pP) pp0 [topFrame pp0]) = some (.next,(sa w os).abs,c0 pP,pp0):=by kernel_rfl
theorem one (w : World) (os : OsState) : seg1 pP 2057 w (sa w os) 11 = some (.next,mid w os,c0 pP,po):=by kernel_rfl
theorem tests (w : World) (os : OsState) : (ends pP 7088 w (mid w os) 11 po).map (fits pP (boot_heap w.params)) = some true:=by kernel_rfl
theorem looks (w : World) (os : OsState) : (ends pP 7088 w (mid w os) 11 po).map (fun y=>openSeen kept [Str.ofString "upto_asks",Str.ofString "below_asks"] (importedModules pP.main.body) seenX true y.abs) = some (openGood kept [Str.ofString "upto_asks",Str.ofString "below_asks"]):=by kernel_rfl
end HD
open PySem renaming wpAny_bind->aJ,wpAny_pure->bG,sizeLine_eq->jP,wpAny_mono->lZ,wpAny_holding->qQ,wpAny_call_entry->rW,wpAny_newObj_type->tE,codeAny_mono->uN,wpAny_ite_false->uX,wpAny_Call_Name_kw->uY,wpAny_setField_rec->yN,codeAny_builtin->zV,wpAny_setState_of->AS,wpAny_askSetting->AU,wpAny_setEntries_of->EJ,plainId_quiet->FH,call_meetsIn->HM,wpAny_truthy_bool->JL,wpAny_rule->JM,wpAny_loadPart_at->JN,wpAny_fieldsOf->JO,wpAny_callSpecial?_slot->JP,wpAny_call->JQ,wpAny_attempt->JR,wpAny_passesOwn->PU,wpAny_newList->PV,wpAny_ite_true->PX,wpAny_field->PY,wpAny_Call_method0_late->PZ,wpAny_isInstance->YL,wpAny_execs_nil->YM,tupleKind_room_in1->ZI,fits_of_scanBound->Hk,wpAny_newFunctionEnv_cells->Oe,codeAny_call_function->Yu,codeAny_call_builtin->Yv
open Ne renaming symm->cK
open List renaming map_cons->cW,getElem?_eq_some_iff->cX,mem_cons->eB,getElem?_append_left->eQ,getElem?_set_ne->eW,length_map->fI,getElem?_set_self->fJ,mem_cons_of_mem->gQ,getElem?_map->iZ,size_toArray->kD,length_cons->lH,getElem?_eq_getElem->lI,mem_map->mQ,mem_append_right->nL,nodup_cons->nZ,set_set->qJ,mem_singleton->qK,map_nil->qL,mem_of_getElem?->sX,map_map->sY,getElem?_append_right->sZ,not_mem_nil->uS,length_append->uT,length_set->vZ,append_nil->wC,set_cons_zero->AE,set_cons_succ->AF,mem_singleton_self->AG,mem_append_left->AH,length_nil->DL,find?_cons->DM,map_congr_left->IJ,map_append->IK,lookup_cons->IL,getElem?_take->IM,all_eq_true->IQ,getElem_mem->OF,any_cons->OH,of_mem_zip->XJ,mem_append->XM,length_take->XN,filterMap_cons->XO,ext_getElem?->XQ,pairwise_iff_getElem->Ma,nodup_append->Mb,getElem_of_mem->Mc,getElem?_eq_none->Md,filterMap_map->Me,filterMap_eq_map->Mf,all_cons->Mg,take_of_length_le->abJ,set_append_right->abK,set_append_left->abL,length_range->abM,drop_eq_getElem_cons->abN
open PySem.Heap renaming get?_push_of_some->dD,lt_size->dE,get?_push_size->fW,get?_update_other->pQ,size_push->IU,get?_update_self->OM,get?_push_ne->ON,size_update->XU
open Nat renaming ne_of_lt->dX,lt_of_lt_of_le->kT,le_refl->nY,le_succ->qI,le_trans->xY,ne_of_gt->DH,zero_le->IA,lt_succ_of_lt->IB,lt_or_ge->XB,le_of_lt->XD,lt_trans->Lc,lt_succ_self->Ld,le_of_not_lt->Le
open Option.some renaming injEq->jJ,inj->nK
open _root_ renaming if_false->lC,decide_eq_false->lW,if_true->nC,or_false->tP,beq_iff_eq->vU,beq_eq_false_iff_ne->vV,decide_eq_true->xQ,decide_eq_true_eq->CV,getElem?_pos->Gv,of_decide_eq_true->Tj
open Bool renaming and_eq_true->lK,false_eq_true->yL,eq_false_iff->YH
open Array renaming length_toList->mU,getElem?_toList->PQ,getElem?_eq_some_iff->PR,getElem?_eq_getElem->Nr,getD_eq_getD_getElem?->Nt,getElem?_eq_none_iff->ab2
open PySem.W renaming mg_none_of->qX
open PyProof.Rows renaming boot_isinstance->sU,get?_update_seq->GS,boot_sorted->HP,callWith_type1->HY,boot_list->WZ
open Option renaming bind_eq_some_iff->sW,map_eq_some_iff->vX,map_some->OB,bind_some->Kz
open List.Perm renaming refl->DN
open Int renaming toNat_natCast->DQ,le_refl->DR,eq_ofNat_of_zero_le->DS,mul_le_mul_of_nonneg_left->abP,emod_lt_of_pos->abQ
open List.cons renaming injEq->IP,inj->OG
open PySem.Calls renaming spliced_cons->JD,callWith_builtin->JE,spliced_nil->PO,call_function_entry->YG,evalArgs_plain->abY
open PySem.Around renaming under_plainId->JF
open Classical renaming choose_spec->PN
open Prod.mk renaming injEq->Kx
open PyProof.Rows.F renaming plain_set_update_loop->aa3,entry_set_update_loop->aCJ
open PySem.F renaming typeOf_object_class->abU
open Option renaming some->ah,none->ak
open _root_ renaming List->ai,Option->av,if_pos->ax,Nat->ay,Int->a6,if_neg->a8,Bool->bb,Array->bf,absurd->bz,False->b5,congrArg->b7,String->cm,Decidable->dm
open PySem renaming Value->aj,Addr->aq,Shared->ar,mainGlobals->aw,starEach->az,Str->a5,sizeLine->a7,Program->a9,model->bc,World->bh,Around->bj,Stmt->bo,Expr->bp,eval->br,Heap->bu,attributeBase->bw,compareOp->b1,SetTable->b6,backTo->b8,foldedSetIterable->cb,Obj->cj,FuncData->ck,Scope->cp,Pos->cq,binaryOp->cu,intKind->cv,keywordEach->cx,excClassObj->cy,ExceptHandler->cz,holding->c0,bootBuiltins->c1,behindInMarks->c2,assignEach->c3,NameKind->c4,sysModules->c6,swapsWith->da,scanBound->de,pyNext->df,rawInt->dg,bindArgs->dh,firstArgMember->di,getMethod->dj,backToKw->dr,cLine->dw
open Bool renaming false->ao,true->au
open PySem.W renaming Frag->ba,findIn->bx,subIn->b4,kas_desc->b9,nsIn->cc,kas_rev->cw,kitOne->c7,kas_descPart->c9,kia_one->dk,boot_heap->dn,emptyDict->du
open PyProof.Rows renaming seqObj->b0,IntsAre->cg,envOfC->cn,firstMet->c5,sortedHeap->c8
theorem oIr{α:Sort _}{a:α}{q:Prop}:a=a\/q:=Or.inl rfl
theorem cP{α β j:Sort _}{f:α->β->j}:∀x y,f x y=f x y:=λ_ _=>rfl
theorem cU{n:ay}:n<=n:=nY n
theorem iLr{n:a6}:n<=n:=DR n
theorem sG{α:Type _}{a:α}{l:ai α}:a∈a::l:=List.mem_cons_self ..
theorem BQ{n:ay}:0<=n:=IA n
open PySem.W (Frag Looks OpenLaw callWith_K cellsFrom_some codeIn codeRec_of emptyDict excIn findIn fnOf hasDictIn instObj isFn kdl_call keepIn kia_one kitAny kitOne lookIn looks_findIn looks_subIn makesIn methodCall_KW methodObj mg_of mroIn nsIn plainGet plainGet_of specialIn subIn takerIn takesIn)
namespace L2
open PySem PySem.Spec PyProof.Rows
abbrev Key:=Sum a6 a5
noncomputable def FW:Key->aj->bb
 |.inl k,v=>Value.isInt k v
 |.inr x,v=>Value.isStrOf x v
noncomputable def apB(w:bh):Key->a6
 |.inl k=>hashInt k
 |.inr x=>hashStr w x
theorem tY:∀{k:Key} {v:aj},FW k v=au->(∃i t,k=Sum.inl i/\v=Value.int i t)\/(∃x t,k=Sum.inr x/\v=Value.str x t)
 |.inl i,v,h=>by
  obtain⟨t,e⟩:=Value.isInt_shape (k:=i) (v:=v) h;exact .inl ⟨i,t,rfl,e⟩
 |.inr x,v,h=>by
  obtain⟨t,e⟩:=Value.isStrOf_shape (x:=x) (v:=v) h;exact .inr ⟨x,t,rfl,e⟩
theorem apA(i:a6)(t:Tok):FW (.inl i) (.int i t)=au:=by simp[FW,Value.isInt]
theorem ao9(x:a5)(t:Tok):FW (.inr x) (.str x t)=au:=by simp[FW,Value.isStrOf]
theorem ao8(a b:a6):decide ((Sum.inl a:Key)=Sum.inl b)=(a==b):=by
 by_cases e:a=b
 ·subst e;simp
 ·have h:¬(Sum.inl a:Key)=Sum.inl b:=λq=>e (Sum.inl.inj q);rw[lW h];exact(vV.mpr e).symm
theorem ao5(a b:a5):decide ((Sum.inr a:Key)=Sum.inr b)=decide (a=b):=by
 by_cases e:a=b
 ·subst e;simp
 ·have h:¬(Sum.inr a:Key)=Sum.inr b:=λq=>e (Sum.inr.inj q);rw[lW h,lW e]
theorem ao7(a:a6)(b:a5):decide ((Sum.inl a:Key)=Sum.inr b)=ao:=lW (λq=>nomatch q)
theorem ao6(a:a5)(b:a6):decide ((Sum.inr a:Key)=Sum.inl b)=ao:=lW (λq=>nomatch q)
def gB(prog:a9)(w:bh):PySem.KeyKind prog w Key where
 is:=FW
 hash:=apB w
 inj:=λv a b ha hb=>by
  rcases tY ha with⟨i,t,rfl,rfl⟩|⟨x,t,rfl,rfl⟩
  ·rcases tY hb with⟨j,u,rfl,e⟩|⟨y,u,rfl,e⟩
   ·injection e with q _;rw[q]
   ·exact nomatch e
  ·rcases tY hb with⟨j,u,rfl,e⟩|⟨y,u,rfl,e⟩
   ·exact nomatch e
   ·injection e with q _;rw[q]
 byValue:=λk v h=>by
  rcases tY h with⟨i,t,rfl,rfl⟩|⟨x,t,rfl,rfl⟩ <;> rfl
 pyHash:=λhv h=>by
  rcases tY hv with⟨i,t,rfl,rfl⟩|⟨x,t,rfl,rfl⟩
  ·exact wpAny_pyHash_int h
  ·exact wpAny_pyHash_str h
 eqBool:=λz hv h=>by
  rcases tY z with⟨i,t,rfl,rfl⟩|⟨x,t,rfl,rfl⟩
  ·rcases tY hv with⟨j,u,rfl,rfl⟩|⟨y,u,rfl,rfl⟩
   ·rw[ao8]at h;exact wpAny_eqBool_int h
   ·rw[ao7]at h;exact SeqAt.EqAt.int_str i t y u _ _ _ _ h
  ·rcases tY hv with⟨j,u,rfl,rfl⟩|⟨y,u,rfl,rfl⟩
   ·rw[ao6]at h;exact SeqAt.EqAt.str_int x t j u _ _ _ _ h
   ·rw[ao5]at h;exact wpAny_eqBool_str h
 «strs»:=λk x t v h=>by
  rcases tY h with⟨i,u,rfl,e⟩|⟨y,u,rfl,e⟩
  ·exact nomatch e
  ·injection e with q _;subst q;cases v <;> rfl
theorem an6(prog:a9)(w:bh)(i:a6)(t:Tok):(gB prog w).is (.inl i) (.int i t)=au:=apA i t
theorem an5(prog:a9)(w:bh)(x:a5)(t:Tok):(gB prog w).is (.inr x) (.str x t)=au:=ao9 x t
inductive V where
 |bQ|bl (b:bb)|int (i:a6)|str (x:a5)|VQ (b:bf UInt8)|CP (b:UInt64)|ref (a:aq)|ty (n:cm)
 deriving DecidableEq
def RelV:V->aj->Prop
 |.bQ,u=>u=Value.none
 |.bl b,u=>u=Value.bool b
 |.int i,u=>∃t,u=Value.int i t
 |.str x,u=>∃t,u=Value.str x t
 |.VQ b,u=>∃t,u=Value.bytes b t
 |.CP b,u=>∃t,u=Value.float b t
 |.ref a,u=>u=Value.ref a
 |.ty n,u=>u=Value.type n
abbrev Vals:ai V->ai aj->Prop:=Paired RelV
theorem Vals.length{xs:ai V}{us:ai aj}(r:Vals xs us):xs.length=us.length:=Paired.length r
theorem Vals.get:∀{xs:ai V} {us:ai aj} {i:ay} {x:V},Vals xs us->xs[i]?=ah x->∃u,us[i]?=ah u/\RelV x u
 |_,_,_,_,.nil,e=>by simp at e
 |_,_,0,_,.cons r _,e=>by simp at e;subst e;exact⟨_,rfl,r⟩
 |_,_,i+1,x,.cons _ t,e=>by
  obtain⟨u,h1,h2⟩:=Vals.get (i:=i) (x:=x) t (by simpa using e);exact⟨u,by simpa using h1,h2⟩
theorem Vals.set{x:V}{u:aj}(r:RelV x u):∀{xs:ai V} {us:ai aj} (i:ay),Vals xs us->Vals (xs.set i x) (us.set i u)
 |_,_,_,.nil => .nil
 |_,_,0,.cons _ t => .cons r t
 |_,_,i+1,.cons q t => .cons q (Vals.set r i t)
theorem Vals.append:∀{xs ys:ai V} {us ws:ai aj},Vals xs us->Vals ys ws->Vals (xs++ys) (us++ws)
 |_,_,_,_,.nil,s=>s
 |_,_,_,_,.cons r t,s => .cons r (Vals.append t s)
def nJ:av V->av aj->Prop
 |some v,ah u=>RelV v u
 |none,ak=>True
 |_,_=>b5
def KV{κ:Type}:ai (κ×V)->ai (κ×aj)->Prop:=Paired λ(p:κ×V) (q:κ×aj)=>p.1=q.1/\RelV p.2 q.2
noncomputable def kV:Key->V
 |.inl i => .int i
 |.inr x => .str x
inductive HO where
 |lst (xs:ai V)
 |tup (xs:ai V)
 |dK (kvs:ai (Key×V))|dT (kvs:ai (ai Key×V))
 |set (S:a6->bb) (n:ay)
 |ins (C dx:aq) (fs:ai (a5×V))
 |own (x:aq)
 |xd (fs:ai (a5×V))
 |met (f x:aq)
 |RP (lo hi:a6)
 |dW (o:cj) (u:HO)
 |wK (ps:bf aj)
 |ext (φ:bu->Prop)
abbrev Hp:=aq->av HO
noncomputable def upd(H:Hp)(a:aq)(o:HO):Hp:=λb=>if b=a then ah o else H b
theorem eA{H:Hp}{a:aq}{o:HO}:upd H a o a=ah o:=by unfold upd;rw[ax rfl]
theorem bH{H:Hp}{a b:aq}{o:HO}(h:b≠a):upd H a o b=H b:=by unfold upd;rw[a8 h]
theorem zF{H:Hp}{a b:aq}{o u:HO}(h:H a=ah o)(h':H b=ah u)(d:o≠u):a≠b:=by
 intro e;subst e;rw[h]at h';exact d (nK h')
theorem iW{H:Hp}{a b:aq}{o:HO}(h:H a=ah o)(h':H b=ak):a≠b:=by
 intro e;subst e;rw[h]at h';cases h'
section
variable(P:a9)(w:bh)
def gP(H:Hp)(h:bu)(a:aq):HO->Prop
 | .lst xs=>xs.length<=a7/\∃(j:ai aj) (n:ay),Vals xs j/\h.get? a=ah {cls:=.type "list",data:=.seq j.toArray n}
 |.tup xs=>xs.length<=a7/\∃j:ai aj,Vals xs j/\IsTup h a j.toArray
 |.dK kvs=>kvs.length<=a7/\(a==c6)=ao/\∃vs,KV kvs vs/\h.DictOf (gB P w) a vs
 |.dT kvs=>kvs.length<=a7/\(a==c6)=ao/\∃xs:ai (ai Key×aq×aj),
   Paired (λ(p:ai Key×V) (q:ai Key×aq×aj)=>p.1=q.1/\H q.2.1=ah (.tup (p.1.map kV))/\RelV p.2 q.2.2) kvs xs /\
   ∃o es ep,h.get? a=ah o/\o.ExactDict/\o.data=.dict es ep/\es.toList=xs.map (entryOfKey (tupleKind (gB P w)))/\(xs.map (·.1)).Nodup
 |.set S n=>h.SetOf (cv P w) a S n
 |.ins C dx fs=>H dx=ah (.own a)/\fs.length<=1000/\dx≠a/\h.get? a=ah (instObj C dx) /\
   ∃mA,h.Ns1 dx mA/\(∀f,nJ (fs.lookup f) (mA f))/\PySem.Within mA (fs.map (·.1))
 |.own _=>∃o,h.get? a=ah o
 |.xd fs=>∃mA,h.Ns1 a mA/\∀f,nJ (fs.lookup f) (mA f)
 | .RP lo hi=>∃t u v,h.get? a=ah {cls:=.type "range",data:=.fields #[.int lo t,.int hi u,.int 1 v]}
 |.dW o u=>h.get? a=ah o/\gP H h a u
 |.wK ps=>h.get? a=ah {cls:=.none,data:=.fields ps}
 |.met f x=>h.get? a=ah (methodObj (.ref f) (.ref x))
 |.ext z=>z h/\(∃o,h.get? a=ah o)/\∀h1 h2:bu,z h1->(∀o,h1.get? a=ah o->h2.get? a=ah o)->z h2
def fE(H:Hp)(h:bu):Prop:=∀a o,H a=ah o->gP P w H h a o
end
section
variable{P:a9}{w:bh}{H H':Hp}{h h':bu}{a:aq}{o:HO}
theorem gP.lt(x:gP P w H h a o):a<h.objs.size:=by
 cases o with
 |lst xs=>obtain⟨_,_,_,_,e⟩:=x;exact dE e
 |tup xs=>obtain⟨_,_,_,p⟩:=x;exact p.lt
 |dK j=>obtain⟨_,_,_,_,o,_,_,e,_⟩:=x;exact dE e
 |dT j=>obtain⟨_,_,_,_,o,_,_,e,_⟩:=x;exact dE e
 |set S n=>obtain⟨o,_,_,_,e,_⟩:=x;exact dE e
 |ins C z fs=>obtain⟨_,_,_,e,_⟩:=x;exact dE e
 |own y=>obtain⟨_,e⟩:=x;exact dE e
 |xd fs=>obtain⟨_,⟨_,_,_,e,_⟩,_⟩:=x;exact dE e
 |RP lo hi=>obtain⟨_,_,_,e⟩:=x;exact dE e
 |dW ob u=>obtain⟨e,_⟩:=x;exact dE e
 |wK ps=>exact dE (show h.get? a=ah _ from x)
 |met f y=>exact dE (show h.get? a=ah _ from x)
 |ext q=>obtain⟨_,⟨_,e⟩,_⟩:=x;exact dE e
theorem Paired.Dv{α β:Type}{F G:α->β->Prop}:∀{q:ai α} {j:ai β},Paired F q j->(∀a b,F a b->G a b)->Paired G q j
 |_,_,.nil,_ => .nil
 |_,_,.cons r t,f => .cons (f _ _ r) (Paired.Dv t f)
theorem gP.nR(x:gP P w H h a o)(k:∀b u,(b=a\/H b=ah (.own a))->h.get? b=ah u->h'.get? b=ah u)
  (g:∀b,H b=ah (.own a)->H' b=ah (.own a)) (ht:∀b xs,H b=ah (.tup xs)->H' b=ah (.tup xs)):gP P w H' h' a o:=by
 induction o with
 |lst xs=>obtain⟨z,U,n,r,e⟩:=x;exact⟨z,U,n,r,k _ _ (.inl rfl) e⟩
 |tup xs=>obtain⟨z,U,r,ob,e,c⟩:=x;exact⟨z,U,r,ob,k _ _ (.inl rfl) e,c⟩
 |dK L=>obtain⟨z,y,vs,r,ob,es,j,e,c⟩:=x;exact⟨z,y,vs,r,ob,es,j,k _ _ (.inl rfl) e,c⟩
 |dT L =>
  obtain⟨z,y,xs,r,ob,es,j,e,c⟩:=x;exact⟨z,y,xs,Paired.Dv r λp q z=>⟨z.1,ht _ _ z.2.1,z.2.2⟩,ob,es,j,k _ _ (.inl rfl) e,c⟩
 |set S n=>obtain⟨ob,es,j,t,e,c⟩:=x;exact⟨ob,es,j,t,k _ _ (.inl rfl) e,c⟩
 |ins C m fs =>
  obtain⟨d,z,ne,e,B,⟨od,es,j,i,c⟩,r⟩:=x;exact⟨g _ d,z,ne,k _ _ (.inl rfl) e,B,⟨od,es,j,k _ _ (.inr d) i,c⟩,r⟩
 |own y=>obtain⟨ob,e⟩:=x;exact⟨ob,k _ _ (.inl rfl) e⟩
 |xd fs=>obtain⟨B,⟨od,es,j,e,c⟩,r⟩:=x;exact⟨B,⟨od,es,j,k _ _ (.inl rfl) e,c⟩,r⟩
 |RP lo hi=>obtain⟨t,u,v,e⟩:=x;exact⟨t,u,v,k _ _ (.inl rfl) e⟩
 |dW ob u ih=>obtain⟨e,q⟩:=x;exact⟨k _ _ (.inl rfl) e,ih q⟩
 |wK ps =>
  have e:h.get? a=ah {cls:=.none,data:=.fields ps}:=x;show h'.get? a=ah {cls:=.none,data:=.fields ps};exact k a _ (.inl rfl) e
 |met f y =>
  have e:h.get? a=ah (methodObj (.ref f) (.ref y)):=x;show h'.get? a=ah (methodObj (.ref f) (.ref y));exact k a _ (.inl rfl) e
 |ext l=>obtain⟨p,⟨o,e⟩,st⟩:=x;exact⟨st _ _ p λo q=>k _ _ (.inl rfl) q,⟨o,k _ _ (.inl rfl) e⟩,st⟩
theorem fE.lt(x:fE P w H h)(e:H a=ah o):a<h.objs.size:=(x a o e).lt
theorem fE.fresh(x:fE P w H h)(e:h.objs.size<=a):H a=ak:=by
 cases q:H a with
 |none=>rfl
 |some u=>exact bz (kT (x.lt q) e) (Nat.lt_irrefl _)
theorem fE.kept(x:fE P w H h)(k:∀b u,h.get? b=ah u->h'.get? b=ah u):fE P w H h':=λa o e =>
 (x a o e).nR (λb u _ q=>k b u q) (λ_ q=>q) λ_ _ q=>q
theorem fE.laid(x:fE P w H h)(k:∀b u,h.get? b=ah u->h'.get? b=ah u)(j:h.objs.size<=a)(new:gP P w (upd H a o) h' a o):fE P w (upd H a o) h':=λb u e=>by
 have hn:=x.fresh j
 by_cases hb:b=a
 ·subst hb;rw[eA]at e;cases e;exact new
 ·rw[bH hb]at e;exact(x b u e).nR (λc v _ q=>k c v q) (λc q=>by rw[bH (iW q hn)];exact q) λc xs q=>by rw[bH (iW q hn)];exact q
end
def Rd(H:Hp)(a:aq)(u:HO):Prop:=H a=ah u\/∃o,H a=ah (.dW o u)
theorem Rd.ok{P:a9}{w:bh}{H:Hp}{h:bu}{a:aq}{u:HO}(r:Rd H a u)(x:fE P w H h):gP P w H h a u:=by
 rcases r with r|⟨o,r⟩
 ·exact x a u r
 ·obtain⟨_,q⟩:=x a _ r;exact q
def OC:av HO->Prop
 |some (.lst _)=>True
 |some (.dK _)=>True
 |some (.dT _)=>True
 |some (.set _ _)=>True
 |some (.ins _ _ _)=>True
 |some (.ext _)=>True
 |_=>b5
section
variable{P:a9}{w:bh}{H:Hp}{h h':bu}{x e:aq}{o':HO}
theorem fE.write(ok:fE P w H h)(j:OC (H x))(he:e=x\/H e=ah (.own x))(k:∀b u,b≠e->h.get? b=ah u->h'.get? b=ah u)(f:∃u,h'.get? e=ah u)
  (new:gP P w (upd H x o') h' x o'):fE P w (upd H x o') h':=λb u q=>by
 have d:∀c y,H c=ah (.own y)->c≠x:=λc y r z=>by subst z;rw[r]at j;exact j
 have U:∀c xs,H c=ah (.tup xs)->c≠x:=λc xs r z=>by subst z;rw[r]at j;exact j
 by_cases hb:b=x
 ·subst hb;rw[eA]at q;cases q;exact new
 ·rw[bH hb]at q
  by_cases L:b=e
  ·have a:H b=ah (.own x):=by
    rcases he with z|z
    ·exact bz (L.trans z) hb
    ·rw[L];exact z
   rw[q]at a;cases a;obtain⟨v,hv⟩:=f;exact⟨v,by rw[L];exact hv⟩
  ·refine(ok b u q).nR (λc v B r=>k c v ?_ r) (λc r=>by rw[bH (d c b r)];exact r) λc xs r=>by rw[bH (U c xs r)];exact r
   rcases B with rfl|B
   ·exact L
   ·rintro rfl
    rcases he with z|z
    ·exact d c b B z
    ·rw[B]at z;cases z;exact hb rfl
end
structure Un(fs ex:ai aq)(H H':Hp)(h h':bu):Prop where
 keep:∀b o,h.get? b=ah o->H b=ak->b∉fs->b∉ex->h'.get? b=ah o
 slot:∀b o,h.get? b=ah o->H b=ak->b∈fs->b∉ex->∃sl,h'.get? b=ah {o with slots:=sl}
 free:∀b o,h.get? b=ah o->H b=ak->b∉ex->H' b=ak
 there:∀b o,h.get? b=ah o->b∉ex->∃o',h'.get? b=ah o'
 lO:∀b xs,H b=ah (.tup xs)->H' b=ah (.tup xs)
 kN:∀b o u,H b=ah (.dW o u)->H' b=ah (.dW o u)
 lP:∀b ps,H b=ah (.wK ps)->∃more,H' b=ah (.wK (ps++more))
section
variable{fs mH ex Xs:ai aq}{H H1 H2:Hp}{h h1 h2 h':bu}{a x e:aq}{o:HO}
theorem Un.any(u:Un fs ex H H1 h h1){b:aq}{ob:cj}(q:h.get? b=ah ob)(n:H b=ak)(j:b∉ex):∃z,h1.get? b=ah {ob with slots:=z}:=by
 by_cases hb:b∈fs
 ·exact u.slot b ob q n hb j
 ·exact⟨ob.slots,u.keep b ob q n hb j⟩
theorem Un.trans(a:Un fs ex H H1 h h1)(b:Un fs ex H1 H2 h1 h2):Un fs ex H H2 h h2 where
 keep:=λc ob q n B j=>b.keep c ob (a.keep c ob q n B j) (a.free c ob q n j) B j
 slot:=λc ob q n B j=>by
  obtain⟨g,z⟩:=a.slot c ob q n B j;obtain⟨f,U⟩:=b.slot c _ z (a.free c ob q n j) B j;exact⟨f,U⟩
 free:=λc ob q n j=>by
  obtain⟨L,z⟩:=a.there c ob q j;exact b.free c L z (a.free c ob q n j) j
 there:=λc ob q j=>by
  obtain⟨L,z⟩:=a.there c ob q j;exact b.there c L z j
 lO:=λc xs q=>b.lO c xs (a.lO c xs q)
 kN:=λc ob xs q=>b.kN c ob xs (a.kN c ob xs q)
 lP:=λc ps q=>by
  obtain⟨e,z⟩:=a.lP c ps q;obtain⟨d,U⟩:=b.lP c _ z;exact⟨e++d,by rw[U,Array.append_assoc]⟩
theorem Un.kept(k:∀b u,h.get? b=ah u->h'.get? b=ah u):Un fs ex H H h h' :=
 ⟨λb ob q _ _ _=>k b ob q,λb ob q _ _ _=>⟨ob.slots,k b ob q⟩,λ_ _ _ n _=>n,λb ob q _=>⟨ob,k b ob q⟩,λ_ _ q=>q,λ_ _ _ q=>q,λ_ ps q=>⟨#[],by rw[q];simp⟩⟩
theorem Un.refl:Un fs ex H H h h:=Un.kept λ_ _ q=>q
theorem Un.laid(k:∀b u,h.get? b=ah u->h'.get? b=ah u)(j:h.objs.size<=a)(hn:H a=ak):Un fs ex H (upd H a o) h h' where
 keep:=λb u q _ _ _=>k b u q
 slot:=λb u q _ _ _=>⟨u.slots,k b u q⟩
 free:=λb u q n _=>by rw[bH (dX (kT (dE q) j))];exact n
 there:=λb u q _=>⟨u,k b u q⟩
 lO:=λb xs q=>by rw[bH (iW q hn)];exact q
 kN:=λb u xs q=>by rw[bH (iW q hn)];exact q
 lP:=λb ps q=>⟨#[],by rw[bH (iW q hn),q];simp⟩
theorem Un.write(j:OC (H x))(he:e=x\/H e=ah (.own x))(k:∀b u,b≠e->h.get? b=ah u->h'.get? b=ah u)(U:∃u,h'.get? e=ah u):Un fs ex H (upd H x o) h h':=by
 have B:∀b,H b=ak->b≠x:=λb n z=>by subst z;rw[n]at j;exact j
 have hb:∀b,H b=ak->b≠e:=λb n z=>by
  subst z
  rcases he with r|r
  ·exact B b n r
  ·rw[n]at r;cases r
 have hm:∀b u,H b=ah u->¬OC (ah u)->b≠x:=λb u q nm z=>by subst z;rw[q]at j;exact nm j
 refine⟨λb u q n _ _=>k b u (hb b n) q,λb u q n _ _=>⟨u.slots,k b u (hb b n) q⟩,λb u q n _=>by rw[bH (B b n)];exact n,λb u q _=>?_,
  λb xs q=>by rw[bH (hm b _ q λz=>z)];exact q,λb u xs q=>by rw[bH (hm b _ q λz=>z)];exact q,λb ps q=>⟨#[],by rw[bH (hm b _ q λz=>z),q];simp⟩⟩
 by_cases L:b=e
 ·subst L;exact U
 ·exact⟨u,k b u L q⟩
theorem Un.mono(u:Un fs ex H H1 h h1)(hs:∀b∈fs,b∈mH)(j:∀b∈ex,b∈Xs):Un mH Xs H H1 h h1 :=
 ⟨λb ob q n hb he=>u.keep b ob q n (λz=>hb (hs b z)) λz=>he (j b z),λ_ _ q n _ he=>u.any q n λz=>he (j _ z),λb ob q n he=>u.free b ob q n λz=>he (j b z),λb ob q he=>u.there b ob q λz=>he (j b z),u.lO,u.kN,u.lP⟩
end
noncomputable def QQ(h:bu)(H:Hp):ai aq:=(List.range h.objs.size).filter λa=>(H a).isSome
def xF(h:bu)(H:Hp):bu:=PySem.W.hideAll h (QQ h H)
theorem asS(h:bu)(H:Hp):(xF h H).objs.size=h.objs.size:=PySem.W.hideAll_size _ _
theorem asT{h:bu}{H:Hp}{b:aq}{o:cj}(e:h.get? b=ah o)(n:H b=ak):(xF h H).get? b=ah o :=
 PySem.W.hideAll_get _ e λhm=>by
  have q:(H b).isSome=au:=(List.mem_filter.mp hm).2;rw[n]at q;simp at q
theorem amR{h:bu}{H:Hp}{b:aq}{o:cj}(e:(xF h H).get? b=ah o):h.get? b=ah o/\H b=ak:=by
 have j:h.get? b=ah o:=PySem.W.of_hideAll (QQ h H) e;refine⟨j,?_⟩;cases q:H b with
 |none=>rfl
 |some x =>
  have hm:b∈QQ h H:=List.mem_filter.mpr ⟨List.mem_range.mpr (dE j),by simp[q]⟩;have z:(xF h H).get? b=ak:=PySem.W.hideAll_none (QQ h H) hm;rw[z]at e;cases e
structure Mod(K:ba)(mg:a5->av aj)(base:bu):Prop where
 tX:K.In base
 glob:base.Ns aw mg
 blt:∃mb,base.Ns builtinsNs mb/\∀x:a5,x≠"__name__"->mb x=c1 x
 nolimit:base.NoLimit
structure Cx where
 prog:a9
 w:bh
 K:ba
 mg:a5->av aj
 base:bu
 A:bj
 N:ai a5
 s₀:ar
 H₀:Hp
 env:Env
 outer:ai Env
 stack:ai Env
 ex:ai aq
 fn:a5->bb
 calm:bb
 pn:ai (aq×cj)
 xe:aj->ar->Prop
noncomputable def iD(l:ai Env):ai aq:=l.filterMap (·.frame)
abbrev Cx.fs(X:Cx):ai aq:=iD X.outer
def WR(j:cp)(x:a5):Prop:=j.names.lookup x=ah .local\/j.names.lookup x=ah .cell\/j.names.lookup x=ah .free
def Loc(j:cp)(x:a5):Prop:=j.names.lookup x=ah .local\/j.names.lookup x=ah .cell
def Look(env:Env)(h:bu)(m:a5->av aj)(x:a5)(u:aj):Prop :=
 (env.kindOf x=ah .local/\m x=ah u)\/((env.kindOf x=ah .cell\/env.kindOf x=ah .free)/\∃c,env.cells.lookup x=ah c/\h.IsCell c (ah u))
structure Cx.Ok(X:Cx):Prop where
 mod:Mod X.K X.mg X.base
 kind:X.env.scope.kind=.function
 glob:X.env.globals=aw
 blt:X.env.builtins=builtinsNs
 above:X.s₀.heap.objs.size<=X.env.locals
 inj:∀x y c,X.env.cells.lookup x=ah c->X.env.cells.lookup y=ah c->x=y
 has:∀x,(X.env.kindOf x=ah .cell\/X.env.kindOf x=ah .free)->∃c,X.env.cells.lookup x=ah c
 CY:∀x c,X.fn x=au->X.env.cells.lookup x=ah c->X.s₀.heap.objs.size<=c
 hd:X.calm=au->X.A.handled=ak
 frames:X.A.frames=ah X.stack
 qR:X.stack=X.outer\/(X.stack=X.env::X.outer/\X.env.frame=ah X.env.locals)
 CS:∀b∈X.ex,b≠X.env.locals/\∀x c,X.env.cells.lookup x=ah c->c≠b
 bs:∀b o,X.base.get? b=ah o->X.s₀.heap.get? b=ah o/\X.H₀ b=ak
 qE:X.base.objs.size<=X.s₀.heap.objs.size
 wX:∀b o,X.base.get? b=ah o->b∉X.ex
 zS:∀b∈X.ex,b∉X.fs
 nW:X.s₀.heap.FunFrames X.base X.outer
 sS:∀b∈X.fs,X.H₀ b=ak
structure Inv(X:Cx)(aa:ai (aq×cj))(J:ai (av V))(H:Hp)(s:ar):Prop where
 ok:X.Ok
 os:s.os=X.s₀.os
 bare:AllBare s.gens
 base:Un X.fs X.ex X.H₀ H X.s₀.heap s.heap
 loc:∃m,s.heap.Ns X.env.locals m/\∀(i:ay) (x:a5) (v:V),X.N[i]?=ah x->J[i]?=ah (ah v)->WR X.env.scope x->∃u,RelV v u/\Look X.env s.heap m x u
 cell:∀x c,X.env.cells.lookup x=ah c->∃v,s.heap.IsCell c v
 free:H X.env.locals=ak
 jU:∀x c,X.env.cells.lookup x=ah c->H c=ak
 pin:∀p∈X.pn++aa,s.heap.get? p.1=ah p.2/\H p.1=ak/\p.1≠X.env.locals/\p.1∉X.fs/\∀v,p.2.data≠.cell v
 aL:fE X.prog X.w H s.heap
 len:J.length=X.N.length
section
variable{X:Cx}{aa:ai (aq×cj)}{J:ai (av V)}{H H':Hp}{s:ar}{h':bu}
theorem Cx.Ok.anE(ok:X.Ok){b:aq}{o:cj}(e:X.base.get? b=ah o):b∉X.fs:=λhb=>by
 have:=(ok.nW.mem hb).1;rw[e]at this;cases this
theorem Inv.bs(I:Inv X aa J H s):∀b o,X.base.get? b=ah o->s.heap.get? b=ah o/\H b=ak:=λb o e =>
 ⟨I.base.keep b o (I.ok.bs b o e).1 (I.ok.bs b o e).2 (I.ok.anE e) (I.ok.wX b o e),I.base.free b o (I.ok.bs b o e).1 (I.ok.bs b o e).2 (I.ok.wX b o e)⟩
theorem Inv.bk(I:Inv X aa J H s):∀b o,X.base.get? b=ah o->s.heap.get? b=ah o:=λb o e=>(I.bs b o e).1
theorem Inv.mod(I:Inv X aa J H s):Mod X.K X.mg X.base:=I.ok.mod
theorem Inv.fB(I:Inv X aa J H s):X.K.In s.heap:=I.ok.mod.tX.keeps I.bk
theorem Inv.nolimit(I:Inv X aa J H s):s.heap.NoLimit:=I.ok.mod.nolimit.keeps I.bk
theorem Inv.lt(I:Inv X aa J H s):X.env.locals<s.heap.objs.size:=let ⟨_,hn,_⟩:=I.loc;hn.lt
theorem Inv.sz(I:Inv X aa J H s):X.s₀.heap.objs.size<=s.heap.objs.size:=xY I.ok.above (XD I.lt)
theorem Inv.anC(I:Inv X aa J H s){a:aq}(h:s.heap.objs.size<=a):a∉X.fs:=λhb=>by
 obtain⟨_,o,j,_⟩:=I.ok.nW.mem hb;exact bz (kT (dE j) (xY I.sz h)) (Nat.lt_irrefl _)
theorem Inv.uO(I:Inv X aa J H s):∀x c,X.env.cells.lookup x=ah c->c≠X.env.locals:=λx c e z=>by
 obtain⟨v,o,j,hd⟩:=I.cell x c e;obtain⟨m,⟨L,es,U,q,B,_⟩,_⟩:=I.loc;rw[z,q]at j;cases j;rw[B]at hd;cases hd
theorem Inv.nW(I:Inv X aa J H s):s.heap.FunFrames X.base X.outer:=by
 have all:∀(l:ai Env),(∀b∈iD l,b∈X.fs)->X.s₀.heap.FunFrames X.base l->s.heap.FunFrames X.base l:=by
  intro l
  induction l with
  |nil=>intro _ _;trivial
  |cons env r ih =>
   intro hs hl;obtain⟨B,⟨L,o,hf,hn,q,hd⟩,hr⟩:=hl;have j:L∈X.fs:=hs L (by unfold iD;rw[List.filterMap_cons,hf];exact List.mem_cons_self);obtain⟨U,e⟩:=I.base.slot L o q (I.ok.sS L j) j λz=>I.ok.zS L z j;exact⟨B,⟨L,_,hf,hn,e,hd⟩,ih (λb hb=>hs b (by unfold iD;rw[List.filterMap_cons,hf];exact List.mem_cons_of_mem _ hb)) hr⟩
 exact all X.outer (λ_ hb=>hb) I.ok.nW
theorem Inv.stack(I:Inv X aa J H s):s.heap.FunFrames X.base X.stack:=by
 rcases I.ok.qR with e|⟨e,hf⟩
 ·rw[e];exact I.nW
 ·rw[e];obtain⟨m,hn,_⟩:=I.loc;refine .cons (by rw[I.ok.kind];decide) hf hn ?_ I.nW;exact Heap.get?_none_of_le (xY I.ok.qE I.ok.above)
theorem Inv.KN(I:Inv X aa J H s):∀b∈iD X.stack,b∈X.env.locals::X.fs:=λb hb=>by
 rcases I.ok.qR with e|⟨e,hf⟩
 ·rw[e]at hb;exact gQ _ hb
 ·rw[e]at hb;unfold iD at hb;rw[XO,hf]at hb;exact hb
theorem Inv.ZY(I:Inv X aa J H s):∀b∈iD X.stack,H b=ak:=λb hb=>by
 rcases eB.mp (I.KN b hb)with e|hb
 ·rw[e];exact I.free
 ·obtain⟨_,o,j,_⟩:=I.ok.nW.mem hb;exact I.base.free b o j (I.ok.sS b hb) λz=>I.ok.zS b z hb
theorem Inv.step{g':bf GenState}{t':ay}{d':Drawn}{ch:ai aq}(I:Inv X aa J H s)
  (U:∀b∈ch,(b∈X.ex\/X.s₀.heap.objs.size<=b)/\b≠X.env.locals/\(∀x c,X.env.cells.lookup x=ah c->c≠b)/\∀p∈X.pn++aa,p.1≠b)
  (keep:∀b o,b≠X.env.locals->b∉X.fs->b∉ch->s.heap.get? b=ah o->H b=ak->h'.get? b=ah o)
  (slot:∀b o,b≠X.env.locals->b∈X.fs->b∉ch->s.heap.get? b=ah o->H b=ak->∃h,h'.get? b=ah {o with slots:=h}) (free:∀b o,b∉ch->s.heap.get? b=ah o->H b=ak->H' b=ak)
  (there:∀b o,b∉ch->s.heap.get? b=ah o->∃o',h'.get? b=ah o')
  (lO:∀b xs,H b=ah (.tup xs)->H' b=ah (.tup xs)) (kN:∀b o u,H b=ah (.dW o u)->H' b=ah (.dW o u)) (lP:∀b ps,H b=ah (.wK ps)->∃more,H' b=ah (.wK (ps++more)))
  (ns:∀m,s.heap.Ns X.env.locals m->h'.Ns X.env.locals m) (aL:fE X.prog X.w H' h') (F:AllBare g') :
  Inv X aa J H' {s with heap:=h',gens:=g',drawn:=d',toks:=t' }:=by
 have C:∀b o,X.s₀.heap.get? b=ah o->b≠X.env.locals:=λb o e=>dX (kT (dE e) I.ok.above);have g:∀b o,X.s₀.heap.get? b=ah o->b∉X.ex->b∉ch:=λb o e j hb=>by
  rcases(U b hb).1 with z|z
  ·exact j z
  ·exact bz (kT (dE e) z) (Nat.lt_irrefl _)
 have cellK:∀x c,X.env.cells.lookup x=ah c->∀v,s.heap.IsCell c v->h'.IsCell c v:=λx c e v ⟨o,L,hd⟩=>by
  have f:c∉ch:=λz=>(U c z).2.2.1 x c e rfl
  by_cases A:c∈X.fs
  ·obtain⟨h,q⟩:=slot c o (I.uO x c e) A f L (I.jU x c e);exact⟨_,q,hd⟩
  ·exact⟨o,keep c o (I.uO x c e) A f L (I.jU x c e),hd⟩
 refine⟨I.ok,I.os,F,⟨λb o e n hb j=>?_,λb o e n hb j=>?_,λb o e n j=>?_,λb o e j=>?_,λb xs e=>lO b xs (I.base.lO b xs e),λb o xs e=>kN b o xs (I.base.kN b o xs e),λb ps e=>?_⟩,?_,λx c e=>?_,?_,λx c e=>?_,λp y=>?_,aL,I.len⟩
 ·exact keep b o (C b o e) hb (g b o e j) (I.base.keep b o e n hb j) (I.base.free b o e n j)
 ·obtain⟨h,B⟩:=I.base.slot b o e n hb j;obtain⟨K,a⟩:=slot b _ (C b o e) hb (g b o e j) B (I.base.free b o e n j);exact⟨K,a⟩
 ·obtain⟨o',B⟩:=I.base.there b o e j;exact free b o' (g b o e j) B (I.base.free b o e n j)
 ·obtain⟨o',B⟩:=I.base.there b o e j;exact there b o' (g b o e j) B
 ·obtain⟨E,B⟩:=I.base.lP b ps e;obtain⟨D,a⟩:=lP b _ B;exact⟨E++D,by rw[a,Array.append_assoc]⟩
 ·obtain⟨m,hn,hl⟩:=I.loc;refine⟨m,ns m hn,λi x v B a G=>?_⟩;obtain⟨u,r,l⟩:=hl i x v B a G;refine⟨u,r,?_⟩
  rcases l with l|⟨k,c,e,z⟩
  ·exact .inl l
  ·exact .inr ⟨k,c,e,cellK x c e _ z⟩
 ·obtain⟨v,z⟩:=I.cell x c e;exact⟨v,cellK x c e v z⟩
 ·obtain⟨m,⟨o,_,_,L,_⟩,_⟩:=I.loc;exact free _ o (λz=>(U _ z).2.1 rfl) L I.free
 ·obtain⟨v,o,L,hd⟩:=I.cell x c e;exact free c o (λz=>(U c z).2.2.1 x c e rfl) L (I.jU x c e)
 ·obtain⟨e,n,ne,t,d⟩:=I.pin p y;have f:p.1∉ch:=λz=>(U p.1 z).2.2.2 p y rfl;exact⟨keep p.1 p.2 ne t f e n,free p.1 p.2 f e n,ne,t,d⟩
theorem Inv.un{t':ay}(I:Inv X aa J H s)(u:Un X.fs [] H H' s.heap h')(aL:fE X.prog X.w H' h'):Inv X aa J H' {s with heap:=h',toks:=t' }:=by
 obtain⟨m,⟨o,es,f,q,r⟩,_⟩:=id I.loc;obtain⟨a,L⟩:=u.any q I.free (by simp);exact I.step (g':=s.gens) (d':=s.drawn) (ch:=[]) (λ_ z=>nomatch z) (λb o _ hb _ e n=>u.keep b o e n hb (by simp)) (λb o _ hb _ e n=>u.slot b o e n hb (by simp)) (λb o _ e n=>u.free b o e n (by simp)) (λb o _ e=>u.there b o e (by simp)) u.lO u.kN u.lP (λd hm=>by
  obtain⟨c,eY,U,j,B⟩:=hm;rw[q]at j;cases j;exact⟨_,eY,U,L,B⟩) aL I.bare
theorem Inv.call{g':bf GenState}{t':ay}{d':Drawn}{ch:ai aq}(I:Inv X aa J H s)(u:Un (iD X.stack) ch H H' s.heap h')(aL:fE X.prog X.w H' h')(d:AllBare g')
  (B:∀b∈ch,(b∈X.ex\/X.s₀.heap.objs.size<=b)/\b≠X.env.locals/\(∀x c,X.env.cells.lookup x=ah c->c≠b)/\∀p∈X.pn++aa,p.1≠b) :
  Inv X aa J H' {s with heap:=h',gens:=g',drawn:=d',toks:=t' }:=by
 obtain⟨m,⟨o,es,k,U,r⟩,_⟩:=id I.loc;obtain⟨g,q⟩:=u.any U I.free λz=>(B _ z).2.1 rfl;exact I.step (ch:=ch) B (λb o q hb j e n=>u.keep b o e n (λz=>(eB.mp (I.KN b z)).elim q hb) j) (λb o _ _ j e n=>u.any e n j) (λb o j e n=>u.free b o e n j) (λb o j e=>u.there b o e j) u.lO u.kN u.lP (λi hm=>by
  obtain⟨h,eY,f,L,a⟩:=hm;rw[U]at L;cases L;exact⟨_,eY,f,q,a⟩) aL d
theorem Inv.turned{t':ay}{it:aq}(I:Inv X aa J H s)(k:∀b o,b≠it->s.heap.get? b=ah o->h'.get? b=ah o)(hn:H it=ak)(B:it≠X.env.locals)
  (h1:it∈X.ex\/X.s₀.heap.objs.size<=it) (h2:∀x c,X.env.cells.lookup x=ah c->c≠it) (a:∀p∈X.pn++aa,p.1≠it):Inv X aa J H {s with heap:=h',toks:=t' }:=by
 have L:∀b u,H b=ah u->b≠it:=λb u e z=>by rw[z,hn]at e;cases e
 refine I.step (g':=s.gens) (d':=s.drawn) (ch:=[it]) (λb hb=>?_) (λb o _ _ j e _=>k b o (λz=>j (by simp[z])) e) (λb o _ _ j e _=>⟨o.slots,k b o (λz=>j (by simp[z])) e⟩) (λ_ _ _ _ n=>n)
  (λb o j e=>⟨o,k b o (λz=>j (by simp[z])) e⟩) (λ_ _ e=>e) (λ_ _ _ e=>e) (λb ps e=>⟨#[],by rw[e];simp⟩) (λm hm=>?_) (λb u e=>?_) I.bare
 ·have e:b=it:=by simpa using hb
  subst e;exact⟨h1,B,h2,a⟩
 ·obtain⟨o,es,d,U,r⟩:=hm;exact⟨o,es,d,k _ o (cK B) U,r⟩
 ·refine(I.aL b u e).nR (λc v j q=>k c v ?_ q) (λ_ q=>q) λ_ _ q=>q
  rcases j with z|z
  ·rw[z];exact L b u e
  ·exact L c _ z
theorem Inv.tok(I:Inv X aa J H s)(t:ay):Inv X aa J H {s with toks:=t}:=I.un (h':=s.heap) (t':=t) Un.refl I.aL
theorem Inv.kept{t':ay}(I:Inv X aa J H s)(k:∀b u,s.heap.get? b=ah u->h'.get? b=ah u):Inv X aa J H {s with heap:=h',toks:=t' }:=I.un (Un.kept k) (I.aL.kept k)
theorem Inv.laid{a:aq}{o:HO}{t':ay}(I:Inv X aa J H s)(k:∀b u,s.heap.get? b=ah u->h'.get? b=ah u)(j:s.heap.objs.size<=a)(new:gP X.prog X.w (upd H a o) h' a o) :
  Inv X aa J (upd H a o) {s with heap:=h',toks:=t' }:=I.un (Un.laid k j (I.aL.fresh j)) (I.aL.laid k j new)
theorem Inv.write{x e:aq}{o:HO}{t':ay}(I:Inv X aa J H s)(j:OC (H x))(he:e=x\/H e=ah (.own x))(k:∀b u,b≠e->s.heap.get? b=ah u->h'.get? b=ah u)(q:∃u,h'.get? e=ah u)
  (new:gP X.prog X.w (upd H x o) h' x o):Inv X aa J (upd H x o) {s with heap:=h',toks:=t' }:=I.un (Un.write j he k q) (I.aL.write j he k q new)
theorem Inv.De{j:ai (aq×cj)}(I:Inv X aa J H s)(h:∀p∈j,s.heap.get? p.1=ah p.2/\H p.1=ak/\p.1≠X.env.locals/\p.1∉X.fs/\∀v,p.2.data≠.cell v):Inv X j J H s :=
 ⟨I.ok,I.os,I.bare,I.base,I.loc,I.cell,I.free,I.jU,λp q=>(XM.mp q).elim (λz=>I.pin p (AH _ z)) (h p),I.aL,I.len⟩
theorem Dm{N:ai a5}(q:N.Nodup){i j:ay}{x:a5}(a:N[i]?=ah x)(b:N[j]?=ah x):i=j:=by
 obtain⟨h1,B⟩:=cX.mp a;obtain⟨h2,z⟩:=cX.mp b;exact(List.getElem_inj q).mp (B.trans z.symm)
theorem afZ{M:Model}{A:bj}{E:aj->ar->Prop}{i:ay}{x:a5}{v:V}{u:aj}{Q:Unit->ar->Prop}(I:Inv X aa J H s)(hN:X.N.Nodup)(hi:X.N[i]?=ah x)(U:Loc X.env.scope x)(r:RelV v u)
  (h:∀s',Inv X aa (J.set i (ah v)) H s'->(∃a,Heap.SameBut a s.heap s'.heap/\(a=X.env.locals\/X.env.cells.lookup x=ah a))->Q () s') (hf:X.fn x=au\/X.env.scope.names.lookup x=ah .local:=by first|exact .inl rfl|exact .inr rfl|assumption):wpAny M A (storeName X.env x u) Q E s:=by
 obtain⟨m,hn,hl⟩:=id I.loc;have Gi:(X.env.scope.kind == .class||(X.env.scope.kind == .module&&X.env.locals != X.env.globals))=ao:=by rw[I.ok.kind];rfl
 have MG:i<J.length:=by rw[I.len];exact(cX.mp hi).1
 have uO:=I.uO;have tracked:∀{a:aq} {h':bu},(∃o,s.heap.get? a=ah o/\H a=ak)->Heap.SameBut a s.heap h'->fE X.prog X.w H h':=λ{a h'} ha hs b ob e=>by
  obtain⟨_,_,MM⟩:=ha;refine(I.aL b ob e).nR (λc t L q=>(hs.2 c ?_).trans q) (λ_ q=>q) λ_ _ q=>q;rintro rfl
  rcases L with rfl|L
  ·rw[MM]at e;cases e
  ·rw[MM]at L;cases L
 rcases U with g|g
 ·refine wpAny_storeName_local g hn (λh' Fq hs=>?_) Gi;obtain⟨oL,_,_,nT,_⟩:=id hn;refine h _ ⟨I.ok,I.os,I.bare,⟨λb o e n hb U=>?_,λb o e n hb U=>?_,I.base.free,λb o e U=>?_,I.base.lO,I.base.kN,I.base.lP⟩,⟨_,Fq,λj y D B f T=>?_⟩,λy c e=>?_,I.free,I.jU,λp S=>?_,tracked ⟨oL,nT,I.free⟩ hs,by simpa using I.len⟩ ⟨_,hs,.inl rfl⟩
  ·exact(hs.2 b (dX (kT (dE e) I.ok.above))).trans (I.base.keep b o e n hb U)
  ·obtain⟨G,B⟩:=I.base.slot b o e n hb U;exact⟨G,(hs.2 b (dX (kT (dE e) I.ok.above))).trans B⟩
  ·obtain⟨P,B⟩:=I.base.there b o e U;exact⟨P,(hs.2 b (dX (kT (dE e) I.ok.above))).trans B⟩
  ·by_cases l:j=i
   ·subst l;rw[hi]at B;cases B;rw[fJ MG]at f;cases f;exact⟨u,r,.inl ⟨g,by simp⟩⟩
   ·rw[eW (cK l)]at f;obtain⟨F,K,q⟩:=hl j y D B f T;refine⟨F,K,?_⟩
    rcases q with⟨k,e⟩|⟨k,c,e,z⟩
    ·refine .inl ⟨k,?_⟩;have:y≠x:=λe=>l (Dm hN B (e ▸ hi));simp[this,e]
    ·exact .inr ⟨k,c,e,z.sameBut hs (uO y c e)⟩
  ·obtain⟨t,z⟩:=I.cell y c e;exact⟨t,z.sameBut hs (uO y c e)⟩
  ·obtain⟨e,n,ne,R,d⟩:=I.pin p S;exact⟨(hs.2 p.1 ne).trans e,n,ne,R,d⟩
 ·have Ge:X.fn x=au:=by
   rcases hf with z|z
   ·exact z
   ·rw[z]at g;cases g
  obtain⟨c,L⟩:=I.ok.has x (.inl g);obtain⟨t,z⟩:=I.cell x c L;refine wpAny_storeName_cell I.ok.kind g L z (λh' zK hs=>?_);obtain⟨oc,TR,W⟩:=id z;refine h {s with heap:=h' } ⟨I.ok,I.os,I.bare,⟨λb o e n hb U=>?_,λb o e n hb U=>?_,I.base.free,λb o e U=>?_,I.base.lO,I.base.kN,I.base.lP⟩,⟨m,hn.sameBut hs (cK (uO x c L)),λj y D B f T=>?_⟩,λy C e=>?_,I.free,I.jU,λp S=>?_,tracked ⟨oc,TR,I.jU x c L⟩ hs,by simpa using I.len⟩ ⟨c,hs,.inr L⟩
  ·exact(hs.2 b (dX (kT (dE e) (I.ok.CY x c Ge L)))).trans (I.base.keep b o e n hb U)
  ·obtain⟨G,B⟩:=I.base.slot b o e n hb U;exact⟨G,(hs.2 b (dX (kT (dE e) (I.ok.CY x c Ge L)))).trans B⟩
  ·obtain⟨P,B⟩:=I.base.there b o e U;exact⟨P,(hs.2 b (dX (kT (dE e) (I.ok.CY x c Ge L)))).trans B⟩
  ·by_cases l:j=i
   ·subst l;rw[hi]at B;cases B;rw[fJ MG]at f;cases f;exact⟨u,r,.inr ⟨.inl g,c,L,zK⟩⟩
   ·rw[eW (cK l)]at f;obtain⟨F,K,q⟩:=hl j y D B f T;refine⟨F,K,?_⟩
    rcases q with q|⟨k,C,e,z'⟩
    ·exact .inl q
    ·refine .inr ⟨k,C,e,z'.sameBut hs ?_⟩;rintro rfl;exact l (Dm hN B (I.ok.inj _ _ _ e L ▸ hi))
  ·by_cases Wn:C=c
   ·subst Wn;exact⟨_,zK⟩
   ·obtain⟨w2,z2⟩:=I.cell y C e;exact⟨w2,z2.sameBut hs Wn⟩
  ·obtain⟨e,n,ne,R,d⟩:=I.pin p S;refine⟨(hs.2 p.1 ?_).trans e,n,ne,R,d⟩;intro q;rw[q,TR]at e;have q':oc=p.2:=nK e;exact d t (by rw[<-q'];exact W)
theorem RG{M:Model}{A:bj}{E:aj->ar->Prop}{i:ay}{x:a5}{v:V}{u:aj}{Q:Unit->ar->Prop}(I:Inv X aa J H s)(z:X.N.Nodup)(hi:X.N[i]?=ah x)(j:Loc X.env.scope x)(r:RelV v u)
  (h:∀s',Inv X aa (J.set i (ah v)) H s'->Q () s') (q:X.fn x=au\/X.env.scope.names.lookup x=ah .local:=by first|exact .inl rfl|exact .inr rfl|assumption):wpAny M A (storeName X.env x u) Q E s :=
 afZ I z hi j r (λs' B _=>h s' B) q
theorem Inv.VP{s':ar}{ch:ai aq}(I:Inv X aa J H s)(z:s'.os=s.os)(u:Un (iD X.stack) ch H H' s.heap s'.heap)(aL:fE X.prog X.w H' s'.heap)(B:AllBare s'.gens)
  (j:∀b∈ch,(b∈X.ex\/X.s₀.heap.objs.size<=b)/\b≠X.env.locals/\(∀x c,X.env.cells.lookup x=ah c->c≠b)/\∀p∈X.pn++aa,p.1≠b):Inv X aa J H' s':=by
 obtain⟨h',g',d',t',q⟩:=s';have e:q=s.os:=z;subst e;exact I.call (g':=g') (t':=t') (d':=d') u aL B j
end
abbrev XK:=aj->av aq->Hp->Prop
abbrev St:=ai (av V)
abbrev VK:=V->Hp->Prop
abbrev TE:=St->Hp->VK->Prop
abbrev TT:=St->Hp->(bb->Hp->Prop)->Prop
abbrev TA:=St->Hp->(ai V->Hp->Prop)->Prop
structure Ends where
 nx:St->Hp->Prop
 rt:VK
 bk:St->Hp->Prop:=λ_ _=>b5
 ct:St->Hp->Prop:=λ_ _=>b5
abbrev TS:=Ends->St->Hp->Prop
def EP(X:Cx)(aa:ai (aq×cj))(J:St)(Q:VK)(u:aj)(s':ar):Prop:=∃v H',Inv X aa J H' s'/\RelV v u/\Q v H'
def TP(X:Cx)(aa:ai (aq×cj))(J:St)(Q:bb->Hp->Prop)(b:bb)(s':ar):Prop:=∃H',Inv X aa J H' s'/\Q b H'
def AP(X:Cx)(aa:ai (aq×cj))(J:St)(Q:ai V->Hp->Prop)(us:ai aj)(s':ar):Prop:=∃vs H',Inv X aa J H' s'/\Vals vs us/\Q vs H'
def SP(X:Cx)(aa:ai (aq×cj))(D:Ends)(f:Flow)(s':ar):Prop :=
 match f with
 |.next=>∃J' H',Inv X aa J' H' s'/\D.nx J' H'
 |.brk=>∃J' H',Inv X aa J' H' s'/\D.bk J' H'
 |.cont=>∃J' H',Inv X aa J' H' s'/\D.ct J' H'
 |.ret u=>∃v J' H',Inv X aa J' H' s'/\RelV v u/\D.rt v H'
def PE(X:Cx)(e:bp)(t:TE):Prop :=
 ∀(aa:ai (aq×cj)) (s:ar) (J:St) (H:Hp) (Q:VK),Inv X aa J H s->t J H Q->wpAny (bc X.prog X.w) X.A (br e X.env) (EP X aa J Q) X.xe s
def PT(X:Cx)(e:bp)(t:TT):Prop :=
 ∀(aa:ai (aq×cj)) (s:ar) (J:St) (H:Hp) (Q:bb->Hp->Prop),Inv X aa J H s->t J H Q->wpAny (bc X.prog X.w) X.A (isTrue e X.env (br e X.env)) (TP X aa J Q) X.xe s
def PW(X:Cx)(e:bp)(t:TT):Prop :=
 ∀(whole:Sem aj) (aa:ai (aq×cj)) (s:ar) (J:St) (H:Hp) (Q:bb->Hp->Prop),Inv X aa J H s->t J H Q->wpAny (bc X.prog X.w) X.A (isTrue e X.env whole) (TP X aa J Q) X.xe s
theorem PW.pt{X:Cx}{e:bp}{t:TT}(h:PW X e t):PT X e t:=h _
def PA(X:Cx)(es:ai bp)(t:TA):Prop :=
 ∀(pos:cq) (aa:ai (aq×cj)) (s:ar) (J:St) (H:Hp) (Q:ai V->Hp->Prop),Inv X aa J H s->t J H Q->wpAny (bc X.prog X.w) X.A (spliced (b8 pos (az es X.env))) (AP X aa J Q) X.xe s
def PS(X:Cx)(st:bo)(t:TS):Prop :=
 ∀(aa:ai (aq×cj)) (s:ar) (J:St) (H:Hp) (D:Ends),Inv X aa J H s->t D J H->wpAny (bc X.prog X.w) X.A (exec st X.env) (SP X aa D) X.xe s
def nX(X:Cx)(st:ai bo)(t:TS):Prop :=
 ∀(aa:ai (aq×cj)) (s:ar) (J:St) (H:Hp) (D:Ends),Inv X aa J H s->t D J H->wpAny (bc X.prog X.w) X.A (execs st X.env) (SP X aa D) X.xe s
theorem bN{α:Type}{t:Sem α}{Q j:α->ar->Prop}{M:Model}{A:bj}{E:aj->ar->Prop}{s:ar}(h:wpAny M A t Q E s)(q:∀a s,Q a s->j a s):wpAny M A t j E s:=lZ h q λ_ _ x=>x
section
variable{X:Cx}
def ZQ(i:ay):TE:=λJ H Q=>∃v,J[i]?=ah (ah v)/\Q v H
def tC(v:V):TE:=λ_ H Q=>Q v H
theorem Sx{i:ay}{x:a5}{pos:cq}(B:X.N[i]?=ah x)(hv:WR X.env.scope x)(hd:(x==("__debug__" : a5))=ao:=by decide)(jG:(x==("__classdict__" : a5))=ao:=by decide):PE X (.Name x pos) (ZQ i):=by
 intro aa s J H Q I h;obtain⟨v,e,h⟩:=h;obtain⟨m,hn,hl⟩:=I.loc;obtain⟨u,r,l⟩:=hl i x v B e hv;have fin:EP X aa J Q u s:=⟨v,H,I,r,h⟩
 rcases l with⟨j,hm⟩|⟨j,c,q,z⟩
 ·exact wpAny_Name (wpAny_loadName_local I.ok.kind j hn hm fin) hd
 ·rcases j with j|j
  ·exact wpAny_Name (wpAny_loadName_cell I.ok.kind j q z fin) hd
  ·exact wpAny_Name (wpAny_loadName_free I.ok.kind j q z fin jG) hd
theorem alD{i j pos}:PE X (.Constant (.int i) j pos) (tC (.int i)):=λ_ _ _ H _ I h=>wpAny_Constant_int ⟨.int i,H,I.tok _,⟨_,rfl⟩,h⟩
theorem alM{b j pos}:PE X (.Constant (.bool b) j pos) (tC (.bl b)):=λ_ _ _ H _ I h=>Constant_bool ⟨.bl b,H,I,rfl,h⟩
theorem ak4{j pos}:PE X (.Constant .none j pos) (tC .bQ):=λ_ _ _ H _ I h=>Constant_none ⟨.bQ,H,I,rfl,h⟩
theorem akY{x j pos}:PE X (.Constant (.str x) j pos) (tC (.str x)):=λ_ _ _ H _ I h=>Calls.Constant_str ⟨.str x,H,I.tok _,⟨_,rfl⟩,h⟩
def Gl(X:Cx)(x:a5):Prop:=X.env.kindOf x=ah .globalImplicit
theorem BR{E:aj->ar->Prop}{aa:ai (aq×cj)}{s:ar}{J:St}{H:Hp}{x:a5}{u:aj}{pos:cq}{Q:aj->ar->Prop}(I:Inv X aa J H s)(j:Gl X x)(hm:X.mg x=ah u)(h:Q u s)
  (hd:(x==("__debug__" : a5))=ao:=by decide):wpAny (bc X.prog X.w) X.A (br (.Name x pos) X.env) Q E s :=
 Calls.Name_function_global I.ok.kind j (Calls.loadGlobal_global (by rw[I.ok.glob];exact I.mod.glob.keeps I.bk) hm h) hd
theorem tW{E:aj->ar->Prop}{aa:ai (aq×cj)}{s:ar}{J:St}{H:Hp}{x:a5}{u:aj}{pos:cq}{Q:aj->ar->Prop}(I:Inv X aa J H s)(j:Gl X x)(hm:X.mg x=ak)(hv:c1 x=ah u)(h:Q u s)
  (hn:x≠"__name__":=by decide) (hd:(x==("__debug__" : a5))=ao:=by decide):wpAny (bc X.prog X.w) X.A (br (.Name x pos) X.env) Q E s:=by
 obtain⟨mb,h1,h2⟩:=I.mod.blt;exact Calls.Name_function_global I.ok.kind j (Calls.loadGlobal_builtin (by rw[I.ok.glob];exact I.mod.glob.keeps I.bk) hm (by rw[I.ok.blt];exact h1.keeps I.bk) ((h2 x hn).trans hv) h) hd
theorem Dh{x:a5}{v:V}{u:aj}{pos:cq}(j:Gl X x)(hm:X.mg x=ah u)(r:RelV v u)(hd:(x==("__debug__" : a5))=ao:=by decide):PE X (.Name x pos) (tC v) :=
 λ_ _ _ H _ I h=>BR I j hm ⟨v,H,I,r,h⟩ hd
theorem alL{x:a5}{v:V}{u:aj}{pos:cq}(j:Gl X x)(hm:X.mg x=ak)(hv:c1 x=ah u)(r:RelV v u)(hn:x≠"__name__":=by decide)(hd:(x==("__debug__" : a5))=ao:=by decide):PE X (.Name x pos) (tC v) :=
 λ_ _ _ H _ I h=>tW I j hm hv ⟨v,H,I,r,h⟩ hn hd
variable{a b:bp}{ta tb:TE}{pos:cq}
def PC(X:Cx)(j:CmpOp)(a b:bp)(t:TE):Prop :=
 ∀(aa:ai (aq×cj)) (s:ar) (J:St) (H:Hp) (Q:VK),Inv X aa J H s->t J H Q ->
  wpAny (bc X.prog X.w) X.A (br a X.env) (λv s₁=>wpAny (bc X.prog X.w) X.A (br b X.env) (λu s₂=>wpAny (bc X.prog X.w) X.A (b1 j v u) (EP X aa J Q) X.xe s₂) X.xe s₁) X.xe s
def tB(t:TE):TT:=λJ H Q=>t J H λx H1=>∃c,x=.bl c/\Q c H1
theorem aj2{j:CmpOp}{t:TE}(h:PC X j a b t)(h1:c2 j b=ao:=by first|exact U _ (by decide) (by decide)|rfl):PT X (.Compare a [j] [b] pos) (tB t):=by
 intro aa s J H Q I L;refine wpAny_isTrue_Compare1 (bN (h aa s J H _ I L) λv s1 h1=>bN h1 λu i h2=>bN h2 λc g ⟨x,f,e,z,B⟩=>?_) h1;obtain⟨d,rfl,q⟩:=B;cases z;exact JL ⟨f,e,q⟩
theorem ajZ{e:bp}{t:TE}(h:PE X e t)(he:∀whole,isTrue e X.env whole=(do let v<-whole;standAt e.pos;c0 [v] (truthy v)):=by intro _;rfl):PT X e (tB t):=by
 intro aa s J H Q I B;refine isTrue_plain (bN (h aa s J H _ I B) λv s1 ⟨x,U,L,j,z⟩=>?_) (he _);obtain⟨d,rfl,q⟩:=z;cases j;exact JL ⟨U,L,q⟩
variable{tA QY:TT}{rest:ai bp}
def aeW(t u:TT):TT:=λJ H Q=>t J H λc H1=>if c=au then u J H1 Q else Q ao H1
def tOr(t u:TT):TT:=λJ H Q=>t J H λc H1=>if c=au then Q au H1 else u J H1 Q
def aeI(t:TT):TT:=λJ H Q=>t J H λc H1=>Q (!c) H1
theorem pw_and1(ha:PT X a tA):PW X (.BoolOp .And [a] pos) tA:=by
 intro j aa s J H Q I h;refine isTrue_and (bN (ha aa s J H Q I h) λc s1 e=>?_);cases c with
 |true=>exact isTrue_and_nil e
 |false=>exact e
theorem pw_or1(ha:PT X a tA):PW X (.BoolOp .Or [a] pos) tA:=by
 intro j aa s J H Q I h;refine isTrue_or (bN (ha aa s J H Q I h) λc s1 e=>?_);cases c with
 |false=>exact isTrue_or_nil e
 |true=>exact e
theorem pw_and(ha:PT X a tA)(hb:PW X (.BoolOp .And (b::rest) pos) QY):PW X (.BoolOp .And (a::b::rest) pos) (aeW tA QY):=by
 intro B aa s J H Q I h;refine isTrue_and (bN (ha aa s J H _ I h) λc s1 ⟨z,q,j⟩=>?_);cases c with
 |true=>exact hb B aa s1 J z Q q j
 |false=>exact⟨z,q,j⟩
theorem pw_or(ha:PT X a tA)(hb:PW X (.BoolOp .Or (b::rest) pos) QY):PW X (.BoolOp .Or (a::b::rest) pos) (tOr tA QY):=by
 intro B aa s J H Q I h;refine isTrue_or (bN (ha aa s J H _ I h) λc s1 ⟨z,q,j⟩=>?_);cases c with
 |true=>exact⟨z,q,j⟩
 |false=>exact hb B aa s1 J z Q q j
theorem aj0(ha:PT X a tA):PT X (.UnaryOp .Not a pos) (aeI tA):=by
 intro aa s J H Q I h;exact isTrue_not (ha aa s J H (λc j=>Q (!c) j) I h)
def aeV(ta tb:TE):TE:=λJ H Q=>ta J H λx H1=>∃c,x=.bl c/\if c=au then tb J H1 Q else Q (.bl ao) H1
def aeH(ta:TE):TE:=λJ H Q=>ta J H λx H1=>∃c,x=.bl c/\Q (.bl (!c)) H1
theorem ak2{j}{t:TE}(h:PE X a t):PE X (.BoolOp j [a] pos) t:=λaa s J H Q I q=>BoolOp_one (h aa s J H Q I q)
theorem alO(ha:PE X a ta)(hb:PE X (.BoolOp .And (b::rest) pos) tb):PE X (.BoolOp .And (a::b::rest) pos) (aeV ta tb):=by
 intro aa s J H Q I h;refine BoolOp_and (bN (ha aa s J H _ I h) λv s1 ⟨x,z,q,B,j⟩=>?_);obtain⟨c,rfl,j⟩:=j;cases B;refine JL ?_;cases c with
 |true=>exact hb aa s1 J z Q q j
 |false=>exact⟨.bl ao,z,q,rfl,j⟩
theorem ak3(ha:PE X a ta):PE X (.UnaryOp .Not a pos) (aeH ta):=by
 intro aa s J H Q I h;refine UnaryOp_ (bN (ha aa s J H _ I h) λv s1 ⟨x,B,z,q,j⟩=>?_);obtain⟨c,rfl,j⟩:=j;cases q;exact not_of (JL ⟨.bl (!c),B,z,rfl,j⟩)
end
def fA(K:ba)(H:Hp)(a:aq)(xs:ai V):Prop :=
 Rd H a (.lst xs) \/
  ∃(o:cj) (j:bf aj) (n:ay),K.lookup a=ah o/\o.cls=.type "list"/\o.dict=ak/\o.data=.seq j n/\j.size<=a7/\Vals xs j.toList
def jI(K:ba)(H:Hp)(a:aq)(xs:ai V):Prop :=
 Rd H a (.tup xs) \/
  ∃(o:cj) (j:bf aj) (n:ay),K.lookup a=ah o/\o.cls=.type "tuple"/\o.data=.seq j n/\j.size<=a7/\Vals xs j.toList
noncomputable def aB6:aj->av V
 |.none=>ah .bQ
 |.bool b=>ah (.bl b)
 |.int i _=>ah (.int i)
 |.str x _=>ah (.str x)
 |.bytes b _=>ah (.VQ b)
 |.float b _=>ah (.CP b)
 |.ref a=>ah (.ref a)
 |.type n=>ah (.ty n)
 |_=>ak
theorem RelV.abs{x:V}{u:aj}(r:RelV x u):aB6 u=ah x:=by
 cases x with
 |bQ=>cases r;rfl
 |bl _=>cases r;rfl
 |int _=>obtain⟨t,rfl⟩:=r;rfl
 |str _=>obtain⟨t,rfl⟩:=r;rfl
 |VQ _=>obtain⟨t,rfl⟩:=r;rfl
 |CP _=>obtain⟨t,rfl⟩:=r;rfl
 |ref _=>cases r;rfl
 |ty _=>cases r;rfl
theorem RelV.inj{x y:V}{u:aj}(r:RelV x u)(q:RelV y u):x=y:=nK (r.abs.symm.trans q.abs)
theorem Vals.inj:∀{xs ys:ai V} {us:ai aj},Vals xs us->Vals ys us->xs=ys
 |_,_,_,.nil,.nil=>rfl
 |_,_,_,.cons r t,.cons q j=>by rw[r.inj q,Vals.inj t j]
section
variable{X:Cx}{aa:ai (aq×cj)}{J:St}{H:Hp}{s:ar}{a:aq}{xs ys:ai V}
theorem fA.of{K:ba}(h:H a=ah (.lst xs)):fA K H a xs:=.inl (.inl h)
theorem jI.of{K:ba}(h:H a=ah (.tup xs)):jI K H a xs:=.inl (.inl h)
theorem Inv.list(I:Inv X aa J H s)(h:fA X.K H a xs):∃j:ai aj,Vals xs j/\PlainL s.heap a j.toArray/\xs.length<=a7:=by
 rcases h with h|⟨o,j,n,q,B,hd,hs,L,r⟩
 ·obtain⟨z,j,n,r,e⟩:=h.ok I.aL;exact⟨j,r,⟨_,n,e,rfl,rfl,rfl⟩,z⟩
 ·refine⟨j.toList,r,⟨o,n,I.fB a o q,B,hd,by simpa using hs⟩,?_⟩;have e:=r.length;simp only[mU]at e;omega
theorem Inv.tuple(I:Inv X aa J H s)(h:jI X.K H a xs):∃j:ai aj,Vals xs j/\IsTup s.heap a j.toArray/\xs.length<=a7:=by
 rcases h with h|⟨o,j,n,q,B,hs,L,r⟩
 ·obtain⟨z,j,r,p⟩:=h.ok I.aL;exact⟨j,r,p,z⟩
 ·refine⟨j.toList,r,⟨o,I.fB a o q,B,n,by simpa using hs⟩,?_⟩;have e:=r.length;simp only[mU]at e;omega
theorem Inv.Um(I:Inv X aa J H s)(h:fA X.K H a xs)(h':fA X.K H a ys):xs=ys:=by
 obtain⟨L,r,⟨o,n,e,_,_,d⟩,_⟩:=I.list h;obtain⟨j,z,⟨U,b,q,_,_,d'⟩,_⟩:=I.list h';rw[e]at q;cases q;rw[d]at d';injection d' with B _;have:L=j:=by simpa using b7 Array.toList B
 subst this;exact r.inj z
theorem Inv.adV(I:Inv X aa J H s)(h:jI X.K H a xs)(h':jI X.K H a ys):xs=ys:=by
 obtain⟨L,r,⟨o,e,_,n,d⟩,_⟩:=I.tuple h;obtain⟨j,z,⟨U,q,_,b,d'⟩,_⟩:=I.tuple h';rw[e]at q;cases q;rw[d]at d';injection d' with B _;have:L=j:=by simpa using b7 Array.toList B
 subst this;exact r.inj z
end
noncomputable abbrev Cx.mB(X:Cx)(E:aj->ar->Prop):Cx:={X with xe:=E}
abbrev Cx.tS(X:Cx):Cx:=X.mB λ_ _=>b5
theorem Cx.Ok.mB{X:Cx}(ok:X.Ok)(E:aj->ar->Prop):(X.mB E).Ok :=
 ⟨ok.mod,ok.kind,ok.glob,ok.blt,ok.above,ok.inj,ok.has,ok.CY,ok.hd,ok.frames,ok.qR,ok.CS,ok.bs,ok.qE,ok.wX,ok.zS,ok.nW,ok.sS⟩
theorem Cx.Ok.tM{X:Cx}{E:aj->ar->Prop}(ok:(X.mB E).Ok):X.Ok :=
 ⟨ok.mod,ok.kind,ok.glob,ok.blt,ok.above,ok.inj,ok.has,ok.CY,ok.hd,ok.frames,ok.qR,ok.CS,ok.bs,ok.qE,ok.wX,ok.zS,ok.nW,ok.sS⟩
section
variable{X:Cx}{aa:ai (aq×cj)}{J:St}{H:Hp}{s:ar}{E:aj->ar->Prop}
theorem Inv.mB(I:Inv X aa J H s)(E:aj->ar->Prop):Inv (X.mB E) aa J H s:=⟨I.ok.mB E,I.os,I.bare,I.base,I.loc,I.cell,I.free,I.jU,I.pin,I.aL,I.len⟩
theorem Inv.tM(I:Inv (X.mB E) aa J H s):Inv X aa J H s:=⟨I.ok.tM,I.os,I.bare,I.base,I.loc,I.cell,I.free,I.jU,I.pin,I.aL,I.len⟩
theorem SP.tM{D:Ends}{f:Flow}{s':ar}(h:SP (X.mB E) aa D f s'):SP X aa D f s':=by
 cases f with
 |next=>obtain⟨J',H',I,q⟩:=h;exact⟨J',H',I.tM,q⟩
 |brk=>obtain⟨J',H',I,q⟩:=h;exact⟨J',H',I.tM,q⟩
 |cont=>obtain⟨J',H',I,q⟩:=h;exact⟨J',H',I.tM,q⟩
 |ret u=>obtain⟨v,J',H',I,r,q⟩:=h;exact⟨v,J',H',I.tM,r,q⟩
end
section
variable{X:Cx}{st:bo}{rest:ai bo}{t u:TS}{e:bp}{te:TE}{pos:cq}
def aeJ:TS:=λD J H=>D.nx J H
def ZR(t u:TS):TS:=λD J H=>t {D with nx:=u D} J H
theorem aj4:nX X [] aeJ:=λ_ _ J H _ I h=>YM ⟨J,H,I,h⟩
theorem aj6(h1:PS X st t)(h2:nX X rest u):nX X (st::rest) (ZR t u):=by
 intro aa s J H D I h;refine wpAny_execs_cons (bN (h1 aa s J H {D with nx:=u D} I h) λf s1 q=>?_);cases f with
 |next =>
  obtain⟨J',H',j,q⟩:=q;exact h2 aa s1 J' H' D j q
 |ret v=>exact q
 |brk=>exact q
 |cont=>exact q
theorem aj3(h1:PS X st t):nX X [st] t:=by
 intro aa s J H D I h;refine wpAny_execs_cons (bN (h1 aa s J H D I h) λf s1 q=>?_);cases f with
 |next=>exact YM q
 |ret v=>exact q
 |brk=>exact q
 |cont=>exact q
theorem Inv.quiet{aa:ai (aq×cj)}{J:St}{H:Hp}{s:ar}(I:Inv X aa J H s):interactive X.env=ao:=by simp[interactive,I.ok.kind]
def aeN(te:TE):TS:=λD J H=>te J H λ_ H1=>D.nx J H1
theorem akG(he:PE X e te)(hs:da e ak pos.line X.env=pure ao:=by rfl):PS X (.Expr e pos) (aeN te):=by
 intro aa s J H D I h;exact wpAny_Expr_any (bN (he aa s J H _ I h) λv s1 ⟨x,z,q,B,j⟩=>⟨J,z,q,j⟩) I.quiet hs
def aeE(te:TE):TS:=λD J H=>te J H D.rt
theorem akB(he:PE X e te):PS X (.Return (ah e) pos) (aeE te):=by
 intro aa s J H D I h;exact wpAny_Return_some (bN (he aa s J H _ I h) λv s1 ⟨x,B,z,j,q⟩=>⟨x,J,B,z,j,q⟩)
def aeM(c:TT)(t u:TS):TS:=λD J H=>c J H λb H1=>if b=au then t D J H1 else u D J H1
theorem akE{c:bp}{a b:ai bo}{tc:TT}(B:PT X c tc)(ha:nX X a t)(hb:nX X b u):PS X (.If c a b pos) (aeM tc t u):=by
 intro aa s J H D I h;refine wpAny_If (bN (B aa s J H _ I h) λd s1 ⟨z,q,j⟩=>?_);cases d with
 |true=>exact ha aa s1 J z D q j
 |false=>exact hb aa s1 J z D q j
def Qa:TS:=λ_ _ _=>b5
theorem akD:PS X st Qa:=λ_ _ _ _ _ _ h=>h.elim
theorem aj5{j:ai bo}:nX X j Qa:=λ_ _ _ _ _ _ h=>h.elim
end
abbrev TG:=V->St->Hp->(St->Hp->Prop)->Prop
abbrev zY:=ai V->St->Hp->(St->Hp->Prop)->Prop
def PG(X:Cx)(target:bp)(t:TG):Prop :=
 ∀(aa:ai (aq×cj)) (s:ar) (J:St) (H:Hp) (v:V) (u:aj) (Q:St->Hp->Prop),Inv X aa J H s->RelV v u->t v J H Q ->
  wpAny (bc X.prog X.w) X.A (assign target X.env u) (λ_ s'=>∃J' H',Inv X aa J' H' s'/\Q J' H') X.xe s
def NZ(X:Cx)(ts:ai bp)(t:zY):Prop :=
 ∀(aa:ai (aq×cj)) (s:ar) (J:St) (H:Hp) (vs:ai V) (us:ai aj) (Q:St->Hp->Prop),Inv X aa J H s->Vals vs us->t vs J H Q ->
  wpAny (bc X.prog X.w) X.A (assignInOrder ((c3 ts X.env).map (·.2)) us) (λ_ s'=>∃J' H',Inv X aa J' H' s'/\Q J' H') X.xe s
abbrev Kw:=V->V->V->Hp->(Hp->Prop)->Prop
def aa6(X:Cx)(t:Kw):Prop :=
 ∀(aa:ai (aq×cj)) (s:ar) (J:St) (H:Hp) (o i v:V) (j q u:aj) (Q:Hp->Prop),Inv X aa J H s->RelV o j->RelV i q->RelV v u->t o i v H Q ->
  wpAny (bc X.prog X.w) X.A (setItem j q u) (λ_ s'=>∃H',Inv X aa J H' s'/\Q H') X.xe s
section
variable{X:Cx}{pos:cq}
def Gx(i:ay):TG:=λv J H Q=>Q (J.set i (ah v)) H
theorem Sw{i:ay}{x:a5}(z:X.N.Nodup)(hi:X.N[i]?=ah x)(j:Loc X.env.scope x)(q:X.fn x=au\/X.env.scope.names.lookup x=ah .local:=by first|exact .inl rfl|exact .inr rfl|assumption):PG X (.Name x pos) (Gx i):=by
 intro aa s J H v u Q I r h;exact wpAny_assign_Name (RG I z hi j r (λs' B=>⟨_,H,B,h⟩) q)
def av1:zY:=λvs J H Q=>vs=[]/\Q J H
def av3(t:TG)(u:zY):zY:=λvs J H Q=>∃v r,vs=v::r/\t v J H λJ' H'=>u r J' H' Q
theorem akT:NZ X [] av1:=by
 intro aa s J H vs us Q I r h;obtain⟨e,h⟩:=h;subst e;cases r;exact assignInOrder_nil ⟨J,H,I,h⟩
theorem akU{e:bp}{es:ai bp}{t:TG}{u:zY}(h1:PG X e t)(h2:NZ X es u)
  (hs:(c3 (e::es) X.env).map (·.2)=assign e X.env::(c3 es X.env).map (·.2):=by rfl):NZ X (e::es) (av3 t u):=by
 intro aa s J H vs us Q I r h;obtain⟨v,a,B,h⟩:=h;subst B;cases r with
 |cons r q =>
  rw[hs];refine assignInOrder_cons (bN (h1 aa s J H _ _ _ I r h) λ_ s1 ⟨j,U,L,z⟩=>?_);exact h2 aa s1 j U _ _ Q L q z
def avZ(K:ba)(n:ay)(t:zY):TG:=λv J H Q=>∃a xs,v=.ref a/\jI K H a xs/\xs.length=n/\t xs J H Q
theorem akV{es:ai bp}{k:ay}{t:zY}{n:ay}(B:X.calm=au)(h:NZ X es t)
  (hn:(c3 es X.env).length=n:=by rfl) (L:(c3 es X.env).findIdx? (·.1)=ak:=by rfl):PG X (.Tuple es k pos) (avZ X.K n t):=by
 intro aa s J H v u Q I r j;obtain⟨a,q,U,hq,hl,j⟩:=j;subst U;cases r;obtain⟨f,rv,ht,d⟩:=I.tuple hq;refine assign_Tuple_tuple (I.ok.hd B) ht (by simp[hn,<-hl,rv.length]) L λh' z=>?_;have c:Inv X aa J H {s with heap:=h' }:=I.kept (t':=s.toks) λb o e=>z b o (dX (dE e)) e;exact h aa _ J H q _ Q c (by simpa using rv) j
noncomputable def qA(to j:TE)(t:Kw):TG:=λv J H Q=>to J H λo H1=>j J H1 λi H2=>t o i v H2 λq=>Q J q
theorem akW{o i:bp}{to z:TE}{t:Kw}(d:PE X o to)(hi:PE X i z)(hs:aa6 X t)
  (ha:∀v,assign (.Subscript o i pos) X.env v=(do
   let j<-c0 [v] (br o X.env)
   let q<-c0 [v,j] (br i X.env)
   standAt pos
   c0 [v,j,q] (setItem j q v)
   release [v,j,q] []):=by intro _;rfl):PG X (.Subscript o i pos) (qA to z t):=by
 intro aa s J H v u Q I r h;rw[ha];refine aJ (qQ (bN (d aa s J H _ I h) λj s1 ⟨x,m,g,U,c⟩=>?_));refine aJ (qQ (bN (hi aa s1 J m _ g c) λq B ⟨y,l,f,L,b⟩=>?_));refine aJ (wpAny_standAt (aJ (qQ (bN (hs aa B J l x y v j q u _ f U L r b) λ_ n ⟨k,e,a⟩=>?_))));exact wpAny_release ⟨J,k,e,a⟩
def QZ(te:TE)(g:TG):TS:=λD J H=>te J H λx H1=>g x J H1 D.nx
theorem akI{tg e:bp}{te:TE}{g:TG}(he:PE X e te)(L:PG X tg g)(hs:swapsWithSole [tg] e pos.line X.env=pure ao:=by rfl)(B:swappedStores [tg] e X.env=pure ak:=by rfl)
  (h1:(c3 [tg] X.env).map (·.2)=[assign tg X.env]:=by rfl):PS X (.Assign [tg] e pos) (QZ te g):=by
 intro aa s J H D I h;refine wpAny_Assign_stores (bN (he aa s J H _ I h) λv s1 ⟨x,a,U,j,z⟩=>?_) hs B;rw[h1];exact bN (L aa s1 J a x v _ U j z) λ_ b q=>q
theorem akA{i:ay}{x:a5}{e:bp}{te:TE}{pos':cq}(L:X.N.Nodup)(hi:X.N[i]?=ah x)(z:Loc X.env.scope x)(he:PE X e te)(hs:da e (ah (.Name x pos')) pos.line X.env=pure ao:=by rfl)(B:X.fn x=au\/X.env.scope.names.lookup x=ah .local:=by first|exact .inl rfl|exact .inr rfl|assumption) :
  PS X (.Assign [.Name x pos'] e pos) (QZ te (Gx i)):=by
 intro aa s J H D I h;refine wpAny_Assign_Name (bN (he aa s J H _ I h) λv s1 ⟨y,b,a,j,q⟩=>?_) hs;exact RG a L hi z j (λc U=>⟨_,b,U,q⟩) B
end
structure It where
 go:ay->Hp->Prop
 yM:ay->Hp->V->Hp->Prop
 stop:ay->Hp->Prop
def pR(X:Cx)(aa:ai (aq×cj))(H:Hp)(b:aq):Prop :=
 H b=ak/\b≠X.env.locals/\b∉X.fs/\(b∈X.ex\/X.s₀.heap.objs.size<=b)/\(∀x c,X.env.cells.lookup x=ah c->c≠b)/\∀p∈X.pn++aa,p.1≠b
theorem Inv.vP{X:Cx}{aa:ai (aq×cj)}{J:St}{H H':Hp}{s:ar}{b:aq}(I:Inv X aa J H s)(hb:s.heap.objs.size<=b)(hn:H' b=ak):pR X aa H' b:=by
 refine⟨hn,DH (kT I.lt hb),I.anC hb,.inr (xY I.sz hb),λx c e z=>?_,λp j z=>?_⟩
 ·obtain⟨v,q⟩:=I.cell x c e;exact bz (kT q.lt (by rw[z];exact hb)) (Nat.lt_irrefl _)
 ·exact bz (kT (dE (I.pin p j).1) (by rw[z];exact hb)) (Nat.lt_irrefl _)
structure Turn(P:a9)(w:bh)(K:ba)(tg:bp)(σ:It)(fp:ai aq)(it:aq)(tn:ay->bu->Prop):Prop where
 mem:it∈fp
 obj:∀i h,tn i h->∀b∈fp,∃o,h.get? b=ah o/\∀v,o.data≠.cell v
 keep:∀i h h',tn i h->(∀b∈fp,∀o,h.get? b=ah o->h'.get? b=ah o)->tn i h'
 item:∀(X:Cx),X.prog=P->X.w=w->X.K=K->X.calm=au->∀(i:ay) (aa:ai (aq×cj)) (s:ar) (J:St) (H:Hp) (E:aj->ar->Prop),Inv X aa J H s->(∀b∈fp,pR X aa H b)->tn i s.heap->σ.go i H ->
  wpAny (bc P w) X.A (df (.ref it)) (λr s1=>∃u,r=ah u /\
   wpAny (bc P w) X.A (letOwnedTupleGo tg (.ref it) u) (λ_ s2=>∃x H',Inv X aa J H' s2/\RelV x u/\σ.yM i H x H'/\tn (i+1) s2.heap/\∀b∈fp,H' b=ak) E s1) E s
 done:∀(X:Cx),X.prog=P->X.w=w->X.K=K->X.calm=au->∀(i:ay) (aa:ai (aq×cj)) (s:ar) (J:St) (H:Hp) (E:aj->ar->Prop),Inv X aa J H s->(∀b∈fp,pR X aa H b)->tn i s.heap->σ.stop i H ->
  wpAny (bc P w) X.A (df (.ref it)) (λr s1=>r=ak/\Inv X aa J H s1) E s
 self:∀(A:bj) (i:ay) (s:ar) (Q:aj->ar->Prop) (E:aj->ar->Prop),tn i s.heap->Q (.ref it) s->wpAny (bc P w) A (pyIter (.ref it)) Q E s
abbrev TI:=St->Hp->(It->Hp->Prop)->Prop
def PIE(X:Cx)(aa:ai (aq×cj))(J:St)(tg:bp)(R:It->Hp->Prop)(z:aj)(q:ar):Prop :=
 ∃(it:aq) (fp:ai aq) (j:ay->bu->Prop) (σ:It) (H':Hp),z=.ref it/\Inv X aa J H' q/\Turn X.prog X.w X.K tg σ fp it j/\j 0 q.heap/\(∀b∈fp,pR X aa H' b)/\R σ H'
def PI(X:Cx)(tg iter:bp)(j:TI):Prop :=
 ∀(aa:ai (aq×cj)) (s:ar) (J:St) (H:Hp) (R:It->Hp->Prop),Inv X aa J H s->j J H R ->
  wpAny (bc X.prog X.w) X.A (br iter X.env) (λv s1=>wpAny (bc X.prog X.w) X.A (pyIter v) (PIE X aa J tg R) X.xe s1) X.xe s
theorem Gs{M:Model}{A:bj}{E:aj->ar->Prop}{s:ar}{tg:bp}{it:aq}{u:aj}{o:cj}{n:cm}{vs:bf aj}{Q:Unit->ar->Prop}(q:s.heap.get? it=ah o)(z:o.cls=.type n)(hd:o.data=.fields vs)
  (hn:["enumerate", "zip", "dict_itemiterator", "dict_reverseitemiterator", "odict_iterator", "itertools.zip_longest", "itertools.pairwise"].contains n=ao) (j:Q () s):wpAny M A (letOwnedTupleGo tg (.ref it) u) Q E s:=by
 unfold letOwnedTupleGo;cases tg <;> first
  |exact bG j
  | (cases u <;> first
    |exact bG j
    | (refine aJ (wpAny_load q ?_)
       rw[z,hd];show wpAny M A (if(["enumerate", "zip", "dict_itemiterator", "dict_reverseitemiterator", "odict_iterator", "itertools.zip_longest", "itertools.pairwise"].contains n&&vs[0]? == ah (dg _))=au then _ else _) Q E s;rw[a8 (by intro h;rw[hn,Bool.false_and]at h;cases h)];exact bG j))
noncomputable def Ml(K:ba)(a:aq):It :=
 ⟨λi H=>∃xs x,fA K H a xs/\xs[i]?=ah x,λi H x H'=>H'=H/\∀xs,fA K H a xs->xs[i]?=ah x,λi H=>∃xs,fA K H a xs/\xs.length<=i⟩
noncomputable def Mj(K:ba)(a:aq):It :=
 ⟨λi H=>∃xs x,jI K H a xs/\xs[i]?=ah x,λi H x H'=>H'=H/\∀xs,jI K H a xs->xs[i]?=ah x,λi H=>∃xs,jI K H a xs/\xs.length<=i⟩
noncomputable def OI(lo:a6)(n:ay):It:=⟨λi _=>i<n,λi H x H'=>H'=H/\x=.int (lo+i),λi _=>n<=i⟩
theorem adS{P:a9}{w:bh}{K:ba}{tg:bp}(a it:aq):Turn P w K tg (Ml K a) [it] it (λi h=>h.IsListIter it a i)where
 mem:=by simp
 obj:=λi h st b hb=>by
  have e:b=it:=by simpa using hb
  subst e;obtain⟨o,e,c,d⟩:=st;exact⟨o,e,λv z=>by rw[d]at z;cases z⟩
 keep:=λi h h' st k=>st.at λo e=>k it (by simp) o e
 item:=by
  intro X U B f y i aa s J H E I j st L;subst U B f;obtain⟨A,x,hq,q⟩:=L;obtain⟨Q,rv,p,F⟩:=I.list hq;obtain⟨u,G,D⟩:=rv.get q;obtain⟨r,n,M,m,l,g⟩:=j it (by simp);refine wpAny_pyNext_list_item st p.isList (x:=u) (by simpa using G) λh' t C=>?_;have R:Inv X aa J H {s with heap:=h' }:=I.turned (t':=s.toks) (λb o hb e=>(C.2 b hb).trans e) r n m l g;obtain⟨o,e,c,d⟩:=id t;exact⟨u,rfl,Gs (s:={s with heap:=h' }) e c d (by decide) ⟨x,H,R,D,⟨rfl,λS hy=>by rw[I.Um hy hq];exact q⟩,t,λb hb=>(j b hb).1⟩⟩
 done:=by
  intro X U B f y i aa s J H E I j st L;subst U B f;obtain⟨A,hq,q⟩:=L;obtain⟨Q,rv,p,F⟩:=I.list hq;obtain⟨r,n,M,m,l,g⟩:=j it (by simp);have hl:=rv.length;exact wpAny_pyNext_list_end (I.ok.hd y) st p.isList (by simp;omega) λh' N=>⟨rfl,I.turned (t':=s.toks) (λb o hb e=>N b o hb e) r n m l g⟩
 self:=λ_ _ _ _ _ st h=>wpAny_pyIter_listiter st h
theorem adQ{P:a9}{w:bh}{K:ba}{tg:bp}(a it:aq):Turn P w K tg (Mj K a) [it] it (λi h=>h.IsTupleIter it a i)where
 mem:=by simp
 obj:=λi h st b hb=>by
  have e:b=it:=by simpa using hb
  subst e;obtain⟨o,e,c,d⟩:=st;exact⟨o,e,λv z=>by rw[d]at z;cases z⟩
 keep:=λi h h' st k=>st.at λo e=>k it (by simp) o e
 item:=by
  intro X U B f A i aa s J H E I j st L;subst U B f;obtain⟨C,x,hq,q⟩:=L;obtain⟨t,rv,p,G⟩:=I.tuple hq;obtain⟨u,M,F⟩:=rv.get q;obtain⟨r,n,N,m,l,g⟩:=j it (by simp);refine wpAny_pyNext_tuple_item st (show s.heap.IsTuple a t.toArray from p) (x:=u) (by simpa using M) λh' y D=>?_;have R:Inv X aa J H {s with heap:=h' }:=I.turned (t':=s.toks) (λb o hb e=>(D.2 b hb).trans e) r n m l g;obtain⟨o,e,c,d⟩:=id y;exact⟨u,rfl,Gs (s:={s with heap:=h' }) e c d (by decide) ⟨x,H,R,F,⟨rfl,λS hy=>by rw[I.adV hy hq];exact q⟩,y,λb hb=>(j b hb).1⟩⟩
 done:=by
  intro X U B f A i aa s J H E I j st L;subst U B f;obtain⟨C,hq,q⟩:=L;obtain⟨t,rv,p,G⟩:=I.tuple hq;obtain⟨r,n,N,m,l,g⟩:=j it (by simp);have hl:=rv.length;exact wpAny_pyNext_tuple_end (I.ok.hd A) st (show s.heap.IsTuple a t.toArray from p) (by simp;omega) λh' Q=>⟨rfl,I.turned (t':=s.toks) (λb o hb e=>Q b o hb e) r n m l g⟩
 self:=λ_ _ _ _ _ st h=>wpAny_pyIter_tupleiter st h
theorem adR{P:a9}{w:bh}{K:ba}{tg:bp}(it:aq)(lo:a6)(n:ay):Turn P w K tg (OI lo n) [it] it (λi h=>IsRangeIter h it (lo+(i:ay)*1) ((n:a6)-(i:ay)) 1)where
 mem:=by simp
 obj:=λi h st b hb=>by
  have e:b=it:=by simpa using hb
  subst e;exact⟨_,st,λv z=>by
   have p:Data.fields _=Data.cell v:=z;cases p⟩
 keep:=λi h h' st k=>k it (by simp) _ st
 item:=by
  intro X U q a L i aa s J H E I j st B;subst U q a;obtain⟨l,g,u,f,d,c⟩:=j it (by simp);have W:=Walks.range (prog:=X.prog) (w:=X.w) (I.ok.hd L) it lo 1 n;refine W.item i s _ _ B st λv h' tk hv m r=>?_;obtain⟨t,rfl⟩:=hv;have y:Inv X aa J H {s with heap:=h',toks:=tk}:=I.turned (λb o hb e=>r b o (by simpa using hb) e) l g f d c;refine⟨_,rfl,Gs (s:={s with heap:=h',toks:=tk}) (n := "range_iterator") m rfl rfl (by decide) ⟨.int (lo+i),H,y,⟨t,?_⟩,⟨rfl,rfl⟩,m,λb hb=>(j b hb).1⟩⟩;rw[Int.mul_one]
 done:=by
  intro X U q a L i aa s J H E I j st B;subst U q a;obtain⟨l,g,u,f,d,c⟩:=j it (by simp);exact wpAny_pyNext_range_end (I.ok.hd L) st (by have:n<=i:=B;omega) λh' x=>⟨rfl,I.turned (t':=s.toks) (λb o hb e=>x b o hb e) l g f d c⟩
 self:=λ_ _ _ _ _ st h=>wpAny_pyIter_rangeiter st h
section
variable{X:Cx}{tg:bp}
theorem Rk{aa:ai (aq×cj)}{J:St}{H:Hp}{s:ar}{R:It->Hp->Prop}{E:aj->ar->Prop}{lo hi:a6}{t u v:Tok}{tk:ay}(I:Inv X aa J H s)(h1 : -(2 ^ 62)<=lo)(h2:lo<2 ^ 62)(B : -(2 ^ 62)<=hi)(z:hi<2 ^ 62)
  (q:R (OI lo (hi-lo).toNat) H):wpAny (bc X.prog X.w) X.A (pyIter (.ref s.heap.objs.size)) (PIE X aa J tg R) E {s with heap:=s.heap.push {cls:=.type "range",data:=.fields #[.int lo t,.int hi u,.int 1 v]},toks:=tk}:=by
 refine wpAny_pyIter_range (IsRange.new ..) (small_one h1 h2 B z) ?_;have j:Inv X aa J H {s with heap:=s.heap.push {cls:=.type "range",data:=.fields #[.int lo t,.int hi u,.int 1 v]},toks:=tk}:=I.kept λb o e=>dD _ e;refine⟨(s.heap.push {cls:=.type "range",data:=.fields #[.int lo t,.int hi u,.int 1 v]}).objs.size,[(s.heap.push {cls:=.type "range",data:=.fields #[.int lo t,.int hi u,.int 1 v]}).objs.size],_,_,H,rfl,
  j.kept (t':=tk) λb o e=>dD _ e,adR _ lo (hi-lo).toNat,?_,λb hb=>?_,q⟩
 ·have U:lo+((0:ay):a6)*1=lo:=by simp
  have L:(((hi-lo).toNat:ay):a6)-((0:ay):a6)=Builtin.Range.rangeSize lo hi 1:=by rw[rangeSize_one];split <;> omega
  show IsRangeIter _ _ (lo+((0:ay):a6)*1) ((((hi-lo).toNat:ay):a6)-((0:ay):a6)) 1;rw[U,L];exact fW _ rfl
 ·have e:b=(s.heap.push {cls:=.type "range",data:=.fields #[.int lo t,.int hi u,.int 1 v]}).objs.size:=by simpa using hb
  subst e;exact j.vP cU (j.aL.fresh cU)
def arL(ta:TA):TI:=λJ H R=>ta J H λvs H1=>∃j:a6,vs=[.int j]/\-(2 ^ 62)<=j/\j<2 ^ 62/\R (OI 0 j.toNat) H1
def arK(ta:TA):TI:=λJ H R=>ta J H λvs H1=>∃i j:a6,vs=[.int i,.int j]/\(-(2 ^ 62)<=i/\i<2 ^ 62/\-(2 ^ 62)<=j/\j<2 ^ 62)/\R (OI i (j-i).toNat) H1
theorem akR{a:bp}{ta:TA}{p pos:cq}(b:Gl X "range")(hm:X.mg "range" = ak)(ha:PA X [a] ta)(hs:az [a] X.env=[(ao,br a X.env)]:=by rfl):PI X tg (.Call (.Name "range" p) [a] [] pos) (arL ta):=by
 intro aa s J H R I h;refine Call_ (tW I b hm boot_range (HY (bN (ha pos aa s J H _ I h) λus s1 ⟨vs,d,c,L,z⟩=>?_) hs rfl));obtain⟨j,e,z,U,q⟩:=z;subst e;cases L with
 |cons r B =>
  cases B;obtain⟨t,rfl⟩:=r;exact call_range_1 (Rk c (by omega) (by omega) z U (by simpa using q))
theorem akQ{a b:bp}{ta:TA}{p pos:cq}(k:Gl X "range")(hm:X.mg "range" = ak)(ha:PA X [a,b] ta)(hs:az [a,b] X.env=[(ao,br a X.env),(ao,br b X.env)]:=by rfl)(L:az [b] X.env=[(ao,br b X.env)]:=by rfl) :
  PI X tg (.Call (.Name "range" p) [a,b] [] pos) (arK ta):=by
 intro aa s J H R I h;refine Call_ (tW I k hm boot_range (HY (bN (ha pos aa s J H _ I h) λus s1 ⟨vs,n,l,U,B⟩=>?_) (by rw[hs,L]) (by rw[L];rfl)));obtain⟨i,j,e,⟨B,g,f,d⟩,q⟩:=B;subst e;cases U with
 |cons r z =>
  cases z with
  |cons c z =>
   cases z;obtain⟨t,rfl⟩:=r;obtain⟨m,rfl⟩:=c;exact call_range_2 (Rk l B g f d q)
def ZT(z:TI)(g:TG)(tb:TS):TS:=λD J H=>z J H λσ H1=>∃W:ay->ay->St->Hp->Prop,(∃m,W 0 m J H1)/\∀i m J H,W i m J H ->
 (σ.stop i H/\D.nx J H)\/(σ.go i H/\∃N:St->Hp->Prop,(∀J' H',N J' H'->∃q,q<m/\W (i+1) q J' H')/\∀x H',σ.yM i H x H'->g x J H' λj H2=>tb {D with nx:=N,ct:=N,bk:=D.nx} j H2)
noncomputable def LF(fp:ai aq)(h:bu):ai (aq×cj):=fp.filterMap λb=>(h.get? b).map λo=>(b,o)
theorem LM{fp:ai aq}{h:bu}{b:aq}{o:cj}(hb:b∈fp)(e:h.get? b=ah o):(b,o)∈LF fp h:=List.mem_filterMap.mpr ⟨b,hb,by rw[e];rfl⟩
theorem amQ{fp:ai aq}{h:bu}{p:aq×cj}(j:p∈LF fp h):p.1∈fp/\h.get? p.1=ah p.2:=by
 obtain⟨b,hb,e⟩:=List.mem_filterMap.mp j;cases q:h.get? b with
 |none=>rw[q]at e;cases e
 |some o =>
  rw[q]at e;have z:(b,o)=p:=nK e;subst z;exact⟨hb,q⟩
theorem Inv.pinned{aa:ai (aq×cj)}{J:St}{H:Hp}{s:ar}{fp:ai aq}(I:Inv X aa J H s)(hf:∀b∈fp,pR X aa H b)(B:∀b∈fp,∃o,s.heap.get? b=ah o/\∀v,o.data≠.cell v):Inv X (aa++LF fp s.heap) J H s :=
 I.De λp q=>(XM.mp q).elim (λz=>I.pin p (nL _ z)) λz=>by
  obtain⟨hb,e⟩:=amQ z;obtain⟨f0,f1,f2,_⟩:=hf p.1 hb;obtain⟨o,j,d⟩:=B p.1 hb;rw[e]at j;cases j;exact⟨e,f0,f1,f2,d⟩
theorem Inv.KG{aa pl:ai (aq×cj)}{J:St}{H:Hp}{s:ar}(I:Inv X (aa++pl) J H s):Inv X aa J H s:=I.De λp j=>I.pin p (nL _ (AH _ j))
theorem Sn{iter:bp}{body:ai bo}{E:TI}{g:TG}{tb:TS}{pos:cq}(a:PassesOwn (bc X.prog X.w) X.A X.env X.xe)(M:X.calm=au)(hi:PI X tg iter E)(hg:PG X tg g)(hb:nX X body tb)
  (hs:∀x,cb iter X.env x=pure x:=by intro _;rfl):PS X (.For tg iter body [] pos) (ZT E g tb):=by
 intro aa s J H D I h;refine wpAny_For (bN (hi aa s J H _ I h) λv s1 h1=>bN h1 λEp s2 h2=>?_) hs;obtain⟨it,c,F,σ,H2,e,I2,T,mF,P,W,⟨m0,w0⟩,turn⟩:=h2;subst e;have t:∀{H':Hp},(∀b∈c,H' b=ak)->∀b∈c,pR X aa H' b:=λhn b hb=>⟨hn b hb,(P b hb).2⟩
 refine codeAny_forLoop_any (λn s'=>∃i J' H',Inv X aa J' H' s'/\F i s'.heap/\(∀b∈c,H' b=ak)/\W i n J' H') ?_ m0 ⟨0,J,H2,I2,mF,λb hb=>(P b hb).1,w0⟩;rintro n K ⟨i,q,k,S,R,Q,w3⟩
 rcases turn i n q k w3 with⟨stop,qn⟩|⟨go,N,hN,step⟩
 ·refine PU a (bN (T.done X rfl rfl rfl M i aa K q k X.xe S (t Q) R stop) λr s4 ⟨hr,I4⟩=>?_);subst hr;exact YM ⟨q,k,I4,qn⟩
 ·refine PU a (bN (T.item X rfl rfl rfl M i aa K q k X.xe S (t Q) R go) λr s4 ⟨u,hr,h4⟩=>?_);subst hr;refine PU a (bN h4 λ_ G zz=>?_);obtain⟨x,V,I5,r5,y5,C,UW⟩:=zz;have y:=I5.pinned (t UW) (T.obj _ _ C);refine PU a (bN (hg _ G q V x u _ y r5 (step x V y5)) λ_ s6 ⟨l,H6,I6,q6⟩=>?_);refine PU a (bN (hb _ s6 l H6 _ I6 q6) λf p L=>?_);have again:∀{j:St} {B:Hp},Inv X (aa++LF c G.heap) j B p->N j B->∃m,m<n/\∃i J' H',Inv X aa J' H' p/\F i p.heap/\(∀b∈c,H' b=ak)/\W i m J' H':=λ{j B} z U=>by
   obtain⟨m',hm,w7⟩:=hN j B U;refine⟨m',hm,i+1,j,B,z.KG,T.keep _ _ _ C λb hb o e=>(z.pin (b,o) (nL _ (nL _ (LM hb e)))).1,λb hb=>?_,w7⟩;obtain⟨o,e,d⟩:=T.obj _ _ C b hb;exact(z.pin (b,o) (nL _ (nL _ (LM hb e)))).2.1
  cases f with
  |next=>obtain⟨j,B,z,U⟩:=L;exact again z U
  |cont=>obtain⟨j,B,z,U⟩:=L;exact again z U
  |brk=>obtain⟨j,B,z,L⟩:=L;exact⟨j,B,z.KG,L⟩
  |ret v=>obtain⟨x7,j,B,z,r7,L⟩:=L;exact⟨x7,j,B,z.KG,r7,L⟩
end
abbrev R2:=V->V->Hp->VK->Prop
def iE(X:Cx)(f:aj->aj->Sem aj)(r:R2):Prop :=
 ∀(aa:ai (aq×cj)) (s:ar) (J:St) (H:Hp) (x y:V) (v u:aj) (Q:VK),Inv X aa J H s->RelV x v->RelV y u->r x y H Q ->
  wpAny (bc X.prog X.w) X.A (f v u) (EP X aa J Q) X.xe s
def mT(X:Cx)(f:aj)(r:ai V->Hp->VK->Prop):Prop :=
 ∀(aa:ai (aq×cj)) (s:ar) (J:St) (H:Hp) (xs:ai V) (us:ai aj) (Q:VK),Inv X aa J H s->Vals xs us->r xs H Q ->
  wpAny (bc X.prog X.w) X.A (call f us) (EP X aa J Q) X.xe s
def KL(r:R2)(ta tb:TE):TE:=λJ H Q=>ta J H λx H1=>tb J H1 λy H2=>r x y H2 Q
def rI(C:a6->a6->Prop)(g:a6->a6->V):R2:=λx y H Q=>∃i j,x=.int i/\y=.int j/\C i j/\Q (g i j) H
def wR(g:a6->a6->V):R2:=λx y H Q=>∃i j,x=.int i/\y=.int j/\Q (g i j) H
section
variable{X:Cx}{a b c:bp}{ta tb tc:TE}{pos:cq}
theorem Ir(ha:PE X a ta)(hb:PE X b tb){aa:ai (aq×cj)}{s:ar}{J:St}{H:Hp}{R:V->V->Hp->Prop}(I:Inv X aa J H s)
  (h:ta J H λx H1=>tb J H1 λy H2=>R x y H2) {Q:aj->ar->Prop} {f:aj->aj->Sem aj}
  (U:∀v u j x y H2,Inv X aa J H2 j->RelV x v->RelV y u->R x y H2->wpAny (bc X.prog X.w) X.A (f v u) Q X.xe j) :
  wpAny (bc X.prog X.w) X.A (br a X.env) (λv s₁=>wpAny (bc X.prog X.w) X.A (br b X.env) (λu s₂=>wpAny (bc X.prog X.w) X.A (f v u) Q X.xe s₂) X.xe s₁) X.xe s:=by
 refine bN (ha aa s J H _ I h) λv s1 ⟨x,H1,d,z,L⟩=>?_;refine bN (hb aa s1 J H1 _ d L) λu j ⟨y,H2,c,q,B⟩=>?_;exact U v u j x y H2 c z q B
theorem ak1{j:Operator}{r:R2}(U:iE X (cu j) r)(ha:PE X a ta)(hb:PE X b tb):PE X (.BinOp a j b pos) (KL r ta tb):=by
 intro aa s J H Q I h;exact wpAny_BinOp (Ir ha hb I h λv u z x y d c L B q=>U aa z J d x y v u Q c L B q)
theorem SF{f:aj->aj->Sem aj}{C:a6->a6->Prop}{g:a6->a6->a6}
  (rule:∀(i j:a6) (t u:Tok) (s:ar) (Q:aj->ar->Prop) (E:aj->ar->Prop),C i j->Q (.int (g i j) s.toks) {s with toks:=s.toks+1}->wpAny (bc X.prog X.w) X.A (f (.int i t) (.int j u)) Q E s) :
  iE X f (rI C λi j => .int (g i j)):=by
 intro aa s J H x y v u Q I L B h;obtain⟨i,j,rfl,rfl,U,q⟩:=h;obtain⟨t,rfl⟩:=L;obtain⟨z,rfl⟩:=B;exact rule i j t z s _ _ U ⟨.int (g i j),H,I.tok _,⟨_,rfl⟩,q⟩
theorem Th{f:aj->aj->Sem aj}{g:a6->a6->a6}
  (rule:∀(i j:a6) (t u:Tok) (s:ar) (Q:aj->ar->Prop) (E:aj->ar->Prop),Q (.int (g i j) s.toks) {s with toks:=s.toks+1}->wpAny (bc X.prog X.w) X.A (f (.int i t) (.int j u)) Q E s) :
  iE X f (wR λi j => .int (g i j)):=by
 intro aa s J H x y v u Q I L B h;obtain⟨i,j,rfl,rfl,q⟩:=h;obtain⟨t,rfl⟩:=L;obtain⟨z,rfl⟩:=B;exact rule i j t z s _ _ ⟨.int (g i j),H,I.tok _,⟨_,rfl⟩,q⟩
theorem SG{f:aj->aj->Sem aj}{g:a6->a6->bb}
  (rule:∀(i j:a6) (t u:Tok) (s:ar) (Q:aj->ar->Prop) (E:aj->ar->Prop),Q (.bool (g i j)) s->wpAny (bc X.prog X.w) X.A (f (.int i t) (.int j u)) Q E s) :
  iE X f (wR λi j => .bl (g i j)):=by
 intro aa s J H x y v u Q I L B h;obtain⟨i,j,rfl,rfl,q⟩:=h;obtain⟨t,rfl⟩:=L;obtain⟨z,rfl⟩:=B;exact rule i j t z s _ _ ⟨.bl (g i j),H,I,rfl,q⟩
def oF(i j:a6):Prop:=0<j/\j<1073741824
def AO(i j:a6):Prop:=0<=j/\j<=1000000/\i.natAbs<2 ^ 64
def oE(i j:a6):Prop:=(-(2 ^ 64)<i/\i<2 ^ 64)\/(-(2 ^ 64)<j/\j<2 ^ 64)
theorem oE.ok{i j:a6}(h:oE i j):IntMulOk i j:=by
 rcases h with⟨h1,h2⟩|⟨h1,h2⟩
 ·exact .of_left (intBits_le_64 h1 h2)
 ·exact .of_right (intBits_le_64 h1 h2)
theorem amD:iE X (cu .Add) (wR λi j => .int (i+j)):=Th λ_ _ _ _ _ _ _ q=>add_int q
theorem alY:iE X (cu .Sub) (wR λi j => .int (i-j)):=Th λ_ _ _ _ _ _ _ q=>sub_int q
theorem al2:iE X (cu .Mult) (rI oE λi j => .int (i*j)):=SF λ_ _ _ _ _ _ _ z q=>mul_int q z.ok
theorem al9:iE X (cu .FloorDiv) (rI oF λi j => .int (i/j)):=SF λi j _ _ _ _ _ z q=>by
 have h1:(0:a6)<j:=z.1;have h2:j<1073741824:=z.2;exact floordiv_int (by omega) (by rw[Int.fdiv_eq_ediv_of_nonneg i (by omega)];exact q) (.inl (PyProof.noPylong_small (by omega)))
theorem al3:iE X (cu .Mod) (rI (λ_ j=>0<j) λi j => .int (i%j)):=SF λi j _ _ _ _ _ z q=>by
 have h1:(0:a6)<j:=z;exact mod_int' (by omega) (by rw[Int.fmod_eq_emod_of_nonneg i (by omega)];exact q)
theorem alZ:iE X (cu .Pow) (rI AO λi j => .int (i ^ j.toNat)):=SF λ_ _ _ _ _ _ _ z q=>pow_int_small z.1 z.2.1 z.2.2 q
theorem awD{aa:ai (aq×cj)}{J:St}{H:Hp}{s:ar}{Q:VK}{k j:bb}(I:Inv X aa J H s)(q:Q (.bl k) H)(e:k=j):EP X aa J Q (.bool j) s:=by
 subst e;exact⟨.bl k,H,I,rfl,q⟩
theorem al4:iE X (b1 .Lt) (wR λi j => .bl (decide (i<j))):=SG λ_ _ _ _ _ _ _ q=>lt_int q
theorem al5:iE X (b1 .LtE) (wR λi j => .bl (decide (i<=j))):=SG λ_ _ _ _ _ _ _ q=>le_int q
theorem al7:iE X (b1 .Gt) (wR λi j => .bl (decide (j<i))):=SG λ_ _ _ _ _ _ _ q=>gt_int q
theorem al8:iE X (b1 .GtE) (wR λi j => .bl (decide (j<=i))):=SG λ_ _ _ _ _ _ _ q=>ge_int q
theorem al6:iE X (b1 .Is) (λx y H Q=>y=.bQ/\Q (.bl (decide (x=.bQ))) H):=by
 intro aa s J H x y v u Q I j z h;obtain⟨rfl,q⟩:=h;cases z;refine is_none_gen (awD I q ?_);cases x <;> first
  |(cases j;rfl)
  |(obtain⟨t,rfl⟩:=j;rfl)
theorem iE.or{f:aj->aj->Sem aj}{r B:R2}(h:iE X f r)(h':iE X f B):iE X f (λx y H Q=>r x y H Q\/B x y H Q):=by
 intro aa s J H x y v u Q I z j q
 rcases q with q|q
 ·exact h aa s J H x y v u Q I z j q
 ·exact h' aa s J H x y v u Q I z j q
theorem cZ(b:bp){j:CmpOp}(h:j≠.In:=by decide)(h2:j≠.NotIn:=by decide):c2 j b=ao:=by
 have z:(j==CmpOp.In)=ao:=by cases j <;> first|rfl|exact bz rfl h
 have q:(j==CmpOp.NotIn)=ao:=by cases j <;> first|rfl|exact bz rfl h2
 cases b <;> simp[c2,z,q]
theorem alI{j:CmpOp}{r:R2}(U:iE X (b1 j) r)(ha:PE X a ta)(hb:PE X b tb)(hm:c2 j b=ao):PE X (.Compare a [j] [b] pos) (KL r ta tb):=by
 intro aa s J H Q I h;exact wpAny_Compare1 (Ir ha hb I h λv u z x y d c L B q=>U aa z J d x y v u Q c L B q) hm
def Py(t:TE):TT:=λJ H Q=>t J H λx H'=>∃k,x=.bl k/\Q k H'
theorem aj1{j:CmpOp}{r:R2}(i:iE X (b1 j) r)(ha:PE X a ta)(hb:PE X b tb)(hm:c2 j b=ao):PT X (.Compare a [j] [b] pos) (Py (KL r ta tb)):=by
 intro aa s J H Q I h;refine wpAny_isTrue_Compare1 (bN (ha aa s J H _ I h) λv s1 ⟨x,t,n,U,g⟩=>bN (hb aa s1 J t _ n g) λu q ⟨y,p,m,L,f⟩ =>
  bN (i aa q J p x y v u _ m U L f) λc w ⟨z,o,l,B,k,e,d⟩=>?_) hm
 subst e;cases B;exact JL ⟨o,l,d⟩
def Qd(r B:R2)(ta tb tc:TE):TE:=λJ H Q=>ta J H λx H1=>tb J H1 λy H2=>r x y H2 λz j=>∃k,z=.bl k /\
 (if k=au then tc J j λq L=>B y q L Q else Q (.bl ao) j)
theorem alJ{j q:CmpOp}{r L:R2}(F:iE X (b1 j) r)(E:iE X (b1 q) L)(ha:PE X a ta)(hb:PE X b tb)(G:PE X c tc)
  (hm:lastMarks [j,q] [b,c]=ao:=by with_unfolding_all rfl):PE X (.Compare a [j,q] [b,c] pos) (Qd r L ta tb tc):=by
 intro aa s J H Q I h;refine Compare_chain (bN (ha aa s J H _ I h) λv s1 ⟨x,S,N,w,D⟩=>chain_link (bN (hb aa s1 J S _ N D) λu o ⟨y,R,M,B,C⟩ =>
  bN (F aa o J R x y v u _ M w B C) λd n ⟨z,g,f,t,k,e,U⟩=>?_)) hm
 subst e;cases t;refine JL ?_;cases k with
 |false=>exact ite_ff ⟨.bl ao,g,f,rfl,U⟩
 |true=>exact ite_tt (chain_last (bN (G aa n J g _ f U) λl m ⟨i,P,K,p,A⟩=>E aa m J P y i u l Q K B p A))
theorem LR:(a7:ay)<2 ^ 63:=by rw[jP];decide
theorem vals1{x:V}{us:ai aj}(r:Vals [x] us):∃u,us=[u]/\RelV x u:=by
 cases r with
 |cons q j=>cases j;exact⟨_,rfl,q⟩
theorem vals2{x y:V}{us:ai aj}(r:Vals [x,y] us):∃u j,us=[u,j]/\RelV x u/\RelV y j:=by
 cases r with
 |cons L B =>
  cases B with
  |cons z q=>cases q;exact⟨_,_,rfl,L,z⟩
theorem aAD(B:X.calm=au):mT X (.builtin "min") (λxs H Q=>∃i j,xs=[.int i,.int j]/\Q (.int (if j<i then j else i)) H):=by
 intro aa s J H xs us Q I r h;obtain⟨i,j,rfl,q⟩:=h;obtain⟨u,L,rfl,⟨t,rfl⟩,⟨U,rfl⟩⟩:=vals2 r;refine min_two_ints (I.ok.hd B) λh' tk k=>⟨_,H,I.kept k,?_,q⟩
 by_cases z:j<i
 ·rw[ax z,ax z];exact⟨_,rfl⟩
 ·rw[a8 z,a8 z];exact⟨_,rfl⟩
theorem aAL:mT X (.type "int") (λxs H Q=>(∃i,xs=[.int i]/\Q (.int i) H)\/∃k,xs=[.bl k]/\Q (.int (if k then 1 else 0)) H):=by
 intro aa s J H xs us Q I r h
 rcases h with⟨i,rfl,q⟩|⟨k,rfl,q⟩
 ·obtain⟨u,rfl,t,rfl⟩:=vals1 r;exact call_int_int ⟨.int i,H,I,⟨_,rfl⟩,q⟩
 ·obtain⟨u,rfl,j⟩:=vals1 r;cases j;exact call_int_bool ⟨.int (if k then 1 else 0),H,I.tok _,⟨_,rfl⟩,q⟩
end
structure DF(h:bu)(x dx C:aq)(mA:a5->av aj):Prop where
 obj:h.get? x=ah (instObj C dx)
 ns:h.Ns1 dx mA
 ne:dx≠x
theorem aoG{h:bu}{dx:aq}{mA:a5->av aj}(n:h.Ns1 dx mA):∃od,h.get? dx=ah od/\∀name,lookIn name od=ah (mA name):=by
 obtain⟨o,es,b,j,hd,B,_,hm⟩:=n;refine⟨o,j,λname=>?_⟩;have e:=hm name;unfold nsFind findBy at e;rw[<-Array.find?_toList]at e;unfold lookIn;rw[hd];dsimp only;split
 ·rename_i y q;rw[q]at e;exact b7 ah e
 ·rename_i q;rw[q]at e;have a:es.toList.any (·.refKey)=ao:=by
   rw[List.any_eq_false];intro y hy;obtain⟨z,t,U⟩:=B y (Array.mem_toList_iff.mp hy);simp[DictEntry.refKey,U]
  have L:¬es.toList.any (·.refKey)=au:=by rw[a];exact Bool.false_ne_true
  rw[a8 L];exact b7 ah e
theorem DF.look{h:bu}{x dx C:aq}{mA:a5->av aj}(I:DF h x dx C mA):∃od,PySem.W.InstAt h x (instObj C dx) C (ah od)/\∀name,lookIn name od=ah (mA name) :=
 let ⟨od,j,hl⟩:=aoG I.ns
 ⟨od,⟨I.obj,rfl,rfl,j⟩,hl⟩
section
variable{prog:a9}{w:bh}{A:bj}{E:aj->ar->Prop}{s:ar}{K:ba}{x dx C f:aq}{mA:a5->av aj}{name:a5}{v:aj}
theorem get_map{expr:bb}{Q:aj->ar->Prop}(X:K.In s.heap)(I:DF s.heap x dx C mA)(j:plainGet K C name=au)(hh:hasDictIn K C=au)
  (ha:bx K (.ref C) name=ah ak) (hv:mA name=ah v) (q:PySem.W.handedIn v=au) (h:Q v {s with toks:=s.toks+1}) :
  wpAny (bc prog w) A (getAttr (.ref x) name expr) Q E s:=by
 obtain⟨od,σ,hl⟩:=I.look;exact PySem.W.get_value X σ (plainGet_of j).1 (PySem.W.findObj_own hh ha rfl (by rw[hl,hv])) q h
theorem avO{pl:Sem bb}{Q:aj×ai aj->ar->Prop}(X:K.In s.heap)(I:DF s.heap x dx C mA)(j:plainGet K C name=au)
  (q:bx K (.ref C) name=ah (ah (.ref f))) (ht:isFn K (.ref f)=au) (hv:mA name=ak) (h:Q (.ref f,[.ref x]) s) :
  wpAny (bc prog w) A (dj (.ref x) name pl) Q E s:=by
 obtain⟨od,σ,hl⟩:=I.look;exact PySem.W.method_fn X σ (plainGet_of j).1 (plainGet_of j).2 q (vU.mp ht) (by show(lookIn name od).map (·.isSome)=ah ao;rw[hl,hv];rfl) h
theorem agQ{ns:ai a5}{Q:Unit->ar->Prop}(X:K.In s.heap)(I:DF s.heap x dx C mA)
  (hs:bx K (.ref C) "__setattr__" = ah (ah (.builtin "object.__setattr__"))) (d:PySem.W.plainOver K C=au) (ht:takerIn K C name=ah ak) (hh:hasDictIn K C=au)
  (c:PySem.Within mA ns) (hsz:ns.length<=a7)
  (h:∀h',DF h' x dx C (λy=>if y=name then ah v else mA y)->Heap.SameBut dx s.heap h'->Q () {s with heap:=h',toks:=s.toks+2}) :
  wpAny (bc prog w) A (setAttr (.ref x) name v) Q E s:=by
 obtain⟨od,σ,hl⟩:=I.look;refine PySem.W.set_plain X σ hs (PySem.W.osa_open (s:={s with toks:=s.toks+1}) (r:=ak) X σ d ht λb=>?_);obtain⟨l,e,i⟩:=PySem.W.any_some hh;have U:s.heap.get? x=ah ⟨.ref C,ah dx,.plain,#[]⟩:=I.obj;refine aJ (bG (aJ (aJ (wpAny_loadPart U (aJ (PySem.W.Looks.here (s:={s with toks:=s.toks+1}) (PySem.W.looks_clsIn X e) ?_))))));rw[i];refine bG (a:=ah dx) (aJ (bG (aJ ?_)));refine wpAny_nsSet1 (s:={s with toks:=s.toks+1}) I.ns λh' L B=>?_;obtain⟨k,f,g,j,q,z⟩:=L.count (PySem.Within.cons name v c);refine aJ (wpAny_lookBehind j (by rw[q];exact pastItsLine_dict (xY z (by rw[lH];omega))) ?_);exact bG (h _ ⟨(B.2 _ (cK I.ne)).trans I.obj,L,I.ne⟩ B)
theorem aoA{R:Result->ar->Prop}{vs:ai aj}{kw:ai (a5×aj)}(X:K.In s.heap)(hm:makesIn K C=au)
  (hi:bx K (.ref C) "__init__" = ah (ah (.ref f))) (j:PySem.W.typeIn K (.ref f)=ah (.type "function"))
  (h:codeAny (bc prog w) (A.under (.builtin "type.__call__" ⟨.ref C::vs,kw⟩)) (.call (.ref f) ⟨.ref (s.heap.objs.size+1)::vs,kw⟩) (PySem.W.InitBack (s.heap.objs.size+1) R)
   {s with heap:=(s.heap.push du).push (instObj C s.heap.objs.size)}) :
  codeAny (bc prog w) A (.call (.ref C) ⟨vs,kw⟩) R s:=by
 obtain⟨hh,g,d,t,os⟩:=s;exact PySem.W.make_core (PySem.W.makes_of X hm) (looks_findIn X hi) (λself=>PySem.W.bind_fn X self j) (.inl rfl) h
end
noncomputable def iV(f:a5)(v:V):ai (a5×V)->ai (a5×V)
 |[]=>[(f,v)]
 |(g,x)::r=>if g=f then(g,v)::r else(g,x)::iV f v r
theorem Ui(f g:a5)(v:V):∀fs:ai (a5×V),(iV f v fs).lookup g=if g=f then ah v else fs.lookup g
 |[]=>by
  show List.lookup g [(f,v)]=_
  by_cases h:g=f
  ·have hb:(g==f)=au:=vU.mpr h;simp only[List.lookup,hb,ax h]
  ·have hb:(g==f)=ao:=vV.mpr h;simp only[List.lookup,hb,a8 h]
 |(k,x)::r=>by
  have ih:=Ui f g v r;rw[show iV f v ((k,x)::r)=(if k=f then(k,v)::r else(k,x)::iV f v r)from rfl]
  by_cases j:k=f
  ·rw[ax j]
   by_cases h:g=k
   ·have hb:(g==k)=au:=vU.mpr h;simp only[List.lookup,hb,ax (h.trans j)]
   ·have hb:(g==k)=ao:=vV.mpr h;simp only[List.lookup,hb,a8 (λe:g=f=>h (e.trans j.symm))]
  ·rw[a8 j]
   by_cases h:g=k
   ·have hb:(g==k)=au:=vU.mpr h;simp only[List.lookup,hb,a8 (λe:g=f=>j (h.symm.trans e))]
   ·have hb:(g==k)=ao:=vV.mpr h;simp only[List.lookup,hb];exact ih
theorem Ej(f:a5)(v:V):∀fs:ai (a5×V),f∈(iV f v fs).map (·.1)/\∀g,g∈fs.map (·.1)->g∈(iV f v fs).map (·.1)
 |[]=>⟨by simp[iV],λg h=>by simp at h⟩
 |(k,x)::r=>by
  obtain⟨z,q⟩:=Ej f v r;rw[show iV f v ((k,x)::r)=(if k=f then(k,v)::r else(k,x)::iV f v r)from rfl]
  by_cases j:k=f
  ·rw[ax j];subst j;exact⟨by simp,λg h=>by simpa using h⟩
  ·rw[a8 j];refine⟨?_,λg h=>?_⟩
   ·rw[cW];exact gQ _ z
   ·rw[cW]at h ⊢
    rcases eB.mp h with e|e
    ·exact eB.mpr (.inl e)
    ·exact gQ _ (q g e)
theorem Us(f:a5)(v:V):∀fs:ai (a5×V),(iV f v fs).length<=fs.length+1
 |[]=>by simp[iV]
 |(k,x)::r=>by
  have ih:=Us f v r;rw[show iV f v ((k,x)::r)=(if k=f then(k,v)::r else(k,x)::iV f v r)from rfl]
  by_cases j:k=f
  ·rw[ax j,lH,lH];omega
  ·rw[a8 j,lH,lH];omega
theorem nJ.some_of{v:V}{o:av aj}(r:nJ (ah v) o):∃u,o=ah u/\RelV v u:=by
 cases o with
 |none=>exact(show b5 from r).elim
 |some u=>exact⟨u,rfl,r⟩
theorem nJ.none_of{o:av aj}(r:nJ ak o):o=ak:=by
 cases o with
 |none=>rfl
 |some u=>exact(show b5 from r).elim
theorem Wt{v:V}{u:aj}(r:RelV v u):PySem.W.handedIn u=au:=by
 cases v with
 |bQ=>cases(show u=Value.none from r);rfl
 |bl b=>cases(show u=Value.bool b from r);rfl
 |int i=>obtain⟨t,e⟩:=(show ∃t,u=Value.int i t from r);cases e;rfl
 |str x=>obtain⟨t,e⟩:=(show ∃t,u=Value.str x t from r);cases e;rfl
 |VQ b=>obtain⟨t,e⟩:=(show ∃t,u=Value.bytes b t from r);cases e;rfl
 |CP b=>obtain⟨t,e⟩:=(show ∃t,u=Value.float b t from r);cases e;rfl
 |ref a=>cases(show u=Value.ref a from r);rfl
 |ty n=>cases(show u=Value.type n from r);rfl
section
variable{P:a9}{w:bh}{H H':Hp}{h h':bu}{a C dx:aq}{fs mH:ai (a5×V)}
theorem TJ(aL:fE P w H h)(e:H a=ah (.ins C dx fs)):∃mA,DF h a dx C mA/\(∀f,nJ (fs.lookup f) (mA f))/\PySem.Within mA (fs.map (·.1))/\fs.length<=1000/\H dx=ah (.own a):=by
 obtain⟨d,z,ne,ob,mA,n,r,q⟩:=(show gP P w H h a (.ins C dx fs)from aL a _ e);exact⟨mA,⟨ob,n,ne⟩,r,q,z,d⟩
end
structure mS(K:ba)(C:aq):Prop where
 pg:plainGet K C Str.empty=au
 hd:hasDictIn K C=au
 po:PySem.W.plainOver K C=au
 sa:bx K (.ref C) "__setattr__" = ah (ah (.builtin "object.__setattr__"))
theorem mS.get{K:ba}{C:aq}(c:mS K C)(f:a5):plainGet K C f=au:=c.pg
def DG(K:ba)(C:aq)(f:a5):Prop:=bx K (.ref C) f=ah ak
theorem DG.ad9{K:ba}{C:aq}{f:a5}(n:DG K C f):takerIn K C f=ah ak:=by
 unfold takerIn;rw[show bx K (.ref C) f=ah ak from n];rfl
structure Meth(K:ba)(C:aq)(m:a5)(f:aq):Prop where
 at_:bx K (.ref C) m=ah (ah (.ref f))
 fn:isFn K (.ref f)=au
 kp:keepIn K (.ref f)=au
section
variable{X:Cx}{aa:ai (aq×cj)}{J:St}{H:Hp}{s:ar}{a C dx:aq}{fs:ai (a5×V)}{f:a5}{v:V}{A:bj}{E:aj->ar->Prop}
theorem avN{b:bb}{Q:aj->ar->Prop}(I:Inv X aa J H s)(e:H a=ah (.ins C dx fs))(c:mS X.K C)(n:DG X.K C f)(l:fs.lookup f=ah v)
  (h:∀u s',Inv X aa J H s'->RelV v u->Q u s'):wpAny (bc X.prog X.w) A (getAttr (.ref a) f b) Q E s:=by
 obtain⟨q,ι,r,_,_,_⟩:=TJ I.aL e;obtain⟨u,z,j⟩:=nJ.some_of (v:=v) (o:=q f) (by rw[<-l];exact r f);exact get_map I.fB ι (c.get f) c.hd n z (Wt j) (h u _ (I.tok _) j)
theorem Gu{m:a5}{g:aq}{pl:Sem bb}{Q:aj×ai aj->ar->Prop}(I:Inv X aa J H s)(e:H a=ah (.ins C dx fs))(c:mS X.K C)(k:Meth X.K C m g)(l:fs.lookup m=ak)
  (h:Q (.ref g,[.ref a]) s):wpAny (bc X.prog X.w) A (dj (.ref a) m pl) Q E s:=by
 obtain⟨j,ι,r,_,_,_⟩:=TJ I.aL e;have hn:j m=ak:=nJ.none_of (by rw[<-l];exact r m);exact avO I.fB ι (c.get m) k.at_ k.fn hn h
theorem agO{y:V}{u:aj}{Q:Unit->ar->Prop}(I:Inv X aa J H s)(e:H a=ah (.ins C dx fs))(c:mS X.K C)(n:DG X.K C f)(hl:fs.length<1000)(i:RelV y u)
  (h:∀s',Inv X aa J (upd H a (.ins C dx (iV f y fs))) s'->Q () s'):wpAny (bc X.prog X.w) A (setAttr (.ref a) f u) Q E s:=by
 obtain⟨L,ι,r,B,_,U⟩:=TJ I.aL e;have k:(fs.map (·.1)).length<=a7:=by rw[fI,jP];omega
 refine agQ I.fB ι c.sa c.po n.ad9 c.hd B k λh' j d=>h _ ?_;have hd:∃o,h'.get? dx=ah o:=let ⟨o,_,_,m,_⟩:=j.ns; ⟨o,m⟩;refine I.write (x:=a) (e:=dx) (by rw[e];exact True.intro) (.inr U) (λb q hb z=>(d.2 b hb).trans z) hd ?_;refine⟨by rw[bH ι.ne];exact U,?_,ι.ne,j.obj,_,j.ns,λg=>?_,λg l=>?_⟩
 ·have:=Us f y fs;omega
 ·show nJ ((iV f y fs).lookup g) (if g=f then ah u else L g);rw[Ui]
  by_cases q:g=f
  ·rw[ax q,ax q];exact i
  ·rw[a8 q,a8 q];exact r g
 ·by_cases q:g=f
  ·rw[q];exact(Ej f y fs).1
  ·refine(Ej f y fs).2 g (B g λz=>l ?_);show(if g=f then ah u else L g)=ak;rw[a8 q];exact z
theorem Inv.made(I:Inv X aa J H s):Inv X aa J (upd (upd H s.heap.objs.size (.own (s.heap.objs.size+1))) (s.heap.objs.size+1) (.ins C s.heap.objs.size []))
  {s with heap:=(s.heap.push du).push (instObj C s.heap.objs.size)}:=by
 have j:(s.heap.push du).get? s.heap.objs.size=ah du:=fW s.heap rfl;have B:((s.heap.push du).push (instObj C s.heap.objs.size)).get? (s.heap.objs.size+1)=ah (instObj C s.heap.objs.size):=by
  have:=fW (s.heap.push du) (o:=instObj C s.heap.objs.size) rfl;rwa[IU]at this
 have z:(s.heap.push du).Ns s.heap.objs.size (λ_=>ak):=⟨du,#[],_,j,rfl,(λe he=>bz he (by simp)),λ_=>rfl⟩;have L:=I.laid (a:=s.heap.objs.size) (o:=.own (s.heap.objs.size+1)) (h':=s.heap.push du) (t':=s.toks) (λb u q=>dD _ q) cU ⟨_,j⟩;refine L.laid (a:=s.heap.objs.size+1) (o:=.ins C s.heap.objs.size []) (t':=s.toks) (λb u q=>dD _ q) (Nat.le_of_eq (IU _ _)) ?_;have ne:s.heap.objs.size≠s.heap.objs.size+1:=dX (Ld _);refine⟨by rw[bH ne,eA],IA _,ne,B,λ_=>ak,(Heap.Ns1.of_empty z).at λo q=>dD _ q,λ_=>True.intro,λy hy=>bz rfl hy⟩
theorem aBU{prog:a9}{w:bh}{env:Env}{e:bp}{f:a5}{pos:cq}{s:ar}{Q:aj->ar->Prop}(hb:bw e f env (br e env)=br e env)
  (h:wpAny (bc prog w) A (br e env) (λo s₁=>wpAny (bc prog w) A (getAttr o f au) Q E s₁) E s):wpAny (bc prog w) A (br (.Attribute e f pos) env) Q E s :=
 Attribute_any_ h (by rw[arm_eval_Attribute,hb])
end
def Qb(K:ba)(ta:TE)(f:a5):TE:=λJ H Q=>ta J H λx H1=>∃a C dx fs v,x=.ref a/\H1 a=ah (.ins C dx fs)/\mS K C/\DG K C f/\fs.lookup f=ah v/\Q v H1
def ah9(K:ba)(ta tv:TE)(f:a5):TS:=λD J H=>tv J H λy H1=>ta J H1 λx H2=>∃a C dx fs,x=.ref a/\H2 a=ah (.ins C dx fs)/\mS K C/\DG K C f/\fs.length<1000 /\
 D.nx J (upd H2 a (.ins C dx (iV f y fs)))
section
variable{X:Cx}{o e value:bp}{f:a5}{pos pos' adZ:cq}{ta tv:TE}
theorem FI(he:PE X e ta)(hb:bw e f X.env (br e X.env)=br e X.env):PE X (.Attribute e f pos) (Qb X.K ta f):=by
 intro aa s J H Q I h;refine aBU hb (bN (he aa s J H _ I h) λu s1 zz=>?_);obtain⟨x,b,U,j,a,C,i,fs,v,ex,B,c,n,l,q⟩:=zz;subst ex;obtain rfl:u=Value.ref a:=j;exact avN U B c n l λd g L z=>⟨v,b,L,z,q⟩
theorem akF(ha:PE X o ta)(hv:PE X value tv)(hs:da value (ah (.Attribute o f pos')) pos.line X.env=pure ao):PS X (.Assign [.Attribute o f pos'] value pos) (ah9 X.K ta tv f):=by
 intro aa s J H D I h;refine plainObj_wpAny_Assign_Attribute (bN (hv aa s J H _ I h) λu s1 ⟨y,g,e,j,q⟩=>bN (ha aa s1 J g _ e q) λL k zz=>?_) hs;obtain⟨x,p,d,z,a,C,m,fs,ex,U,c,n,l,B⟩:=zz;subst ex;obtain rfl:L=Value.ref a:=z;exact agO d U c n l j λi b=>⟨J,_,b,B⟩
end
section
variable{X:Cx}{aa:ai (aq×cj)}{J:St}{H:Hp}{s:ar}{A:bj}{E:aj->ar->Prop}{Q:aj->ar->Prop}{c:aj}{b:bb}
inductive qF(K:ba)(H:Hp):V->aj->Prop where
 | bQ:qF K H .bQ (.type "NoneType")
 | bl (x:bb):qF K H (.bl x) (.type "bool")
 | int (i:a6):qF K H (.int i) (.type "int")
 | str (x:a5):qF K H (.str x) (.type "str")
 | CP (x:UInt64):qF K H (.CP x) (.type "float")
 | lst {a:aq} {xs:ai V} (e:H a=ah (.lst xs)):qF K H (.ref a) (.type "list")
 | dW {a:aq} {o:cj} {xs:ai V} (e:H a=ah (.dW o (.lst xs))):qF K H (.ref a) (.type "list")
 | tup {a:aq} {xs:ai V} (e:H a=ah (.tup xs)):qF K H (.ref a) (.type "tuple")
 | dK {a:aq} {kvs:ai (Key×V)} (e:H a=ah (.dK kvs)):qF K H (.ref a) (.type "dict")
 | dT {a:aq} {kvs:ai (ai Key×V)} (e:H a=ah (.dT kvs)):qF K H (.ref a) (.type "dict")
 | ins {a C dx:aq} {fs:ai (a5×V)} (e:H a=ah (.ins C dx fs)) (cl:mS K C) (ha:bx K (.ref C) "__class__" = ah (ah (.builtin "object.__class__")))
   (hn:specialIn K (.builtin "object.__class__") "__get__" = ah (ah (.builtin "getset_descriptor.__get__"))) (Vs:takesIn K (.builtin "object.__class__")=ah au)
   (hm:mroIn K C (.type "object")=ah au):qF K H (.ref a) (.ref C)
theorem aq2{x:V}{u t:aj}(I:Inv X aa J H s)(j:RelV x u)(ty:qF X.K H x t)(e:c7 X.K t c=ah b)(h:∀tk,Q (.bool b) {s with toks:=tk}) :
  wpAny (bc X.prog X.w) A (call (.builtin "isinstance") [u,c]) Q E s:=by
 cases ty with
 |bQ=>cases(show u=Value.none from j);exact dk PySem.W.kitx_none I.fB True.intro e (λz=>nomatch z) h
 |bl y=>cases(show u=Value.bool y from j);exact dk PySem.W.kitx_bool I.fB True.intro e (λz=>nomatch z) h
 |int i=>obtain⟨t,q⟩:=(show ∃t,u=Value.int i t from j);cases q;exact dk PySem.W.kitx_int I.fB True.intro e (λz=>nomatch z) h
 |str y=>obtain⟨t,q⟩:=(show ∃t,u=Value.str y t from j);cases q;exact dk PySem.W.kitx_str I.fB True.intro e (λz=>nomatch z) h
 |CP y=>obtain⟨t,q⟩:=(show ∃t,u=Value.float y t from j);cases q;exact dk PySem.W.kitx_float I.fB True.intro e (λz=>nomatch z) h
 | @lst a U B =>
  cases(show u=Value.ref a from j);obtain⟨_,_,n,_,h1⟩:=(show gP X.prog X.w H s.heap a (.lst U)from I.aL a _ B);exact dk PySem.W.kitx_list I.fB ⟨_,h1,rfl⟩ e (λz=>nomatch z) h
 | @dW a ob U B =>
  cases(show u=Value.ref a from j);obtain⟨_,_,_,n,_,h1⟩:=(show gP X.prog X.w H s.heap a (.dW ob (.lst U))from I.aL a _ B);exact dk PySem.W.kitx_list I.fB ⟨_,h1,rfl⟩ e (λz=>nomatch z) h
 | @tup a U B =>
  cases(show u=Value.ref a from j);obtain⟨_,_,_,p⟩:=(show gP X.prog X.w H s.heap a (.tup U)from I.aL a _ B);obtain⟨o,h1,h2,_⟩:=p;exact dk PySem.W.kitx_tuple I.fB ⟨o,h1,h2⟩ e (λz=>nomatch z) h
 | @dK a L B =>
  cases(show u=Value.ref a from j);obtain⟨_,_,vs,_,p⟩:=(show gP X.prog X.w H s.heap a (.dK L)from I.aL a _ B);obtain⟨o,es,d,h1,h2,_⟩:=p;exact dk PySem.W.kitx_dict I.fB ⟨o,h1,h2.1⟩ e (λz=>nomatch z) h
 | @dT a L B =>
  cases(show u=Value.ref a from j);obtain⟨_,_,U,_,o,es,d,h1,h2,_⟩:=(show gP X.prog X.w H s.heap a (.dT L)from I.aL a _ B);exact dk PySem.W.kitx_dict I.fB ⟨o,h1,h2.1⟩ e (λz=>nomatch z) h
 | @ins a C k fs B cl ha hn f hm =>
  cases(show u=Value.ref a from j);obtain⟨g,ι,_⟩:=TJ I.aL B;obtain⟨od,σ,_⟩:=ι.look;exact dk (PySem.W.kitx_own (cl.get _) cl.hd ha hn f hm) I.fB σ e (λz=>nomatch z) h
end
structure cE(k:ay)(A:bj):Prop where
 hd:A.handled=ak
 dp:A.depth+3*k+5<recursionLimit
 un:A.units+16*k+200<dw
theorem cE.mono{j k:ay}{A:bj}(r:cE k A)(h:j<=k):cE j A:=⟨r.hd,by have:=r.dp;omega,by have:=r.un;omega⟩
theorem cE.deeper{k:ay}{A:bj}(r:cE (k+1) A)(env:Env):cE k (A.deeper env) :=
 ⟨r.hd,by have:=r.dp;show A.depth+1+3*k+5<_;omega,by have:=r.un;show A.units+3+16*k+200<_;omega⟩
theorem aoB{A:bj}{C:aq}{us:ai aj}{kw:ai (a5×aj)}:(A.under (.builtin "type.__call__" ⟨.ref C::us,kw⟩)).depth=A.depth+1:=by
 first|rfl|simp[Around.under,Code.weight,Code.isCreation,Code.isGuard,Code.isCaller,Code.frames,Code.isFrame,guardIds]
theorem an9{A:bj}{C:aq}{us:ai aj}{kw:ai (a5×aj)}:(A.under (.builtin "type.__call__" ⟨.ref C::us,kw⟩)).units=A.units+1:=by
 first|rfl|simp[Around.under,Code.cUnits,Code.frames,Code.isFrame]
theorem cE.make{k:ay}{A:bj}(r:cE (k+1) A)(C:aq)(us:ai aj)(kw:ai (a5×aj)):cE k (A.under (.builtin "type.__call__" ⟨.ref C::us,kw⟩)) :=
 ⟨r.hd,by have:=r.dp;rw[aoB];omega,by have:=r.un;rw[an9];omega⟩
theorem cE.depth{k:ay}{A:bj}(r:cE k A):A.depth<recursionLimit:=by have:=r.dp;omega
theorem cE.units{k:ay}{A:bj}(r:cE k A):A.units+64<dw:=by have:=r.un;omega
def Pz:TA:=λ_ H Q=>Q [] H
def aeS(ta:TE)(j:TA):TA:=λJ H Q=>ta J H λx H1=>j J H1 λxs H2=>Q (x::xs) H2
section
variable{X:Cx}{e:bp}{es:ai bp}{te:TE}{t:TA}{pos:cq}
theorem wU:PA X [] Pz:=λ_ _ _ _ H Q I h=>PO ⟨[],H,I,.nil,h⟩
theorem wV(ha:PE X e te)(hr:PA X es t)(hs:az (e::es) X.env=(ao,br e X.env)::az es X.env:=by rfl):PA X (e::es) (aeS te t):=by
 intro pos aa s J H Q I h;rw[hs];show wpAny _ _ (spliced ((ao,br e X.env)::b8 pos (az es X.env))) _ _ s;refine JD (bN (ha aa s J H _ I h) λu s1 ⟨x,c,a,z,L⟩=>?_);exact bN (hr pos aa s1 J c _ a L) λus d ⟨j,b,U,q,B⟩=>⟨x::j,b,U,.cons z q,B⟩
def aeD(t:TA):TE:=λJ H Q=>t J H λxs H1=>xs.length<=a7/\∀p,H1 p=ak->Q (.ref p) (upd H1 p (.tup xs))
def aeL(t:TA):TE:=λJ H Q=>t J H λxs H1=>xs.length<=a7/\∀p,H1 p=ak->Q (.ref p) (upd H1 p (.lst xs))
theorem akX{U}(h:PA X es t):PE X (.Tuple es U pos) (aeD t):=by
 intro aa s J H Q I hq;refine wpAny_Tuple_spliced (bN (h pos aa s J H _ I hq) λus s1 ⟨L,B,j,r,z,q⟩=>⟨by rw[<-r.length];exact z,?_⟩);have a:B s1.heap.objs.size=ak:=j.aL.fresh cU;refine⟨.ref s1.heap.objs.size,upd B s1.heap.objs.size (.tup L),j.laid (t':=s1.toks) (λb u e=>dD _ e) cU ?_,rfl,q _ a⟩;exact⟨z,us,r,⟨_,fW _ rfl,rfl,_,rfl⟩⟩
theorem ak9(h:PA X es t):PE X (.List es pos) (aeL t):=by
 intro aa s J H Q I hq;refine wpAny_List_spliced (bN (h pos aa s J H _ I hq) λus s1 ⟨L,B,j,r,z,q⟩=>⟨by rw[<-r.length];exact z,?_⟩);have U:B s1.heap.objs.size=ak:=j.aL.fresh cU;refine⟨.ref s1.heap.objs.size,upd B s1.heap.objs.size (.lst L),j.laid (t':=s1.toks) (λb u e=>dD _ e) cU ?_,rfl,q _ U⟩;exact⟨z,us,0,r,fW _ rfl⟩
end
abbrev Sp:=ai V->Hp->VK->XK->Prop
abbrev oA:=ai Env->Hp->ar->XK->aj->ar->Prop
structure yJ(P:a9)(w:bh)(K:ba)(mg:a5->av aj)(base:bu)(A:bj)(outer:ai Env)(s:ar)(H:Hp):Prop where
 frames:A.frames=ah outer
 mod:Mod K mg base
 bs:∀b o,base.get? b=ah o->s.heap.get? b=ah o/\H b=ak
 qE:base.objs.size<=s.heap.objs.size
 nW:s.heap.FunFrames base outer
 sS:∀b∈iD outer,H b=ak
 aL:fE P w H s.heap
 bare:AllBare s.gens
def CE(outer:ai Env)(P:a9)(w:bh)(H:Hp)(s:ar)(Q:VK)(u:aj)(s':ar):Prop :=
 ∃v H',s'.os=s.os/\AllBare s'.gens/\Un (iD outer) [] H H' s.heap s'.heap/\fE P w H' s'.heap/\RelV v u/\Q v H'
def CR(CX:oA)(outer:ai Env)(P:a9)(w:bh)(H:Hp)(s:ar)(Q:VK)(E:XK)(r:Result)(s':ar):Prop :=
 match r with
 |.ok (.ret u)=>CE outer P w H s Q u s'
 |.ok _=>b5
 |.error e=>CX outer H s E e s'
structure gR(P:a9)(w:bh)(K:ba)(mg:a5->av aj)(base:bu)(CX:oA)(k:ay)(f:aq)(fd:ck)(ps:ai a5)(sp:Sp):Prop where
 len:∀vs H Q E,sp vs H Q E->vs.length=ps.length
 run:∀(A:bj) (outer:ai Env) (s:ar) (H:Hp) (args:Args) (us:ai aj) (vs:ai V) (Q:VK) (E:XK),cE k A->yJ P w K mg base A outer s H->BindsTo s fd args (ps.zip us)->Vals vs us->sp vs H Q E ->
  codeAny (bc P w) A (.call (.ref f) args) (CR CX outer P w H s Q E) s
theorem gR.mono{P:a9}{w:bh}{K:ba}{mg:a5->av aj}{base:bu}{CX:oA}{j k:ay}{f:aq}{fd:ck}{ps:ai a5}{sp:Sp}(F:gR P w K mg base CX j f fd ps sp)(h:j<=k) :
  gR P w K mg base CX k f fd ps sp:=⟨F.len,λA outer s H args us vs Q E hr=>F.run A outer s H args us vs Q E (hr.mono h)⟩
theorem gR.imp{P:a9}{w:bh}{K:ba}{mg:a5->av aj}{base:bu}{CX:oA}{k:ay}{f:aq}{fd:ck}{ps:ai a5}{sp j:Sp}(F:gR P w K mg base CX k f fd ps sp)
  (h:∀vs H Q E,j vs H Q E->sp vs H Q E):gR P w K mg base CX k f fd ps j :=
 ⟨λvs H Q E q=>F.len vs H Q E (h _ _ _ _ q),λA outer s H args us vs Q E hr he hb hv hs=>F.run A outer s H args us vs Q E hr he hb hv (h _ _ _ _ hs)⟩
theorem yJ.make{P:a9}{w:bh}{K:ba}{mg:a5->av aj}{base:bu}{A:bj}{outer:ai Env}{s:ar}{H:Hp}(e:yJ P w K mg base A outer s H)(C:aq)(us:ai aj)(kw:ai (a5×aj)) :
  yJ P w K mg base (A.under (.builtin "type.__call__" ⟨.ref C::us,kw⟩)) outer s H:=⟨by first|exact e.frames|(simpa[Around.under,Code.envs,Code.isFrame,pushEnvs]using e.frames),e.mod,e.bs,e.qE,e.nW,e.sS,e.aL,e.bare⟩
section
variable{X:Cx}{aa:ai (aq×cj)}{J:St}{H:Hp}{s s':ar}
theorem Inv.NN(I:Inv X aa J H s):yJ X.prog X.w X.K X.mg X.base X.A X.stack s H :=
 ⟨I.ok.frames,I.ok.mod,I.bs,xY I.ok.qE I.sz,I.stack,I.ZY,I.aL,I.bare⟩
theorem Inv.after{Q:VK}{u:aj}(I:Inv X aa J H s)(h:CE X.stack X.prog X.w H s Q u s'):EP X aa J Q u s':=by
 obtain⟨v,H',os,bare,un,aL,r,q⟩:=h;obtain⟨hh,g,d,t,LH⟩:=s';obtain rfl:LH=s.os:=os;exact⟨v,H',I.call (h':=hh) (g':=g) (d':=d) (t':=t) (ch:=[]) un aL bare (λb z=>bz z (by simp)),r,q⟩
end
def aeT(sp:Sp)(dvs:ai V)(E:XK)(t:TA):TE:=λJ H Q=>t J H λvs H1=>sp (vs++dvs) H1 Q E
def aeK(C:aq)(sp:Sp)(dvs:ai V)(E:XK)(t:TA):TE:=λJ H Q=>t J H λvs H1=>∀x dx,H1 x=ak->H1 dx=ak->dx≠x ->
 sp (.ref x::(vs++dvs)) (upd (upd H1 dx (.own x)) x (.ins C dx [])) (λv H2=>v=.bQ/\Q (.ref x) H2) E
def Binds(K:ba)(fd:ck)(ps:ai a5)(ds:ai aj):Prop :=
 ∀(s:ar) (us:ai aj),K.In s.heap->(us++ds).length=ps.length->BindsTo s fd ⟨us,[]⟩ (ps.zip (us++ds))
theorem Binds.all{K:ba}{fd:ck}{ps:ai a5}(h:∀us:ai aj,us.length=ps.length->dh fd ⟨us,[]⟩=pure (ps.zip us)):Binds K fd ps []:=λs us _ hl=>by
 rw[wC]at hl ⊢;exact .of_eq (h us hl)
def Passes(CX:oA)(X:Cx)(E:XK):Prop:=∀(aa:ai (aq×cj)) (J:St) (H:Hp) (s:ar) (e:aj) (s':ar),Inv X aa J H s->CX X.stack H s E e s'->X.xe e s'
section
variable{X:Cx}{CX:oA}{k:ay}{f C:aq}{fd:ck}{ps:ai a5}{sp:Sp}{dvs:ai V}{ds:ai aj}{E:XK}{x m:a5}{p pos ag:cq}{e o:bp}{es:ai bp}{ta:TE}{t:TA}
structure Mk(K:ba)(C f:aq):Prop where
 makes:makesIn K C=au
 init:bx K (.ref C) "__init__" = ah (ah (.ref f))
 fn:isFn K (.ref f)=au
 kp:keepIn K (.ref C)=au
theorem aiE{aa:ai (aq×cj)}{J:St}{H:Hp}{s:ar}{Q:VK}{us:ai aj}{vs:ai V}(M:Mk X.K C f)(F:gR X.prog X.w X.K X.mg X.base CX k f fd ps sp)(hr:cE (k+1) X.A)(hb:Binds X.K fd ps ds)(hd:Vals dvs ds)
  (L:Passes CX X E) (I:Inv X aa J H s) (r:Vals vs us)
  (h:∀x dx,H x=ak->H dx=ak->dx≠x->sp (.ref x::(vs++dvs)) (upd (upd H dx (.own x)) x (.ins C dx [])) (λv H2=>v=.bQ/\Q (.ref x) H2) E) :
  wpAny (bc X.prog X.w) X.A (call (.ref C) us) (EP X aa J Q) X.xe s:=by
 have hq:=h (s.heap.objs.size+1) s.heap.objs.size (I.aL.fresh (qI _)) (I.aL.fresh cU) (dX (Ld _));have q:=Inv.made (C:=C) I;have z:Vals (V.ref (s.heap.objs.size+1)::(vs++dvs)) (Value.ref (s.heap.objs.size+1)::(us++ds)):=.cons rfl (r.append hd);have hl:(Value.ref (s.heap.objs.size+1)::us++ds).length=ps.length:=by
  have e:=z.length;rw[F.len _ _ _ _ hq]at e;exact e.symm
 refine JQ (aoA (f:=f) I.fB M.makes M.init (vU.mp M.fn) (uN (F.run _ X.stack _ _ ⟨Value.ref (s.heap.objs.size+1)::us,[]⟩ (Value.ref (s.heap.objs.size+1)::(us++ds)) _ _ E (hr.make C us [])
  (q.NN.make C us []) (hb _ (Value.ref (s.heap.objs.size+1)::us) q.fB hl) z hq) λr s' j=>?_))
 cases r with
 |error e=>exact L aa J _ _ e s' q j
 |ok fl =>
  cases fl with
  |ret u =>
   obtain⟨v,H',a,rv,U,B⟩:=q.after j;subst U;exact⟨rv,⟨V.ref (s.heap.objs.size+1),H',a,rfl,B⟩⟩
  |next=>exact False.elim j
  |brk=>exact False.elim j
  |cont=>exact False.elim j
theorem ak8(M:Mk X.K C f)(F:gR X.prog X.w X.K X.mg X.base CX k f fd ps sp)(hr:cE (k+1) X.A)(B:Gl X x)(hm:X.mg x=ah (.ref C))(hb:Binds X.K fd ps ds)(hd:Vals dvs ds)(z:Passes CX X E)
  (ha:PA X (e::es) t) (L:(x==("__debug__" : a5))=ao:=by decide) (he:az (e::es) X.env=(ao,br e X.env)::az es X.env:=by rfl) (U:(b8 pos (az es X.env)).any (·.1)=ao:=by rfl) :
  PE X (.Call (.Name x p) (e::es) [] pos) (aeK C sp dvs E t):=by
 intro aa s J H Q I h;refine uY (BR I B hm ?_ L);refine callWith_K (h₀:=X.base) I.ok.mod.tX M.kp (bN (ha pos aa s J H _ I h) λus s1 ⟨vs,a,j,r,q⟩=>⟨j.fB,?_⟩) he U;exact aiE M F hr hb hd z j r q
end
structure cL(N P:ai a5)(sc:cp):Prop where
 kind:sc.kind=.function
 co:sc.isCoroutine=ao
 gen:sc.isGenerator=ao
 nd:N.Nodup
 pre:N.take P.length=P
 par:∀x∈P,sc.names.lookup x=ah .local\/sc.names.lookup x=ah .cell
 anD:∀y∈sc.names,y.2≠.free
theorem Zj{kindOf:a5->av c4}{x:a5}:∀{binds:ai (a5×aj)} {m:a5->av aj},(∀v,(x,v)∉binds)->bindL kindOf binds m x=m x
 |[],_,_=>rfl
 |(n,v)::r,m,h=>by
  unfold bindL;rw[Zj λw j=>h w (gQ _ j)];split
  ·have:x≠n:=by rintro rfl;exact h v List.mem_cons_self
   simp[this]
  ·rfl
theorem Zl{kindOf:a5->av c4}{x:a5}:∀{binds:ai (a5×aj)} {m:a5->av aj},(∀v,(x,v)∉binds)->bindC kindOf binds m x=m x
 |[],_,_=>rfl
 |(n,v)::r,m,h=>by
  unfold bindC;rw[Zl λw j=>h w (gQ _ j)];split
  ·rfl
  ·have:x≠n:=by rintro rfl;exact h v List.mem_cons_self
   simp[this]
theorem Zk{kindOf:a5->av c4}{x:a5}{v:aj}:∀{P:ai a5} {vs:ai aj} {i:ay} {m:a5->av aj},P.Nodup->P[i]?=ah x->vs[i]?=ah v->kindOf x=ah .local ->
  bindL kindOf (P.zip vs) m x=ah v
 |[],_,_,_,_,h,_,_=>by simp at h
 |_::_,[],_,_,_,_,h,_=>by simp at h
 |p::P,w::vs,0,m,nd,h1,h2,j=>by
  simp at h1 h2;subst h1;subst h2;show bindL kindOf ((p,w)::P.zip vs) m p=_;unfold bindL;rw[Zj λv hv=>(nZ.mp nd).1 (XJ hv).1,ax j];simp
 |p::P,w::vs,i+1,m,nd,h1,h2,j=>by
  show bindL kindOf ((p,w)::P.zip vs) m x=_;unfold bindL;exact Zk (i:=i) (nZ.mp nd).2 (by simpa using h1) (by simpa using h2) j
theorem Zm{kindOf:a5->av c4}{x:a5}{v:aj}:∀{P:ai a5} {vs:ai aj} {i:ay} {m:a5->av aj},P.Nodup->P[i]?=ah x->vs[i]?=ah v->kindOf x≠ah .local ->
  bindC kindOf (P.zip vs) m x=ah v
 |[],_,_,_,_,h,_,_=>by simp at h
 |_::_,[],_,_,_,_,h,_=>by simp at h
 |p::P,w::vs,0,m,nd,h1,h2,j=>by
  simp at h1 h2;subst h1;subst h2;show bindC kindOf ((p,w)::P.zip vs) m p=_;unfold bindC;rw[Zl λv hv=>(nZ.mp nd).1 (XJ hv).1,a8 j];simp
 |p::P,w::vs,i+1,m,nd,h1,h2,j=>by
  show bindC kindOf ((p,w)::P.zip vs) m x=_;unfold bindC;exact Zm (i:=i) (nZ.mp nd).2 (by simpa using h1) (by simpa using h2) j
noncomputable def start(N:ai a5)(vs:ai V):St:=vs.map ah++List.replicate (N.length-vs.length) ak
noncomputable def kP(CX:oA)(P:a9)(w:bh)(K:ba)(mg:a5->av aj)(base:bu)(N:ai a5)(af:a5)(scope:cp)(f:aq)(j:aj)(A:bj)(outer:ai Env)(s:ar)(H:Hp)(E:XK):Cx where
 prog:=P
 w:=w
 K:=K
 mg:=mg
 base:=base
 A:=A.deeper (cn af scope s.heap.objs.size f j)
 N:=N
 s₀:=s
 H₀:=H
 env:=cn af scope s.heap.objs.size f j
 outer:=outer
 stack:=cn af scope s.heap.objs.size f j::outer
 ex:=[]
 calm:=au
 fn:=λ_=>au
 pn:=[]
 xe:=λe s'=>wpAny (bc P w) (A.deeper (cn af scope s.heap.objs.size f j)) (leaving (cn af scope s.heap.objs.size f j) e) (λ_ q=>CX outer H s E e q) (λz q=>CX outer H s E z q) s'
theorem Zc{j:cp}{n:ay}{x:a5}(h:j.names.lookup x=ah .cell):∃c,(cellsFrom n j.names []).lookup x=ah c:=by
 have q:=cellsFrom_some j.names n [] (.inl h);exact Option.isSome_iff_exists.mp q
theorem Eu{CX:oA}{P:a9}{w:bh}{K:ba}{mg:a5->av aj}{base:bu}{N ps:ai a5}{af:a5}{scope:cp}{f:aq}{B:aj}{A:bj}{outer:ai Env}{s s1:ar}{H:Hp}{E:XK}{us:ai aj}{vs:ai V}
  (S:cL N ps scope) (hd:A.handled=ak) (e0:yJ P w K mg base A outer s H) (hl:vs.length=ps.length) (r:Vals vs us)
  (x:InCallC s s.heap.objs.size (bindL (cn af scope s.heap.objs.size f B).kindOf (ps.zip us) λ_=>ak) (cellsFrom (s.heap.objs.size+1) scope.names []) (bindC (cn af scope s.heap.objs.size f B).kindOf (ps.zip us) λ_=>ak) s1) :
  Inv (kP CX P w K mg base N af scope f B A outer s H E) [] (start N vs) H s1:=by
 have m:ps.length<=N.length:=by have:=b7 List.length S.pre;rw[XN]at this;omega
 obtain⟨h1,tk,rfl,d⟩:=x.done;have L:∀b:aq,b∉(kP CX P w K mg base N af scope f B A outer s H E).ex:=λb z=>bz (show b∈([]:ai aq)from z) (by simp);refine⟨⟨e0.mod,S.kind,rfl,rfl,nY _,λy z c h1 h2=>?_,λy hy=>?_,λy c _ h=>?_,λ_=>hd,Around.frames_deeper e0.frames,.inr ⟨rfl,rfl⟩,λb z=>bz z (L b),e0.bs,e0.qE,λb _ _=>L b,λb z=>bz z (L b),e0.nW,e0.sS⟩,
  rfl,e0.bare,Un.kept d,⟨_,x.toInCall.ns,λi y v h1 h2 l=>?_⟩,λy c h=>⟨_,x.cell y c h⟩,e0.aL.fresh cU,λy c h=>?_,λp j=>bz (show p∈([]:ai (aq×cj))from j) (by simp),e0.aL.kept d,?_⟩
 ·exact name_of_addr x.apart (PySem.mem_of_lookup h1) (PySem.mem_of_lookup h2)
 ·have hy:scope.names.lookup y=ah .cell\/scope.names.lookup y=ah .free:=hy
  rcases hy with hy|hy
  ·exact Zc hy
  ·exact bz rfl (S.anD _ (PySem.mem_of_lookup hy))
 ·exact XD (x.above y c (PySem.mem_of_lookup h))
 ·have hi:i<vs.length:=by
   unfold start at h2
   by_cases hi:i<vs.length
   ·exact hi
   ·rw[sZ (by simpa using hi)]at h2;rw[List.getElem?_replicate]at h2;split at h2 <;> cases h2
  have ha:vs[i]?=ah v:=by
   unfold start at h2;rw[eQ (by simpa using hi),iZ]at h2;cases e:vs[i]? with
   |none=>rw[e]at h2;cases h2
   |some a=>rw[e]at h2;cases h2;rfl
  obtain⟨u,U,rv⟩:=r.get ha;have j:ps[i]?=ah y:=by
   rw[<-S.pre,List.getElem?_take_of_lt (by omega)];exact h1
  have g:ps.Nodup:=by rw[<-S.pre];exact S.nd.sublist (List.take_sublist _ _)
  refine⟨u,rv,?_⟩
  rcases S.par y (sX j)with k|k
  ·exact .inl ⟨k,Zk g j U k⟩
  ·obtain⟨c,e⟩:=Zc (n:=s.heap.objs.size+1) k;refine .inr ⟨.inl k,c,e,?_⟩;have q:=x.cell y c e;rw[Zm g j U (by show scope.names.lookup y≠_;rw[k];decide)]at q;exact q
 ·exact e0.aL.fresh (XD (x.above y c (PySem.mem_of_lookup h)))
 ·unfold start;show _=N.length;rw[uT,fI,List.length_replicate];omega
theorem Hg{CX:oA}{P:a9}{w:bh}{K:ba}{mg:a5->av aj}{base:bu}{k:ay}{f:aq}{name af:a5}{params:Arguments}{body:ai bo}{scope:cp}{dV kV doc pm aS ct oc:aj}{an od:av aq}
  {gY:bf (av aj)} {N ps:ai a5} {sp:Sp} (lk:K.lookup f=ah ⟨oc,od,.func (fnOf name af params body scope dV kV doc pm an aS ct),gY⟩) (jG:codeIn K aS af=au) (S:cL N ps scope)
  (len:∀vs H Q E,sp vs H Q E->vs.length=ps.length)
  (iB:∀(A:bj) (outer:ai Env) (s:ar) (H:Hp) (vs:ai V) (Q:VK) (E:XK),cE k (A.deeper (cn af scope s.heap.objs.size f aS))->sp vs H Q E ->
   ∃t,nX (kP CX P w K mg base N af scope f aS A outer s H E) body t/\t {nx:=λ_ H'=>Q .bQ H',rt:=Q} (start N vs) H) :
  gR P w K mg base CX (k+1) f (fnOf name af params body scope dV kV doc pm an aS ct) ps sp:=by
 refine⟨len,λA outer s H args us vs Q E hr e0 hb r gF=>?_⟩;have hl:=len _ _ _ _ gF;have KX:K.In s.heap:=e0.mod.tX.keeps λb o e=>(e0.bs b o e).1;have lim:s.heap.NoLimit:=e0.mod.nolimit.keeps λb o e=>(e0.bs b o e).1;have MF:∀y∈ps.zip us,scope.names.lookup y.1=ah .local\/(scope.names.lookup y.1=ah .cell/\((cellsFrom (s.heap.objs.size+1) scope.names []).lookup y.1).isSome=au):=λ⟨n,v⟩ hy=>by
  rcases S.par n (XJ hy).1 with q|q
  ·exact .inl q
  ·exact .inr ⟨q,cellsFrom_some _ _ _ (.inl q)⟩
 refine Yu hr.depth (KX _ _ lk) rfl S.co S.gen rfl (codeRec_of KX jG) (hb _ _ _ _ ?_);refine Oe S.kind MF λenv he s1 x=>?_;subst he;refine⟨lim.keeps x.toInCall.keep,codeAny_func ?_⟩;obtain⟨t,ht,hq⟩:=iB A outer s H vs Q E (hr.deeper _) gF;have I:Inv (kP CX P w K mg base N af scope f aS A outer s H E) [] (start N vs) H s1:=Eu S hr.hd e0 hl r x;refine lZ (ht [] s1 (start N vs) H _ I hq) (λfl s' hs=>?_) λe s' hs=>hs;have fin:∀{J':St} {H':Hp} {v:V} {u:aj},Inv (kP CX P w K mg base N af scope f aS A outer s H E) [] J' H' s'->RelV v u->Q v H'->CE outer P w H s Q u s' :=
  λ{J' H' v u} σ rv q=>⟨v,H',σ.os,σ.bare,σ.base,σ.aL,rv,q⟩
 cases fl with
 |ret u =>
  obtain⟨v,J',H',σ,rv,q⟩:=hs;exact fin σ rv q
 |next =>
  obtain⟨J',H',σ,q⟩:=hs;exact fin (v:=V.bQ) (u:=Value.none) σ rfl q
 |brk =>
  obtain⟨_,_,_,q⟩:=hs;exact False.elim q
 |cont =>
  obtain⟨_,_,_,q⟩:=hs;exact False.elim q
section
variable{X:Cx}{x:a5}{p pos:cq}{e:bp}{es:ai bp}{t:TA}{id T:cm}{r:ai V->Hp->VK->Prop}
def ZV(r:ai V->Hp->VK->Prop)(t:TA):TE:=λJ H Q=>t J H λvs H1=>r vs H1 Q
theorem RZ(B:mT X (.builtin id) r)(z:Gl X x)(hm:X.mg x=ak)(hv:c1 x=ah (.builtin id))(ha:PA X (e::es) t)(hn:x≠"__name__":=by decide)(L:(x==("__debug__" : a5))=ao:=by decide)
  (he:az (e::es) X.env=(ao,br e X.env)::az es X.env:=by rfl) (U:(b8 pos (az es X.env)).any (·.1)=ao:=by rfl):PE X (.Call (.Name x p) (e::es) [] pos) (ZV r t):=by
 intro aa s J H Q I h;refine uY (tW I z hm hv ?_ hn L);exact PyProof.Rows.callWith_builtin1 (bN (ha pos aa s J H _ I h) λus s1 ⟨vs,b,a,j,q⟩=>B aa s1 J b vs us Q a j q) he U
theorem RY(B:mT X (.type T) r)(z:Gl X x)(hm:X.mg x=ak)(hv:c1 x=ah (.type T))(ha:PA X (e::es) t)(hn:x≠"__name__":=by decide)(L:(x==("__debug__" : a5))=ao:=by decide)
  (he:az (e::es) X.env=(ao,br e X.env)::az es X.env:=by rfl) (U:(b8 pos (az es X.env)).any (·.1)=ao:=by rfl):PE X (.Call (.Name x p) (e::es) [] pos) (ZV r t):=by
 intro aa s J H Q I h;refine uY (tW I z hm hv ?_ hn L);exact HY (bN (ha pos aa s J H _ I h) λus s1 ⟨vs,b,a,j,q⟩=>B aa s1 J b vs us Q a j q) he U
end
end L2
namespace HT
open PySem PyProof.Rows
section
variable{prog:a9}{w:bh}{A:bj}{E:aj->ar->Prop}{s:ar}
theorem az5{t b:aq}{vs ws:ai aj}{Q:aj->ar->Prop}(ht:IsTup s.heap t vs.toArray)(hb:IsTup s.heap b ws.toArray)(hv:vs≠[])
  (h1:ws=[]->Q (.ref t) s) (h2:ws≠[]->Q (.ref s.heap.objs.size) {s with heap:=s.heap.push {cls:=.type "tuple",data:=.seq (vs++ws).toArray} })
  (hsz:vs.length+ws.length<=a7):wpAny (bc prog w) A (cu .Add (.ref t) (.ref b)) Q E s:=by
 obtain⟨⟨cls,a,data,B⟩,z,U,n,hd⟩:=id ht;obtain⟨⟨g,c,data2,f⟩,j,d,L,hd2⟩:=id hb;simp only at U hd d hd2;subst U hd d hd2;have e:vs.toArray++ws.toArray=(vs++ws).toArray:=by simp
 by_cases q:ws=[]
 ·exact concat_meets ⟨_,z,rfl⟩ ⟨_,j,rfl⟩ noFill_tuple_add seq_tuple_add PySem.F.slot_tuple_add PySem.F.entry_tuple_add (PySem.F.args_tuple_add_2 _ _)
   (tuple_addW1 t b vs.toArray ws.toArray n L a c B f (by simpa using hv) (by simp[q])) ⟨z,j,h1 q⟩
 ·refine concat_meets ⟨_,z,rfl⟩ ⟨_,j,rfl⟩ noFill_tuple_add seq_tuple_add PySem.F.slot_tuple_add PySem.F.entry_tuple_add (PySem.F.args_tuple_add_2 _ _)
   (tuple_addW2 t b vs.toArray ws.toArray n L a c B f (by simpa using hv) (by simpa using q) (by rw[kD,kD];exact hsz)) ⟨z,j,?_⟩
  rw[e];exact h2 q
end
end HT
namespace L2
open PySem PySem.Spec PyProof.Rows
abbrev TO:=St->Hp->(av a6->Hp->Prop)->Prop
theorem intsAre_of{ns:ai a6}:∀{us:ai aj},Vals (ns.map V.int) us->cg us ns:=by
 induction ns with
 |nil=>intro us r;rw[qL]at r;cases r;exact .nil
 |cons n ns ih =>
  intro us r;rw[cW]at r;cases r with
  |cons q j =>
   obtain⟨t,e⟩:=q;subst e;exact .cons n t (ih j)
section
variable{X:Cx}{e:bp}{te:TE}{lo hi:av bp}{tl th:TO}{pos p2:cq}
def aiR(K:ba):R2:=λx y H Q=>∃a b xs ys,x=.ref a/\y=.ref b/\jI K H a xs/\jI K H b ys/\xs≠[]/\xs.length+ys.length<=a7 /\
 (ys=[]->Q (.ref a) H)/\(ys≠[]->∀p,H p=ak->Q (.ref p) (upd H p (.tup (xs++ys))))
theorem Vals.Dp{xs:ai V}{us:ai aj}(r:Vals xs us):us=[]<->xs=[]:=by
 cases r with
 |nil=>simp
 |cons _ _=>simp
theorem amB:iE X (cu .Add) (aiR X.K):=by
 intro aa s J H x y v u Q I e d h;obtain⟨a,b,c,U,rfl,rfl,ha,hb,i,L,g,f⟩:=h;cases e;cases d;obtain⟨k,B,p1,_⟩:=I.tuple ha;obtain⟨l,j,p2,_⟩:=I.tuple hb;refine HT.az5 p1 p2 (λz=>i (B.Dp.mp z)) (λz=>⟨.ref a,H,I,rfl,g (j.Dp.mp z)⟩) (λz=>?_) (by rw[<-B.length,<-j.length];exact L);refine⟨.ref s.heap.objs.size,_,I.laid (t':=s.toks) (o:=.tup (c++U)) (λb ob q=>dD _ q) cU ?_,rfl,f (λw=>z (j.Dp.mpr w)) _ (I.aL.fresh cU)⟩;exact⟨by rw[uT];exact L,_,B.append j,IsTup.new _ _⟩
end
noncomputable def tZ(n:ay)(i:a6):av ay:=if 0<=i then(if i<n then ah i.toNat else ak)else if -(n:a6)<=i then ah (i+n).toNat else ak
def jV{α:Type}(xs:ai α)(i:a6):av α:=(tZ xs.length i).bind λj=>xs[j]?
theorem Vf{n:ay}{i:a6}{j:ay}(h:tZ n i=ah j):seqIndex? i n=ah j/\j<n/\-(n:a6)<=i/\i<n:=by
 unfold tZ at h
 by_cases q:0<=i
 ·rw[ax q]at h
  by_cases h1:i<n
  ·rw[ax h1]at h;have e:i.toNat=j:=nK h;exact⟨by rw[seqIndex_of q h1,e],by omega,by omega,h1⟩
  ·rw[a8 h1]at h;cases h
 ·rw[a8 q]at h
  by_cases h1 : -(n:a6)<=i
  ·rw[ax h1]at h;have e:(i+n).toNat=j:=nK h;exact⟨by rw[seqIndex_neg (by omega) h1,e],by omega,h1,by omega⟩
  ·rw[a8 h1]at h;cases h
theorem Kk{α:Type}{xs:ai α}{i:a6}{v:α}(h:jV xs i=ah v):∃j,seqIndex? i xs.length=ah j/\xs[j]?=ah v/\j<xs.length/\-(xs.length:a6)<=i/\i<xs.length:=by
 unfold jV at h;cases e:tZ xs.length i with
 |none=>rw[e]at h;cases h
 |some j =>
  rw[e]at h;obtain⟨h1,h2,z,q⟩:=Vf e;exact⟨j,h1,h,h2,z,q⟩
def aa4(b:bp):Prop:=∀o i,subscripted b ao o i=operate [o,i] (getItem o i)
def yB(X:Cx)(r:R2):Prop :=
 ∀(value slice:bp) (aa:ai (aq×cj)) (s:ar) (J:St) (H:Hp) (x y:V) (v u:aj) (Q:VK),Inv X aa J H s->RelV x v->RelV y u->r x y H Q ->
  subscripted slice ao v u=operate [v,u] (getItem v u)->wpAny (bc X.prog X.w) X.A (subscriptTail value slice v u) (EP X aa J Q) X.xe s
def MtR(X:Cx)(id:cm)(r:V->ai V->Hp->VK->Prop):Prop :=
 ∀(aa:ai (aq×cj)) (s:ar) (J:St) (H:Hp) (x:V) (xs:ai V) (v:aj) (us:ai aj) (Q:VK),Inv X aa J H s->RelV x v->Vals xs us->r x xs H Q ->
  wpAny (bc X.prog X.w) X.A (call (.builtin id) (v::us)) (EP X aa J Q) X.xe s
section
variable{X:Cx}{a b:bp}{ta tb:TE}{pos:cq}
theorem yB.or{r B:R2}(h:yB X r)(h':yB X B):yB X (λx y H Q=>r x y H Q\/B x y H Q):=by
 intro value slice aa s J H x y v u Q I z j q hs
 rcases q with q|q
 ·exact h value slice aa s J H x y v u Q I z j q hs
 ·exact h' value slice aa s J H x y v u Q I z j q hs
theorem alC{r:R2}(hr:yB X r)(ha:PE X a ta)(hb:PE X b tb)(hs:aa4 b):PE X (.Subscript a b pos) (KL r ta tb):=by
 intro aa s J H Q I h;exact Subscript_ (Ir ha hb I h λv u j x y U L B z q=>hr a b aa j J U x y v u Q L B z q (hs _ _))
def Rw(K:ba):R2:=λx y H Q=>∃p xs i v,x=.ref p/\y=.int i/\fA K H p xs/\jV xs i=ah v/\Q v H
def Ru(K:ba):R2:=λx y H Q=>∃p xs i v,x=.ref p/\y=.int i/\jI K H p xs/\jV xs i=ah v/\Q v H
def Rv:R2:=λx y H Q=>∃z i c,x=.str z/\y=.int i/\z.length<=a7/\jV z.cps.toList i=ah c/\Q (.str ⟨#[c]⟩) H
theorem aqT:yB X (Rw X.K):=by
 intro value slice aa s J H x y v u Q I d c h hs;obtain⟨p,k,i,z,rfl,rfl,hq,he,q⟩:=h;cases d;obtain⟨t,rfl⟩:=c;obtain⟨g,r,B,l⟩:=I.list hq;obtain⟨j,h1,h2,m,f,e⟩:=Kk he;obtain⟨w,a,b⟩:=r.get h2;have hl:=r.length;have hn:=LR;have fin:EP X aa J Q w s:=⟨z,H,I,b,q⟩
 by_cases U:0<=i
 ·have L:i.toNat=j:=by
   rw[seqIndex_of U e]at h1;exact nK h1
  exact item_listR B.isList U (by omega) (by rw[L];simpa using a) fin hs
 ·have L:(i+(g.toArray.size:a6)).toNat=j:=by
   rw[seqIndex_neg (by omega) f]at h1;rw[kD,<-hl];exact nK h1
  exact subscriptTail_builtinR (x:=w) B.isList.typeIs slot_list_getitem.lookup
   (wpAny_getItem_list_neg (Q:=λr s'=>r=w/\EP X aa J Q r s') B.isList (by omega) (by rw[kD] <;> omega) (by omega) (by rw[L];simpa using a) ⟨rfl,fin⟩) hs
theorem aqQ:yB X (Ru X.K):=by
 intro value slice aa s J H x y v u Q I a U h hs;obtain⟨p,c,i,z,rfl,rfl,hq,he,q⟩:=h;cases a;obtain⟨t,rfl⟩:=U;obtain⟨k,r,B,d⟩:=I.tuple hq;obtain⟨j,h1,h2,g,f,e⟩:=Kk he;obtain⟨w,b,L⟩:=r.get h2;have hl:=r.length;have hn:=LR;have fin:EP X aa J Q w s:=⟨z,H,I,L,q⟩;exact subscriptTail_builtinR (x:=w) B.typeIs slot_tuple_getitem.lookup
  (getItem_tuple (j:=j) (Q:=λr s'=>r=w/\EP X aa J Q r s') B (by omega) (by omega) (by rw[kD,<-hl];exact h1) (by simpa using b) ⟨rfl,fin⟩) hs
theorem aqR:yB X Rv:=by
 intro value slice aa s J H x y v u Q I L B h hs;obtain⟨z,i,c,rfl,rfl,f,he,q⟩:=h;obtain⟨t,rfl⟩:=L;obtain⟨e,rfl⟩:=B;obtain⟨j,h1,h2,g,a,U⟩:=Kk he;have hl:z.cps.toList.length=z.length:=by simp[Str.length]
 rw[hl]at h1 a U;have hn:=LR;exact tail_any (typeIs_str s z t) slot_str_getitem.lookup (getItem_str (c:=c) (by
  have d:decide (i < -(2 ^ 63:a6))=ao:=lW (by omega);have b:decide (i>=2 ^ 63)=ao:=lW (by omega);rw[d,b,Bool.or_false]) (by rw[h1];simpa using h2) ⟨.str ⟨#[c]⟩,H,I.tok _,⟨_,rfl⟩,q⟩) hs
def rIx(K:ba):R2:=λx y H Q=>Rw K x y H Q\/Ru K x y H Q\/Rv x y H Q
theorem aqS:yB X (rIx X.K):=aqT.or (aqQ.or aqR)
theorem an8(q:ai aj)(n j:ay)(u:aj):Obj.mapSeq (·.setIfInBounds j u) {cls:=.type "list",data:=.seq q.toArray n}={cls:=.type "list",data:=.seq (q.set j u).toArray n}:=by
 simp[Obj.mapSeq]
theorem Inv.lst{aa:ai (aq×cj)}{J:St}{H:Hp}{s:ar}{p:aq}{xs:ai V}(I:Inv X aa J H s)(h:H p=ah (.lst xs)) :
  ∃(j:ai aj) (n:ay),Vals xs j/\s.heap.get? p=ah {cls:=.type "list",data:=.seq j.toArray n}/\xs.length<=a7:=by
 obtain⟨z,j,n,r,e⟩:=I.aL p _ h;exact⟨j,n,r,e,z⟩
theorem Inv.aoC{aa:ai (aq×cj)}{J:St}{H:Hp}{s:ar}{p:aq}{xs ys:ai V}{z its':ai aj}{n j:ay}{f:cj->cj}(I:Inv X aa J H s)(h:H p=ah (.lst xs))
  (B:s.heap.get? p=ah {cls:=.type "list",data:=.seq z.toArray n}) (hf:f {cls:=.type "list",data:=.seq z.toArray n}={cls:=.type "list",data:=.seq its'.toArray j}) (r:Vals ys its') (hz:ys.length<=a7) (t:ay) :
  Inv X aa J (upd H p (.lst ys)) {s with heap:=s.heap.update p f,toks:=t}:=by
 have e:(s.heap.update p f).get? p=ah {cls:=.type "list",data:=.seq its'.toArray j}:=by
  rw[OM f B (by rw[hf] <;> rfl),hf]
 refine I.write (x:=p) (e:=p) (by rw[h];trivial) (.inl rfl) (λb u hb q=>(pQ _ _ (cK hb)).trans q) ⟨_,e⟩ ?_;exact⟨hz,its',j,r,e⟩
def aiO:V->V->V->Hp->(Hp->Prop)->Prop:=λo i v H Q=>∃p xs k j,o=.ref p/\i=.int k/\H p=ah (.lst xs)/\tZ xs.length k=ah j/\Q (upd H p (.lst (xs.set j v)))
theorem set_list:aa6 X aiO:=by
 intro aa s J H o i v w x u Q I f g rv h;obtain⟨p,e,k,j,rfl,rfl,L,m,q⟩:=h;cases f;obtain⟨t,rfl⟩:=g;obtain⟨c,n,r,z,l⟩:=I.lst L;obtain⟨h1,h2,a,U⟩:=Vf m;have hl:=r.length;have hn:=LR;have d:Inv X aa J (upd H p (.lst (e.set j v))) {s with heap:=s.heap.update p (Obj.mapSeq (·.setIfInBounds j u))} :=
  I.aoC L z (an8 c n j u) (r.set rv j) (by rw[vZ];exact l) s.toks
 by_cases b:0<=k
 ·have B:k.toNat=j:=by
   rw[seqIndex_of b U]at h1;exact nK h1
  exact PySem.W.ki_setAt z b (by omega) (by rw[kD,<-hl];exact U) (by rw[B];exact⟨_,d,q⟩)
 ·have B:(k+(c.toArray.size:a6)).toNat=j:=by
   rw[seqIndex_neg (by omega) a]at h1;rw[kD,<-hl];exact nK h1
  exact PySem.W.ki_setBack z (by omega) (by rw[kD,<-hl];exact a) (by omega) (by rw[B];exact⟨_,d,q⟩)
theorem aAF:mT X (.builtin "len") (λxs H Q=>∃p ys,xs=[.ref p]/\(fA X.K H p ys\/jI X.K H p ys)/\Q (.int ys.length) H):=by
 intro aa s J H xs us Q I r h;obtain⟨p,ys,rfl,hq,q⟩:=h;obtain⟨u,rfl,B⟩:=vals1 r;cases B;have hn:=LR
 rcases hq with hq|hq
 ·obtain⟨U,j,z,L⟩:=I.list hq;have hlen:=j.length;exact Calls.call_len_list z.isList (by simp only[kD] <;> omega) ⟨.int ys.length,H,I.tok _,⟨s.toks+1,by rw[kD,hlen]⟩,q⟩
 ·obtain⟨U,j,z,L⟩:=I.tuple hq;have hlen:=j.length;exact len_tuple z (by simp only[kD] <;> omega) ⟨.int ys.length,H,I.tok _,⟨s.toks+1,by rw[kD,hlen]⟩,q⟩
def ZG(K:ba)(T:cm)(x:V)(H:Hp):Prop:=match x with
 |.str _=>T = "str"
 |.int _=>T = "int"
 | .ref p=>(T = "list"/\∃xs,fA K H p xs)\/(T = "tuple"/\∃o,K.lookup p=ah o/\o.cls=.type "tuple"/\o.dict=ak) \/
   (T = "dict"/\((∃kvs,H p=ah (.dK kvs))\/∃kvs,H p=ah (.dT kvs)))\/(T = "set"/\∃S n,H p=ah (.set S n))
 |_=>b5
theorem adM{aa:ai (aq×cj)}{J:St}{H:Hp}{s:ar}{T:cm}{x:V}{v:aj}(I:Inv X aa J H s)(r:RelV x v)(ty:ZG X.K T x H) :
  s.TypeIs v T/\∀a,v=.ref a->∃ob,s.heap.get? a=ah ob/\ob.dict=ak:=by
 cases x with
 |str z =>
  obtain⟨t,rfl⟩:=r;cases(show T = "str" from ty);exact⟨typeIs_str s z t,λ_ e=>nomatch e⟩
 |int i =>
  obtain⟨t,rfl⟩:=r;cases(show T = "int" from ty);exact⟨typeIs_int s i t,λ_ e=>nomatch e⟩
 |ref p =>
  cases r
  rcases ty with⟨rfl,b,hq⟩|⟨rfl,o,j,U,hd⟩|⟨rfl,j⟩|⟨rfl,S,n,j⟩
  ·obtain⟨d,_,L,_⟩:=I.list hq;refine⟨L.isList.typeIs,λa e=>?_⟩;cases e;obtain⟨o,n,e,c,hd,_⟩:=L;exact⟨o,e,hd⟩
  ·refine⟨⟨o,I.fB p o j,U⟩,λa e=>?_⟩;cases e;exact⟨o,I.fB _ o j,hd⟩
  ·have z:∃o,s.heap.get? p=ah o/\o.ExactDict:=by
    rcases j with⟨q,j⟩|⟨q,j⟩
    ·obtain⟨_,_,_,_,o,_,_,e,ex,_⟩:=I.aL p _ j;exact⟨o,e,ex⟩
    ·obtain⟨_,_,_,_,o,_,_,e,ex,_⟩:=I.aL p _ j;exact⟨o,e,ex⟩
   obtain⟨o,e,ex⟩:=z;refine⟨⟨o,e,ex.1⟩,λa B=>?_⟩;cases B;exact⟨o,e,ex.2.1⟩
  ·obtain⟨o,_,_,_,e,ex,_⟩:=I.aL p _ j;refine⟨⟨o,e,ex.1⟩,λa B=>?_⟩;cases B;exact⟨o,e,ex.2.1⟩
 |_=>exact False.elim ty
def tBM(K:ba)(T:cm)(r:V->ai V->Hp->VK->Prop)(to:TE)(t:TA):TE:=λJ H Q=>to J H λx H1=>ZG K T x H1/\t J H1 λxs H2=>r x xs H2 Q
variable{o e:bp}{es:ai bp}{to:TE}{t:TA}{name:a5}{ag jH:cq}{T id:cm}{r:V->ai V->Hp->VK->Prop}
theorem alK(b:PlainAttrs T)(slot:Slot T name id)(n:typeOf (.builtin id)=pure (.type "method_descriptor"))(hm:MtR X id r)(c:PE X o to)(ha:PA X (e::es) t)
  (f:bw o name X.env (br o X.env)=br o X.env:=by rfl)
  (l:((b8 jH (az (e::es) X.env)).all (λx=>!x.1)&&(dr jH (cx [] X.env)).all (λx=>x.1.isSome)
   && decide ((e::es).length+([]:ai Keyword).length+(if([]:ai Keyword).isEmpty then 0 else 1)<30))=au:=by rfl)
  (d:(ag.endLine==jH.line)=au:=by rfl) (hs:az (e::es) X.env=(ao,br e X.env)::az es X.env:=by rfl) (m:(b8 jH (az es X.env)).any (·.1)=ao:=by rfl) :
  PE X (.Call (.Attribute o name ag) (e::es) [] jH) (tBM X.K T r to t):=by
 intro aa s J H Q I h;refine wpAny_Call_method_late f l d rfl (bN (c aa s J H _ I h) λv s1 ⟨x,k,z,j,ty,a⟩=>?_);obtain⟨h1,h2⟩:=adM z j ty;refine⟨T,id,b,slot,n,h1,h2,?_⟩;have q:=ha jH aa s1 J k _ z a;rw[hs]at q ⊢;refine JE (by show(ao||(b8 jH (az es X.env)).any (·.1))=ao;rw[m] <;> rfl) (abY ?_);exact bN q λus B ⟨vs,i,g,L,U⟩=>hm aa B J i x vs v us Q g j L U
end
def MtM(X:Cx)(id:cm)(r:V->ai V->Hp->VK->Prop):Prop :=
 ∀(aa:ai (aq×cj)) (s:ar) (J:St) (H:Hp) (x:V) (xs:ai V) (v:aj) (us:ai aj) (Q:VK),Inv X aa J H s->RelV x v->Vals xs us->r x xs H Q ->
  wpAny (bc X.prog X.w) X.A (call (.builtin id) (v::us)) (EP X aa J Q) X.xe s
theorem Vals.one:∀{x:V} {us:ai aj},Vals [x] us->∃u,us=[u]/\RelV x u
 |_,_,.cons r .nil=>⟨_,rfl,r⟩
section
variable{X:Cx}{aa:ai (aq×cj)}{J:St}{H:Hp}{s:ar}{l b:aq}{xs ys zs:ai V}
theorem Inv.Uh{j its':ai aj}{n:ay}{f:bf aj->bf aj}{t':ay}(I:Inv X aa J H s)(B:H l=ah (.lst xs))
  (e:s.heap.get? l=ah {cls:=.type "list",data:=.seq j.toArray n}) (hf:f j.toArray=its'.toArray) (hv:Vals ys its') (hz:ys.length<=a7) :
  Inv X aa J (upd H l (.lst ys)) {s with heap:=s.heap.update l (Obj.mapSeq f),toks:=t' }:=by
 have q:=PySem.IsL.update e f;rw[hf]at q;refine I.write (x:=l) (e:=l) (by rw[B];exact trivial) (.inl rfl) (λL u hb z=>(pQ s.heap (Obj.mapSeq f) (cK hb)).trans z) ⟨_,q⟩ ?_;exact⟨hz,its',_,hv,q⟩
theorem Inv.aoH{j:ai aj}{t':ay}(I:Inv X aa J H s)(hv:Vals ys j)(hz:ys.length<=a7) :
  Inv X aa J (upd H s.heap.objs.size (.lst ys)) {s with heap:=s.heap.push {cls:=.type "list",data:=.seq j.toArray},toks:=t' } :=
 I.laid (λ_ _ q=>dD _ q) cU ⟨hz,j,0,hv,fW _ rfl⟩
theorem Inv.fresh(I:Inv X aa J H s):H s.heap.objs.size=ak:=I.aL.fresh cU
theorem Inv.SU(I:Inv X aa J H s)(q:H l=ah (.lst xs)):xs.length<=a7/\∃(j:ai aj) (n:ay),Vals xs j/\xs.length=j.length/\s.heap.get? l=ah {cls:=.type "list",data:=.seq j.toArray n}:=by
 obtain⟨z,j,n,r,e⟩:=I.aL l _ q;exact⟨z,j,n,r,r.length,e⟩
end
section
variable{X:Cx}
def Ry:V->ai V->Hp->VK->Prop:=λx vs H Q=>∃l xs y,x=.ref l/\vs=[y]/\H l=ah (.lst xs)/\xs.length<a7/\Q .bQ (upd H l (.lst (xs++[y])))
theorem Uc:MtM X "list.append" Ry:=by
 intro aa s J H x vs v us Q I L rv h;obtain⟨l,a,y,rfl,rfl,j,b,q⟩:=h;cases L;obtain⟨u,rfl,U⟩:=rv.one;obtain⟨z,B,n,r,hl,e⟩:=I.SU j;refine call_meets F.slot_list_append ⟨_,e,rfl⟩ F.entry_list_append (F.args_list_append_2 _ _) (PySem.list_append l B.toArray n u (by rw[kD];omega)) ⟨e,?_⟩;refine⟨.bQ,_,I.Uh (its':=B++[u]) j e (by simp) (r.append (.cons U .nil)) ?_,rfl,q⟩;rw[uT,List.length_singleton];omega
def Rx:R2:=λx y H Q=>∃l b xs zs,x=.ref l/\y=.ref b/\H l=ah (.lst xs)/\H b=ah (.lst zs)/\xs.length+zs.length<=a7/\∀p,H p=ak->Q (.ref p) (upd H p (.lst (xs++zs)))
theorem amC:iE X (cu .Add) Rx:=by
 intro aa s J H x y v u Q I U L h;obtain⟨l,b,o,k,rfl,rfl,d,f,t,q⟩:=h;cases U;cases L;obtain⟨z,j,n,r,hl,e⟩:=I.SU d;obtain⟨m,B,p,a,c,i⟩:=I.SU f;refine PySem.P.add_list e i ?_ (by rw[kD,kD];omega);have g:j.toArray++B.toArray=(j++B).toArray:=by simp
 rw[g];exact⟨.ref _,_,I.aoH (t':=s.toks) (r.append a) (by rw[uT];omega),rfl,q _ I.fresh⟩
end
section
variable{κ:Type} [DecidableEq κ]
noncomputable def lN(kvs:ai (κ×V))(k:κ):av V:=(kvs.find? λj=>decide (j.1=k)).map (·.2)
noncomputable def putK(kvs:ai (κ×V))(k:κ)(v:V):ai (κ×V) :=
 if(kvs.any λj=>decide (j.1=k))=au then kvs.map (λj=>if j.1=k then(j.1,v)else j)else kvs++[(k,v)]
theorem ZA{p:κ×V}{r:ai (κ×V)}{k:κ}(e:p.1=k):lN (p::r) k=ah p.2:=by simp[lN,DM,e]
theorem ZC{p:κ×V}{r:ai (κ×V)}{k:κ}(e:¬p.1=k):lN (p::r) k=lN r k:=by simp[lN,DM,e]
theorem Pb(k:κ):∀kvs:ai (κ×V),(kvs.any λj=>decide (j.1=k))=(lN kvs k).isSome
 |[]=>rfl
 |p::r=>by
  rw[OH]
  by_cases e:p.1=k
  ·simp only[ZA e,xQ e,Bool.true_or,Option.isSome_some]
  ·rw[ZC e,lW e,Bool.false_or];exact Pb k r
theorem Ur(kvs:ai (κ×V))(k:κ)(v:V):(putK kvs k v).length<=kvs.length+1:=by
 unfold putK;split
 ·rw[fI];omega
 ·rw[uT,lH,DL];omega
theorem nJ.Er{o:av V}{u:av aj}(r:nJ o u):o.isSome=u.isSome:=by
 cases o with
 |none=>cases u with
  |none=>rfl
  |some _=>exact(show b5 from r).elim
 |some _=>cases u with
  |none=>exact(show b5 from r).elim
  |some _=>rfl
theorem nJ.getD{o:av V}{u:av aj}{d:V}{d':aj}(r:nJ o u)(j:RelV d d'):RelV (o.getD d) (u.getD d'):=by
 cases o with
 |none=>cases u with
  |none=>exact j
  |some _=>exact(show b5 from r).elim
 |some _=>cases u with
  |none=>exact(show b5 from r).elim
  |some _=>exact r
theorem KV.val{kvs:ai (κ×V)}{vs:ai (κ×aj)}(r:KV kvs vs)(k:κ):nJ (lN kvs k) (valueAt vs k):=by
 unfold KV at r
 induction r with
 |nil=>exact True.intro
 | @cons p q ps j h t ih =>
  obtain⟨h1,h2⟩:=h
  by_cases e:p.1=k
  ·have B:q.1=k:=h1.symm.trans e;have b:valueAt (q::j) k=ah q.2:=by simp[valueAt,DM,B]
   rw[ZA e,b];exact h2
  ·have B:¬q.1=k:=λz=>e (h1.trans z);have b:valueAt (q::j) k=valueAt j k:=by simp[valueAt,DM,B]
   rw[ZC e,b];exact ih
theorem KV.any{kvs:ai (κ×V)}{vs:ai (κ×aj)}(r:KV kvs vs)(k:κ):(kvs.any λj=>decide (j.1=k))=vs.any λj=>decide (j.1=k):=by
 unfold KV at r
 induction r with
 |nil=>rfl
 |cons h t ih=>rw[OH,OH,ih,h.1]
theorem KV.Ck{kvs:ai (κ×V)}{vs:ai (κ×aj)}(r:KV kvs vs)(k:κ){y:V}{u:aj}(B:RelV y u) :
  KV (kvs.map λj=>if j.1=k then(j.1,y)else j) (vs.map λj=>if j.1=k then(j.1,u)else j):=by
 unfold KV at r ⊢
 induction r with
 |nil=>exact .nil
 | @cons p q ps L h t ih =>
  rw[cW,cW];refine .cons ?_ ih;obtain⟨h1,h2⟩:=h
  by_cases e:p.1=k
  ·rw[ax e,ax (h1.symm.trans e)];exact⟨h1,B⟩
  ·rw[a8 e,a8 (λz=>e (h1.trans z))];exact⟨h1,h2⟩
theorem KV.put{kvs:ai (κ×V)}{vs:ai (κ×aj)}(r:KV kvs vs)(k:κ){y:V}{u:aj}(j:RelV y u):KV (putK kvs k y) (stored vs k u):=by
 unfold putK stored;rw[r.any k]
 by_cases e:(vs.any λq=>decide (q.1=k))=au
 ·rw[ax e,ax e];exact r.Ck k j
 ·rw[a8 e,a8 e];exact Paired.snoc r ⟨rfl,j⟩
theorem KV.keys{kvs:ai (κ×V)}{vs:ai (κ×aj)}(r:KV kvs vs):kvs.map (·.1)=vs.map (·.1):=by
 unfold KV at r
 induction r with
 |nil=>rfl
 |cons h t ih=>rw[cW,cW,ih,h.1]
theorem KV.length{kvs:ai (κ×V)}{vs:ai (κ×aj)}(r:KV kvs vs):kvs.length=vs.length:=Paired.length r
end
theorem FY{P:a9}{w:bh}{k:Key}{u:aj}(r:RelV (kV k) u):(gB P w).is k u=au:=by
 cases k with
 |inl i=>obtain⟨t,e⟩:=(show ∃t,u=Value.int i t from r);subst e;exact an6 P w i t
 |inr x=>obtain⟨t,e⟩:=(show ∃t,u=Value.str x t from r);subst e;exact an5 P w x t
theorem Vj{P:a9}{w:bh}:∀{j:ai Key} {us:ai aj},Vals (j.map kV) us->ItemsAre (gB P w) j us
 |[],_,r=>by rw[qL]at r;cases r;exact .nil
 |k::j,_,r=>by
  rw[cW]at r;cases r with
  |cons h t=>exact .cons (FY h) (Vj t)
abbrev KT(H:Hp):ai (ai Key×V)->ai (ai Key×aq×aj)->Prop:=Paired λp q=>p.1=q.1/\H q.2.1=ah (.tup (p.1.map kV))/\RelV p.2 q.2.2
theorem KT.val{H:Hp}{kvs:ai (ai Key×V)}{xs:ai (ai Key×aq×aj)}(r:KT H kvs xs)(k:ai Key):nJ (lN kvs k) ((atKey xs k).map (·.2)):=by
 induction r with
 |nil=>exact True.intro
 | @cons p q ps j h t ih =>
  obtain⟨h1,_,h2⟩:=h
  by_cases e:p.1=k
  ·have B:q.1=k:=h1.symm.trans e;have b:atKey (q::j) k=ah q.2:=by simp[atKey,DM,B]
   rw[ZA e,b];exact h2
  ·have B:¬q.1=k:=λz=>e (h1.trans z);have b:atKey (q::j) k=atKey j k:=by simp[atKey,DM,B]
   rw[ZC e,b];exact ih
theorem KT.Ck{H:Hp}{kvs:ai (ai Key×V)}{xs:ai (ai Key×aq×aj)}(r:KT H kvs xs)(k:ai Key){y:V}{u:aj}(B:RelV y u) :
  KT H (kvs.map λj=>if j.1=k then(j.1,y)else j) (xs.map (putAt k u)):=by
 induction r with
 |nil=>exact .nil
 | @cons p q ps U h t ih =>
  rw[cW,cW];refine .cons ?_ ih;obtain⟨h1,h2,L⟩:=h;unfold putAt
  by_cases e:p.1=k
  ·rw[ax e,ax (h1.symm.trans e)];exact⟨h1,h2,B⟩
  ·rw[a8 e,a8 (λz=>e (h1.trans z))];exact⟨h1,h2,L⟩
theorem KT.put{H:Hp}{kvs:ai (ai Key×V)}{xs:ai (ai Key×aq×aj)}(r:KT H kvs xs)(k:ai Key){b:aq}{y:V}{u:aj}(hb:H b=ah (.tup (k.map kV)))(j:RelV y u) :
  KT H (putK kvs k y) (storedH xs k b u):=by
 have e:(kvs.any λz=>decide (z.1=k))=(atKey xs k).isSome:=by
  rw[Pb,(r.val k).Er,Option.isSome_map]
 unfold putK storedH;rw[e]
 by_cases q:(atKey xs k).isSome=au
 ·rw[ax q,ax q];exact r.Ck k j
 ·rw[a8 q,a8 q];exact Paired.snoc r ⟨rfl,hb,j⟩
theorem KT.keeps{H H':Hp}{kvs:ai (ai Key×V)}{xs:ai (ai Key×aq×aj)}(r:KT H kvs xs)(ht:∀b ys,H b=ah (.tup ys)->H' b=ah (.tup ys)):KT H' kvs xs :=
 Paired.Dv r λ_ _ z=>⟨z.1,ht _ _ z.2.1,z.2.2⟩
section
variable{P:a9}{w:bh}{H:Hp}{h:bu}{a:aq}
theorem Ri{u:HO}(ok:fE P w H h)(e:Rd H a u):gP P w H h a u:=e.ok ok
theorem CT{kvs:ai (Key×V)}(ok:fE P w H h)(e:Rd H a (.dK kvs)):kvs.length<=a7/\(a==c6)=ao/\∃vs,KV kvs vs/\h.DictOf (gB P w) a vs :=
 show gP P w H h a (.dK kvs)from Ri ok e
theorem zU{kvs:ai (Key×V)}(ok:fE P w H h)(e:H a=ah (.dK kvs)):kvs.length<=a7/\(a==c6)=ao/\∃vs,KV kvs vs/\h.DictOf (gB P w) a vs:=CT ok (.inl e)
theorem LW{j:ai Key}(ok:fE P w H h)(e:H a=ah (.tup (j.map kV))):(tupleKind (gB P w)).is h j a:=by
 obtain⟨_,z,r,o,h1,h2,n,q⟩:=(show gP P w H h a (.tup (j.map kV))from ok a _ e);exact⟨o,z.toArray,n,h1,h2,q,by simpa using Vj r⟩
theorem HB{kvs:ai (ai Key×V)}(ok:fE P w H h)(e:Rd H a (.dT kvs)):kvs.length<=a7/\(a==c6)=ao /\
  ∃xs,KT H kvs xs/\h.DictOfH (tupleKind (gB P w)) a xs:=by
 obtain⟨z,y,xs,r,o,es,b,h1,h2,U,L,B⟩:=(show gP P w H h a (.dT kvs)from Ri ok e);refine⟨z,y,xs,r,o,es,b,h1,h2,U,L,λx j=>?_,B⟩;have all:∀{l:ai (ai Key×V)} {m:ai (ai Key×aq×aj)},KT H l m->∀x∈m,(tupleKind (gB P w)).is h x.1 x.2.1:=by
  intro l m q
  induction q with
  |nil=>intro x j;exact nomatch j
  | @cons p q ps c hq t ih =>
   intro x j
   rcases eB.mp j with e|j
   ·subst e;exact LW ok (by rw[<-hq.1];exact hq.2.1)
   ·exact ih x j
 exact all r x j
theorem awX{kvs:ai (ai Key×V)}(ok:fE P w H h)(e:H a=ah (.dT kvs)):kvs.length<=a7/\(a==c6)=ao /\
  ∃xs,KT H kvs xs/\h.DictOfH (tupleKind (gB P w)) a xs:=HB ok (.inl e)
end
def qN(H:Hp)(a:aq)(y:V)(r:av V):Prop :=
 (∃kvs k,Rd H a (.dK kvs)/\y=kV k/\r=lN kvs k)\/∃kvs k b,Rd H a (.dT kvs)/\y=.ref b/\H b=ah (.tup (k.map kV))/\r=lN kvs k
def PM(H:Hp)(a:aq)(y v:V)(H':Hp):Prop :=
 (∃kvs k,H a=ah (.dK kvs)/\y=kV k/\kvs.length<a7/\H'=upd H a (.dK (putK kvs k v))) \/
 ∃kvs k b,H a=ah (.dT kvs)/\y=.ref b/\H b=ah (.tup (k.map kV))/\kvs.length<a7/\H'=upd H a (.dT (putK kvs k v))
theorem qN.k{H:Hp}{a:aq}{kvs:ai (Key×V)}{k:Key}(e:H a=ah (.dK kvs)):qN H a (kV k) (lN kvs k):=.inl ⟨kvs,k,.inl e,rfl,rfl⟩
theorem PM.k{H:Hp}{a:aq}{kvs:ai (Key×V)}{k:Key}{v:V}(e:H a=ah (.dK kvs))(hl:kvs.length<a7):PM H a (kV k) v (upd H a (.dK (putK kvs k v))):=.inl ⟨kvs,k,e,rfl,hl,rfl⟩
section
variable{X:Cx}{aa:ai (aq×cj)}{J:St}{H:Hp}{s:ar}{a:aq}{y v:V}{u r:aj}{o:av V}{A:bj}{E:aj->ar->Prop}
theorem Inv.big(I:Inv X aa J H s):c6<s.heap.objs.size:=by
 have h:aw<s.heap.objs.size:=(I.mod.glob.keeps I.bk).lt;exact Lc (by decide) h
theorem axP{Q:aj->ar->Prop}(m:A.units+1<dw)(I:Inv X aa J H s)(g:qN H a y (ah v))(f:RelV y u)(h:∀j s',Inv X aa J H s'->RelV v j->Q j s') :
  wpAny (bc X.prog X.w) A (getItem (.ref a) u) Q E s:=by
 rcases g with⟨B,k,e,c,l⟩|⟨B,k,b,e,c,r,l⟩
 ·subst c;obtain⟨z,hd,vs,rel,d⟩:=CT I.aL e;obtain⟨j,L,q⟩:=nJ.some_of (v:=v) (o:=valueAt vs k) (by rw[l];exact rel.val k);exact wpAny_getItem_of (FY f) d.mapOf L (h j _ (I.tok _) q)
 ·subst c;cases(show u=Value.ref b from f);obtain⟨z,hd,i,rel,d⟩:=HB I.aL e;obtain⟨j,L,q⟩:=nJ.some_of (v:=v) (o:=(atKey i k).map (·.2)) (by rw[l];exact rel.val k);obtain⟨p,n,U⟩:=vX.mp L;refine wpAny_getItem_heap (ZI m) (LW I.aL r) d n ?_;rw[U];exact h j _ (I.tok _) q
theorem axL{Q:aj->ar->Prop}(c:A.units+1<dw)(I:Inv X aa J H s)(g:qN H a y o)(U:RelV y u)(h:∀s',Inv X aa J H s'->Q (.bool (!o.isSome)) s') :
  wpAny (bc X.prog X.w) A (b1 .NotIn u (.ref a)) Q E s:=by
 rcases g with⟨j,k,e,B,l⟩|⟨j,k,b,e,B,d,l⟩
 ·subst B;obtain⟨z,hd,vs,rel,L⟩:=CT I.aL e;refine wpAny_notIn_of (FY U) hd L.mapOf ?_;rw[<-(rel.val k).Er,<-l];exact h _ (I.tok _)
 ·subst B;cases(show u=Value.ref b from U);obtain⟨z,hd,f,rel,L⟩:=HB I.aL e;refine wpAny_notIn_heap (ZI c) (LW I.aL d) hd L ?_;have q:=(rel.val k).Er;rw[Option.isSome_map]at q;rw[<-q,<-l];exact h _ (I.tok _)
theorem Yo{h':bu}{t':ay}{ob:HO}(I:Inv X aa J H s)(j:OC (H a))(hs:Heap.SameBut a s.heap h')(he:∃q,h'.get? a=ah q)(new:gP X.prog X.w (upd H a ob) h' a ob) :
  Inv X aa J (upd H a ob) {s with heap:=h',toks:=t' } :=
 I.write (x:=a) (e:=a) j (.inl rfl) (λb q hb z=>(hs.2 b hb).trans z) he new
theorem Ye{P:a9}{w:bh}{H':Hp}{h':bu}{kvs:ai (Key×V)}{vs:ai (Key×aj)}(z:kvs.length<=a7)(hd:(a==c6)=ao)(rel:KV kvs vs)(dd:h'.DictOf (gB P w) a vs) :
  gP P w H' h' a (.dK kvs):=⟨z,hd,vs,rel,dd⟩
theorem axH{H':Hp}{Q:Unit->ar->Prop}(p:A.units+1<dw)(I:Inv X aa J H s)(g:PM H a y v H')(i:RelV y u)(rv:RelV v r)(h:∀s',Inv X aa J H' s'->Q () s') :
  wpAny (bc X.prog X.w) A (setItem (.ref a) u r) Q E s:=by
 rcases g with⟨j,k,e,U,l,d⟩|⟨j,k,b,e,U,n,l,d⟩
 ·subst U d;obtain⟨z,hd,vs,rel,f⟩:=zU I.aL e;have L:vs.length<=a7:=by rw[<-rel.length];exact z
  have hl:(putK j k v).length<=a7:=by have:=Ur j k v;omega
  refine wpAny_setItem_pairs (hsz:=L) (FY i) f λh' B hs=>h _ ?_;have he:∃q,h'.get? a=ah q:=let ⟨q,_,_,hq,_⟩:=B; ⟨q,hq⟩;exact Yo I (by rw[e];exact True.intro) hs he (Ye hl hd (rel.put k rv) B)
 ·subst U d;cases(show u=Value.ref b from i);obtain⟨z,hd,o,rel,f⟩:=awX I.aL e;have L:o.length<=a7:=by rw[<-Paired.length rel];exact z
  have hl:(putK j k v).length<=a7:=by have:=Ur j k v;omega
  refine wpAny_setItem_heap (hsz:=L) (ZI p) (LW I.aL n) f λh' B hs=>h _ ?_;obtain⟨q,es,D,hq,h2,C,x,_,t⟩:=B;refine Yo I (by rw[e];exact True.intro) hs ⟨q,hq⟩ ⟨hl,hd,_,(rel.put k n rv).keeps λc F m=>?_,q,es,D,hq,h2,C,x,t⟩;rw[bH (zF m e (λz=>nomatch z))];exact m
end
section
variable{X:Cx}{aa:ai (aq×cj)}{J:St}{H:Hp}{s:ar}{a:aq}{kvs:ai (Key×V)}{k:Key}{u:aj}{A:bj}{E:aj->ar->Prop}
theorem axN{Q:aj->ar->Prop}(I:Inv X aa J H s)(e:Rd H a (.dK kvs))(h:∀t s',Inv X aa J H s'->Q (.int kvs.length t) s'):wpAny (bc X.prog X.w) A (call (.builtin "len") [.ref a]) Q E s:=by
 obtain⟨z,hd,vs,rel,j⟩:=CT I.aL e;refine call_len_dict hd j (by rw[<-rel.length];rw[jP]at z;omega) ?_;rw[<-rel.length];exact h _ _ (I.tok _)
end
def Lb(i:bp):Prop:=∀j q,subscripted i ao j q=operate [j,q] (getItem j q)
theorem afX{prog:a9}{w:bh}{A:bj}{E:aj->ar->Prop}{s:ar}{env:Env}{value slice:bp}{pos:cq}{T id:cm}{Q:aj->ar->Prop}
  (hl:typeLookup (.type T) "__getitem__" = pure (ah (.builtin id))) (hs:Lb slice)
  (h:wpAny (bc prog w) A (br value env) (λo s₁=>wpAny (bc prog w) A (br slice env) (λi s₂=>s₂.TypeIs o T/\wpAny (bc prog w) A (getItem o i) Q E s₂) E s₁) E s) :
  wpAny (bc prog w) A (br (.Subscript value slice pos) env) Q E s:=by
 refine Subscript_ (lZ h (λo s₁ B=>lZ B (λi s₂ j=>?_) λ_ _ x=>x) λ_ _ x=>x);obtain⟨hT,j⟩:=j;unfold subscriptTail;refine aJ ?_;rw[getitemInPython_of_ne hT.not_modules];refine aJ (wpAny_specialOf hT hl ?_);have fin:wpAny (bc prog w) A (subscripted slice ao o i) (λr q=>wpAny (bc prog w) A (letTemporaryGo value o r >>= λ_=>pure r) Q E q) E s₂:=by
  rw[hs o i];exact wpAny_operating (lZ j (λr q z=>aJ (wpAny_letTemporaryGo (bG z))) λ_ _ x=>x)
 first
  |exact bG (aJ fin)
  |exact aJ (bG (aJ fin))
  |exact aJ fin
theorem aw5{X:Cx}{aa:ai (aq×cj)}{J:St}{H:Hp}{s:ar}{a:aq}{y:V}{o:av V}(I:Inv X aa J H s)(g:qN H a y o):s.TypeIs (.ref a) "dict":=by
 rcases g with⟨j,k,e,_,_⟩|⟨j,k,b,e,_,_,_⟩
 ·obtain⟨_,_,vs,_,q⟩:=CT I.aL e;exact q.typeIs
 ·obtain⟨_,_,z,_,q⟩:=HB I.aL e;exact q.typeIs
def aeR(td ty:TE):TE:=λJ H Q=>td J H λx H1=>ty J H1 λy H2=>∃a v,x=.ref a/\qN H2 a y (ah v)/\Q v H2
def aeP(ty td:TE):TE:=λJ H Q=>ty J H λy H1=>td J H1 λx H2=>∃a o,x=.ref a/\qN H2 a y o/\Q (.bl o.isSome) H2
def Qc(ty td:TE):TE:=λJ H Q=>ty J H λy H1=>td J H1 λx H2=>∃a o,x=.ref a/\qN H2 a y o/\Q (.bl (!o.isSome)) H2
def aiA(td ty tv:TE):TS:=λD J H=>tv J H λv H1=>td J H1 λx H2=>ty J H2 λy q=>∃a j,x=.ref a/\PM q a y v j/\D.nx J j
section
variable{X:Cx}{o i e value:bp}{pos pos' adZ:cq}{td ty tv:TE}
theorem alG(b:X.A.units+1<dw)(c:PE X o td)(hi:PE X i ty)(hs:Lb i):PE X (.Subscript o i pos) (aeR td ty):=by
 intro aa s J H Q I h;refine afX PySem.F.slot_dict_getitem.lookup hs (bN (c aa s J H _ I h) λu s1 ⟨x,k,e,B,U⟩=>bN (hi aa s1 J k _ e U) λp n zz=>?_);obtain⟨y,f,j,z,a,v,ex,g,L⟩:=zz;subst ex;obtain rfl:u=Value.ref a:=B;exact⟨aw5 j g,axP b j g z λl m d q=>⟨v,f,d,q,L⟩⟩
theorem alP(U:X.A.units+1<dw)(hi:PE X i ty)(b:PE X o td):PC X .NotIn i o (Qc ty td):=by
 intro aa s J H Q I h;refine bN (hi aa s J H _ I h) λn s1 ⟨y,k,e,j,B⟩=>bN (b aa s1 J k _ e B) λu m zz=>?_;obtain⟨x,f,d,q,a,L,ex,g,z⟩:=zz;subst ex;obtain rfl:u=Value.ref a:=q;exact axL U d g j λl c=>⟨.bl (!L.isSome),f,c,rfl,z⟩
theorem akH(b:X.A.units+1<dw)(c:PE X o td)(hi:PE X i ty)(hv:PE X value tv)(hs:da value (ah (.Subscript o i pos')) pos.line X.env=pure ao) :
  PS X (.Assign [.Subscript o i pos'] value pos) (aiA td ty tv):=by
 intro aa s J H D I h;refine wpAny_Assign_Subscript (bN (hv aa s J H _ I h) λr s1 ⟨v,n,k,rv,U⟩=>bN (c aa s1 J n _ k U) λu j ⟨x,m,f,z,L⟩=>bN (hi aa j J m _ f L) λw t zz=>?_) hs;obtain⟨y,C,e,q,a,l,ex,g,B⟩:=zz;subst ex;obtain rfl:u=Value.ref a:=z;exact axH b e g q rv λp d=>⟨J,l,d,B⟩
end
theorem aw2{P:a9}{w:bh}{H:Hp}(h:bu)(hb:c6<h.objs.size):gP P w H (h.push {cls:=.type "dict",data:=.dict #[]}) h.objs.size (.dK []) :=
 ⟨IA _,vV.mpr (cK (dX hb)),[],.nil,Heap.DictOf.new h⟩
def aeO:TE:=λ_ H Q=>∀p,H p=ak->Q (.ref p) (upd H p (.dK []))
section
variable{X:Cx}{pos:cq}
theorem alE:PE X (.Dict [] [] pos) aeO:=λaa s J H Q I h =>
 wpAny_Dict_empty ⟨.ref s.heap.objs.size,_,I.laid (a:=s.heap.objs.size) (o:=.dK []) (t':=s.toks) (λ_ _ q=>dD _ q) cU (aw2 s.heap I.big),rfl,h _ (I.aL.fresh cU)⟩
end
structure M2(X:Cx)(o:bp)(m:a5)(ag:cq)(e f:bp)(jH:cq):Prop where
 base:bw o m X.env (br o X.env)=br o X.env
 few:((b8 jH (az [e,f] X.env)).all (λx=>!x.1)&&(dr jH (cx [] X.env)).all (λx=>x.1.isSome)
  && decide (([e,f]:ai bp).length+([]:ai Keyword).length+(if([]:ai Keyword).isEmpty then 0 else 1)<30))=au
 line:(ag.endLine==jH.line)=au
 trees:b8 jH (az [e,f] X.env)=[(ao,br e X.env),(ao,br f X.env)]
def IsD(H:Hp)(a:aq):Prop:=(∃kvs,Rd H a (.dK kvs))\/∃kvs,Rd H a (.dT kvs)
theorem BW{X:Cx}{aa:ai (aq×cj)}{J:St}{H:Hp}{s:ar}{a:aq}(I:Inv X aa J H s)(d:IsD H a) :
  s.TypeIs (.ref a) "dict"/\(∀b,Value.ref a=.ref b->∃ob,s.heap.get? b=ah ob/\ob.dict=ak)/\(a==c6)=ao:=by
 rcases d with⟨z,e⟩|⟨z,e⟩
 ·obtain⟨_,hd,vs,_,j⟩:=CT I.aL e;refine⟨j.typeIs,λb q=>?_,hd⟩;cases q;obtain⟨ob,_,_,h1,h2,_⟩:=j;exact⟨ob,h1,h2.2.1⟩
 ·obtain⟨_,hd,B,_,j⟩:=HB I.aL e;refine⟨j.typeIs,λb q=>?_,hd⟩;cases q;obtain⟨ob,_,_,h1,h2,_⟩:=j;exact⟨ob,h1,h2.2.1⟩
section
variable{X:Cx}{aa:ai (aq×cj)}{J:St}{H:Hp}{s:ar}{a:aq}{y d:V}{u r:aj}{o:av V}{A:bj}{E:aj->ar->Prop}
theorem axQ{Q:aj->ar->Prop}(i:A.units+1<dw)(I:Inv X aa J H s)(g:qN H a y o)(U:RelV y u)(c:RelV d r)(h:∀L s',Inv X aa J H s'->RelV (o.getD d) L->Q L s') :
  wpAny (bc X.prog X.w) A (call (.builtin "dict.get") [.ref a,u,r]) Q E s:=by
 rcases g with⟨q,k,e,B,l⟩|⟨q,k,b,e,B,m,l⟩
 ·subst B;obtain⟨z,hd,vs,rel,j⟩:=CT I.aL e;refine HM PySem.F.slot_dict_get j.typeIs PySem.F.entry_dict_get (PySem.F.args_dict_get_3 _ _ _) (meets_dict_get_default (gB X.prog X.w) a (FY U) hd r) ⟨_,j.mapOf,h _ _ (I.tok _) ?_⟩;rw[l];exact(rel.val k).getD c
 ·subst B;cases(show u=Value.ref b from U);obtain⟨z,hd,f,rel,j⟩:=HB I.aL e;refine HM PySem.F.slot_dict_get j.typeIs PySem.F.entry_dict_get (PySem.F.args_dict_get_3 _ _ _) (meetsH_dict_get_default (tupleKind (gB X.prog X.w)) a b hd r) ⟨ZI i,k,f,LW I.aL m,j,h _ _ (I.tok _) ?_⟩;rw[l];exact(rel.val k).getD c
end
def aeQ(td ty tx:TE):TE:=λJ H Q=>td J H λx H1=>∃a,x=.ref a/\IsD H1 a/\ty J H1 λy H2=>tx J H2 λz j=>∃o,qN j a y o/\Q (o.getD z) j
section
variable{X:Cx}{o e f:bp}{ag jH:cq}{td ty tx:TE}
theorem alF(p:X.A.units+1<dw)(r:PE X o td)(he:PE X e ty)(t:PE X f tx)(m:M2 X o "get" ag e f jH):PE X (.Call (.Attribute o "get" ag) [e,f] [] jH) (aeQ td ty tx):=by
 intro aa s J H Q I h;refine wpAny_Call_method m.base m.few m.line PySem.F.plainAttrs_dict PySem.F.slot_dict_get PySem.F.type_dict_get (bN (r aa s J H _ I h) λu s1 zz=>?_);obtain⟨x,G,j,i,a,ex,d,n⟩:=zz;subst ex;obtain rfl:u=Value.ref a:=i;obtain⟨L,B,_⟩:=BW j d;refine⟨L,B,?_⟩;rw[m.trees];refine JE rfl (abY (JD (bN (he aa s1 J G _ j n) λR U ⟨y,E,C,c,l⟩ =>
  JD (bN (t aa U J E _ C l) λS N ⟨z,D,w,b,P,g,k⟩=>PO ?_))))
 exact axQ p w g c b λK M v q=>⟨_,D,v,q,k⟩
end
end L2
namespace Att
open PySem PySem.W PySem.Calls PyProof.Rows
theorem aq6{P:Params}{h:bu}:∀(ns:ai a6) (vs:ai aj),WellAll P h vs (ns.map WData.int)->cg vs ns:=by
 intro ns
 induction ns with
 |nil =>
  intro vs w;rw[qL]at w;cases w;exact .nil
 |cons n ns ih =>
  intro vs w;rw[cW]at w;cases w with
  |cons a b =>
   cases a;exact .cons _ _ (ih _ b)
theorem agU{l:OpenLaw}{n:ay}(hn:l.most=ah n){P:Params}{h:bu}{args:ai WData}{vals:ai aj}
  (U:l.row.toRowW.claim.pre args=au) (k:WellAll P h vals args) :
  ∃a vs ns,vals=[Value.ref a]/\args=[WData.list (ns.map WData.int)]/\h.get? a=ah {cls:=.type "list",data:=.seq vs.toArray}/\cg vs ns/\ns.length<=n:=by
 have B:WShape.hasAll [] args [.list .int]=au:=(pre_splitW U).1;have L:l.pre.holds [] {args:=args}=au:=(pre_splitW U).2;obtain⟨d,r,rfl,h1,h2⟩:=hasAllW_cons B;obtain rfl:=hasAllW_nil h2;obtain⟨m,rfl,g⟩:=hasW_list h1;obtain⟨ns,rfl⟩:=items_int g;have hlen:ns.length<=n:=by
  unfold OpenLaw.pre at L;have z:(WTm.not (.lt (.lit (.int (n:a6))) (.len (.arg 0)))).holds [] {args:=[.list (ns.map .int)]}=au:=by
   have z:=(holds_andW L).1;rw[hn]at z;exact z
  have j:=condW_of z (w_not (w_lt w_lit (w_len_list (w_arg rfl))));rw[fI]at j;refine Le λq=>?_;have e:(n:a6)<((ns.length:ay):a6):=by omega
  first
   |(rw[xQ e]at j;exact bz j (by decide))
   |(simp at j;omega)
 cases k with
 |cons c b =>
  cases b;cases c with
  |list f i=>exact⟨_,_,ns,rfl,rfl,f,aq6 ns _ i,hlen⟩
theorem akK(l:OpenLaw)(args:ai WData):l.row.toRowW.claim.post args (.bool au) args=au :=
 postW_of (r:=l.row.toRowW) (X:=(au==au))
  (show WShape.has [] (.bool au) .bool=au by first|rfl|decide|simp[WShape.has,WShape.arms,WShape.armsAll])
  (show(WTm.eq .res (.lit (.bool au))).value [] {args:=args,res:=ah (.bool au),after:=args}=ah (.bool (au==au))from w_eq_bool (w_res rfl) w_lit) rfl
theorem aBV{l:OpenLaw}{n:ay}{q:a9}{loose:ai a5}{XP:(a5->av aj)->bu->Prop}{YP:bh->bu->Prop}{d:DefRec}
  (hn:l.most=ah n) (h:d.params.defaults=[])
  (call:∀(w:bh) (s₀ s₁:ar) (mg mb:a5->av aj) (fa:aq) (o:cj) (pm j doc:aj) (a:aq) (vs:ai aj) (ns:ai a6),
   Ground q loose [] XP w s₀ mg mb s₁.heap->YP w s₁.heap ->
   s₁.heap.get? fa=ah o->o.data=.func (docDef d.name d.params d.body d.scope pm j doc)->s₁.heap.CodeRec j d.name->mg d.name=ah (.ref fa) ->
   s₁.heap.get? a=ah {cls:=.type "list",data:=.seq vs.toArray}->cg vs ns->ns.length<=n->s₁.gens=#[] ->
   codeAny (bc l.prog w) callerA (.call (.ref fa) ⟨[.ref a],[]⟩) (λr s'=>r=.ok (.ret (.bool au))/\OldK s₁.heap s'.heap/\s'.os=s₁.os/\AllBare s'.gens) s₁) :
  WalkO q loose XP YP l.row.toRowW d [] (λf vs=>PySem.call f vs):=by
 intro w s₀ s₁ mg mb G ρ fa o pm j doc dV kV L hd jG z i U args vals p g e B m s;obtain rfl:dV=.none:=Dflts.none z h;obtain rfl:kV=.none:=Dflts.noKw z;obtain⟨a,vs,ns,rfl,rfl,k,hints,hlen⟩:=agU hn g m;refine enter_call (uN (call w s₀ s₁ mg mb fa o pm j doc a vs ns G ρ L (fd_plain hd) jG i k hints hlen U) λr s' hq=>?_);obtain⟨rfl,h2,c,b⟩:=hq;exact⟨.inl ⟨.bool au,.bool au,[],rfl,λ_=>rfl,.bool au,akK l _,λ_=>⟨List.Pairwise.nil,λ_ hm=>(nomatch hm)⟩⟩,h2,c,b⟩
section
variable{prog:a9}{w:bh}{A:bj}{E:aj->ar->Prop}{s:ar}{K:ba}
noncomputable def ledger(h:bu)(L d:aq):ai (aq×cj):=(List.range h.objs.size).filterMap λa=>if a=L\/a=d then ak else(h.get? a).map λo=>(a,o)
end
end Att
namespace L2
open PySem PySem.Spec PyProof.Rows
theorem QE:∀{vs:ai aj} {ns:ai a6},cg vs ns->Vals (ns.map V.int) vs
 |_,_,.nil => .nil
 |_,_,.cons n t h => .cons ⟨t,rfl⟩ (QE h)
def La(H:Hp):Prop:=∀b,H b=ak\/∃o xs,H b=ah (.dW o (.lst xs))
theorem aoU{P:a9}{w:bh}{K:ba}{mg mb:a5->av aj}{CX:oA}{k:ay}{fa a:aq}{fd:ck}{x:a5}{sp:Sp}{s₁:ar}{vs:ai aj}{ns:ai a6}
  (KX:K.In s₁.heap) (D:s₁.heap.Ns aw mg) (hb:s₁.heap.Ns builtinsNs mb) (c:∀x:a5,x≠"__name__"->mb x=c1 x) (i:s₁.heap.NoLimit) (N:s₁.gens=#[])
  (ha:s₁.heap.get? a=ah {cls:=.type "list",data:=.seq vs.toArray}) (hi:cg vs ns) (hl:ns.length<=a7) (hr:cE k callerA)
  (F:∀base:bu,K.In base->base.Ns aw mg->gR P w K mg base CX k fa fd [x] sp) (g:∀(s:ar) (u:aj),BindsTo s fd ⟨[u],[]⟩ [(x,u)])
  (gF:∀H:Hp,La H->fA K H a (ns.map V.int)->sp [.ref a] H (λv _=>v=.bl au) λ_ _ _=>b5)
  (W:∀H e s',CX [] H s₁ (λ_ _ _=>b5) e s'->b5) :
  codeAny (bc P w) callerA (.call (.ref fa) ⟨[.ref a],[]⟩) (λr s'=>r=.ok (.ret (.bool au))/\OldK s₁.heap s'.heap/\s'.os=s₁.os/\AllBare s'.gens) s₁:=by
 have rv:=QE hi;have l:=hi.length;have core:∀H:Hp,La H->fA K H a (ns.map V.int)->fE P w H s₁.heap->(∀b,H b≠ak->b=a)->(H a≠ak->K.lookup a=ak) ->
   codeAny (bc P w) callerA (.call (.ref fa) ⟨[.ref a],[]⟩) (λr s'=>r=.ok (.ret (.bool au))/\OldK s₁.heap s'.heap/\s'.os=s₁.os/\AllBare s'.gens) s₁:=by
  intro H p hS aL t R;have A:∀{b:aq} {o:cj},s₁.heap.get? b=ah o->H b=ak->(xF s₁.heap H).get? b=ah o:=λe n=>asT e n;have T:∀{b:aq} {o:cj} {es:bf DictEntry} {B:ay},s₁.heap.get? b=ah o->o.data=.dict es B->H b=ak:=λ{b o es B} e d=>by
   cases q:H b with
   |none=>rfl
   |some u =>
    have f:b=a:=t b (by rw[q];simp);subst f;rw[ha]at e;cases e;have d':Data.seq vs.toArray _=Data.dict es B:=d;cases d'
  have L:∀{b:aq} {m:a5->av aj},s₁.heap.Ns b m->(xF s₁.heap H).Ns b m:=λ{b m} ⟨o,es,B,e,d,r⟩=>⟨o,es,B,A e (T e d),d,r⟩
  have C:K.In (xF s₁.heap H):=λb o e=>A (KX b o e) (by
   cases q:H b with
   |none=>rfl
   |some u =>
    have f:b=a:=t b (by rw[q];simp);subst f;rw[R (by rw[q];simp)]at e;cases e)
  have Q:Mod K mg (xF s₁.heap H):=⟨C,L D,⟨mb,L hb,c⟩,let ⟨M,h1,h2⟩:=i; ⟨M,L h1,h2⟩⟩;have e0:yJ P w K mg (xF s₁.heap H) callerA [] s₁ H:=⟨rfl,Q,λb o e=>amR e,Nat.le_of_eq (asS _ _),trivial,λb hb=>bz (show b∈([]:ai aq)from hb) (by simp),aL,.of_eq N⟩;refine uN ((F _ C (L D)).run callerA [] s₁ H ⟨[.ref a],[]⟩ [.ref a] [.ref a] _ _ hr e0 (g s₁ (.ref a)) (.cons rfl .nil) (gF H p hS)) λr s' h=>?_;cases r with
  |error e=>exact(W H e s' h).elim
  |ok fl =>
   cases fl with
   |next=>exact False.elim h
   |brk=>exact False.elim h
   |cont=>exact False.elim h
   |ret u =>
    obtain⟨v,H',os,bare,un,X,G,q⟩:=h;have I:v=.bl au:=q;subst I;obtain rfl:u=Value.bool au:=G;refine⟨rfl,OldK.of_keep λb o e=>?_,os,bare⟩;cases q:H b with
    |none=>exact un.keep b o e q (by intro z;exact bz (show b∈([]:ai aq)from z) (by simp)) (by simp)
    |some u =>
     rcases p b with z|⟨ob,xs,z⟩
     ·rw[q]at z;cases z
     ·have E:=un.kN b ob _ z;obtain⟨y,_⟩:=aL b _ z;obtain⟨S,_⟩:=X b _ E;rw[e]at y;cases y;exact S
 cases U:K.lookup a with
 |some o =>
  have e:=KX a o U;rw[ha]at e;cases e;refine core (λ_=>ak) (λ_ => .inl rfl) (.inr ⟨_,vs.toArray,_,U,rfl,rfl,rfl,by rw[kD,l];exact hl,by simpa using rv⟩) (λb u z=>by have j:(ak:av HO)=ah u:=z;cases j) (λb z=>bz rfl z) λz=>bz rfl z
 |none =>
  refine core (λb=>if b=a then ah (.dW {cls:=.type "list",data:=.seq vs.toArray} (.lst (ns.map V.int)))else ak) (λb=>?_) (.inl (.inr ⟨{cls:=.type "list",data:=.seq vs.toArray},ax rfl⟩)) (λb u z=>?_) (λb z=>?_) λ_=>U
  ·by_cases hb:b=a
   ·exact .inr ⟨_,_,ax hb⟩
   ·exact .inl (a8 hb)
  ·by_cases hb:b=a
   ·have j:=(ax hb).symm.trans z;cases j;subst hb;exact⟨ha,by rw[fI];exact hl,vs,_,rv,ha⟩
   ·have j:=(a8 hb).symm.trans z;cases j
  ·by_cases hb:b=a
   ·exact hb
   ·exact bz (a8 hb) z
theorem acF{l:OpenLaw}{n k:ay}{q:a9}{loose:ai a5}{XP:(a5->av aj)->bu->Prop}{YP:bh->bu->Prop}{d:DefRec}{K:Params->ba}{CX:bh->oA}{sp:bh->Sp}{x:a5}
  (hn:l.most=ah n) (m:n<=a7) (U:d.params.defaults=[]) (hr:cE k callerA)
  (z:∀(w:bh) (h:bu),YP w h->(K w.params).In h)
  (F:∀(w:bh) (mg:a5->av aj) (fa:aq) (h:bu),(K w.params).In h->h.Ns aw mg->mg d.name=ah (.ref fa) ->
   ∃fd:ck,(∀(s:ar) (u:aj),BindsTo s fd ⟨[u],[]⟩ [(x,u)]) /\
    ∀base:bu,(K w.params).In base->base.Ns aw mg->gR l.prog w (K w.params) mg base (CX w) k fa fd [x] (sp w))
  (gF:∀(w:bh) (H:Hp) (a:aq) (ns:ai a6),ns.length<=n->La H->fA (K w.params) H a (ns.map V.int)->sp w [.ref a] H (λv _=>v=.bl au) λ_ _ _=>b5)
  (i:∀(w:bh) (H:Hp) (s:ar) (e:aj) (s':ar),CX w [] H s (λ_ _ _=>b5) e s'->b5) :
  PySem.W.WalkO q loose XP YP l.row.toRowW d [] (λf vs=>PySem.call f vs):=by
 refine Att.aBV hn U λw s₀ s₁ mg mb fa o pm t doc a vs ns G ρ r hd jG c p hints hlen j=>?_;have KX:=z w _ ρ;obtain⟨fd,hb,L⟩:=F w mg fa _ KX G.T.g c;exact aoU KX G.T.g G.T.b G.T.builtins G.T.nolimit j p hints (xY hlen m) hr L hb (λH B hS=>gF w H a ns hlen B hS) λH e s'=>i w H s₁ e s'
noncomputable def inClass(s:bo)(j:ay):bo:=match s with
 |.ClassDef _ _ _ body _ _ _ _ _ _ _=>body.getD j (.Pass ⟨0,0,0,0⟩)
 |_ => .Pass ⟨0,0,0,0⟩
noncomputable def kO(s:bo):Arguments:=match s with
 |.FunctionDef _ a _ _ _ _ _ _ _ _=>a
 |_=>{posonlyargs:=[],args:=[],vararg:=ak,kwonlyargs:=[],kw_defaults:=[],kwarg:=ak,defaults:=[]}
noncomputable def eZ(s:bo):ai bo:=match s with
 |.FunctionDef _ _ b _ _ _ _ _ _ _=>b
 |_=>[]
noncomputable def aY(s:bo):cp:=match s with
 |.FunctionDef _ _ _ _ _ _ j _ _ _=>j
 |_=>{kind:=.function,names:=[],isGenerator:=ao,isCoroutine:=ao}
abbrev pS:oA:=λ_ _ _ _ _ _=>b5
abbrev E0:XK:=λ_ _ _=>b5
theorem alR{X:Cx}:Passes pS X E0:=λ_ _ _ _ _ _ _ h=>h.elim
structure tD(K:ba)(x af:a5)(st:bo)(f:aq)(fd:ck):Prop where
 ex:∃(oc:aj) (od:av aq) (kV doc pm:aj) (an:av aq) (aS ct:aj) (gY:bf (av aj)),
  fd=fnOf x af (kO st) (eZ st) (aY st) .none kV doc pm an aS ct/\K.lookup f=ah ⟨oc,od,.func fd,gY⟩/\codeIn K aS af=au
 kp:keepIn K (.ref f)=au
section
variable{P:a9}{w:bh}{K:ba}{mg:a5->av aj}{base:bu}
theorem tD.binds{x af:a5}{st:bo}{f:aq}{fd:ck}{ps:ai a5}(F:tD K x af st f fd)
  (h:∀(kV doc pm:aj) (an:av aq) (aS ct:aj) (us:ai aj),us.length=ps.length->dh (fnOf x af (kO st) (eZ st) (aY st) .none kV doc pm an aS ct) ⟨us,[]⟩=pure (ps.zip us)):Binds K fd ps []:=by
 obtain⟨oc,od,kV,doc,pm,an,aS,ct,gY,rfl,lk,jG⟩:=F.ex;exact .all (h kV doc pm an aS ct)
theorem ND{x af:a5}{st:bo}{f:aq}{oc:aj}{od an:av aq}{gY:bf (av aj)}{kV doc pm aS ct:aj}(l:K.lookup f=ah ⟨oc,od,.func (fnOf x af (kO st) (eZ st) (aY st) .none kV doc pm an aS ct),gY⟩)
  (c:codeIn K aS af=au) (k:keepIn K (.ref f)=au):tD K x af st f (fnOf x af (kO st) (eZ st) (aY st) .none kV doc pm an aS ct):=⟨⟨oc,od,kV,doc,pm,an,aS,ct,gY,rfl,l,c⟩,k⟩
end
section
variable{X:Cx}
theorem aAH:mT X (.builtin "len") (λxs H Q=>∃a kvs,xs=[V.ref a]/\H a=ah (.dK kvs)/\Q (.int kvs.length) H):=by
 intro aa s J H xs us Q I r h;obtain⟨a,kvs,rfl,ha,q⟩:=h;obtain⟨u,rfl,j⟩:=vals1 r;cases j;exact axN I (.inl ha) λt s' z=>⟨.int kvs.length,H,z,⟨t,rfl⟩,q⟩
end
def mM(H H':Hp):Prop:=∀b o,H b=ah o->H' b=ah o
theorem mM.refl(H:Hp):mM H H:=λ_ _ h=>h
theorem mM.trans{H H1 H2:Hp}(a:mM H H1)(b:mM H1 H2):mM H H2:=λc o h=>b c o (a c o h)
theorem mM.seq{K:ba}{H H':Hp}{a:aq}{xs:ai V}(e:mM H H')(h:fA K H a xs):fA K H' a xs:=by
 rcases h with(h|⟨o,h⟩)|h
 ·exact .inl (.inl (e _ _ h))
 ·exact .inl (.inr ⟨o,e _ _ h⟩)
 ·exact .inr h
theorem Ih(env:Env):∀(names:ai (a5×c4)) (cs:ai (a5×aq)),(∀y∈names,y.2=.free->∃c,env.cells.lookup y.1=ah c) ->
  ∃cl,(forIn names cs (λ(x:a5×c4) (cs:ai (a5×aq))=>(match x with|(name,kind)=>if(kind==NameKind.free)=au then(do let c<-cellOf env name;pure (ForInStep.yield ((name,c)::cs)))else pure (ForInStep.yield cs))):Sem (ai (a5×aq)))=pure cl /\
   (∀x c,cl.lookup x=ah c->cs.lookup x=ah c\/env.cells.lookup x=ah c)/\(∀y∈names,y.2=.free->∃c,cl.lookup y.1=ah c)/\(∀x c,cs.lookup x=ah c->∃c',cl.lookup x=ah c')
 |[],cs,_=>⟨cs,rfl,λ_ _ h => .inl h,λ_ h=>(nomatch h),λ_ c h=>⟨c,h⟩⟩
 |(n,k)::r,cs,h=>by
  by_cases U:k=.free
  ·subst U;obtain⟨c,a⟩:=h (n,.free) sG rfl;obtain⟨cl,e,h1,h2,z⟩:=Ih env r ((n,c)::cs) λy hy=>h y (gQ _ hy);refine⟨cl,?_,λx d hd=>?_,λy hy L=>?_,λx d hd=>?_⟩
   ·rw[List.forIn_cons];simp only[beq_self_eq_true,nC,cellOf,a,pure_bind];exact e
   ·rcases h1 x d hd with q|q
    ·rw[IL]at q;split at q
     ·rename_i B;have b:x=n:=by simpa using B
      subst b;exact .inr (a.trans q)
     ·exact .inl q
    ·exact .inr q
   ·rcases eB.mp hy with j|j
    ·subst j;exact z n c (by simp)
    ·exact h2 y j L
   ·by_cases B:x=n
    ·subst B;exact z x c (by simp)
    ·have hb:(x==n)=ao:=by simpa using B
     exact z x d (by rw[IL,hb];exact hd)
  ·obtain⟨cl,e,h1,h2,z⟩:=Ih env r cs λy hy=>h y (gQ _ hy);have hb:(k==NameKind.free)=ao:=by simpa using U
   refine⟨cl,?_,h1,λy hy L=>?_,z⟩
   ·rw[List.forIn_cons];simp only[hb,yL,lC,pure_bind];exact e
   ·rcases eB.mp hy with j|j
    ·subst j;exact bz L U
    ·exact h2 y j L
theorem azM{scope:cp}{env:Env}(h:∀y∈scope.names,y.2=.free->∃c,env.cells.lookup y.1=ah c) :
  ∃cl,closureFor scope env=pure cl/\(∀x c,cl.lookup x=ah c->env.cells.lookup x=ah c)/\∀y∈scope.names,y.2=.free->∃c,cl.lookup y.1=ah c:=by
 obtain⟨cl,e,h1,h2,_⟩:=Ih env scope.names [] h;refine⟨cl,?_,λx c j=>(h1 x c j).resolve_left (by simp),h2⟩;unfold closureFor;refine Eq.trans (b7 (λm=>m >>= λq=>pure q) e) ?_;rfl
section
variable{prog:a9}{w:bh}{A:bj}{R:Result->ar->Prop}{s:ar}
theorem ay7{elt target iter:bp}{ifs:ai bp}{scope:cp}{pos:cq}{it acc:aj}{env:Env}(I:ay->ar->Prop)
  (turn:∀n s,I n s->wpAny (bc prog w) A (df it) (λr s₁=>match r with
   |none=>R (.ok .next) s₁
   | some v=>wpAny (bc prog w) A (letOwnedTupleGo target it v) (λ_ e=>wpAny (bc prog w) A (assign target env v) (λ_ s₂ =>
     wpAny (bc prog w) A (forIn ifs au λc r=>if r=au then do let ok<-isTrue c env (br c env);pure (ForInStep.yield ok)else pure (ForInStep.yield r)) (λok j =>
      if ok=au then wpAny (bc prog w) A (br elt env) (λx z =>
       wpAny (bc prog w) A (call (.builtin "list.append") [acc,x]) (λ_ q=>∃m,m<n/\I m q) (λ_ _=>b5) z) (λ_ _=>b5) j
      else ∃m,m<n/\I m j) (λ_ _=>b5) s₂) (λ_ _=>b5) e) (λ_ _=>b5) s₁) (λ_ _=>b5) s)
  (n:ay) (h:I n s) :
  codeAny (bc prog w) A (.compLoop (.ListComp elt [⟨target,iter,ifs,0⟩] scope pos) 0 it acc env) R s:=by
 refine codeAny_loop rfl I (λn s f=>?_) n h;show wpAny _ A ((compTurn (.ListComp elt [⟨target,iter,ifs,0⟩] scope pos) 0 it acc env).onRaise (λx=>do noteFrame x env;theTreesLotGoes x)) _ _ s;refine wpAny_noted ?_;rw[compTurn_list];refine aJ (wpAny_standAt (aJ (lZ (turn n s f) (λr s₁ L=>?_) λ_ _ h'=>h'.elim)));cases r with
 |none=>exact bG L
 |some v =>
  refine aJ (lZ L (λ_ e U=>?_) λ_ _ h'=>h'.elim);refine aJ (lZ U (λ_ s₂ d=>aJ (lZ d (λok j B=>?_) λ_ _ h'=>h'.elim)) λ_ _ h'=>h'.elim);cases ok with
  |false=>exact bG ⟨rfl,B⟩
  |true =>
   exact aJ (aJ (lZ B (λx z b=>aJ (lZ b (λ_ q a=>bG (bG ⟨rfl,a⟩)) λ_ _ h'=>h'.elim)) λ_ _ h'=>h'.elim))
end
def DE(X:Cx)(ifs:ai bp)(t:TT):Prop :=
 ∀(aa:ai (aq×cj)) (s:ar) (J:St) (H:Hp) (Q:bb->Hp->Prop),Inv X aa J H s->t J H Q ->
  wpAny (bc X.prog X.w) X.A (forIn ifs au λc r=>if r=au then do let ok<-isTrue c X.env (br c X.env);pure (ForInStep.yield ok)else pure (ForInStep.yield r)) (TP X aa J Q) X.xe s
def aeC:TT:=λ_ H Q=>Q au H
theorem akO{X:Cx}:DE X [] aeC:=λ_ _ _ H _ I h=>wpAny_tests_nil ⟨H,I,h⟩
theorem akN{X:Cx}{c:bp}{t:TT}(h:PT X c t):DE X [c] t:=λaa s J H Q I q=>wpAny_tests_one (h aa s J H Q I q)
noncomputable def gL(X:Cx)(scope:cp)(q:ai a5)(z:ai ay)(cl:ai (a5×aq))(C:aq)(s:ar)(H:Hp)(fp:ai aq):Cx :=
 {X with N:=q++z.map (λj=>X.N.getD j Str.empty),s₀:=s,H₀:=H,env:=compEnvC scope cl C X.env,outer:=X.stack,ex:=fp,fn:=λ_=>ao,xe:=λ_ _=>b5}
noncomputable def zH(q:ai a5)(z:ai ay)(J:St):St:=q.map (λ_=>ak)++z.map (λj=>(J[j]?).join)
noncomputable def gk(env:Env)(n:a5)(k:c4):c4:=if(k==NameKind.free&&env.scope.kind == .function&&env.kindOf n==ah .cell)=au then .cell else k
theorem Rh(env:Env)(names:ai (a5×c4)):(names.map λ(n,k)=>if(k==NameKind.free&&env.scope.kind == .function&&env.kindOf n==ah .cell)then(n,NameKind.cell)else(n,k))=names.map λp=>(p.1,gk env p.1 p.2):=by
 refine IJ λp _=>?_;obtain⟨n,k⟩:=p;show(if(k==NameKind.free&&env.scope.kind == .function&&env.kindOf n==ah .cell)=au then(n,NameKind.cell)else(n,k))=(n,gk env n k);unfold gk;split <;> rfl
theorem Dw(env:Env)(x:a5):∀names:ai (a5×c4),(names.map λp=>(p.1,gk env p.1 p.2)).lookup x=(names.lookup x).map (gk env x)
 |[]=>rfl
 |(n,k)::r=>by
  rw[cW];cases j:x==n with
  |true =>
   have e:x=n:=by simpa using j
   subst e;rw[IL,IL];simp
  |false =>
   rw[IL,IL];simp only[j];exact Dw env x r
theorem lookup_mem{x:a5}{k:c4}:∀{names:ai (a5×c4)},names.lookup x=ah k->(x,k)∈names
 |[],h=>by simp at h
 |(n,q)::r,h=>by
  rw[IL]at h;cases j:x==n with
  |true =>
   have e:x=n:=by simpa using j
   subst e;simp only[beq_self_eq_true]at h;cases h;exact List.mem_cons_self ..
  |false =>
   simp only[j]at h;exact gQ _ (lookup_mem h)
theorem Dx{env:Env}{names:ai (a5×c4)}{x:a5}(h:names.lookup x=ah .free) :
  (names.map λ(n,k)=>if(k==NameKind.free&&env.scope.kind == .function&&env.kindOf n==ah .cell)then(n,NameKind.cell)else(n,k)).lookup x=ah .cell \/
  (names.map λ(n,k)=>if(k==NameKind.free&&env.scope.kind == .function&&env.kindOf n==ah .cell)then(n,NameKind.cell)else(n,k)).lookup x=ah .free:=by
 rw[Rh,Dw,h];show ah (gk env x .free)=ah .cell\/ah (gk env x .free)=ah .free;unfold gk;split
 ·exact .inl rfl
 ·exact .inr rfl
theorem Cm{env:Env}{names:ai (a5×c4)}{x:a5}(B:∀y∈names,y.2≠.cell)
  (h:(names.map λ(n,k)=>if(k==NameKind.free&&env.scope.kind == .function&&env.kindOf n==ah .cell)then(n,NameKind.cell)else(n,k)).lookup x=ah .cell \/
   (names.map λ(n,k)=>if(k==NameKind.free&&env.scope.kind == .function&&env.kindOf n==ah .cell)then(n,NameKind.cell)else(n,k)).lookup x=ah .free):(x,NameKind.free)∈names:=by
 rw[Rh,Dw]at h;cases e:names.lookup x with
 |none=>rw[e]at h;rcases h with h|h <;> cases h
 |some k =>
  have hm:=lookup_mem e
  by_cases j:k=.free
  ·rw[j]at hm;exact hm
  ·rw[e]at h;have q:gk env x k=k:=by
    unfold gk;have hb:(k==NameKind.free)=ao:=by simpa using j
    rw[hb];rfl
   have h':gk env x k=.cell\/gk env x k=.free:=h.imp (λz=>nK z) λz=>nK z;rw[q]at h'
   rcases h' with z|z
   ·exact bz z (B _ hm)
   ·exact bz z j
structure uU(X:Cx)(scope:cp)(ls:ai a5)(js:ai ay):Prop where
 kind:scope.kind=.function
 cell:∀y∈scope.names,y.2≠.cell
 names:∀y∈scope.names,y.2=.local->scope.names.lookup y.1=ah .local
 free:∀y∈scope.names,y.2=.free->X.env.kindOf y.1=ah .cell\/X.env.kindOf y.1=ah .free
 cap:∀j∈js,∃x,X.N[j]?=ah x/\scope.names.lookup x=ah .free
section
variable{X:Cx}{aa:ai (aq×cj)}{J:St}{H:Hp}{s:ar}
theorem aoS{scope:cp}{j:ai a5}{q:ai ay}{cl:ai (a5×aq)}{C:aq}{fp:ai aq}(L:uU X scope j q)(I:Inv X aa J H s)
  (h1:∀x c,cl.lookup x=ah c->X.env.cells.lookup x=ah c) (h2:∀y∈scope.names,y.2=.free->∃c,cl.lookup y.1=ah c)
  {s':ar} {H':Hp} (U:s'.heap.objs.size<=C) (bs:∀b o,X.base.get? b=ah o->s'.heap.get? b=ah o/\H' b=ak) (qE:X.base.objs.size<=s'.heap.objs.size)
  (nW:s'.heap.FunFrames X.base X.stack) (sS:∀b∈iD X.stack,H' b=ak)
  (CS:∀b∈fp,b≠C/\∀x c,X.env.cells.lookup x=ah c->c≠b) (wX:∀b o,X.base.get? b=ah o->b∉fp) (zS:∀b∈fp,b∉iD X.stack) :
  (gL X scope j q cl C s' H' fp).Ok where
 mod:=I.ok.mod
 kind:=L.kind
 glob:=I.ok.glob
 blt:=I.ok.blt
 above:=U
 inj:=λx y c a b=>I.ok.inj x y c (h1 x c a) (h1 y c b)
 has:=λx B=>h2 (x,.free) (Cm (env:=X.env) L.cell B) rfl
 CY:=λx c z=>by cases z
 hd:=I.ok.hd
 frames:=I.ok.frames
 qR:=.inl rfl
 CS:=λb hb=>⟨(CS b hb).1,λx c e=>(CS b hb).2 x c (h1 x c e)⟩
 bs:=bs
 qE:=qE
 wX:=wX
 zS:=zS
 nW:=nW
 sS:=sS
theorem aoP{z:ai a5}{B:ai ay}{i:ay}{v:V}(h:(zH z B J)[i]?=ah (ah v)):∃k j,i=z.length+k/\B[k]?=ah j/\J[j]?=ah (ah v):=by
 unfold zH at h
 by_cases hi:i<z.length
 ·rw[eQ (by simpa using hi),iZ]at h;cases e:z[i]? with
  |none=>rw[e]at h;cases h
  |some y=>rw[e]at h;cases h
 ·rw[sZ (by simpa using Le hi),iZ,fI]at h;cases e:B[i-z.length]? with
  |none=>rw[e]at h;cases h
  |some j =>
   rw[e]at h;refine⟨i-z.length,j,by omega,e,?_⟩;have h':(J[j]?).join=ah v:=nK h;cases q:J[j]? with
   |none=>rw[q]at h';cases h'
   |some o =>
    rw[q]at h';exact b7 ah h'
def LcR(U:ai a5)(a:ai ay)(g:TG)(tc:TT)(te:TE)(J:St)(Q:VK)(σ:It)(H1:Hp):Prop:=∀D,H1 D=ak ->
 ∃W:ay->ay->St->Hp->Prop,(∃m,W 0 m (zH U a J) (upd H1 D (.lst [])))/\∀i m J' H',W i m J' H' ->
  (σ.stop i H'/\Q (.ref D) H')\/(σ.go i H'/\∃N:St->Hp->Prop,(∀q H2,N q H2->∃z,z<m/\W (i+1) z q H2) /\
   ∀x H2,σ.yM i H' x H2->g x J' H2 λj b=>tc j b λc L=>if c=au then te j L λy B=>∃ys,B D=ah (.lst ys)/\ys.length<a7/\N j (upd B D (.lst (ys++[y])))else N j L)
def QX(q:ai a5)(z:ai ay)(j:TI)(g:TG)(tc:TT)(te:TE):TE:=λJ H Q=>j J H (LcR q z g tc te J Q)
theorem Uw{elt tg iter:bp}{ifs:ai bp}{scope:cp}{pos akJ:cq}{t:ai a5}{D:ai ay}{wi:TI}{g:TG}{tc:TT}{te:TE}{use:av (aj->Sem Unit)}{R:aj->ar->Prop}{Q:V->Hp->Prop}(hc:X.calm=au)(L:uU X scope t D)(hi:PI X tg iter wi)
  (hb:∀cl C s H fp,PG (gL X scope t D cl C s H fp) tg g/\DE (gL X scope t D cl C s H fp) ifs tc/\PE (gL X scope t D cl C s H fp) elt te)
  (hs:∀x,cb iter X.env x=pure x) (I:Inv X aa J H s) (h:QX t D wi g tc te J H Q)
  (fin:∀d C P S m,Inv X aa J P S->pR X aa P C->S.heap.Ns C m->Q (.ref d) P->compPost (bc X.prog X.w) X.A X.xe use R (.ref d) C (.ok .next) S) :
  wpAny (bc X.prog X.w) X.A (comprehension (.ListComp elt [⟨tg,iter,ifs,0⟩] scope pos) scope X.env akJ (newList []) ao (br iter X.env) use) R X.xe s:=by
 obtain⟨cl,iA,lE,jM⟩:=azM (scope:=scope) (env:=X.env) λy hy hf=>I.ok.has y.1 (L.free y hy hf);refine wpAny_comprehension_free rfl hs iA L.kind L.names (bN (hi aa s J H _ I h) λv s1 h1=>bN h1 λEp B h2=>?_);obtain⟨it,fp,tn,σ,f,e,I2,T,mF,E,h2⟩:=h2;subst e;refine tE (wpAny_newFunctionEnv L.cell (by intro y hy;simp at hy) (λa Fn Fg=>?_) L.kind);dsimp only at Fn Fg ⊢;generalize Gp:B.heap.push {cls:=.type "list",dict:=ak,data:=.seq ([]:ai aj).toArray}=U at Fn Fg ⊢;have hCz:U.objs.size=B.heap.objs.size+1:=by rw[<-Gp,IU]
 have Xb:f B.heap.objs.size=ak:=I2.aL.fresh cU;have Gr:f U.objs.size=ak:=I2.aL.fresh (by omega);have hDC:B.heap.objs.size≠U.objs.size:=by omega
 have au3:U.get? B.heap.objs.size=ah {cls:=.type "list",dict:=ak,data:=.seq ([]:ai aj).toArray}:=by rw[<-Gp];exact fW _ rfl
 have El:∀b o,B.heap.get? b=ah o->U.get? b=ah o:=λb o e=>by rw[<-Gp];exact dD _ e
 have G:Inv X aa J (upd f B.heap.objs.size (.lst [])) {B with heap:=U,toks:=B.toks} :=
  I2.laid (t':=B.toks) El cU (show gP X.prog X.w _ U _ (.lst [])from⟨by simp,[],0,.nil,au3⟩)
 have Em:∀b o,U.get? b=ah o->a.get? b=ah o:=λb o e=>(Fg.2 b (dX (dE e))).trans (dD _ e);have I4:Inv X aa J (upd f B.heap.objs.size (.lst [])) {B with heap:=a,toks:=B.toks+0}:=G.kept (h':=a) (t':=B.toks+0) Em;generalize hT:(f,(⟨tg,iter,ifs,0⟩:Comprehension))=aqN;clear hT aqN;have Hd:∀b∈fp,b<B.heap.objs.size:=λb hb=>by
  obtain⟨o,e,_⟩:=T.obj 0 _ mF b hb;exact dE e
 have fpD:B.heap.objs.size∉fp:=λz=>Nat.lt_irrefl _ (Hd _ z);have Xk:∀b∈fp,b≠U.objs.size:=λb hb=>dX (by rw[hCz];exact IB (Hd b hb));have okC:(gL X scope t D cl U.objs.size {B with heap:=U} (upd f B.heap.objs.size (.lst [])) fp).Ok:=by
  refine aoS L G lE jM cU G.bs (xY G.ok.qE G.sz) G.stack G.ZY (λb hb=>⟨Xk b hb,(E b hb).2.2.2.2.1⟩) (λb o e hb=>?_) (λb hb z=>?_)
  ·rcases(E b hb).2.2.2.1 with q|q
   ·exact I2.ok.wX b o e q
   ·exact bz (kT (dE (I2.ok.bs b o e).1) q) (Nat.lt_irrefl _)
  ·rcases eB.mp (G.KN b z)with q|q
   ·exact(E b hb).2.1 q
   ·exact(E b hb).2.2.1 q
 have IC:Inv (gL X scope t D cl U.objs.size {B with heap:=U} (upd f B.heap.objs.size (.lst [])) fp) [] (zH t D J) (upd f B.heap.objs.size (.lst [])) {B with heap:=a,toks:=B.toks+0}:=by
  refine⟨okC,rfl,I4.bare,Un.kept Em,⟨_,Fn,λi x v e1 e2 e3=>?_⟩,λx c e=>I4.cell x c (lE x c e),?_,λx c e=>I4.jU x c (lE x c e),λp hp=>?_,I4.aL,?_⟩
  ·obtain⟨k,j,CF,hj,hσ⟩:=aoP e2;obtain⟨y,hy,Ex⟩:=L.cap j (sX hj);have hxy:x=y:=by
    have VD:(t++D.map (λj=>X.N.getD j Str.empty))[i]?=ah x:=e1;rw[CF,sZ (Nat.le_add_right ..),Nat.add_sub_cancel_left,iZ,hj]at VD;have awV:X.N.getD j Str.empty=x:=nK VD;rw[<-awV,List.getD_eq_getElem?_getD,hy];rfl
   subst hxy;have Wf:X.env.kindOf x=ah .cell\/X.env.kindOf x=ah .free:=by
    have hm:(x,NameKind.free)∈scope.names:=by
     have q:=Cm (env:=X.env) L.cell (Dx (env:=X.env) Ex);exact q
    exact L.free _ hm rfl
   obtain⟨m,hn,hl⟩:=I4.loc;obtain⟨u,r,l⟩:=hl j x v hy hσ (Wf.elim (λz => .inr (.inl z)) λz => .inr (.inr z));refine⟨u,r,.inr ⟨Dx (env:=X.env) Ex,?_⟩⟩
   rcases l with⟨kl,_⟩|⟨_,c,zK,z⟩
   ·rcases Wf with q|q
    ·rw[q]at kl;cases kl
    ·rw[q]at kl;cases kl
   ·have hm:(x,NameKind.free)∈scope.names:=Cm (env:=X.env) L.cell (Dx (env:=X.env) Ex);obtain⟨c',Wo⟩:=jM _ hm rfl;have:=lE _ _ Wo;rw[zK]at this;cases this;exact⟨c,Wo,z⟩
  ·show upd f B.heap.objs.size (.lst []) U.objs.size=ak;rw[bH (cK hDC)];exact Gr
  ·have GD:p∈X.pn:=by simpa[gL]using hp
   obtain⟨e,n,ne,nf,d⟩:=I4.pin p (AH _ GD);obtain⟨e3,_⟩:=G.pin p (AH _ GD);refine⟨e,n,?_,λz=>?_,d⟩
   ·exact dX (dE e3)
   ·rcases eB.mp (G.KN p.1 z)with q|q
    ·exact ne q
    ·exact nf q
  ·simp[zH,gL]
 obtain⟨hbG,hbI,hbE⟩:=hb cl U.objs.size {B with heap:=U} (upd f B.heap.objs.size (.lst [])) fp;obtain⟨W,⟨m0,w0⟩,turn⟩:=h2 B.heap.objs.size Xb;have Qk:tn 0 a:=T.keep _ _ _ mF λb hb o e=>Em b o (El b o e);have dW:∀{H':Hp},(∀b∈fp,H' b=ak)->∀b∈fp,pR (gL X scope t D cl U.objs.size {B with heap:=U} (upd f B.heap.objs.size (.lst [])) fp) [] H' b:=λhn b hb=>by
  refine⟨hn b hb,Xk b hb,λz=>?_,.inl hb,λx c e=>(E b hb).2.2.2.2.1 x c (lE x c e),λp hp=>?_⟩
  ·rcases eB.mp (G.KN b z)with q|q
   ·exact(E b hb).2.1 q
   ·exact(E b hb).2.2.1 q
  ·have GD:p∈X.pn:=by simpa[gL]using hp
   exact(E b hb).2.2.2.2.2 p (AH _ GD)
 have fr0:∀b∈fp,(upd f B.heap.objs.size (.lst [])) b=ak:=λb hb=>by
  rw[bH (show b≠B.heap.objs.size from dX (Hd b hb))];exact(E b hb).1
 have loop:∀s4:ar,s4={B with heap:=a,toks:=B.toks+0} ->
   codeAny (bc X.prog X.w) X.A (.compLoop (.ListComp elt [⟨tg,iter,ifs,0⟩] scope pos) 0 (.ref it) (.ref B.heap.objs.size) (compEnvC scope cl U.objs.size X.env))
    (compPost (bc X.prog X.w) X.A X.xe use R (.ref B.heap.objs.size) U.objs.size) s4:=by
  rintro s4 rfl;refine ay7 (λn s'=>∃i J' H',Inv (gL X scope t D cl U.objs.size {B with heap:=U} (upd f B.heap.objs.size (.lst [])) fp) [] J' H' s'/\tn i s'.heap/\(∀b∈fp,H' b=ak)/\W i n J' H') ?_ m0 ⟨0,_,_,IC,Qk,fr0,w0⟩;rintro n s5 ⟨i,M,P,I5,EX,UW,w5⟩
  rcases turn i n M P w5 with⟨stop,qn⟩|⟨go,N,hN,step⟩
  ·refine bN (T.done (gL X scope t D cl U.objs.size {B with heap:=U} (upd f B.heap.objs.size (.lst [])) fp) rfl rfl rfl hc i [] s5 M P _ I5 (dW UW) EX stop) λr S ⟨hr,I6⟩=>?_;subst hr;obtain⟨m6,Fp,_⟩:=I6.loc;have un1:Un (iD X.stack) fp (upd f B.heap.objs.size (.lst [])) P U S.heap:=I6.base;have un:=(Un.laid El cU Xb).trans un1;exact fin _ _ _ _ _ (I2.VP (s':=S) (ch:=fp) I6.os un I6.aL I6.bare λb hb=>⟨(E b hb).2.2.2.1,(E b hb).2.1,(E b hb).2.2.2.2.1,(E b hb).2.2.2.2.2⟩) (G.vP cU I6.free) Fp qn
  ·refine bN (T.item (gL X scope t D cl U.objs.size {B with heap:=U} (upd f B.heap.objs.size (.lst [])) fp) rfl rfl rfl hc i [] s5 M P _ I5 (dW UW) EX go) λr S ⟨u,hr,h6⟩=>?_;subst hr;refine bN h6 λ_ s7 zz=>?_;obtain⟨x,H7,I7,r7,y7,Aa,fr7⟩:=zz;have I7':=I7.pinned (dW fr7) (T.obj _ _ Aa);refine bN (hbG _ s7 M H7 x u _ I7' r7 (step x H7 y7)) λ_ s8 ⟨J8,H8,I8,q8⟩=>?_;refine bN (hbI _ s8 J8 H8 _ I8 q8) λok s9 ⟨H9,I9,q9⟩=>?_;have again:∀{K:St} {Ha:Hp} {sa:ar},Inv (gL X scope t D cl U.objs.size {B with heap:=U} (upd f B.heap.objs.size (.lst [])) fp) ([]++LF fp s7.heap) K Ha sa->N K Ha ->
     ∃m,m<n/\∃i J' H',Inv (gL X scope t D cl U.objs.size {B with heap:=U} (upd f B.heap.objs.size (.lst [])) fp) [] J' H' sa/\tn i sa.heap/\(∀b∈fp,H' b=ak)/\W i m J' H':=λ{K Ha sa} Ia na=>by
    obtain⟨m',hm,wa⟩:=hN K Ha na;refine⟨m',hm,i+1,K,Ha,Ia.KG,T.keep _ _ _ Aa λb hb o e=>(Ia.pin (b,o) (nL _ (nL _ (LM hb e)))).1,λb hb=>?_,wa⟩;obtain⟨o,e,d⟩:=T.obj _ _ Aa b hb;exact(Ia.pin (b,o) (nL _ (nL _ (LM hb e)))).2.1
   cases ok with
   |false=>exact again I9 q9
   |true =>
    refine bN (hbE _ s9 J8 H9 _ I9 q9) λy s10 zz=>?_;obtain⟨z,H10,I10,r10,ys,hD,dZ,nn⟩:=zz;obtain⟨zz,aU,k,r,hl,e⟩:=I10.SU hD;refine call_meets F.slot_list_append ⟨_,e,rfl⟩ F.entry_list_append (F.args_list_append_2 _ _) (PySem.list_append B.heap.objs.size aU.toArray k y (by rw[kD];omega)) ⟨e,?_⟩;refine again (I10.Uh (its':=aU++[y]) (t':=s10.toks) hD e ?_ (r.append (.cons r10 .nil)) ?_) nn
    ·simp
    ·simp;omega
 exact codeAny_compStart_list (loop _ rfl) (T.self _ 0 _ _ _ Qk (loop _ rfl))
theorem Inv.back{C:aq}{h':bu}(I:Inv X aa J H s)(f:pR X aa H C)(j:Heap.SameBut C s.heap h'):Inv X aa J H {s with heap:=h' }:=by
 have ne1:∀b,b∉[C]->b≠C:=λb hb z=>hb (by rw[z];exact AG _);have B:Un (iD X.stack) [C] H H s.heap h':=⟨λb o e n a x=>(j.2 b (ne1 b x)).trans e,λb o e n a x=>⟨o.slots,(j.2 b (ne1 b x)).trans e⟩,λ_ _ _ n _=>n,λb o e x=>⟨o,(j.2 b (ne1 b x)).trans e⟩,λ_ _ q=>q,λ_ _ _ q=>q,λ_ ps q=>⟨#[],by rw[q];simp⟩⟩;have U:fE X.prog X.w H h':=λb o e=>by
  refine(I.aL b o e).nR (λc u L q=>(j.2 c ?_).trans q) (λ_ q=>q) λ_ _ q=>q;rintro rfl
  rcases L with z|z
  ·subst z;rw[f.1]at e;cases e
  ·rw[f.1]at z;cases z
 exact I.VP (s':={s with heap:=h' }) (ch:=[C]) rfl B U I.bare λb hb=>by
  rw[qK.mp hb];exact⟨f.2.2.2.1,f.2.1,f.2.2.2.2.1,f.2.2.2.2.2⟩
theorem alB{elt tg iter:bp}{ifs:ai bp}{scope:cp}{pos:cq}{j:ai a5}{z:ai ay}{B:TI}{g:TG}{tc:TT}{te:TE}(a:X.calm=au)(L:uU X scope j z)(hi:PI X tg iter B)
  (hb:∀cl C s H fp,PG (gL X scope j z cl C s H fp) tg g/\DE (gL X scope j z cl C s H fp) ifs tc/\PE (gL X scope j z cl C s H fp) elt te)
  (hs:∀x,cb iter X.env x=pure x:=by intro _;rfl):PE X (.ListComp elt [⟨tg,iter,ifs,0⟩] scope pos) (QX j z B g tc te):=by
 intro aa s J H Q I h;rw[eval_ListComp];exact Uw a L hi hb hs I h λd C c e m b f hn q=>⟨m,hn,λh' U=>⟨.ref d,c,b.back f U,rfl,q⟩⟩
end
section
variable{X:Cx}
theorem az7(b:X.calm=au):mT X (.builtin "sum") (λxs H Q=>∃(a:aq) (ns:ai a6),xs=[.ref a]/\fA X.K H a (ns.map V.int)/\Q (.int ns.sum) H):=by
 intro aa s J H xs us Q I r h;obtain⟨a,ns,rfl,hq,q⟩:=h;obtain⟨u,rfl,B⟩:=vals1 r;cases B;obtain⟨j,rv,L,c⟩:=I.list hq;have hi:cg j ns:=intsAre_of rv;obtain⟨xs,z⟩:=hi.allInts.items;have hl:s.heap.IsList a (intItems xs):=z ▸ L.isList;refine sum_intListG (I.ok.hd b) hl λh' tk t' U=>?_;have e:preSum (numAt xs) xs.size=ns.sum:=by
  rw[preSum_eq,abJ (by simp),<-nums_intItems,<-z,show j.toArray.toList=j from rfl,hi.numsOf]
 exact⟨.int ns.sum,H,I.kept (t':=tk) U,⟨t',by rw[e]⟩,q⟩
theorem aAI:mT X (.builtin "isinstance") (λxs H Q=>∃x n t b,xs=[x,.ty n]/\qF X.K H x t/\c7 X.K t (.type n)=ah b/\Q (.bl b) H):=by
 intro aa s J H xs us Q I r h;obtain⟨x,n,t,b,rfl,ty,e,q⟩:=h;obtain⟨u,v,rfl,z,j⟩:=vals2 r;cases j;exact aq2 I z ty e λtk=>⟨.bl b,H,I.tok tk,rfl,q⟩
end
inductive Dt where
 |int (i:a6)|bl (b:bb)|str (x:a5)|bQ|tup (ds:ai Dt)|lst (ds:ai Dt)
def Den(K:ba)(H:Hp):ay->V->Dt->Prop
 |_,v,.int j=>v=.int j
 |_,v,.bl b=>v=.bl b
 |_,v,.str x=>v=.str x
 |_,v,.bQ=>v=.bQ
 |0,_,.tup _=>b5
 |0,_,.lst _=>b5
 |n+1,v,.tup ds=>∃a xs,v=.ref a/\jI K H a xs/\Paired (Den K H n) xs ds
 |n+1,v,.lst ds=>∃a xs,v=.ref a/\fA K H a xs/\Paired (Den K H n) xs ds
structure HasFn(K:ba)(mg:a5->av aj)(x:a5)(st:bo):Prop where
 ex:∃f fd,mg x=ah (.ref f)/\tD K x x st f fd
theorem kL{K:ba}{h:bu}{mg:a5->av aj}{x:a5}{st:bo}{f:aq}{oc:aj}{od an:av aq}{gY:bf (av aj)}{kV doc pm aS ct:aj}(X:K.In h)(G:h.Ns aw mg)
  (a:cc K aw x=ah (ah (.ref f))) (l:K.lookup f=ah ⟨oc,od,.func (fnOf x x (kO st) (eZ st) (aY st) .none kV doc pm an aS ct),gY⟩)
  (c:codeIn K aS x=au) (k:keepIn K (.ref f)=au):HasFn K mg x st:=⟨⟨f,_,mg_of X G a,ND l c k⟩⟩
structure Def(P:a9)(w:bh)(K:ba)(mg:a5->av aj)(base:bu)(x:a5)(k:ay)(ps:ai a5)(sp:Sp):Prop where
 ex:∃f fd,gR P w K mg base pS k f fd ps sp/\mg x=ah (.ref f)/\keepIn K (.ref f)=au/\Binds K fd ps []
theorem mM.new{H:Hp}{p:aq}{o:HO}(h:H p=ak):mM H (upd H p o):=λb u e=>by rw[bH (iW e h)];exact e
def aDQ(K:ba)(H:Hp)(v:V)(ns:ai a6):Prop:=∃p,v=.ref p/\jI K H p (ns.map V.int)
def Rows(K:ba)(H:Hp)(xs:ai V)(rs:ai (ai a6)):Prop:=Paired (aDQ K H) xs rs
def aCG(h₀ h:bu)(H:Hp)(x:aq)(vs:bf aj):Prop :=
 ∃T j ts,vs[1]?=ah (.ref T)/\T≠x/\h₀.get? T=ak/\H T=ak/\h.get? T=ah j/\j.data=.fields ts/\3<ts.size
def lJ(h₀ h:bu)(H:Hp)(x:aq)(cls:aj)(dx:av aq)(tb:bb):Prop :=
 h₀.get? x=ak/\H x=ak/\∃oe vs,h.get? x=ah oe/\oe.cls=cls/\oe.dict=dx/\oe.data=.fields vs/\1<vs.size/\((tb=ao/\vs[1]?=ah .none)\/aCG h₀ h H x vs)
theorem lJ.any{h₀ h:bu}{H:Hp}{x:aq}{cls:aj}{dx:av aq}{tb:bb}(e:lJ h₀ h H x cls dx tb):lJ h₀ h H x cls dx ao:=by
 obtain⟨a,b,oe,vs,c,U,L,B,q,j⟩:=e;exact⟨a,b,oe,vs,c,U,L,B,q,j.imp (λz=>⟨rfl,z.2⟩) id⟩
structure kR(X:Cx):Prop where
 qR:X.stack=X.env::X.outer
 NH:X.env.frame=ah X.env.locals
 pn:X.pn=[]
theorem kR.mem{X:Cx}(t:kR X){b:aq}:b∈iD X.stack<->b=X.env.locals\/b∈X.fs:=by
 rw[t.qR];unfold iD;rw[XO,t.NH];exact eB
section
variable{X:Cx}{J:St}{H:Hp}{s:ar}
theorem Inv.Co{h':bu}{ch:ai aq}(I:Inv X [] J H s)(t:kR X)(h:∀b∈ch,X.s₀.heap.get? b=ak/\H b=ak/\∃o vs,s.heap.get? b=ah o/\o.data=.fields vs)
  (keep:∀b o,b∉iD X.stack->b∉ch->s.heap.get? b=ah o->h'.get? b=ah o) (slot:∀b o,b∈iD X.stack->s.heap.get? b=ah o->∃B,h'.get? b=ah {o with slots:=B}) :
  Inv X [] J H {s with heap:=h' }:=by
 have D:∀c v,s.heap.IsCell c v->c∉ch:=λc v ⟨o,L,hd⟩ j=>by
  obtain⟨_,_,w,vs,e,d⟩:=h c j;rw[L]at e;cases e;rw[hd]at d;cases d
 have any:∀b o,b∉ch->s.heap.get? b=ah o->∃B,h'.get? b=ah {o with slots:=B}:=λb o j e=>by
  by_cases hb:b∈iD X.stack
  ·exact slot b o hb e
  ·exact⟨o.slots,keep b o hb j e⟩
 have cellK:∀c v,s.heap.IsCell c v->h'.IsCell c v:=λc v z=>by
  obtain⟨o,L,hd⟩:=id z;obtain⟨B,e⟩:=any c o (D c v z) L;exact⟨_,e,hd⟩
 have old:∀b o,X.s₀.heap.get? b=ah o->b≠X.env.locals/\b∉ch:=λb o e =>
  ⟨dX (kT (dE e) I.ok.above),λj=>by rw[(h b j).1]at e;cases e⟩
 have A:∀b,b≠X.env.locals->b∉X.fs->b∉iD X.stack:=λb h1 h2 z=>(t.mem.mp z).elim h1 h2;refine⟨I.ok,I.os,I.bare,⟨λb o e n hb U=>?_,λb o e n hb U=>?_,I.base.free,λb o e U=>?_,I.base.lO,I.base.kN,I.base.lP⟩,?_,λx c e=>?_,I.free,I.jU,λp E=>?_,λb u e=>?_,I.len⟩
 ·exact keep b o (A b (old b o e).1 hb) (old b o e).2 (I.base.keep b o e n hb U)
 ·obtain⟨B,g⟩:=I.base.slot b o e n hb U;obtain⟨N,a⟩:=any b _ (old b o e).2 g;exact⟨N,a⟩
 ·obtain⟨w,g⟩:=I.base.there b o e U;obtain⟨B,a⟩:=any b w (old b o e).2 g;exact⟨_,a⟩
 ·obtain⟨m,hn,hl⟩:=I.loc;obtain⟨o,es,G,L,hd,r⟩:=id hn;have C:X.env.locals∉ch:=λj=>by
   obtain⟨_,_,w,vs,e,d⟩:=h _ j;rw[L]at e;cases e;rw[hd]at d;cases d
  obtain⟨B,e⟩:=any _ o C L;refine⟨m,⟨_,es,G,e,hd,r⟩,λi x v g a M=>?_⟩;obtain⟨u,F,l⟩:=hl i x v g a M;refine⟨u,F,?_⟩
  rcases l with l|⟨k,c,K,z⟩
  ·exact .inl l
  ·exact .inr ⟨k,c,K,cellK c _ z⟩
 ·obtain⟨v,z⟩:=I.cell x c e;exact⟨v,cellK c v z⟩
 ·rw[t.pn]at E;simp at E
 ·refine(I.aL b u e).nR (λc v j q=>keep c v ?_ ?_ q) (λ_ q=>q) λ_ _ q=>q
  ·intro z;have f:=I.ZY c z
   rcases j with y|y
   ·rw[y,e]at f;cases f
   ·rw[y]at f;cases f
  ·intro z;have f:=(h c z).2.1
   rcases j with y|y
   ·rw[y,e]at f;cases f
   ·rw[y]at f;cases f
variable{M:Model}{E:aj->ar->Prop}{x:aq}{cls:aj}{dx:av aq}
theorem lJ.SJ(I:Inv X [] J H s){b:aq}{o:cj}{vs:bf aj}(e:s.heap.get? b=ah o)(d:o.data=.fields vs):b∉iD X.stack:=λhm=>by
 obtain⟨_,z,q,j⟩:=I.stack.mem hm;rw[e]at q;cases q;exact j vs d
theorem Xz(I:Inv X [] J H s)(t:kR X){oe:cj}{vs:bf aj}{head:aj}{f:bb}{Q:Unit->ar->Prop}(k:X.s₀.heap.get? x=ak)(l:H x=ak)(he:s.heap.get? x=ah oe)(hd:oe.data=.fields vs)(hsz:1<vs.size)
  (q:∀h',Inv X [] J H {s with heap:=h' }->lJ X.s₀.heap h' H x oe.cls oe.dict au->Q () {s with heap:=h' }) :
  wpAny M X.A (do let a<-frameOf X.env;let pl<-entryPlaceOf X.env.locals f;let b<-EntryCells.newEntry head a .none (dg X.env.locals) .none pl;setField (.ref x) 1 b) Q E s:=by
 have N:X.A.frames=ah (X.env::X.outer):=by rw[<-t.qR];exact I.ok.frames
 have hl:s.heap.FunFrames X.base (X.env::X.outer):=by rw[<-t.qR];exact I.stack
 have dB:x∉iD X.stack:=lJ.SJ I he hd;have h:(X.env::X.outer).filterMap (·.frame)=iD X.stack:=by rw[t.qR];rfl
 refine aJ (wpAny_frameOf_fun N hl t.NH λh1 s1=>aJ (wpAny_entryPlaceOf λpl C=>?_));rw[h]at s1;unfold EntryCells.newEntry;unfold newFields;refine aJ (tE ?_ (C.sizeOk5 _ _ _ _ _));have r:h1.get? x=ah oe:=(s1.2.1 x dB).trans he;generalize p:({cls:=.type "traceback",dict:=ak,data:=.fields ([head,.ref X.env.locals,.none,dg X.env.locals,.none]++(if pl.isEmpty then List.replicate 6 Value.none else pl)).toArray}:cj)=to;have L:∃j,to.data=.fields j/\3<j.size:=⟨_,by rw[<-p],by simp only[kD,uT,lH,DL];omega⟩;have B:to.isFreed=ao:=by rw[<-p];rfl
 have n:(h1.push to).get? x=ah oe:=dD _ r;have i:h1.objs.size≠x:=DH (dE r);refine wpAny_setField n hd hsz ?_;have u:=Obj.data_mapFields hd (·.setIfInBounds 1 (Value.ref h1.objs.size));have U:=OM (Obj.mapFields (·.setIfInBounds 1 (Value.ref h1.objs.size))) n (Obj.isFreed_of_fields u);have g:=(pQ (h1.push to) (Obj.mapFields (·.setIfInBounds 1 (Value.ref h1.objs.size))) (cK i)).trans (fW h1 B);have kp:∀b o,b≠x->h1.get? b=ah o->((h1.push to).update x (Obj.mapFields (·.setIfInBounds 1 (Value.ref h1.objs.size)))).get? b=ah o:=λb o hb e =>
  (pQ _ _ (cK hb)).trans (dD _ e)
 have v:X.s₀.heap.get? h1.objs.size=ak:=by
  cases e:X.s₀.heap.get? h1.objs.size with
  |none=>rfl
  |some o =>
   have h2:=kT (dE e) I.sz;rw[s1.1]at h2;exact bz h2 (Nat.lt_irrefl _)
 have w:H h1.objs.size=ak:=by rw[s1.1];exact I.aL.fresh cU
 refine q _ (I.Co t (ch:=[x]) (λb hb=>?_) (λb o hb y e=>?_) λb o hb e=>?_) ⟨k,l,_,_,U,Obj.cls_mapFields _ _,?_,u,by simpa using hsz,.inr ⟨h1.objs.size,to,?_⟩⟩
 ·rw[qK.mp hb];exact⟨k,l,oe,vs,he,hd⟩
 ·exact kp b o (λz=>y (by rw[z];exact qK.mpr rfl)) ((s1.2.1 b hb).trans e)
 ·obtain⟨m,D⟩:=s1.2.2 b o e;exact⟨m,kp b _ (λz=>dB (z ▸ hb)) D⟩
 ·obtain⟨c,d,F,m⟩:=oe;cases F <;> rfl
 ·obtain⟨j,K,G⟩:=L;exact⟨j,by simp[hsz],i,v,w,g,K,G⟩
theorem Dl(I:Inv X [] J H s)(t:kR X){tb:bb}{Q:Unit->ar->Prop}(e:lJ X.s₀.heap s.heap H x cls dx tb)
  (q:∀h',Inv X [] J H {s with heap:=h' }->lJ X.s₀.heap h' H x cls dx au->Q () {s with heap:=h' }):wpAny M X.A (noteFrame (.ref x) X.env) Q E s:=by
 obtain⟨U,c,oe,vs,he,rfl,rfl,hd,j,n⟩:=id e;unfold noteFrame;simp only[t.NH]
 rcases n with⟨_,h1⟩|⟨T,l,L,h1,k,h,i,hT,B,f⟩
 ·refine aJ (PY he hd h1 ?_);rw[a8 (by decide)];exact Xz I t U c he hd j q
 ·refine aJ (PY he hd h1 ?_);rw[ax (show(Value.ref T != Value.none)=au from by simp)];obtain⟨a,d⟩:∃a,L[3]?=ah a:=⟨L[3],Nr f⟩;refine aJ (PY hT B d ?_)
  by_cases hb:(a==dg X.env.locals)=au
  ·rw[ax hb];exact bG (q s.heap I ⟨U,c,oe,vs,he,rfl,rfl,hd,j,.inr ⟨T,l,L,h1,k,h,i,hT,B,f⟩⟩)
  ·rw[a8 hb];refine aJ (wpAny_setField hT B f ?_);have g:∀b,b≠T->(s.heap.update T (Obj.mapFields (·.setIfInBounds 3 Value.none))).get? b=s.heap.get? b:=λb hb=>pQ _ _ (cK hb);have r:T∉iD X.stack:=lJ.SJ I hT B;have p:Inv X [] J H {s with heap:=s.heap.update T (Obj.mapFields (·.setIfInBounds 3 Value.none))}:=I.Co t (ch:=[T]) (λb hb=>by
    rw[qK.mp hb];exact⟨h,i,l,L,hT,B⟩) (λb o _ m e=>(g b (λz=>m (by rw[z];exact qK.mpr rfl))).trans e) λb o hb e=>⟨o.slots,(g b (λz=>r (z ▸ hb))).trans e⟩
   exact Xz p t U c ((g x (cK k)).trans he) hd j q
theorem UX{A:bj}(I:Inv X [] J H s)(t:kR X){fo:av aq}{Q:Unit->ar->Prop}(e:lJ X.s₀.heap s.heap H x cls dx au)
  (q:∀h',Inv X [] J H {s with heap:=h' }->lJ X.s₀.heap h' H x cls dx au->Q () {s with heap:=h' }):wpAny M A (setFlight (.ref x) fo) Q E s:=by
 obtain⟨i,k,oe,vs,he,rfl,rfl,hd,B,p⟩:=id e
 rcases p with⟨z,_⟩|⟨T,m,l,h1,c,U,a,hT,j,d⟩
 ·cases z
 unfold setFlight;refine aJ (PY he hd h1 ?_);rw[ax (show(Value.ref T != Value.none)=au from by simp)];refine wpAny_setField hT j d ?_;generalize (fo.elim Value.none λf=>dg f)=g;have L:∀b,b≠T->(s.heap.update T (Obj.mapFields (·.setIfInBounds 3 g))).get? b=s.heap.get? b:=λb hb=>pQ _ _ (cK hb);have r:T∉iD X.stack:=lJ.SJ I hT j;have h:=Obj.data_mapFields j (·.setIfInBounds 3 g);refine q _ (I.Co t (ch:=[T]) (λb hb=>?_) (λb o _ n e=>(L b (λz=>n (by rw[z];exact qK.mpr rfl))).trans e) λb o hb e=>⟨o.slots,(L b (λz=>r (z ▸ hb))).trans e⟩)
  ⟨i,k,oe,vs,(L x (cK c)).trans he,rfl,rfl,hd,B,.inr ⟨T,_,_,h1,c,U,a,OM _ hT (Obj.isFreed_of_fields h),h,by simpa using d⟩⟩
 rw[qK.mp hb];exact⟨U,a,m,l,hT,j⟩
end
abbrev WX:=St->aj->av aq->Hp->Prop
def XE(X:Cx)(W:WX):aj->ar->Prop:=λe s'=>∃J H' x cls dx,e=.ref x/\Inv X [] J H' s'/\lJ X.s₀.heap s'.heap H' x cls dx ao/\W J cls dx H'
section
variable{X:Cx}
theorem alQ(t:kR X){W:WX}:PassesOwn (bc X.prog X.w) X.A X.env (XE X W):=by
 rintro e s' ⟨J,H',x,cls,U,rfl,I,ex,w⟩;unfold notedBy;refine Dl I t ex λh1 c j=>?_;unfold cameBackBy;obtain⟨h,k,oe,vs,he,n,p,hd,B,a⟩:=id j
 rcases a with⟨z,_⟩|⟨T,m,l,q,g,d,f,hT,i,o⟩
 ·cases z
 refine aJ (PY he hd q ?_);rw[a8 (show ¬((Value.ref T==Value.none)=au)from by simp)];exact UX c t j λh2 b L=>⟨J,H',x,cls,U,rfl,b,L.any,w⟩
def oB(P:a9)(w:bh):oA:=λouter H s E e s'=>∃x cls dx H',e=.ref x/\s'.os=s.os/\AllBare s'.gens/\Un (iD outer) [] H H' s.heap s'.heap/\fE P w H' s'.heap/\lJ s.heap s'.heap H' x cls dx au/\E cls dx H'
end
structure nH(X:Cx)(W:WX):Prop where
 top:kR X
 ex:X.ex=[]
 to:∀e s',XE X W e s'->X.xe e s'
 passes:PassesOwn (bc X.prog X.w) X.A X.env X.xe
theorem nH.of{X:Cx}(t:kR X)(j:X.ex=[])(W:WX):nH (X.mB (XE X W)) W where
 top:=⟨t.qR,t.NH,t.pn⟩
 ex:=j
 to:=λe s' ⟨J,H',x,cls,q,a,I,b,c⟩=>⟨J,H',x,cls,q,a,I.tM,b,c⟩
 passes:=alQ t
theorem Inv.Df{X:Cx}{aa:ai (aq×cj)}{J:St}{H:Hp}{s:ar}(I:Inv X aa J H s):Inv X [] J H s:=I.De λp j=>bz j (by simp)
theorem Inv.first{X:Cx}{aa:ai (aq×cj)}{J:St}{H:Hp}{s:ar}(I:Inv X aa J H s)(q:X.ex=[]){b:aq}(h:s.heap.get? b=ak):X.s₀.heap.get? b=ak:=by
 cases e:X.s₀.heap.get? b with
 |none=>rfl
 |some o =>
  obtain⟨z,j⟩:=I.base.there b o e (by rw[q];simp);rw[h]at j;cases j
theorem lJ.first{X:Cx}{aa:ai (aq×cj)}{J:St}{H H':Hp}{s:ar}{h':bu}{x:aq}{cls:aj}{dx:av aq}{tb:bb}(I:Inv X aa J H s)(j:X.ex=[])(e:lJ s.heap h' H' x cls dx tb) :
  lJ X.s₀.heap h' H' x cls dx tb:=by
 obtain⟨a,b,oe,vs,n,m,l,k,i,h⟩:=e;refine⟨I.first j a,b,oe,vs,n,m,l,k,i,h.imp id λ⟨T,z,q,g,f,d,c,U,L,B⟩=>⟨T,z,q,g,f,I.first j d,c,U,L,B⟩⟩
theorem gP.at{P:a9}{w:bh}{H:Hp}{h:bu}{a:aq}{o:HO}(x:gP P w H h a o):∃ob,h.get? a=ah ob:=by
 cases o with
 |lst xs=>obtain⟨_,_,_,_,e⟩:=x;exact⟨_,e⟩
 |tup xs=>obtain⟨_,_,_,_,e,_⟩:=x;exact⟨_,e⟩
 |dK j=>obtain⟨_,_,_,_,o,_,_,e,_⟩:=x;exact⟨_,e⟩
 |dT j=>obtain⟨_,_,_,_,o,_,_,e,_⟩:=x;exact⟨_,e⟩
 |set S n=>obtain⟨o,_,_,_,e,_⟩:=x;exact⟨_,e⟩
 |ins C z fs=>obtain⟨_,_,_,e,_⟩:=x;exact⟨_,e⟩
 |own y=>exact x
 |xd fs=>obtain⟨_,⟨_,_,_,e,_⟩,_⟩:=x;exact⟨_,e⟩
 |RP lo hi=>obtain⟨_,_,_,e⟩:=x;exact⟨_,e⟩
 |dW ob u=>obtain⟨e,_⟩:=x;exact⟨_,e⟩
 |wK ps=>exact⟨_,show h.get? a=ah _ from x⟩
 |met f y=>exact⟨_,show h.get? a=ah _ from x⟩
 |ext q=>obtain⟨_,e,_⟩:=x;exact e
theorem fE.anA{P:a9}{w:bh}{H:Hp}{h:bu}{a:aq}(x:fE P w H h)(e:h.get? a=ak):H a=ak:=by
 cases q:H a with
 |none=>rfl
 |some o =>
  obtain⟨ob,j⟩:=(x a o q).at;rw[e]at j;cases j
section
variable{P:a9}{w:bh}{K:ba}{mg:a5->av aj}{base:bu}
abbrev oZ(P:a9)(w:bh)(K:ba)(mg:a5->av aj)(base:bu)(N:ai a5)(af:a5)(scope:cp)(f:aq)(j:aj)(A:bj)(outer:ai Env)(s:ar)(H:Hp)(E:XK):Cx :=
 (kP (oB P w) P w K mg base N af scope f j A outer s H E).mB (XE (kP (oB P w) P w K mg base N af scope f j A outer s H E) λ_=>E)
theorem QR{CX:oA}{N:ai a5}{af:a5}{scope:cp}{f:aq}{j:aj}{A:bj}{outer:ai Env}{s:ar}{H:Hp}{E:XK}:kR (kP CX P w K mg base N af scope f j A outer s H E):=⟨rfl,rfl,rfl⟩
theorem bF{N:ai a5}{af:a5}{scope:cp}{f:aq}{j:aj}{A:bj}{outer:ai Env}{s:ar}{H:Hp}{E:XK}:nH (oZ P w K mg base N af scope f j A outer s H E) (λ_=>E):=nH.of QR rfl _
theorem Ee{N:ai a5}{af:a5}{scope:cp}{f:aq}{z:aj}{A:bj}{outer:ai Env}{s:ar}{H:Hp}{E:XK}{st:ai bo}{t:TS}(h:nX (oZ P w K mg base N af scope f z A outer s H E) st t) :
  nX (kP (oB P w) P w K mg base N af scope f z A outer s H E) st t:=by
 intro aa s1 J k D I U;refine lZ (h aa s1 J k D (I.mB _) U) (λ_ _ q=>q.tM) λe s' L=>?_;obtain⟨J',H',x,cls,d,rfl,i,ex,q⟩:=L;show wpAny _ _ (leaving _ _) _ _ _;unfold leaving;refine aJ (Dl (E:=λc B=>oB P w outer H s E c B) i QR ex λh1 g b=>?_);refine UX g QR b λh2 j a=>?_;exact⟨x,cls,d,H',rfl,j.os,j.bare,j.base,j.aL,a,q⟩
structure abW(P:a9)(w:bh)(K:ba)(mg:a5->av aj)(base:bu)(x:a5)(k:ay)(ps:ai a5)(sp:Sp):Prop where
 ex:∃f fd,gR P w K mg base (oB P w) k f fd ps sp/\mg x=ah (.ref f)/\keepIn K (.ref f)=au/\Binds K fd ps []
end
section
variable{X:Cx}{W:WX}{x:a5}{p pos np jH:cq}{e:bp}{es:ai bp}{t:TA}
def Qf(sp:Sp)(W:WX)(t:TA):TE:=λJ H Q=>t J H λvs H1=>sp vs H1 Q λcls dx H'=>W J cls dx H'
theorem alH{k:ay}{ps:ai a5}{sp:Sp}(T:nH X W)(D:abW X.prog X.w X.K X.mg X.base x k ps sp)(hr:cE k X.A)(c:Gl X x)(ha:PA X (e::es) t)
  (d:(x==("__debug__" : a5))=ao:=by decide) (he:az (e::es) X.env=(ao,br e X.env)::az es X.env:=by rfl) (g:(b8 pos (az es X.env)).any (·.1)=ao:=by rfl) :
  PE X (.Call (.Name x p) (e::es) [] pos) (Qf sp W t):=by
 obtain⟨f,n,F,hm,U,hb⟩:=D.ex;intro aa s J H Q I h;refine uY (BR I c hm ?_ d);refine callWith_K (h₀:=X.base) I.ok.mod.tX U (bN (ha pos aa s J H _ I h) λus s1 ⟨vs,m,j,r,q⟩=>⟨j.fB,?_⟩) he g;have hl:us.length=ps.length:=by rw[<-r.length];exact F.len _ _ _ _ q
 have B:=hb s1 us j.fB (by rw[wC];exact hl);rw[wC]at B;refine JQ (uN (F.run X.A X.stack s1 m ⟨us,[]⟩ us vs Q _ hr j.NN B r q) λr s' hq=>?_);cases r with
 |error o =>
  obtain⟨a,cls,i,H',rfl,os,bare,un,aL,ex,L⟩:=hq;have l:=(j.VP os un aL bare (λb z=>bz z (by simp))).Df;exact T.to _ _ ⟨J,H',a,cls,i,rfl,l,(ex.first j T.ex).any,L⟩
 |ok fl =>
  cases fl with
  |ret u=>exact j.after hq
  |next=>exact False.elim hq
  |brk=>exact False.elim hq
  |cont=>exact False.elim hq
noncomputable abbrev Iq:ai aj:=[.type "ValueError",.type "Exception",.type "BaseException",.type "object"]
structure OA(K:ba)(C:aq):Prop where
 inK:excIn K C Iq "ValueError.__new__" = au
theorem OA.obj{K:ba}{C:aq}(ι:OA K C){h:bu}(X:K.In h):∃bm N nm q bs hdct sn sub ab col dd k0 k1 k2 k3 k5 z,h.get? C=ah (cy nm q C N bs bm hdct sn sub ab col dd k0 k1 k2 k3 k5 "ValueError.__new__")/\h.Ns N z/\z "__init__" = ak/\OwnTail h Iq bm:=by
 have q:=ι.inK;unfold excIn at q;split at q
 ·rename_i dd cd j b;split at q
  ·rename_i c bm k0 k1 k2 k3 n k5 hm hs;simp only[lK,vU,Bool.not_eq_true']at q;obtain⟨⟨⟨⟨⟨rfl,rfl⟩,B⟩,ht⟩,aL⟩,L⟩:=q;obtain⟨nm,bs,mro,ns,U,hd,sn,sub,ab,col,del⟩:=cd;dsimp only at hm B aL L;subst hm B;have a:j=#[k0,k1,k2,k3,ah (.builtin "ValueError.__new__"),k5]:=by
    obtain⟨l⟩:=j;simp only at hs;rw[hs]
   subst a;exact⟨bm,ns,nm,U,bs,hd,sn,sub,ab,col,dd,k0,k1,k2,k3,k5,_,X _ _ b,.of_isNs (PySem.W.isNs_of_in X aL),PySem.W.nsMap_none_of_in X aL L,PySem.W.tail_of_in X ht⟩
  ·cases q
 ·cases q
def aeF(W:WX)(C:aq)(t:TA):TS:=λ_ J H=>t J H λvs H1=>vs.length<=a7/\W J (.ref C) ak H1
theorem akC{C:aq}(T:nH X W)(d:X.calm=au)(ι:OA X.K C)(c:Gl X x)(hm:X.mg x=ah (.ref C))(ha:PA X (e::es) t)
  (l:(x==("__debug__" : a5))=ao:=by decide) (he:az (e::es) X.env=(ao,br e X.env)::az es X.env:=by rfl) (m:(b8 jH (az (e::es) X.env)).any (·.1)=ao:=by rfl) :
  PS X (.Raise (ah (.Call (.Name x np) (e::es) [] jH)) ak pos) (aeF W C t):=by
 intro aa s J H D I h;obtain⟨n,N,nm,q,bs,hdct,sn,sub,ab,col,dd,k0,k1,k2,k3,k5,u,i,f,o,hT⟩:=ι.obj I.ok.mod.tX;have k:n.contains (.type "BaseException")=au:=hT.hasType (by decide);refine wpAny_Raise_call_subT (nm:=nm) (q:=q) (N:=N) (bs:=bs) (hdct:=hdct) (sn:=sn) (sub:=sub) (ab:=ab) (col:=col) (dd:=dd) (k0:=k0) (k1:=k1) (k2:=k2) (k3:=k3) (k5:=k5) PySem.F.excBase_ValueError k (I.ok.hd d) m o (BR I c hm ⟨rfl,?_⟩ l);rw[he];refine abY ?_;have z:=ha jH aa s J H _ I h;rw[he]at z;refine bN z λus s1 ⟨vs,B,j,r,U,L⟩=>⟨rfl,by rw[<-r.length];exact U,j.bk _ _ i,f.keeps j.bk,hT.keeps j.bk,λh' a M=>?_⟩
 obtain⟨p,ht,b,_⟩:=M.there;have g:B a=ak:=j.aL.anA M.new;refine T.to _ _ ⟨J,B,a,.ref C,ak,rfl,(j.kept (t':=s1.toks) M.keeps).Df,⟨j.first T.ex M.new,g,_,_,ht,rfl,rfl,rfl,by simp,.inl ⟨rfl,rfl⟩⟩,L⟩
end
structure XC(K:ba)(C:aq):Prop where
 ob:∃nm q N bs bm hdct sn sub ab col dd k0 k1 k2 k3 k5,K.lookup C=ah (cy nm q C N bs bm hdct sn sub ab col dd k0 k1 k2 k3 k5 "ValueError.__new__")
 ga:bx K (.ref C) "__getattribute__" = ah (ah (.builtin "BaseException.__getattribute__"))
 gt:bx K (.ref C) "__getattr__" = ah ak
 cl:bx K (.ref C) "__class__" = ah (ah (.builtin "object.__class__"))
 be:b4 K (.ref C) (.type "BaseException")=ah au
 oj:b4 K (.ref C) (.type "object")=ah au
section
variable{prog:a9}{w:bh}{A:bj}{E:aj->ar->Prop}{h:bu}{g:bf GenState}{d:Drawn}{t:ay}{os:OsState}{a:aq}{o:cj}{K:ba}{C:aq}
theorem ab5{R:Result->ar->Prop}(c:XC K C)(X:K.In h)(j:h.get? a=ah o)(q:o.cls=.ref C)(hq:R (.ok (.ret (.ref C))) ⟨h,g,d,t,os⟩) :
  codeAny (bc prog w) A (.call (.builtin "getset_descriptor.__get__") ⟨[.builtin "object.__class__",.ref a,.ref C],[]⟩) R ⟨h,g,d,t,os⟩:=by
 have z:(⟨h,g,d,t,os⟩:ar).TypeIs (.builtin "object.__class__") "getset_descriptor":=abU;have L:Looks (bc prog w) h (isSubtype (.ref C) (.type (".".intercalate ("object.__class__".cutAt '.').dropLast))) au:=by
  rw[F.owner_object_class];exact looks_subIn X c.oj
 refine Yv F.slot_gs_get.plain F.entry_gs_get (F.slot_gs_get.check _ _ _ _ _ _ _ _ z (F.args_gs_get _ _ _) ?_)
 repeat (any_goals (first|assumption|(with_reducible refine JN j ?_;rw[q])|with_reducible refine L.at ?_|wp_step))
 refine⟨Code.quiet_builtin _ (by decide +kernel),zV F.entry_object_class ?_⟩
 repeat (any_goals (first|assumption|(with_reducible refine JN j ?_;rw[q])|wp_step))
theorem ab6{tk:Tok}{Q:Fin->ar->Prop}(c:XC K C)(X:K.In h)(j:h.get? a=ah o)(q:o.cls=.ref C)(hq:Q (.done (.ret (.ref C))) ⟨h,g,d,t,os⟩) :
  wpAny (bc prog w) A (Builtin.«object.__getattribute__» ⟨[.ref a,.str "__class__" tk],[]⟩) Q E ⟨h,g,d,t,os⟩:=by
 have b:(⟨h,g,d,t,os⟩:ar).TypeIs (.builtin "object.__class__") "getset_descriptor":=abU;have U:=abU;have L:=F.slot_gs_get.lookup;have B:=F.slot_gs_set.lookup;have z:=looks_findIn (M:=bc prog w) X c.cl
 repeat (any_goals (first|assumption|(with_reducible refine JN j ?_;rw[q])|with_reducible refine z.at ?_|wp_step))
 refine ab5 c X j q ?_
 repeat (any_goals (first|assumption|wp_step))
theorem ab7{M:Model}{j:aj}{Q:Unit->ar->Prop}(c:XC K C)(X:K.In h)(q:h.get? a=ah o)(B:o.cls=.ref C)(hq:Q () ⟨h,g,d,t,os⟩) :
  wpAny M A (checkBuiltinCall "BaseException.__getattribute__" ⟨[.ref a,j],[]⟩) Q E ⟨h,g,d,t,os⟩:=by
 have L:Looks M h (isInstance (.ref a) (.type "BaseException")) au:=by
  refine PySem.W.Looks.andThen (a:=.ref C) ?_ (looks_subIn X c.be);rw[<-B];exact(PySem.W.Looks.ld q).andThen .now
 have z:builtinKind "BaseException.__getattribute__" = ah .slot:=by decide +kernel
 have hs:splitId "BaseException.__getattribute__" = ah ("BaseException", "__getattribute__"):=by decide +kernel
 have ha:=F.args_bexc_ga (.ref a) j;exact PySem.W.check_slot (i := "BaseException.__getattribute__") (owner := "BaseException") (n := "__getattribute__") (self:=.ref a) (rest:=[j]) (kw:=[]) (s:=⟨h,g,d,t,os⟩) z hs L ha hq
theorem ab8{tk:Tok}{fill expr:bb}{Q:aj->ar->Prop}(c:XC K C)(X:K.In h)(j:h.get? a=ah o)(q:o.cls=.ref C)(hq:Q (.ref C) ⟨h,g,d,t,os⟩) :
  wpAny (bc prog w) A (getAttrBy (.ref a) (.str "__class__" tk) fill expr) Q E ⟨h,g,d,t,os⟩:=by
 have b:=PySem.F.excAttr_ValueError.ga.bind (.ref a);have U:(expr&&onTheHeap (Value.builtin "BaseException.__getattribute__"))=ao:=by cases expr <;> rfl
 have B:(Value.builtin "BaseException.__getattribute__" == Value.builtin "object.__getattribute__")=ao:=by decide +kernel
 have z:(onTheHeap (Value.ref C)&&Value.builtin "BaseException.__getattribute__" == Value.builtin "object.__getattribute__")=ao:=by rw[B];rfl
 have L:=looks_findIn (M:=bc prog w) X c.ga;have L2:=looks_findIn (M:=bc prog w) X c.gt
 repeat (any_goals (first|assumption|(with_reducible refine JN j ?_;rw[q])|with_reducible refine L.at ?_|with_reducible refine L2.at ?_|wp_step))
 refine Yv PySem.F.excAttr_ValueError.ga.plain F.entry_bexc_ga (ab7 c X j q (ab6 c X j q ?_))
 repeat (any_goals (first|assumption|wp_step))
theorem ab9{Q:av aj->ar->Prop}(c:XC K C)(X:K.In h)(j:h.get? a=ah o)(q:o.cls=.ref C)(hq:Q (ah (.ref C)) ⟨h,g,d,t+1,os⟩) :
  wpAny (bc prog w) A (getAttr? (.ref a) "__class__") Q E ⟨h,g,d,t,os⟩:=by
 unfold getAttr? getAttrBy?
 repeat (any_goals (first|assumption|with_reducible apply ab8 c X j q|wp_step))
end
section
variable{K:ba}{C D x:aq}{oe:cj}{b:bb}
theorem XC.get(c:XC K C):∃cd,PySem.W.clsIn K C=ah cd/\cd.mro.isEmpty=ao/\cd.mro.contains (.ref C)=au/\PySem.W.typeIn K (.ref C)=ah (.type "type"):=by
 obtain⟨nm,q,N,bs,bm,j,sn,sub,z,col,d,b,a,U,L,B,e⟩:=c.ob;refine⟨{name:=nm,bases:=bs,mro:=.ref C::bm,ns:=N,qualname:=q,hasDict:=j,slotNames:=sn,subclasses:=sub,abstract:=z,collection:=col,hasDel:=ao},?_,rfl,?_,?_⟩
 ·unfold PySem.W.clsIn;rw[e]
 ·simp
 ·show(K.lookup C).map (·.cls)=_;rw[e];rfl
theorem XC.isType(c:XC K C){M:Model}{h:bu}(X:K.In h):Looks M h (PySem.isType (.ref C)) au:=by
 obtain⟨nm,q,N,bs,bm,j,sn,sub,d,col,b,a,U,L,B,z,e⟩:=c.ob;intro i f g s' k q;unfold PySem.isType loadHead;exact aJ (wpAny_loadPart (k _ _ (X _ _ e)) (bG q))
theorem ao0(c:XC K D)(L:oe.cls=.ref D):PySem.W.KitX K (.ref x) (.ref D) (λh=>h.get? x=ah oe)where
 ty:=λM h _ p=>L ▸ (PySem.W.Looks.ld p).andThen .now
 it:=λ_ _ X _=>c.isType X
 ne:=λh a f C n l X j=>by
  obtain⟨m,q,N,bs,y,B,i,sub,A,col,f,w,v,u,r,o,e⟩:=c.ob;refine YH.mpr λq=>?_;have b:D=a:=Value.ref.inj (vU.mp q);subst b;have z:=nK ((X _ _ e).symm.trans j);have U:=b7 Obj.data z;cases U
 ca:=λ{_ _ _ _ _ s} X p k=>by obtain⟨h,g,d,t,os⟩:=s;exact ab9 c X p L k
theorem ao2(L:XC K D)(U:XC K C)(s:b4 K (.ref D) (.ref C)=ah b):c7 K (.ref D) (.ref C)=ah b:=by
 unfold c7;split
 ·rename_i q;have e:D=C:=Value.ref.inj (vU.mp q);subst e;obtain⟨B,h1,h2,z,_⟩:=L.get;change mroIn K D (.ref D)=ah b at s;unfold mroIn at s;rw[h1]at s;simp only[Kz,h2,z]at s;simpa using s
 ·obtain⟨B,h1,_,_,j⟩:=U.get;unfold PySem.W.kitCls;simp only[h1,j];exact s
theorem ao1{T:cm}(s:b4 K (.ref D) (.type T)=ah b)(hT:PySem.W.kitMeta T=au):c7 K (.ref D) (.type T)=ah b:=by
 unfold c7;rw[a8 (by simp)];unfold PySem.W.kitCls;simp only[hT];exact s
theorem ao3:PySem.W.kitMeta "ValueError" = au:=by kernel_rfl
end
noncomputable def Cx.kQ(X:Cx)(x:aq)(oe:cj):Cx:={X with A:=X.A.mark (ah (.ref x)),calm:=ao,pn:=X.pn++[(x,oe)],xe:=λ_ _=>b5}
theorem Cx.Ok.kQ{X:Cx}(ok:X.Ok)(x:aq)(oe:cj):(X.kQ x oe).Ok :=
 ⟨ok.mod,ok.kind,ok.glob,ok.blt,ok.above,ok.inj,ok.has,ok.CY,λh=>Bool.noConfusion h,ok.frames,ok.qR,ok.CS,ok.bs,ok.qE,ok.wX,ok.zS,ok.nW,ok.sS⟩
section
variable{X:Cx}{J:St}{H:Hp}{s:ar}{x:aq}{oe:cj}
theorem Inv.kQ(I:Inv X [] J H s)(p:s.heap.get? x=ah oe/\H x=ak/\x≠X.env.locals/\x∉X.fs/\∀v,oe.data≠.cell v):Inv (X.kQ x oe) [] J H s :=
 ⟨I.ok.kQ x oe,I.os,I.bare,I.base,I.loc,I.cell,I.free,I.jU,λq hq=>by
  have hq:q∈(X.pn++[(x,oe)])++[]:=hq;rw[wC]at hq
  rcases XM.mp hq with z|z
  ·exact I.pin q (AH _ z)
  ·rw[qK.mp z];exact p,I.aL,I.len⟩
theorem Inv.uncaught(ok:X.Ok)(I:Inv (X.kQ x oe) [] J H s):Inv X [] J H s :=
 ⟨ok,I.os,I.bare,I.base,I.loc,I.cell,I.free,I.jU,λq hq=>I.pin q (by
  rw[wC]at hq ⊢;exact AH _ hq),I.aL,I.len⟩
theorem lJ.pin{cls:aj}{dx:av aq}{tb:bb}(I:Inv X [] J H s)(t:kR X)(e:lJ X.s₀.heap s.heap H x cls dx tb):∃oe vs,oe.cls=cls/\oe.dict=dx/\oe.data=.fields vs/\s.heap.get? x=ah oe/\H x=ak/\x≠X.env.locals/\x∉X.fs/\∀v,oe.data≠.cell v:=by
 obtain⟨_,q,oe,vs,he,B,L,hd,_⟩:=e;have j:=lJ.SJ I he hd;exact⟨oe,vs,B,L,hd,he,q,λz=>j (t.mem.mpr (.inl z)),λz=>j (t.mem.mpr (.inr z)),λv z=>by rw[hd]at z;cases z⟩
def aiQ(K:ba)(x:aq)(cls:aj):ai V->Hp->VK->Prop:=λxs H Q=>∃D,cls=.ref D/\XC K D /\
 ((∃C b,xs=[.ref x,.ref C]/\c7 K cls (.ref C)=ah b/\Q (.bl b) H)\/(∃T b,xs=[.ref x,.ty T]/\c7 K cls (.type T)=ah b/\Q (.bl b) H) \/
  ∃(p:aq) (cs:ai aq) (b:bb),xs=[.ref x,.ref p]/\H p=ah (.tup (cs.map V.ref))/\kitAny K cls (cs.map Value.ref)=ah b/\Q (.bl b) H)
theorem AZ:∀{cs:ai aq} {us:ai aj},Vals (cs.map V.ref) us->us=cs.map Value.ref
 |[],_,.nil=>rfl
 |_::_,_,.cons r t=>by rw[cW,<-AZ t];congr
theorem aAJ(g:(x,oe)∈X.pn):mT X (.builtin "isinstance") (aiQ X.K x oe.cls):=by
 intro aa s J H i us Q I r h;obtain⟨D,U,c,h⟩:=h;have he:=(I.pin _ (AH _ g)).1;have Ω:=ao0 (x:=x) c U;rw[U]at h
 rcases h with⟨C,b,rfl,e,q⟩|⟨T,b,rfl,e,q⟩|⟨p,k,b,rfl,B,e,q⟩
 ·obtain⟨u,v,rfl,j,rv⟩:=vals2 r;obtain rfl:u=.ref x:=j;obtain rfl:v=.ref C:=rv;exact dk Ω I.fB he e (by intro z;cases z) λtk=>⟨.bl b,H,I.tok tk,rfl,q⟩
 ·obtain⟨u,v,rfl,j,rv⟩:=vals2 r;obtain rfl:u=.ref x:=j;obtain rfl:v=.type T:=rv;exact dk Ω I.fB he e (by intro z;cases z) λtk=>⟨.bl b,H,I.tok tk,rfl,q⟩
 ·obtain⟨u,v,rfl,j,rv⟩:=vals2 r;obtain rfl:u=.ref x:=j;obtain rfl:v=.ref p:=rv;obtain⟨_,l,d,⟨o,L,iA,n,a⟩⟩:=I.aL p _ B;obtain⟨oc,od,f,gY⟩:=o;simp only at iA a;subst iA a;rw[AZ d]at L;exact PySem.W.kia_tup Ω I.fB he L e (by intro z;cases z) λtk=>⟨.bl b,H,I.tok tk,rfl,q⟩
end
section
variable{M:Model}{A:bj}{E:aj->ar->Prop}{h:bu}{g:bf GenState}{d:Drawn}{t:ay}{os:OsState}{e:aq}{oe:cj}{K:ba}{C D:aq}{b:bb}
theorem ab4{Q:bb->ar->Prop}(z:XC K C)(X:K.In h)(he:h.get? e=ah oe)(U:oe.cls=.ref D)(B:b4 K (.ref D) (.ref C)=ah b)(hq:Q b ⟨h,g,d,t,os⟩) :
  wpAny M A (excMatches (.ref e) (.ref C)) Q E ⟨h,g,d,t,os⟩:=by
 obtain⟨l,q,N,bs,u,j,k,sub,v,col,s,r,p,o,n,m,i⟩:=z.ob;have a:=X _ _ i;have L:=looks_subIn (M:=M) X B;have c:=looks_subIn (M:=M) X z.be;have f:=tc_notTuple;unfold excMatches
 repeat (first|(with_reducible refine JN he ?_;rw[U])|with_reducible refine JN a ?_|with_reducible refine c.at ?_|with_reducible refine L.at ?_|wp_step)
 cases b <;> (wp_walk;exact hq)
end
theorem VF{X:Cx}{M:Model}{A:bj}{E:aj->ar->Prop}{J:St}{H:Hp}{s:ar}{i:ay}{n:a5}{pos:cq}{Q:Unit->ar->Prop}(I:Inv X [] J H s)(w:X.N.Nodup)(hi:X.N[i]?=ah n)(hl:X.env.scope.names.lookup n=ah .local)
  (h:∀s',Inv X [] (J.set i ak) H s'->Q () s'):wpAny M A (do bindName X.env n .none;unbindBehindTheSuite X.env n pos) Q E s:=by
 refine aJ (wpAny_bindName (RG (v:=.bQ) I w hi (.inl hl) rfl (λs1 B=>?_) (.inr hl)));unfold unbindBehindTheSuite;refine wpAny_onRaise ?_;have Gi:(X.env.scope.kind == .class||(X.env.scope.kind == .module&&X.env.locals != X.env.globals))=ao:=by rw[I.ok.kind];rfl
 obtain⟨m,hn,D⟩:=id B.loc;have C:i<J.length:=by rw[I.len];exact(cX.mp hi).1
 have hv:m n=ah .none:=by
  obtain⟨u,P,l⟩:=D i n .bQ hi (by rw[fJ C]) (.inl hl);obtain rfl:u=Value.none:=P
  rcases l with⟨_,l⟩|⟨k,_⟩
  ·exact l
  ·have TZ:X.env.kindOf n=ah .local:=hl
   rcases k with k|k <;> (rw[TZ]at k;cases k)
 refine wpAny_unbindName_local hl hn hv Gi λh' u Fq hs=>?_;have uO:=B.uO;obtain⟨oL,_,_,nT,_⟩:=id hn;refine h _ ⟨B.ok,B.os,B.bare,⟨λb o e U hb a=>?_,λb o e U hb a=>?_,B.base.free,λb o e a=>?_,B.base.lO,B.base.kN,B.base.lP⟩,⟨_,Fq,λj y F L g W=>?_⟩,λy c e=>?_,B.free,B.jU,λp V=>?_,λb ob e=>?_,by simpa using I.len⟩
 ·exact(hs.2 b (dX (kT (dE e) B.ok.above))).trans (B.base.keep b o e U hb a)
 ·obtain⟨K,L⟩:=B.base.slot b o e U hb a;exact⟨K,(hs.2 b (dX (kT (dE e) B.ok.above))).trans L⟩
 ·obtain⟨S,L⟩:=B.base.there b o e a;exact⟨S,(hs.2 b (dX (kT (dE e) B.ok.above))).trans L⟩
 ·have r:j≠i:=λz=>by
   subst z;rw[fJ C]at g;cases g
  rw[eW (cK r)]at g;obtain⟨G,R,q⟩:=D j y F L (by rw[eW (cK r)];exact g) W;refine⟨G,R,?_⟩
  rcases q with⟨k,e⟩|⟨k,c,e,z⟩
  ·refine .inl ⟨k,?_⟩;have:y≠n:=λe=>r (Dm w L (e ▸ hi));simp[this,e]
  ·exact .inr ⟨k,c,e,z.sameBut hs (uO y c e)⟩
 ·obtain⟨t,z⟩:=B.cell y c e;exact⟨t,z.sameBut hs (uO y c e)⟩
 ·obtain⟨e,U,ne,T,d⟩:=B.pin p V;exact⟨(hs.2 p.1 ne).trans e,U,ne,T,d⟩
 ·refine(B.aL b ob e).nR (λc t f q=>(hs.2 c ?_).trans q) (λ_ q=>q) λ_ _ q=>q;rintro rfl;have x:=B.free
  rcases f with rfl|f
  ·rw[x]at e;cases e
  ·rw[x]at f;cases f
def XA(X:Cx)(st:bo)(t:TS):Prop:=∀(s:ar) (J:St) (H:Hp) (D:Ends),Inv X [] J H s->t D J H->wpAny (bc X.prog X.w) X.A (exec st X.env) (SP X [] D) X.xe s
def uP(X:Cx)(st:ai bo)(t:TS):Prop:=∀(s:ar) (J:St) (H:Hp) (D:Ends),Inv X [] J H s->t D J H->wpAny (bc X.prog X.w) X.A (execs st X.env) (SP X [] D) X.xe s
theorem PS.Cz{X:Cx}{st:bo}{t:TS}(h:PS X st t):XA X st t:=h []
theorem nX.Cz{X:Cx}{st:ai bo}{t:TS}(h:nX X st t):uP X st t:=h []
theorem aj7{X:Cx}{st:bo}{rest:ai bo}{t u:TS}(h1:XA X st t)(h2:uP X rest u):uP X (st::rest) (ZR t u):=by
 intro s J H D I h;refine wpAny_execs_cons (bN (h1 s J H {D with nx:=u D} I h) λf s1 q=>?_);cases f with
 |next =>
  obtain⟨J',H',j,q⟩:=q;exact h2 s1 J' H' D j q
 |brk=>exact q
 |cont=>exact q
 |ret u=>exact q
abbrev TH:=aq->aj->av aq->TS
def PH(X:Cx)(hs:ai cz)(th:TH):Prop:=∀(s:ar) (J:St) (H:Hp) (D:Ends) (x:aq) (cls:aj) (dx:av aq),Inv X [] J H s->lJ X.s₀.heap s.heap H x cls dx au->th x cls dx D J H ->
 wpAny (bc X.prog X.w) X.A (handleBy (.ref x) X.env hs) (SP X [] D) X.xe s
def ZS:TH:=λ_ _ _ _ _ _=>b5
theorem Su{X:Cx}:PH X [] ZS:=λ_ _ _ _ _ _ _ _ _ h=>h.elim
noncomputable def Ends.drop(D:Ends)(i:ay):Ends:=⟨λJ H=>D.nx (J.set i ak) H,D.rt,λJ H=>D.bk (J.set i ak) H,λJ H=>D.ct (J.set i ak) H⟩
def tH(K:ba)(C:aq)(i:ay)(ts th:TH):TH:=λx cls dx D J H=>∃E b,cls=.ref E/\b4 K (.ref E) (.ref C)=ah b /\
 if b=au then ts x cls dx (D.drop i) (J.set i (ah (.ref x))) H else th x cls dx D J H
section
variable{X:Cx}{C:aq}{i:ay}{n y:a5}{np pos:cq}{b₀:bo}{suite:ai bo}{rest:ai cz}{ts th:TH}
def Px(tb:WX->TS)(th:TH):TS:=λD J H=>tb (λJ' cls dx H'=>∀x,H' x=ak->th x cls dx D J' H') D J H
theorem Sm{z:cz}{hs:ai cz}{body:ai bo}{tb:WX->TS}(t:kR X)(c:X.ex=[])(hb:∀W,uP (X.mB (XE X W)) body (tb W))(hh:PH X (z::hs) th):XA X (.Try body (z::hs) [] [] pos) (Px tb th):=by
 intro s J H D I h;refine wpAny_Try_except (lZ (hb _ s J H D (I.mB _) h) (λf s1 q=>?_) λe s1 q=>?_)
 ·have q:=q.tM;cases f with
  |next =>
   obtain⟨J',H',j,q⟩:=q;exact YM ⟨J',H',j,q⟩
  |brk=>exact q
  |cont=>exact q
  |ret u=>exact q
 ·obtain⟨J',H',x,cls,U,rfl,j,ex,q⟩:=q;refine Dl j t ex λh1 b L=>UX b t L λh2 a B=>?_;exact hh _ J' H' D x cls U a B (q x B.2.1)
end
section
variable{P:a9}{w:bh}{K:ba}{mg:a5->av aj}{base:bu}
theorem awA{CX:oA}{k:ay}{f:aq}{name af:a5}{params:Arguments}{body:ai bo}{scope:cp}{dV kV doc pm aS ct oc:aj}{an od:av aq}
  {gY:bf (av aj)} {N ps:ai a5} {sp:Sp} (lk:K.lookup f=ah ⟨oc,od,.func (fnOf name af params body scope dV kV doc pm an aS ct),gY⟩) (jG:codeIn K aS af=au) (S:cL N ps scope)
  (len:∀vs H Q E,sp vs H Q E->vs.length=ps.length)
  (iB:∀(A:bj) (outer:ai Env) (s:ar) (H:Hp) (vs:ai V) (Q:VK) (E:XK),cE k (A.deeper (cn af scope s.heap.objs.size f aS))->sp vs H Q E ->
   ∃t,uP (kP CX P w K mg base N af scope f aS A outer s H E) body t/\t {nx:=λ_ H'=>Q .bQ H',rt:=Q} (start N vs) H) :
  gR P w K mg base CX (k+1) f (fnOf name af params body scope dV kV doc pm an aS ct) ps sp:=by
 refine⟨len,λA outer s H args us vs Q E hr e0 hb r gF=>?_⟩;have hl:=len _ _ _ _ gF;have KX:K.In s.heap:=e0.mod.tX.keeps λb o e=>(e0.bs b o e).1;have lim:s.heap.NoLimit:=e0.mod.nolimit.keeps λb o e=>(e0.bs b o e).1;have MF:∀y∈ps.zip us,scope.names.lookup y.1=ah .local\/(scope.names.lookup y.1=ah .cell/\((cellsFrom (s.heap.objs.size+1) scope.names []).lookup y.1).isSome=au):=λ⟨n,v⟩ hy=>by
  rcases S.par n (XJ hy).1 with q|q
  ·exact .inl q
  ·exact .inr ⟨q,cellsFrom_some _ _ _ (.inl q)⟩
 refine Yu hr.depth (KX _ _ lk) rfl S.co S.gen rfl (codeRec_of KX jG) (hb _ _ _ _ ?_);refine Oe S.kind MF λenv he s1 x=>?_;subst he;refine⟨lim.keeps x.toInCall.keep,codeAny_func ?_⟩;obtain⟨t,ht,hq⟩:=iB A outer s H vs Q E (hr.deeper _) gF;have I:Inv (kP CX P w K mg base N af scope f aS A outer s H E) [] (start N vs) H s1:=Eu S hr.hd e0 hl r x;refine lZ (ht s1 (start N vs) H _ I hq) (λfl s' hs=>?_) λe s' hs=>hs;have fin:∀{J':St} {H':Hp} {v:V} {u:aj},Inv (kP CX P w K mg base N af scope f aS A outer s H E) [] J' H' s'->RelV v u->Q v H'->CE outer P w H s Q u s' :=
  λ{J' H' v u} σ rv q=>⟨v,H',σ.os,σ.bare,σ.base,σ.aL,rv,q⟩
 cases fl with
 |ret u =>
  obtain⟨v,J',H',σ,rv,q⟩:=hs;exact fin σ rv q
 |next =>
  obtain⟨J',H',σ,q⟩:=hs;exact fin (v:=V.bQ) (u:=Value.none) σ rfl q
 |brk =>
  obtain⟨_,_,_,q⟩:=hs;exact False.elim q
 |cont =>
  obtain⟨_,_,_,q⟩:=hs;exact False.elim q
theorem uP.tS{X:Cx}{st:ai bo}{t:TS}(h:uP X.tS st t):uP X st t:=λs J H D I hw =>
 lZ (h s J H D (I.mB _) hw) (λ_ _ q=>q.tM) λ_ _ z=>False.elim z
theorem Def.of0{x:a5}{st:bo}{N ps:ai a5}{k:ay}{sp:Sp}(h:HasFn K mg x st)(S:cL N ps (aY st))
  (bind:∀(kV doc pm:aj) (an:av aq) (aS ct:aj) (us:ai aj),us.length=ps.length->dh (fnOf x x (kO st) (eZ st) (aY st) .none kV doc pm an aS ct) ⟨us,[]⟩=pure (ps.zip us))
  (len:∀vs H Q E,sp vs H Q E->vs.length=ps.length)
  (iB:∀(f:aq) (aS:aj) (A:bj) (outer:ai Env) (s:ar) (H:Hp) (vs:ai V) (Q:VK) (E:XK),cE k (A.deeper (cn x (aY st) s.heap.objs.size f aS))->sp vs H Q E ->
   ∃t,uP (kP pS P w K mg base N x (aY st) f aS A outer s H E).tS (eZ st) t/\t {nx:=λ_ H'=>Q .bQ H',rt:=Q} (start N vs) H):Def P w K mg base x (k+1) ps sp:=by
 obtain⟨f,fd,hm,F⟩:=h.ex;refine⟨f,fd,?_,hm,F.kp,F.binds bind⟩;obtain⟨oc,od,kV,doc,pm,an,aS,ct,gY,rfl,lk,jG⟩:=F.ex;refine awA lk jG S len λA outer s H vs Q E hr gF=>?_;obtain⟨t,h,q⟩:=iB f aS A outer s H vs Q E hr gF;exact⟨t,h.tS,q⟩
end
noncomputable def SX(scope q:cp)(N:ai a5)(z:ai ay):bb :=
 scope.kind == .function&&(scope.names.all λy=>y.2 != .cell&&(y.2 != .local||scope.names.lookup y.1==ah .local)&&(y.2 != .free||(q.names.lookup y.1==ah .cell||q.names.lookup y.1==ah .free))) &&
 z.all λj=>match N[j]? with
  |some x=>scope.names.lookup x==ah .free
  |none=>ao
theorem uU.of{X:Cx}{scope:cp}{ls:ai a5}{B:ai ay}(sc:cp)(N:ai a5)(b:X.env.scope=sc)(a:X.N=N)(ok:SX scope sc N B=au):uU X scope ls B:=by
 unfold SX at ok;rw[lK,lK]at ok;obtain⟨⟨h1,h2⟩,L⟩:=ok;rw[IQ]at h2 L;refine⟨by simpa using h1,λy hy=>?_,λy hy hl=>?_,λy hy hf=>?_,λj U=>?_⟩
 ·have q:=h2 y hy;rw[lK,lK]at q;simpa using q.1.1
 ·have q:=h2 y hy;rw[lK,lK]at q;simpa[hl]using q.1.2
 ·have q:=h2 y hy;rw[lK,lK]at q;have z:=q.2;rw[hf]at z;unfold Env.kindOf;rw[b];simpa using z
 ·have q:=L j U;rw[a];cases e:N[j]? with
  |none=>rw[e]at q;cases q
  |some x=>rw[e]at q;exact⟨x,rfl,by simpa using q⟩
section
variable{X:Cx}
theorem aAB(hc:X.calm=au):mT X (.builtin "sorted") (λxs H Q=>∃d kvs B,xs=[.ref d]/\H d=ah (.dK kvs)/\kvs.map (·.1)=B.map Sum.inl/\B.length<64 /\
  ∀(ms:ai a6) (l:aq),ms.Perm B->ms.Pairwise (· <= ·)->H l=ak->Q (.ref l) (upd H l (.lst (ms.map V.int)))):=by
 intro aa s J H xs us Q I r h;obtain⟨d,kvs,B,rfl,hd,C,nU,q⟩:=h;obtain⟨u,rfl,N⟩:=vals1 r;cases N;obtain⟨z,lo,vs,rel,dd⟩:=zU I.aL hd;obtain⟨ep,G⟩:=dd.dictAt;have p:vs.length=B.length:=by
  rw[<-rel.length,<-fI (f:=(·.1)),C,fI]
 have S:(64:ay)<=a7:=by decide
 refine YG kind_sorted plain_sorted entry_sorted (args_sorted1 _) ?_;unfold Builtin.«sorted»;refine aJ (m:=checkCount "sorted" 1 1 _) (bG ?_);refine aJ (PySem.W.kdu_collect (A:=X.A.in1) (PySem.W.kdl_dict (knd:=gB X.prog X.w) (kvs:=vs) (ep:=ep) lo) (I.ok.hd hc) G (by omega) λh' tk acc Fy y=>?_);have hl:acc.toList.length=B.length:=by rw[mU,y.1,p]
 have hI:cg acc.toList B:=by
  refine intsAre_of (ns:=B) ?_;have key:∀(U:ai a6) (us:ai aj),us.length=U.length->(∀(i:ay) (v:aj),us[i]?=ah v->∃(j:a6) (t:Tok),U[i]?=ah j/\v=Value.int j t)->Vals (U.map V.int) us:=by
   intro U
   induction U with
   |nil=>intro us hl _;cases us with
    |nil=>exact .nil
    |cons _ _=>simp at hl
   |cons j U ih =>
    intro us hl hv;cases us with
    |nil=>simp at hl
    |cons v us =>
     obtain⟨j',t,a,L⟩:=hv 0 v rfl;cases a;exact .cons ⟨t,L⟩ (ih us (by simpa using hl) λi w R=>hv (i+1) w (by simpa using R))
  refine key B acc.toList hl λi v hv=>?_;obtain⟨k,x,a,L⟩:=y.2 i v (by rw[<-PQ];exact hv);have c:(vs.map (·.1))[i]?=ah k:=by rw[iZ,a];rfl
  rw[<-rel.keys,C,iZ]at c;cases D:B[i]? with
  |none=>rw[D]at c;cases c
  |some j =>
   rw[D]at c;have e5:(Sum.inl j:Key)=k:=nK c;subst e5
   rcases tY (k:=Sum.inl j) (v:=v) L with⟨i',t,n,P⟩|⟨_,_,n,_⟩
   ·cases n;exact⟨j,t,rfl,P⟩
   ·cases n
 refine aJ (PV ?_ (by rw[hl];omega));have o:(h'.push (b0 "list" acc.toList.toArray 0)).get? h'.objs.size=ah (b0 "list" acc.toList.toArray 0):=fW _ rfl;refine aJ (qQ (rW slot_list_sort ⟨_,o,rfl⟩ entry_list_sort (list_sort_tree o hI (by omega) λae g a1 E a3=>⟨_,rfl,?_⟩) (args_list_sort _)));refine bG ⟨_,rfl,?_⟩;have F:Inv X aa J H {s with heap:=h',toks:=tk}:=I.kept Fy;have T:H h'.objs.size=ak:=F.aL.fresh cU;obtain⟨a,K⟩:∃a,((h'.push (b0 "list" acc.toList.toArray 0)).update h'.objs.size (Obj.mapSeq λ_=>#[])).get? h'.objs.size=ah (b0 "list" #[] a):=⟨_,GS o (λ_=>#[])⟩;have M:=dD (b0 "list" #[] 0) (dD (b0 "tuple" acc.toList.toArray 0) K);obtain⟨L,MC⟩:∃L,(c8 (h'.push (b0 "list" acc.toList.toArray 0)) h'.objs.size acc.toList ae).get? h'.objs.size=ah (b0 "list" ae L):=⟨_,GS M (λ_=>ae)⟩;have kp:∀b u,h'.get? b=ah u->(c8 (h'.push (b0 "list" acc.toList.toArray 0)) h'.objs.size acc.toList ae).get? b=ah u:=λb u e=>by
  have hb:b≠h'.objs.size:=dX (dE e);unfold c8;exact(pQ _ _ (cK hb)).trans (dD _ (dD _ ((pQ _ _ (cK hb)).trans (dD _ e))))
 have hv:Vals (g.map V.int) ae.toList:=QE a1;have vL:g.length=B.length:=E.length_eq;refine⟨.ref h'.objs.size,upd H h'.objs.size (.lst (g.map V.int)),F.laid (t':=tk) kp cU ?_,rfl,q g _ E a3 T⟩;exact⟨by rw[fI];omega,ae.toList,L,hv,MC⟩
end
end L2
namespace V2
open PySem PySem.Spec PyProof.Rows L2
inductive A where
 |int (i:a6)|bl (b:bb)|str (x:a5)|bQ|ty (n:cm)|adr (p:aq)|xN (p d:aq) (f:a5) (i:a6)|gl (x:a5)|iU (ns:ai a6)
 |tup (ds:ai A)|lst (ds:ai A)|aB (k:ay)
inductive Fd where
 |val (a:A)|lst (ds:ai A)|aQ (kvs:ai (Key×A))
@[simp] noncomputable def Fd.own:Fd->bb
 |.val _=>ao
 |_=>au
inductive Cell where
 |lst (ds:ai A)|aQ (kvs:ai (Key×A))|ins (cls:a5) (fs:ai (a5×Fd))|tab (x:a5) (pos:cq) (af:a5)|dead
@[simp] def Cell.noOwn:Cell->bb
 |.ins _ fs=>fs.all λp=>!p.2.own
 |_=>au
structure Exc where
 cls:a5
 fs:ai (a5×A)
inductive Rs(α:Type)where
 |ok (a:α)|exc (x:Exc)
abbrev aH:=ai Cell
abbrev Ev:=ai (av A)
abbrev Mo(α:Type):=aH->av (Rs α×aH)
@[simp] noncomputable def ret{α:Type}(a:α):Mo α:=λZ=>ah (.ok a,Z)
@[simp] noncomputable def mb{α β:Type}(m:Mo α)(k:α->Mo β):Mo β:=λZ =>
 match m Z with
 |some (.ok a,Z1)=>k a Z1
 |some (.exc x,Z1)=>ah (.exc x,Z1)
 |none=>ak
@[simp] noncomputable def stuck{α:Type}:Mo α:=λ_=>ak
@[simp] noncomputable def need{α:Type}(o:av α):Mo α:=λZ=>o.map λa=>(.ok a,Z)
@[simp] noncomputable def mJ(p:Prop) [dm p]:Mo Unit:=λZ=>if p then ah (.ok (),Z)else ak
mutual
def Den(K:ba)(G:Hp)(O:ai aq):V->A->Prop
 |v,.int j=>v=.int j
 |v,.bl b=>v=.bl b
 |v,.str x=>v=.str x
 |v,.bQ=>v=.bQ
 |v,.ty n=>v=.ty n
 |v,.adr p=>v=.ref p
 |v,.xN p d f i=>v=.ref p/\G d=ah (.xd [(f,.int i)])
 |v,.gl x=>∃C,cc K aw x=ah (ah (.ref C))/\v=.ref C
 |v,.iU ns=>∃a,v=.ref a/\fA K G a (ns.map V.int)
 |v,.tup ds=>∃a xs,v=.ref a/\G a=ah (.tup xs)/\aX K G O xs ds
 |v,.lst ds=>∃a xs,v=.ref a/\G a=ah (.lst xs)/\aX K G O xs ds
 |v,.aB k=>∃a,v=.ref a/\O[k]?=ah a
def aX(K:ba)(G:Hp)(O:ai aq):ai V->ai A->Prop
 |xs,[]=>xs=[]
 |xs,d::ds=>∃x r,xs=x::r/\Den K G O x d/\aX K G O r ds
end
structure Ext(G:Hp)(O:ai aq)(G':Hp)(O':ai aq):Prop where
 same:mM G G'
 pre:∀(k:ay) (a:aq),O[k]?=ah a->O'[k]?=ah a
theorem Ext.refl(G:Hp)(O:ai aq):Ext G O G O:=⟨mM.refl _,λ_ _ h=>h⟩
theorem Ext.trans{G B z:Hp}{O q j:ai aq}(a:Ext G O B q)(b:Ext B q z j):Ext G O z j:=⟨a.same.trans b.same,λk x h=>b.pre k x (a.pre k x h)⟩
section
variable{K:ba}{G G':Hp}{O O':ai aq}
mutual
theorem Den.ext(e:Ext G O G' O'):∀{v:V} {d:A},Den K G O v d->Den K G' O' v d
 |_,.int _,h=>by simpa only[Den]using h
 |_,.bl _,h=>by simpa only[Den]using h
 |_,.str _,h=>by simpa only[Den]using h
 |_,.bQ,h=>by simpa only[Den]using h
 |_,.ty _,h=>by simpa only[Den]using h
 |_,.adr _,h=>by simpa only[Den]using h
 |_,.xN _ _ _ _,h=>by
  simp only[Den]at h ⊢;exact⟨h.1,e.same _ _ h.2⟩
 |_,.gl _,h=>by simpa only[Den]using h
 |_,.iU _,h=>by
  simp only[Den]at h ⊢;obtain⟨a,h1,h2⟩:=h;exact⟨a,h1,e.same.seq h2⟩
 |_,.tup ds,h=>by
  simp only[Den]at h ⊢;obtain⟨a,xs,h1,h2,j⟩:=h;exact⟨a,xs,h1,e.same _ _ h2,aX.ext e j⟩
 |_,.lst ds,h=>by
  simp only[Den]at h ⊢;obtain⟨a,xs,h1,h2,j⟩:=h;exact⟨a,xs,h1,e.same _ _ h2,aX.ext e j⟩
 |_,.aB k,h=>by
  simp only[Den]at h ⊢;obtain⟨a,h1,h2⟩:=h;exact⟨a,h1,e.pre _ _ h2⟩
theorem aX.ext(e:Ext G O G' O'):∀{xs:ai V} {ds:ai A},aX K G O xs ds->aX K G' O' xs ds
 |_,[],h=>by simpa only[aX]using h
 |_,d::ds,h=>by
  simp only[aX]at h ⊢;obtain⟨x,r,h1,h2,j⟩:=h;exact⟨x,r,h1,Den.ext e h2,aX.ext e j⟩
end
theorem pM{xs:ai V}:aX K G O xs []<->xs=[]:=by simp only[aX]
theorem aX.length:∀{xs:ai V} {ds:ai A},aX K G O xs ds->xs.length=ds.length
 |_,[],h=>by simp only[aX]at h;subst h;rfl
 |_,d::ds,h=>by
  simp only[aX]at h;obtain⟨x,r,rfl,h2,j⟩:=h;simp only[lH,aX.length j]
theorem aX.nil:aX K G O [] []:=by simp only[aX]
theorem aX.cons{x:V}{xs:ai V}{d:A}{ds:ai A}(h:Den K G O x d)(t:aX K G O xs ds):aX K G O (x::xs) (d::ds):=by
 simp only[aX];exact⟨x,xs,rfl,h,t⟩
theorem aX.kZ{xs:ai V}{d:A}{ds:ai A}(h:aX K G O xs (d::ds)):∃x r,xs=x::r/\Den K G O x d/\aX K G O r ds:=by simpa only[aX]using h
theorem aX.get:∀{xs:ai V} {ds:ai A} {i:ay} {d:A},aX K G O xs ds->ds[i]?=ah d->∃x,xs[i]?=ah x/\Den K G O x d
 |_,[],_,_,_,e=>by simp at e
 |_,_::_,0,_,h,e=>by
  obtain⟨x,r,rfl,h2,j⟩:=h.kZ;simp at e;subst e;exact⟨x,rfl,h2⟩
 |_,_::_,i+1,_,h,e=>by
  obtain⟨x,r,rfl,h2,j⟩:=h.kZ;simp at e;obtain⟨y,z,q⟩:=aX.get j e;exact⟨y,by simpa using z,q⟩
theorem aX.append:∀{xs ys:ai V} {ds es:ai A},aX K G O xs ds->aX K G O ys es->aX K G O (xs++ys) (ds++es)
 |_,_,[],_,h,t=>by rw[pM]at h;subst h;exact t
 |_,_,d::ds,_,h,t=>by
  obtain⟨x,r,rfl,h2,j⟩:=h.kZ;exact .cons h2 (aX.append j t)
theorem aX.set{x:V}{d:A}(q:Den K G O x d):∀{xs:ai V} {ds:ai A} (n:ay),aX K G O xs ds->aX K G O (xs.set n x) (ds.set n d)
 |_,[],n,h=>by rw[pM]at h;subst h;exact aX.nil
 |_,e::ds,0,h=>by
  obtain⟨y,r,rfl,h2,j⟩:=h.kZ;exact .cons q j
 |_,e::ds,n+1,h=>by
  obtain⟨y,r,rfl,h2,j⟩:=h.kZ;exact .cons h2 (aX.set q n j)
theorem HC:∀(ns:ai a6),aX K G O (ns.map V.int) (ns.map A.int)
 |[] => .nil
 |n::ns => .cons (by simp only[Den]) (HC ns)
end
def aCH(K:ba)(G H:Hp)(a:aq)(x:a5)(pos:cq)(af:a5):Prop :=
 G a=ak/\(∃c,PySem.W.tabIn K x=ah (c,a))/\∃ps,H a=ah (.wK ps)/\TriplesOk ps.toList /\
  (codeAmong pos ps.toList=ak\/∃c' oc vs t,codeAmong pos ps.toList=ah (.ref c')/\G c'=ah (.dW oc (.own 0))/\oc.data=.fields vs/\vs[1]?=ah (.str af t))
def iM(K:ba)(G:Hp)(O:ai aq)(H:Hp)(v:V):Fd->Prop
 |.val a=>Den K G O v a
 |.lst ds=>∃b xs,v=.ref b/\G b=ak/\b∉O/\H b=ah (.lst xs)/\aX K G O xs ds
 |.aQ kvs=>∃b,∃ws:ai (Key×V),v=.ref b/\G b=ak/\b∉O/\H b=ah (.dK ws)/\ws.map (·.1)=kvs.map (·.1)/\aX K G O (ws.map (·.2)) (kvs.map (·.2))
def jA(K:ba)(G:Hp)(O:ai aq)(H:Hp):ai (a5×V)->ai (a5×Fd)->Prop
 |[],[]=>True
 |(f,v)::ws,(g,d)::fs=>f=g/\iM K G O H v d/\jA K G O H ws fs
 |_,_=>b5
def pC(K:ba)(G:Hp)(O:ai aq)(H:Hp)(a:aq):Cell->Prop
 |.lst ds=>G a=ak/\∃xs,H a=ah (.lst xs)/\aX K G O xs ds
 |.aQ kvs=>G a=ak/\∃ws:ai (Key×V),H a=ah (.dK ws)/\ws.map (·.1)=kvs.map (·.1)/\aX K G O (ws.map (·.2)) (kvs.map (·.2))
 |.ins cls fs=>G a=ak/\∃C dx,∃ws:ai (a5×V),cc K aw cls=ah (ah (.ref C))/\H a=ah (.ins C dx ws)/\jA K G O H ws fs
 |.tab x pos af=>aCH K G H a x pos af
 |.dead=>True
def iJ(H:Hp)(O:ai aq)(Z:aH)(k i:ay)(b:aq):Prop:=∃a cls fs C dx ws g h fd,O[k]?=ah a/\Z[k]?=ah (.ins cls fs)/\H a=ah (.ins C dx ws)/\fs[i]?=ah (g,fd)/\fd.own=au/\ws[i]?=ah (h,.ref b)
structure Wd(K:ba)(G:Hp)(O:ai aq)(Z:aH)(H:Hp):Prop where
 sub:mM G H
 inj:O.Nodup
 len:O.length=Z.length
 live:∀a∈O,∃o,H a=ah o
 aB:∀(k:ay) (c:Cell) (a:aq),Z[k]?=ah c->O[k]?=ah a->pC K G O H a c
 sep:∀(b:aq) (k i k' i':ay),iJ H O Z k i b->iJ H O Z k' i' b->k=k'/\i=i'
section
variable{K:ba}{G G' H H':Hp}{O O':ai aq}{Z:aH}{a p:aq}
theorem iM.mono{v:V}{fd:Fd}(h:iM K G O H v fd)(e:Ext G O G' O')(c:∀b o,b∉O->G b=ak->H b=ah o->b∉O'/\G' b=ak/\H' b=ah o):iM K G' O' H' v fd:=by
 cases fd with
 |val a=>exact Den.ext e h
 |lst ds =>
  obtain⟨b,xs,h1,h2,U,L,B⟩:=h;obtain⟨z,q,j⟩:=c b _ U h2 L;exact⟨b,xs,h1,q,z,j,B.ext e⟩
 |aQ d =>
  obtain⟨b,ws,h1,h2,U,L,B,f⟩:=h;obtain⟨z,q,j⟩:=c b _ U h2 L;exact⟨b,ws,h1,q,z,j,B,f.ext e⟩
theorem jA.map{j:ba}{G' H':Hp}{O':ai aq}(f:∀v fd,iM K G O H v fd->iM j G' O' H' v fd):∀{ws:ai (a5×V)} {fs:ai (a5×Fd)},jA K G O H ws fs->jA j G' O' H' ws fs
 |[],[],_=>trivial
 |(_,_)::_,(_,_)::_,h=>⟨h.1,f _ _ h.2.1,jA.map f h.2.2⟩
 |[],_::_,h=>h.elim
 |_::_,[],h=>h.elim
theorem pC.mono{c:Cell}(h:pC K G O H a c)(e:Ext G O G' O')(j:G' a=G a)(hh:H' a=H a)(f:∀b o,b∉O->G b=ak->H b=ah o->b∉O'/\G' b=ak/\H' b=ah o):pC K G' O' H' a c:=by
 cases c with
 |lst ds=>obtain⟨g,xs,h1,h2⟩:=h;exact⟨j.trans g,xs,hh.trans h1,h2.ext e⟩
 |aQ d=>obtain⟨g,ws,h1,h2,z⟩:=h;exact⟨j.trans g,ws,hh.trans h1,h2,z.ext e⟩
 |ins cls fs=>obtain⟨g,C,k,ws,h0,h1,h2⟩:=h;exact⟨j.trans g,C,k,ws,h0,hh.trans h1,h2.map λ_ _ q=>q.mono e f⟩
 |tab x pos af =>
  obtain⟨g,i,ps,h1,h2,z⟩:=h;exact⟨j.trans g,i,ps,hh.trans h1,h2,z.imp id λ⟨l,oc,vs,t,U,L,B⟩=>⟨l,oc,vs,t,U,e.same _ _ L,B⟩⟩
 |dead=>trivial
theorem Wd.addr(w:Wd K G O Z H){k:ay}{c:Cell}(h:Z[k]?=ah c):∃a,O[k]?=ah a:=by
 have j:=(cX.mp h).1;exact⟨O[k]'(by rw[w.len];exact j),lI _⟩
theorem Wd.ne(w:Wd K G O Z H)(j:H p=ak)(ha:a∈O):a≠p:=by
 obtain⟨o,q⟩:=w.live a ha;exact iW q j
theorem Wd.oY(w:Wd K G O Z H)(j:H p=ak):G p=ak:=by
 cases e:G p with
 |none=>rfl
 |some o=>rw[w.sub _ _ e]at j;cases j
theorem iJ.to{k i:ay}{b:aq}{O':ai aq}{Z Z':aH}(h:iJ H O Z k i b)(h1:∀a,O[k]?=ah a->O'[k]?=ah a/\∀o,H a=ah o->H' a=ah o)(h2:∀cls fs,Z[k]?=ah (.ins cls fs)->Z'[k]?=ah (.ins cls fs)):iJ H' O' Z' k i b:=by
 obtain⟨a,cls,fs,C,c,ws,g,h',fd,j,U,L,B,z,q⟩:=h;exact⟨a,cls,fs,C,c,ws,g,h',fd,(h1 a j).1,h2 _ _ U,(h1 a j).2 _ L,B,z,q⟩
theorem iJ.no{k i:ay}{b:aq}{c:Cell}(h:iJ H O Z k i b)(B:Z[k]?=ah c)(hn:c.noOwn=au):b5:=by
 obtain⟨a,cls,fs,C,e,ws,g,h',fd,d,j,U,z,q,L⟩:=h;rw[B]at j;cases j;simp only[Cell.noOwn,IQ]at hn;have:=hn _ (sX z);simp only[]at this;rw[q]at this;cases this
theorem Wd.grow(w:Wd K G O Z H)(s:mM H H'):Wd K G O Z H' where
 sub:=w.sub.trans s
 inj:=w.inj
 len:=w.len
 live:=λa ha=>let ⟨o,j⟩:=w.live a ha; ⟨o,s _ _ j⟩
 aB:=λk c a h1 h2=>by
  have q:=w.aB k c a h1 h2;cases c with
  |lst ds=>obtain⟨g,xs,h1,h2⟩:=q;exact⟨g,xs,s _ _ h1,h2⟩
  |aQ L=>obtain⟨g,ws,h1,h2,f⟩:=q;exact⟨g,ws,s _ _ h1,h2,f⟩
  |ins cls fs=>obtain⟨g,C,l,ws,h0,h1,h2⟩:=q;exact⟨g,C,l,ws,h0,s _ _ h1,h2.map λ_ _ q=>q.mono (Ext.refl _ _) λb o x y z=>⟨x,y,s _ _ z⟩⟩
  |tab x pos af =>
   obtain⟨g,e,ps,h1,h2⟩:=q;exact⟨g,e,ps,s _ _ h1,h2⟩
  |dead=>trivial
 sep:=λb k i U d h1 h2=>by
  have back:∀{k i},iJ H' O Z k i b->iJ H O Z k i b:=λh=>h.to (λa ha=>⟨ha,λo j=>by
   obtain⟨m,B⟩:=w.live a (sX ha);have:=s _ _ B;rw[j]at this;cases this;exact B⟩) λ_ _ q=>q
  exact w.sep b k i U d (back h1) (back h2)
theorem zE{α:Type}:∀{l:ai α} {i j:ay} {x:α},l.Nodup->l[i]?=ah x->l[j]?=ah x->i=j
 |[],_,_,_,_,h,_=>by simp at h
 |y::l,0,0,_,_,_,_=>rfl
 |y::l,0,j+1,x,n,h1,h2=>by
  simp at h1 h2;subst h1;exact bz (sX h2) (nZ.mp n).1
 |y::l,i+1,0,x,n,h1,h2=>by
  simp at h1 h2;subst h2;exact bz (sX h1) (nZ.mp n).1
 |y::l,i+1,j+1,x,n,h1,h2=>by
  simp at h1 h2;rw[zE (nZ.mp n).2 h1 h2]
theorem FU{α:Type}{l:ai α}{k:ay}{x:α}(h:l[k]?=ah x):x∈l:=sX h
theorem Ext.new(j:G p=ak)(o:HO):Ext G O (upd G p o) O:=⟨mM.new j,λ_ _ h=>h⟩
theorem Wd.new(w:Wd K G O Z H)(j:H p=ak)(o:HO):Wd K (upd G p o) O Z (upd H p o)where
 sub:=λb u h=>by
  by_cases e:b=p
  ·subst e;rw[eA]at h ⊢;exact h
  ·rw[bH e]at h ⊢;exact w.sub _ _ h
 inj:=w.inj
 len:=w.len
 live:=λa ha=>by rw[bH (w.ne j ha)];exact w.live a ha
 aB:=λk c a h1 h2=>by
  have n:=w.ne j (FU h2);exact(w.aB k c a h1 h2).mono (Ext.new (w.oY j) o) (bH n) (bH n) λb u x y z=>by
   have nb:b≠p:=iW z j;exact⟨x,by rw[bH nb];exact y,by rw[bH nb];exact z⟩
 sep:=λb k i B L h1 h2=>by
  have back:∀{k i},iJ (upd H p o) O Z k i b->iJ H O Z k i b:=λh=>h.to (λa ha=>⟨ha,λu U=>by rwa[bH (w.ne j (sX ha))]at U⟩) λ_ _ q=>q;exact w.sep b k i B L (back h1) (back h2)
theorem Ext.cell(x:aq):Ext G O G (O++[x]):=⟨mM.refl _,λk a h=>by
 rw[eQ (cX.mp h).1];exact h⟩
theorem Wd.cell(w:Wd K G O Z H)(j:H p=ak){o:HO}{c:Cell}(s:pC K G (O++[p]) (upd H p o) p c)(A:c.noOwn=au:=by rfl):Wd K G (O++[p]) (Z++[c]) (upd H p o)where
 sub:=λb u h=>by
  have e:b≠p:=λe=>by subst e;rw[w.sub _ _ h]at j;cases j
  rw[bH e];exact w.sub _ _ h
 inj:=by
  rw[Mb];exact⟨w.inj,by simp,λa ha b hb=>by simp at hb;subst hb;exact w.ne j ha⟩
 len:=by simp[w.len]
 live:=λa ha=>by
  rcases XM.mp ha with h|h
  ·rw[bH (w.ne j h)];exact w.live a h
  ·simp at h;subst h;exact⟨o,eA⟩
 aB:=λk v a h1 h2=>by
  by_cases q:k<O.length
  ·rw[eQ q]at h2;rw[eQ (by rw[<-w.len];exact q)]at h1;exact(w.aB k v a h1 h2).mono (Ext.cell p) rfl (bH (w.ne j (FU h2))) λb u x y z=>by
    have nb:b≠p:=iW z j;exact⟨by simp[x,nb],y,by rw[bH nb];exact z⟩
  ·have U:k=O.length:=by
    have:=(cX.mp h2).1;simp at this;omega
   subst U;simp at h2;subst h2;rw[w.len]at h1;simp at h1;subst h1;exact s
 sep:=λb k i n r h1 h2=>by
  have back:∀{k i},iJ (upd H p o) (O++[p]) (Z++[c]) k i b->iJ H O Z k i b:=λ{k i} h=>by
   have h0:=h;obtain⟨a,cls,fs,C,t,ws,g,h',fd,L,B,d,m,l,f⟩:=h
   by_cases q:k<Z.length
   ·rw[eQ q]at B;rw[eQ (by rw[w.len];exact q)]at L;rw[bH (w.ne j (FU L))]at d;exact⟨a,cls,fs,C,t,ws,g,h',fd,L,B,d,m,l,f⟩
   ·have U:k=Z.length:=by
     have:=(cX.mp B).1;simp at this;omega
    subst U;exact(h0.no (by simp) A).elim
  exact w.sep b k i n r (back h1) (back h2)
theorem Wd.put(w:Wd K G O Z H){k:ay}{c:Cell}{o:HO}(B:O[k]?=ah a)(s:G a=ak)(t:pC K G O (upd H a o) a c)(D:c.noOwn=au:=by rfl):Wd K G O (Z.set k c) (upd H a o)where
 sub:=λb u h=>by
  have e:b≠a:=λe=>by subst e;rw[s]at h;cases h
  rw[bH e];exact w.sub _ _ h
 inj:=w.inj
 len:=by rw[vZ];exact w.len
 live:=λb hb=>by
  by_cases e:b=a
  ·subst e;exact⟨o,eA⟩
  ·rw[bH e];exact w.live b hb
 aB:=λj A b h1 h2=>by
  by_cases q:j=k
  ·subst q;rw[B]at h2;cases h2;have hl:j<Z.length:=by rw[<-w.len];exact(cX.mp B).1
   rw[fJ hl]at h1;cases h1;exact t
  ·rw[eW (cK q)]at h1;have dB:b≠a:=λe=>by
    subst e;exact q (zE w.inj h2 B)
   exact(w.aB j A b h1 h2).mono (Ext.refl _ _) rfl (bH dB) λb u x y z=>by
    have nb:b≠a:=λe=>by subst e;exact x (FU B)
    exact⟨x,y,by rw[bH nb];exact z⟩
 sep:=λb j i p r h1 h2=>by
  have back:∀{j i},iJ (upd H a o) O (Z.set k c) j i b->iJ H O Z j i b:=λ{j i} h=>by
   have h0:=h;obtain⟨f,cls,fs,C,v,ws,g,h',fd,d,U,L,n,m,l⟩:=h
   by_cases q:j=k
   ·subst q;have hl:j<Z.length:=by rw[<-w.len];exact(cX.mp B).1
    exact(h0.no (by rw[fJ hl]) D).elim
   ·rw[eW (cK q)]at U;have dB:f≠a:=λe=>by subst e;exact q (zE w.inj d B)
    rw[bH dB]at L;exact⟨f,cls,fs,C,v,ws,g,h',fd,d,U,L,n,m,l⟩
  exact w.sep b j i p r (back h1) (back h2)
theorem Wd.freeze(w:Wd K G O Z H){k:ay}{o:HO}(B:O[k]?=ah a)(r:G a=ak)(p:H a=ah o):Wd K (upd G a o) O (Z.set k .dead) H where
 sub:=λb u h=>by
  by_cases e:b=a
  ·subst e;rw[eA]at h;cases h;exact p
  ·rw[bH e]at h;exact w.sub _ _ h
 inj:=w.inj
 len:=by rw[vZ];exact w.len
 live:=w.live
 aB:=λj t b h1 h2=>by
  by_cases q:j=k
  ·subst q;have hl:j<Z.length:=by rw[<-w.len];exact(cX.mp B).1
   rw[fJ hl]at h1;cases h1;trivial
  ·rw[eW (cK q)]at h1;have dB:b≠a:=λe=>by
    subst e;exact q (zE w.inj h2 B)
   exact(w.aB j t b h1 h2).mono (Ext.new r o) (bH dB) rfl λb u x y z=>by
    have nb:b≠a:=λe=>by subst e;exact x (FU B)
    exact⟨x,by rw[bH nb];exact y,z⟩
 sep:=λb j i m n h1 h2=>by
  have back:∀{j i},iJ H O (Z.set k .dead) j i b->iJ H O Z j i b:=λ{j i} h=>by
   have h0:=h;obtain⟨v,cls,fs,C,s,ws,g,h',fd,l,L,f,d,c,U⟩:=h
   by_cases q:j=k
   ·subst q;have hl:j<Z.length:=by rw[<-w.len];exact(cX.mp B).1
    exact(h0.no (by rw[fJ hl]) rfl).elim
   ·rw[eW (cK q)]at L;exact⟨v,cls,fs,C,s,ws,g,h',fd,l,L,f,d,c,U⟩
  exact w.sep b j i m n (back h1) (back h2)
end
def fT(K:ba)(G:Hp)(O:ai aq)(J:L2.St)(Y:Ev):Prop:=J.length=Y.length/\∀(i:ay) (d:A),Y[i]?=ah (ah d)->∃v,J[i]?=ah (ah v)/\Den K G O v d
theorem fT.ext{K:ba}{G G':Hp}{O O':ai aq}{J:L2.St}{Y:Ev}(r:fT K G O J Y)(e:Ext G O G' O'):fT K G' O' J Y:=⟨r.1,λi d h=>let ⟨v,h1,h2⟩:=r.2 i d h; ⟨v,h1,h2.ext e⟩⟩
theorem fT.set{K:ba}{G:Hp}{O:ai aq}{J:L2.St}{Y:Ev}(r:fT K G O J Y)(j:ay){v:V}{d:A}(h:Den K G O v d):fT K G O (J.set j (ah v)) (Y.set j (ah d)):=by
 refine⟨by rw[vZ,vZ];exact r.1,λi e he=>?_⟩
 by_cases q:i=j
 ·subst q;have hl:i<Y.length:=by
   have:=(cX.mp he).1;rwa[vZ]at this
  rw[fJ hl]at he;cases he;exact⟨v,fJ (by rw[r.1];exact hl),h⟩
 ·rw[eW (cK q)]at he ⊢;exact r.2 i e he
theorem fT.unset{K:ba}{G:Hp}{O:ai aq}{J:L2.St}{Y:Ev}(r:fT K G O J Y)(j:ay)(o:av V):fT K G O (J.set j o) (Y.set j ak):=by
 refine⟨by rw[vZ,vZ];exact r.1,λi e he=>?_⟩
 by_cases q:i=j
 ·subst q;have hl:i<Y.length:=by
   have:=(cX.mp he).1;rwa[vZ]at this
  rw[fJ hl]at he;cases he
 ·rw[eW (cK q)]at he ⊢;exact r.2 i e he
def abV(K:ba)(G:Hp)(O:ai aq)(H:Hp)(x:Exc)(cls:aj)(dx:av aq):Prop :=
 (∃C,cc K aw x.cls=ah (ah (.ref C))/\cls=.ref C)/\((x.fs=[]/\dx=ak)\/∃d f i,dx=ah d/\x.fs=[(f,.int i)]/\G d=ah (.xd [(f,.int i)]))
abbrev Rl(α β:Type):=Hp->ai aq->β->α->Prop
def bR{α β:Type}(K:ba)(rel:Rl α β)(W:WX)(G:Hp)(O:ai aq)(J:L2.St)(Q:β->Hp->Prop):av (Rs α×aH)->Prop
 |some (.ok a,Z')=>∀v H' G' O',Ext G O G' O'->Wd K G' O' Z' H'->rel G' O' v a->Q v H'
 |some (.exc x,Z')=>∀cls dx H' G' O',Ext G O G' O'->Wd K G' O' Z' H'->abV K G' O' H' x cls dx->W J cls dx H'
 |none=>b5
theorem bR.ext{α β:Type}{K:ba}{rel:Rl α β}{W:WX}{G L:Hp}{O q:ai aq}{J:L2.St}{Q:β->Hp->Prop}{r:av (Rs α×aH)}(h:bR K rel W G O J Q r)(e:Ext G O L q):bR K rel W L q J Q r:=by
 match r,h with
 |some (.ok a,z),h=>exact λv H' B j x w d=>h v H' B j (e.trans x) w d
 |some (.exc x,z),h=>exact λcls U H' B j x w d=>h cls U H' B j (e.trans x) w d
theorem bR.mb{α β B z:Type}{K:ba}{rel:Rl α β}{L:Rl B z}{W:WX}{G:Hp}{O:ai aq}{J:L2.St}{Q:z->Hp->Prop}{U:β->Hp->Prop}{m:Mo α}{k:α->Mo B}{Z:aH}(h:bR K L W G O J Q (mb m k Z))
  (b:∀a Z1 v H1 q j,Ext G O q j->Wd K q j Z1 H1->rel q j v a->bR K L W q j J Q (k a Z1)->U v H1):bR K rel W G O J U (m Z):=by
 unfold V2.mb at h
 revert h
 generalize m Z=r;intro h
 match r,h with
 |some (.ok a,Z1),h=>exact λv H1 q j x w d=>b a Z1 v H1 q j x w d (bR.ext h x)
 |some (.exc x,Z1),h=>exact h
theorem bR.need{α β j:Type}{K:ba}{q:Rl α β}{W:WX}{G:Hp}{O:ai aq}{J:L2.St}{Q:β->Hp->Prop}{o:av j}{k:j->Mo α}{Z:aH}(h:bR K q W G O J Q (V2.mb (need o) k Z)):∃a,o=ah a/\bR K q W G O J Q (k a Z):=by
 cases o with
 |none=>exact False.elim h
 |some a=>exact⟨a,rfl,h⟩
theorem bR.mJ{α β:Type}{K:ba}{q:Rl α β}{W:WX}{G:Hp}{O:ai aq}{J:L2.St}{Q:β->Hp->Prop}{p:Prop} [dm p]{k:Unit->Mo α}{Z:aH}(h:bR K q W G O J Q (V2.mb (mJ p) k Z)):p/\bR K q W G O J Q (k () Z):=by
 unfold V2.mb V2.mJ at h
 by_cases j:p
 ·rw[ax j]at h;exact⟨j,h⟩
 ·rw[a8 j]at h;exact False.elim h
def fR{α β:Type}(K:ba)(rel:Rl α β)(W:WX)(t:L2.St->Hp->(β->Hp->Prop)->Prop)(f:Ev->Mo α):Prop :=
 ∀G O Z H J Y Q,Wd K G O Z H->fT K G O J Y->bR K rel W G O J Q (f Y Z)->t J H Q
def FE:Rl bb bb:=λ_ _ b c=>b=c
def VE(X:Cx)(W:WX)(e:bp)(f:Ev->Mo A):Prop:=∃t,PE X e t/\fR X.K (Den X.K) W t f
def VT(X:Cx)(W:WX)(e:bp)(f:Ev->Mo bb):Prop:=∃t,PT X e t/\fR X.K FE W t f
def VW(X:Cx)(W:WX)(e:bp)(f:Ev->Mo bb):Prop:=∃t,PW X e t/\fR X.K FE W t f
def VA(X:Cx)(W:WX)(es:ai bp)(f:Ev->Mo (ai A)):Prop:=∃t,PA X es t/\fR X.K (aX X.K) W t f
end V2
namespace V2
open PySem PySem.Spec PyProof.Rows L2
section
variable{K:ba}{G H:Hp}{O:ai aq}{Z:aH}{v:V}{a:A}
noncomputable def dY(Z:aH):A->av (ai A)
 |.lst ds=>ah ds
 |.iU ns=>ah (ns.map A.int)
 |.aB k=>match Z[k]? with
  |some (.lst ds)=>ah ds
  |_=>ak
 |_=>ak
def iP(Z:aH):A->av (ai A)
 |.tup ds=>ah ds
 |a=>dY Z a
theorem qY(w:Wd K G O Z H)(d:Den K G O v a){ds:ai A}(h:dY Z a=ah ds):∃p xs,v=.ref p/\fA K H p xs/\aX K G O xs ds:=by
 cases a with
 |lst es =>
  simp only[dY,jJ]at h;subst h;simp only[Den]at d;obtain⟨p,xs,h1,h2,j⟩:=d;exact⟨p,xs,h1,fA.of (w.sub _ _ h2),j⟩
 |iU ns =>
  simp only[dY,jJ]at h;subst h;simp only[Den]at d;obtain⟨p,h1,h2⟩:=d;exact⟨p,_,h1,w.sub.seq h2,HC ns⟩
 |aB k =>
  simp only[dY]at h;cases e:Z[k]? with
  |none=>rw[e]at h;cases h
  |some c =>
   rw[e]at h;cases c with
   |lst es =>
    simp only[jJ]at h;subst h;simp only[Den]at d;obtain⟨p,h1,h2⟩:=d;obtain⟨g,xs,j,q⟩:=w.aB k _ p e h2;exact⟨p,xs,h1,fA.of j,q⟩
   |_=>cases h
 |_=>simp[dY]at h
theorem Ae(w:Wd K G O Z H)(d:Den K G O v a){ds:ai A}(h:iP Z a=ah ds):∃p xs,v=.ref p/\(fA K H p xs\/jI K H p xs)/\aX K G O xs ds:=by
 cases a with
 |tup es =>
  simp only[iP,jJ]at h;subst h;simp only[Den]at d;obtain⟨p,xs,h1,h2,j⟩:=d;exact⟨p,xs,h1,.inr (jI.of (w.sub _ _ h2)),j⟩
 |_ =>
  obtain⟨p,xs,h1,h2,j⟩:=qY w d h;exact⟨p,xs,h1,.inl h2,j⟩
theorem So(w:Wd K G O Z H)(d:Den K G O v a){ds:ai A}(h:dY Z a=ah ds)(hs:∀ns,a≠.iU ns):∃p xs,v=.ref p/\H p=ah (.lst xs)/\aX K G O xs ds:=by
 cases a with
 |lst es =>
  simp only[dY,jJ]at h;subst h;simp only[Den]at d;obtain⟨p,xs,h1,h2,j⟩:=d;exact⟨p,xs,h1,w.sub _ _ h2,j⟩
 |iU ns=>exact bz rfl (hs ns)
 |aB k =>
  simp only[dY]at h;cases e:Z[k]? with
  |none=>rw[e]at h;cases h
  |some c =>
   rw[e]at h;cases c with
   |lst es =>
    simp only[jJ]at h;subst h;simp only[Den]at d;obtain⟨p,h1,h2⟩:=d;obtain⟨g,xs,j,q⟩:=w.aB k _ p e h2;exact⟨p,xs,h1,j,q⟩
   |_=>cases h
 |_=>simp[dY]at h
end
@[simp] noncomputable def jD(c:bb)(ds:ai A):Mo A:=λZ=>if c then ah (.ok (.aB Z.length),Z++[.lst ds])else ah (.ok (.lst ds),Z)
section
variable{K:ba}{G H:Hp}{O:ai aq}{Z:aH}{W:WX}{J:L2.St}{Q:VK}
theorem pY{c:bb}{ds:ai A}{xs:ai V}{p:aq}(w:Wd K G O Z H)(j:H p=ak)(d:aX K G O xs ds)(h:bR K (Den K) W G O J Q (jD c ds Z)):Q (.ref p) (upd H p (.lst xs)):=by
 cases c with
 |true =>
  refine h _ _ G (O++[p]) (Ext.cell p) (w.cell j ⟨w.oY j,xs,eA,d.ext (Ext.cell p)⟩) ?_;simp only[Den];exact⟨p,rfl,by rw[<-w.len];simp⟩
 |false =>
  refine h _ _ _ _ (Ext.new (w.oY j) (.lst xs)) (w.new j _) ?_;simp only[Den];exact⟨p,xs,rfl,eA,d.ext (Ext.new (w.oY j) _)⟩
@[simp] def Ds(ds:ai A):Mo A:=ret (.tup ds)
theorem Ud{ds:ai A}{xs:ai V}{p:aq}(w:Wd K G O Z H)(j:H p=ak)(d:aX K G O xs ds)(h:bR K (Den K) W G O J Q (Ds ds Z)):Q (.ref p) (upd H p (.tup xs)):=by
 refine h _ _ _ _ (Ext.new (w.oY j) (.tup xs)) (w.new j _) ?_;simp only[Den];exact⟨p,xs,rfl,eA,d.ext (Ext.new (w.oY j) _)⟩
theorem lA{α β:Type}{rel:Rl α β}{Q:β->Hp->Prop}{a:α}{b:β}(w:Wd K G O Z H)(d:rel G O b a)(h:bR K rel W G O J Q (ret a Z)):Q b H:=h b H G O (Ext.refl _ _) w d
end
section
variable{X:Cx}{W:WX}{e a b:bp}{es:ai bp}{pos:cq}{fa fb:Ev->Mo A}{fs:Ev->Mo (ai A)}
@[simp] def dO(i:ay):Ev->Mo A:=λY=>need (Y[i]?).join
theorem join_some{α:Type}{o:av (av α)}{x:α}(h:o.join=ah x):o=ah (ah x):=by
 cases o with
 |none=>cases h
 |some y=>cases y with
  |none=>cases h
  |some z=>cases h;rfl
theorem agH{K:ba}{i:ay}:fR K (Den K) W (ZQ i) (dO i):=by
 intro G q z H J j Q w r h;unfold dO need at h;cases e:(j[i]?).join with
 |none=>rw[e]at h;exact False.elim h
 |some d =>
  rw[e]at h;obtain⟨v,h1,h2⟩:=r.2 i d (join_some e);exact⟨v,h1,h v H G q (Ext.refl _ _) w h2⟩
theorem vv(i:ay){x:a5}(j:X.N[i]?=ah x:=by rfl)(hv:WR X.env.scope x:=by first|exact Or.inl rfl|exact Or.inr (Or.inl rfl)|exact Or.inr (Or.inr rfl))(hd:(x==("__debug__" : a5))=ao:=by decide)
  (jG:(x==("__classdict__" : a5))=ao:=by decide):VE X W (.Name x pos) (dO i):=⟨_,Sx j hv hd jG,agH⟩
@[simp] noncomputable def EO(i:ay):Ev->Mo A:=λY Z=>match (Y[i]?).join with
 |some (.aB k)=>match Z[k]? with
  |some (.lst ds)=>ah (.ok (.lst ds),Z.set k .dead)
  |_=>ak
 |_=>ak
theorem agJ{K:ba}{i:ay}:fR K (Den K) W (ZQ i) (EO i):=by
 intro G L U H J B Q w r h;unfold EO at h;cases e:(B[i]?).join with
 |none=>rw[e]at h;exact False.elim h
 |some d =>
  rw[e]at h;cases d with
  |aB k =>
   simp only at h;cases j:U[k]? with
   |none=>rw[j]at h;exact False.elim h
   |some c =>
    rw[j]at h;cases c with
    |lst ds =>
     obtain⟨v,h1,h2⟩:=r.2 i _ (join_some e);simp only[Den]at h2;obtain⟨p,rfl,z⟩:=h2;obtain⟨g,q,b,a⟩:=w.aB k _ p j z;refine⟨_,h1,h _ H (upd G p (.lst q)) L (Ext.new g _) (w.freeze z g b) ?_⟩;simp only[Den];exact⟨p,q,rfl,eA,a.ext (Ext.new g _)⟩
    |_=>exact False.elim h
  |_=>exact False.elim h
theorem vf(i:ay){x:a5}(j:X.N[i]?=ah x:=by rfl)(hv:WR X.env.scope x:=by first|exact Or.inl rfl|exact Or.inr (Or.inl rfl)|exact Or.inr (Or.inr rfl))(hd:(x==("__debug__" : a5))=ao:=by decide)
  (jG:(x==("__classdict__" : a5))=ao:=by decide):VE X W (.Name x pos) (EO i):=⟨_,Sx j hv hd jG,agJ⟩
theorem yV{K:ba}{v:V}{d:A}(h:∀G O,Den K G O v d):fR K (Den K) W (tC v) (λ_=>ret d):=λG O _ _ _ _ _ w _ q=>lA w (h G O) q
theorem aN{i:a6}{j}:VE X W (.Constant (.int i) j pos) (λ_=>ret (.int i)):=⟨_,alD,yV λ_ _=>by simp only[Den]⟩
theorem kX{i:bb}{j}:VE X W (.Constant (.bool i) j pos) (λ_=>ret (.bl i)):=⟨_,alM,yV λ_ _=>by simp only[Den]⟩
theorem AX{j}:VE X W (.Constant .none j pos) (λ_=>ret .bQ):=⟨_,ak4,yV λ_ _=>by simp only[Den]⟩
theorem oJ{x:a5}{j}:VE X W (.Constant (.str x) j pos) (λ_=>ret (.str x)):=⟨_,akY,yV λ_ _=>by simp only[Den]⟩
theorem Oo{x:a5}{p:aq}(j:Gl X x)(hm:X.mg x=ah (.ref p))(q:cc X.K aw x=ah (ah (.ref p)))(hd:(x==("__debug__" : a5))=ao:=by decide):VE X W (.Name x pos) (λ_=>ret (.gl x)) :=
 ⟨_,Dh (v:=.ref p) j hm rfl hd,yV λ_ _=>by simp only[Den];exact⟨p,q,rfl⟩⟩
theorem YT{x:a5}{i:a6}(j:Gl X x)(hm:∃t,X.mg x=ah (.int i t))(hd:(x==("__debug__" : a5))=ao:=by decide):VE X W (.Name x pos) (λ_=>ret (.int i)):=by
 obtain⟨t,hm⟩:=hm;exact⟨_,Dh (v:=.int i) j hm ⟨t,rfl⟩ hd,yV λ_ _=>by simp only[Den]⟩
theorem EM{x:a5}{n:cm}(j:Gl X x)(hm:X.mg x=ak)(hv:c1 x=ah (.type n))(hn:x≠"__name__":=by decide)(hd:(x==("__debug__" : a5))=ao:=by decide):VE X W (.Name x pos) (λ_=>ret (.ty n)) :=
 ⟨_,alL (v:=.ty n) j hm hv rfl hn hd,yV λ_ _=>by simp only[Den]⟩
theorem aP:VA X W [] (λ_=>ret []):=⟨_,wU,λ_ _ _ _ _ _ _ w _ q=>lA w .nil q⟩
@[simp] def aC(f:Ev->Mo A)(g:Ev->Mo (ai A)):Ev->Mo (ai A):=λY=>mb (f Y) λx=>mb (g Y) λxs=>ret (x::xs)
theorem aF(h1:VE X W e fa)(h2:VA X W es fs)(hs:az (e::es) X.env=(ao,br e X.env)::az es X.env:=by rfl):VA X W (e::es) (aC fa fs):=by
 obtain⟨t,p1,s1⟩:=h1;obtain⟨u,p2,g⟩:=h2;refine⟨_,wV p1 p2 hs,λG L a H J z Q w r h=>?_⟩;refine s1 G L a H J z _ w r (bR.mb h λx q v l m j c f k h1=>?_);refine g m j q l J z _ f (r.ext c) (bR.mb h1 λn U vs o p B b d i h2=>?_);exact lA d (.cons (k.ext b) i) h2
@[simp] def mY(g:Ev->Mo (ai A)):Ev->Mo A:=λY=>mb (g Y) λxs=>mb (mJ (xs.length<=a7)) λ_=>Ds xs
theorem vA{k}(h:VA X W es fs):VE X W (.Tuple es k pos) (mY fs):=by
 obtain⟨t,p,s⟩:=h;refine⟨_,akX p,λG B U H J q Q w r h=>?_⟩;refine s G B U H J q _ w r (bR.mb h λc L vs e f z d a j h1=>?_);obtain⟨hl,h2⟩:=bR.mJ h1;exact⟨by rw[j.length];exact hl,λp b=>Ud a b j h2⟩
@[simp] def fZ(c:bb)(g:Ev->Mo (ai A)):Ev->Mo A:=λY=>mb (g Y) λxs=>mb (mJ (xs.length<=a7)) λ_=>jD c xs
theorem kG(c:bb)(h:VA X W es fs):VE X W (.List es pos) (fZ c fs):=by
 obtain⟨t,p,s⟩:=h;refine⟨_,ak9 p,λG B U H J q Q w r h=>?_⟩;refine s G B U H J q _ w r (bR.mb h λd L vs f g z e a j h1=>?_);obtain⟨hl,h2⟩:=bR.mJ h1;exact⟨by rw[j.length];exact hl,λp b=>pY a b j h2⟩
def xX(K:ba)(W:WX)(r:R2)(g:A->A->Mo A):Prop :=
 ∀G O Z H J x y a b Q,Wd K G O Z H->Den K G O x a->Den K G O y b->bR K (Den K) W G O J Q (g a b Z)->r x y H Q
def mO(X:Cx)(W:WX)(f:aj->aj->Sem aj)(g:A->A->Mo A):Prop:=∃r,iE X f r/\xX X.K W r g
@[simp] def aD(g:A->A->Mo A)(f h:Ev->Mo A):Ev->Mo A:=λY=>mb (f Y) λx=>mb (h Y) λy=>g x y
theorem RJ{K:ba}{r:R2}{g:A->A->Mo A}{ta tb:TE}(i:xX K W r g)(h1:fR K (Den K) W ta fa)(h2:fR K (Den K) W tb fb):fR K (Den K) W (KL r ta tb) (aD g fa fb):=by
 intro G a b H J U Q w q h;refine h1 G a b H J U _ w q (bR.mb h λx L v n p z d f l h1=>?_);refine h2 p z L n J U _ f (q.ext d) (bR.mb h1 λy B u m o j c e k h2=>?_);exact i o j B m J v u x y Q e (l.ext c) k h2
theorem bD{j:Operator}{g:A->A->Mo A}(L:mO X W (cu j) g)(ha:VE X W a fa)(hb:VE X W b fb):VE X W (.BinOp a j b pos) (aD g fa fb):=by
 obtain⟨r,B,z⟩:=L;obtain⟨t,p1,s1⟩:=ha;obtain⟨u,p2,q⟩:=hb;exact⟨_,ak1 B p1 p2,RJ z s1 q⟩
@[simp] def gI(C:a6->a6->Prop) [∀i j,dm (C i j)](g:a6->a6->A):A->A->Mo A
 |.int i,.int j=>mb (mJ (C i j)) λ_=>ret (g i j)
 |_,_=>stuck
theorem SE{K:ba}{C:a6->a6->Prop} [∀i j,dm (C i j)]{g:a6->a6->V}{g':a6->a6->A}(B:∀G O i j,Den K G O (g i j) (g' i j)):xX K W (rI C g) (gI C g'):=by
 intro G O U H J x y a b Q w z q h;cases a with
 |int i =>
  cases b with
  |int j =>
   simp only[Den]at z q;obtain⟨L,h2⟩:=bR.mJ h;exact⟨i,j,z,q,L,lA w (B _ _ _ _) h2⟩
  |_=>exact False.elim h
 |_=>exact False.elim h
@[simp] def GV(g:a6->a6->A):A->A->Mo A
 |.int i,.int j=>ret (g i j)
 |_,_=>stuck
theorem LI{K:ba}{g:a6->a6->V}{g':a6->a6->A}(B:∀G O i j,Den K G O (g i j) (g' i j)):xX K W (wR g) (GV g'):=by
 intro G O L H J x y a b Q w z q h;cases a with
 |int i =>
  cases b with
  |int j =>
   simp only[Den]at z q;exact⟨i,j,z,q,lA w (B _ _ _ _) h⟩
  |_=>exact False.elim h
 |_=>exact False.elim h
instance:∀i j,dm (oE i j):=λi j=>by unfold oE;infer_instance
instance:∀i j,dm (oF i j):=λi j=>by unfold oF;infer_instance
instance:∀i j,dm (AO i j):=λi j=>by unfold AO;infer_instance
@[simp] def qA:=GV λi j => .int (i-j)
@[simp] def sO:=gI oE λi j => .int (i*j)
@[simp] def lG:=gI oF λi j => .int (i/j)
@[simp] def fH:=gI (λ_ j=>0<j) λi j => .int (i%j)
@[simp] def xJ:=gI AO λi j => .int (i ^ j.toNat)
theorem BN:mO X W (cu .Sub) qA:=⟨_,alY,LI λ_ _ _ _=>by simp only[Den]⟩
theorem wW:mO X W (cu .Mult) sO:=⟨_,al2,SE λ_ _ _ _=>by simp only[Den]⟩
theorem pW:mO X W (cu .FloorDiv) lG:=⟨_,al9,SE λ_ _ _ _=>by simp only[Den]⟩
theorem gZ:mO X W (cu .Mod) fH:=⟨_,al3,SE λ_ _ _ _=>by simp only[Den]⟩
theorem SH:mO X W (cu .Pow) xJ:=⟨_,alZ,SE λ_ _ _ _=>by simp only[Den]⟩
@[simp] noncomputable def BU:A->bb
 |.iU _=>au
 |_=>ao
theorem Tr{a:A}(h:BU a=ao):∀ns,a≠.iU ns:=λns e=>by subst e;cases h
@[simp] def NC(c:bb)(a b:A):Mo A:=λZ=>match dY Z a,dY Z b with
  |some xs,ah ys=>if BU a||BU b||decide (a7<xs.length+ys.length)then ak else jD c (xs++ys) Z
  |_,_=>ak
@[simp] def Hc(c:bb):A->A->Mo A
 |.int i,.int j=>ret (.int (i+j))
 |.tup xs,.tup ys=>mb (mJ (0<xs.length/\xs.length+ys.length<=a7)) λ_=>Ds (xs++ys)
 |a,b=>NC c a b
theorem alX{K:ba}{c:bb}:xX K W Rx (NC c):=by
 intro G l B H J x y a b Q w k i h;unfold NC at h
 match j:dY B a,z:dY B b with
 |none,_=>rw[j]at h;exact False.elim h
 |some L,ak=>rw[j,z]at h;exact False.elim h
 |some L,ah e =>
  rw[j,z]at h;simp only at h
  by_cases hb:(BU a||BU b||decide (a7<L.length+e.length))=au
  ·rw[ax hb]at h;exact False.elim h
  ·rw[a8 hb]at h;simp only[Bool.or_eq_true,CV,not_or,Bool.not_eq_true]at hb;obtain⟨p,us,rfl,h2,d⟩:=So w k j (Tr hb.1.1);obtain⟨q,f,rfl,g,U⟩:=So w i z (Tr hb.1.2);exact⟨p,q,us,f,rfl,rfl,h2,g,by rw[d.length,U.length];omega,λr hr=>pY w hr (d.append U) h⟩
theorem dU(c:bb):mO X W (cu .Add) (Hc c):=by
 refine⟨_,amD.or (amC.or amB),?_⟩;intro G U d H J x y a b Q w z j h;unfold Hc at h;split at h
 ·simp only[Den]at z j;exact .inl ⟨_,_,z,j,lA w (by simp only[Den]) h⟩
 ·rename_i l k;simp only[Den]at z j;obtain⟨p,us,rfl,h2,B⟩:=z;obtain⟨q,f,rfl,g,L⟩:=j;obtain⟨⟨m,i⟩,h⟩:=bR.mJ h;refine .inr (.inr ⟨p,q,us,f,rfl,rfl,jI.of (w.sub _ _ h2),jI.of (w.sub _ _ g),?_,by rw[B.length,L.length];exact i,λe=>?_,λ_ r hr=>Ud w hr (B.append L) h⟩)
  ·intro e;subst e;have:=B.length;simp at this;omega
  ·subst e;refine lA w ?_ h;simp only[Den];exact⟨p,us,rfl,h2,by simpa using B.append L⟩
 ·exact .inr (.inl (alX G U d H J x y _ _ Q w z j h))
end
noncomputable def cO:ay->A->bb
 |_,.int _=>au
 |_,.bl _=>au
 |_,.bQ=>au
 |_,.str x=>PyData.canLay0 (.str x)
 |n+1,.tup ds=>ds.all (cO n)
 |n+1,.lst ds=>ds.all (cO n)
 |_,_=>ao
noncomputable def zT(f:A->A->bb):ai A->ai A->bb
 |[],[]=>au
 |x::xs,y::ys=>f x y&&zT f xs ys
 |_,_=>ao
def gH:ay->A->A->bb
 |_,.int i,.int j=>i==j
 |_,.bl i,.bl j=>i==j
 |_,.bl i,.int j=>(if i then 1 else 0)==j
 |_,.int i,.bl j=>i==(if j then 1 else 0)
 |_,.bQ,.bQ=>au
 |_,.str x,.str y=>x==y
 |n+1,.tup xs,.tup ys=>zT (gH n) xs ys
 |n+1,.lst xs,.lst ys=>zT (gH n) xs ys
 |_,_,_=>ao
noncomputable def toPy:ay->A->PyData
 |_,.int i => .int i
 |_,.bl i => .bool i
 |_,.str x => .str x
 |n+1,.tup ds => .tuple (ds.map (toPy n))
 |n+1,.lst ds => .list (ds.map (toPy n))
 |_,_ => .none
theorem VO:∀(ds:ai A) (n:ay),(∀d∈ds,cO n d=au->PyData.canLay0 (toPy n d)=au)->ds.all (cO n)=au->PyData.canLayAll0 (ds.map (toPy n))=au
 |[],_,_,_=>rfl
 |d::ds,n,ih,h=>by
  simp only[Mg,lK]at h;simp only[cW,PyData.canLayAll0,lK];exact⟨ih d sG h.1,VO ds n (λe he=>ih e (gQ _ he)) h.2⟩
theorem EV:∀(n:ay) (a:A),cO n a=au->PyData.canLay0 (toPy n a)=au:=by
 intro n
 induction n with
 |zero=>intro a h;cases a <;> first|rfl|exact h|cases h
 |succ n ih =>
  intro a h;cases a with
  |tup ds=>exact VO ds n (λd _=>ih d) h
  |lst ds=>exact VO ds n (λd _=>ih d) h
  |str x=>exact h
  |int i=>rfl
  |bl b=>rfl
  |bQ=>rfl
  |_=>cases h
theorem Hx:∀(ds:ai A) (n:ay),(∀d∈ds,(toPy n d).depth<=n)->PyData.depthAll (ds.map (toPy n))<=n
 |[],_,_=>IA _
 |d::ds,n,ih=>by
  simp only[cW,PyData.depthAll];exact Nat.max_le.mpr ⟨ih d sG,Hx ds n λe he=>ih e (gQ _ he)⟩
theorem ZO:∀(n:ay) (a:A),(toPy n a).depth<=n:=by
 intro n
 induction n with
 |zero=>intro a;cases a <;> exact nY _
 |succ n ih =>
  intro a;cases a with
  |tup ds=>exact Nat.succ_le_succ (Hx ds n λd _=>ih d)
  |lst ds=>exact Nat.succ_le_succ (Hx ds n λd _=>ih d)
  |_=>exact IA _
theorem Xv:∀(xs ys:ai A) (n:ay),(∀x∈xs,∀y∈ys,PyData.eqv (toPy n x) (toPy n y)=gH n x y)->PyData.eqvAll (xs.map (toPy n)) (ys.map (toPy n))=zT (gH n) xs ys
 |[],[],_,_=>rfl
 |[],_::_,_,_=>rfl
 |_::_,[],_,_=>rfl
 |x::xs,y::ys,n,ih=>by
  simp only[cW,PyData.eqvAll,zT];rw[ih x sG y sG,Xv xs ys n λa ha b hb=>ih a (gQ _ ha) b (gQ _ hb)]
theorem ZN:∀(n:ay) (a b:A),cO n a=au->cO n b=au->PyData.eqv (toPy n a) (toPy n b)=gH n a b:=by
 intro n
 induction n with
 |zero=>intro a b ha hb;cases a <;> cases b <;> first|rfl|(simp[cO]at ha;done)|(simp[cO]at hb;done)
 |succ n ih =>
  intro a b ha hb;have lst:∀q j:ai A,q.all (cO n)=au->j.all (cO n)=au->PyData.eqvAll (q.map (toPy n)) (j.map (toPy n))=zT (gH n) q j:=λq j h1 h2 =>
   Xv q j n λx z y hy=>ih x y (IQ.mp h1 x z) (IQ.mp h2 y hy)
  cases a <;> cases b <;> first|rfl|(simp[cO]at ha;done)|(simp[cO]at hb;done)|exact lst _ _ ha hb
section
variable{X:Cx}{aa:ai (aq×cj)}{J:L2.St}{H:Hp}{s:ar}{O:ai aq}
theorem readsAll(n:ay)(ih:∀(v:V) (u:aj) (a:A),cO n a=au->Den X.K H O v a->RelV v u->∃as,Reads s.heap u (toPy n a) as) :
  ∀(ds:ai A) (xs:ai V) (us:ai aj),ds.all (cO n)=au->aX X.K H O xs ds->Vals xs us->∃as,ReadsAll s.heap us (ds.map (toPy n)) as
 |[],xs,us,_,d,r=>by
  rw[pM]at d;subst d;cases r;exact⟨_,.nil⟩
 |a::ds,xs,us,h,d,r=>by
  obtain⟨x,t,rfl,U,L⟩:=d.kZ;simp only[Mg,lK]at h;cases r with
  |cons q j =>
   obtain⟨as,B⟩:=ih _ _ _ h.1 U q;obtain⟨bs,z⟩:=readsAll n ih ds _ _ h.2 L j;exact⟨_,.cons B z⟩
theorem FF(I:Inv X aa J H s):∀(n:ay) (v:V) (u:aj) (a:A),cO n a=au->Den X.K H O v a->RelV v u->∃as,Reads s.heap u (toPy n a) as:=by
 intro n
 induction n with
 |zero =>
  intro v u a h d r;cases a with
  |int i=>simp only[Den]at d;subst d;obtain⟨t,rfl⟩:=r;exact⟨_,.int i t⟩
  |bl b=>simp only[Den]at d;subst d;cases r;exact⟨_,.bool b⟩
  |str x=>simp only[Den]at d;subst d;obtain⟨t,rfl⟩:=r;exact⟨_,.str x t⟩
  |bQ=>simp only[Den]at d;subst d;cases r;exact⟨_,.none⟩
  |_=>cases h
 |succ n ih =>
  intro v u a h d r;cases a with
  |int i=>simp only[Den]at d;subst d;obtain⟨t,rfl⟩:=r;exact⟨_,.int i t⟩
  |bl b=>simp only[Den]at d;subst d;cases r;exact⟨_,.bool b⟩
  |str x=>simp only[Den]at d;subst d;obtain⟨t,rfl⟩:=r;exact⟨_,.str x t⟩
  |bQ=>simp only[Den]at d;subst d;cases r;exact⟨_,.none⟩
  |tup ds =>
   simp only[Den]at d;obtain⟨p,z,rfl,h2,c⟩:=d;cases r;obtain⟨j,rv,B,e⟩:=I.tuple (jI.of h2);obtain⟨as,q⟩:=readsAll n ih ds z j h c rv;obtain⟨o,L,U,m,hd⟩:=(show s.heap.IsTuple p j.toArray from B);exact⟨_,.tuple L U hd (by simpa using q)⟩
  |lst ds =>
   simp only[Den]at d;obtain⟨p,z,rfl,h2,c⟩:=d;cases r;obtain⟨j,rv,B,e⟩:=I.list (fA.of h2);obtain⟨as,q⟩:=readsAll n ih ds z j h c rv;obtain⟨o,L,U,m,hd⟩:=B.isList;exact⟨_,.list L U hd (by simpa using q)⟩
  |_=>cases h
end
def Cr(K:ba)(neg:bb):R2:=λx y H Q=>∃O a b,cO 8 a=au/\cO 8 b=au/\Den K H O x a/\Den K H O y b/\Q (.bl (if neg then !gH 8 a b else gH 8 a b)) H
theorem amA{X:Cx}(e:X.A.units+64<dw):iE X (b1 .Eq) (Cr X.K ao):=by
 intro aa s J H x y v u Q I z j h;obtain⟨d,a,b,h1,h2,c,U,q⟩:=h;obtain⟨g,L⟩:=FF I 8 x v a h1 c z;obtain⟨bs,B⟩:=FF I 8 y u b h2 U j;have f:=ZO 8 a;refine SeqAt.compareEq_reads L B (EV 8 a h1) (EV 8 b h2) (by omega) ?_;rw[ZN 8 a b h1 h2];exact⟨.bl (gH 8 a b),H,I,rfl,q⟩
theorem al1{X:Cx}(e:X.A.units+64<dw):iE X (b1 .NotEq) (Cr X.K au):=by
 intro aa s J H x y v u Q I z j h;obtain⟨d,a,b,h1,h2,c,U,q⟩:=h;obtain⟨g,L⟩:=FF I 8 x v a h1 c z;obtain⟨bs,B⟩:=FF I 8 y u b h2 U j;have f:=ZO 8 a;refine SeqAt.compareNe_reads L B (EV 8 a h1) (EV 8 b h2) (by omega) ?_;rw[ZN 8 a b h1 h2];exact⟨.bl (!gH 8 a b),H,I,rfl,q⟩
noncomputable def tU(f:A->av A):ai A->av (ai A)
 |[]=>ah []
 |x::xs=>match f x,tU f xs with
  |some y,ah ys=>ah (y::ys)
  |_,_=>ak
def res(Z:aH):ay->A->av A
 |0,a=>if cO 8 a=au then ah a else ak
 |n+1,a=>if cO 8 a=au then ah a else match a with
  |.tup ds=>(tU (res Z n) ds).map .tup
  |.lst ds=>(tU (res Z n) ds).map .lst
  |.aB k=>match Z[k]? with
   |some (.lst ds)=>(tU (res Z n) ds).map .lst
   |_=>ak
  |_=>ak
section
variable{K:ba}{G H:Hp}{O:ai aq}{Z:aH}
theorem Wd.Xr(w:Wd K G O Z H):Ext G O H O:=⟨w.sub,λ_ _ h=>h⟩
theorem SS{f:A->av A}(ih:∀v a b,Den K G O v a->f a=ah b->Den K H O v b):∀(ds es:ai A) (xs:ai V),aX K G O xs ds->tU f ds=ah es->aX K H O xs es
 |[],es,xs,d,h=>by
  simp only[tU,jJ]at h;subst h;rw[pM]at d ⊢;exact d
 |a::ds,es,xs,d,h=>by
  obtain⟨x,t,rfl,L,B⟩:=d.kZ;simp only[tU]at h;split at h
  ·rename_i y j z q;cases h;exact .cons (ih _ _ _ L z) (SS ih ds j t B q)
  ·cases h
theorem RS(w:Wd K G O Z H):∀(n:ay) (v:V) (a b:A),Den K G O v a->res Z n a=ah b->Den K H O v b:=by
 intro n
 induction n with
 |zero =>
  intro v a b d h;simp only[res]at h;split at h
  ·cases h;exact d.ext w.Xr
  ·cases h
 |succ n ih =>
  intro v a b d h;simp only[res]at h;split at h
  ·cases h;exact d.ext w.Xr
  ·split at h
   ·rename_i ds _;simp only[vX]at h;obtain⟨es,h1,rfl⟩:=h;simp only[Den]at d ⊢;obtain⟨p,j,B,z,q⟩:=d;exact⟨p,j,B,w.sub _ _ z,SS ih ds es j q h1⟩
   ·rename_i ds _;simp only[vX]at h;obtain⟨es,h1,rfl⟩:=h;simp only[Den]at d ⊢;obtain⟨p,j,B,z,q⟩:=d;exact⟨p,j,B,w.sub _ _ z,SS ih ds es j q h1⟩
   ·rename_i k _;split at h
    ·rename_i ds e;simp only[vX]at h;obtain⟨es,h1,rfl⟩:=h;simp only[Den]at d ⊢;obtain⟨p,B,z⟩:=d;obtain⟨g,j,q,L⟩:=w.aB k _ p e z;exact⟨p,j,B,q,SS ih ds es j L h1⟩
    ·cases h
   ·cases h
end
def zR(neg:bb)(a b:A):Mo A:=λZ=>match res Z 6 a,res Z 6 b with
 |some x,ah y=>if(cO 8 x&&cO 8 y)=au then ah (.ok (.bl (if neg then !gH 8 x y else gH 8 x y)),Z)else ak
 |_,_=>ak
def iC:=zR ao
def gA:=zR au
section
variable{X:Cx}{W:WX}{e a b c:bp}{pos:cq}{fa fb fc:Ev->Mo A}{ta tb:Ev->Mo bb}
theorem Tg{K:ba}{neg:bb}:xX K W (Cr K neg) (zR neg):=by
 intro G q e H J x y a b Q w d c h;unfold zR at h;split at h
 ·rename_i B z U L;split at h
  ·rename_i j;rw[lK]at j;exact⟨q,B,z,j.1,j.2,RS w 6 x a B d U,RS w 6 y b z c L,h _ H G q (Ext.refl _ _) w (by simp only[Den])⟩
  ·exact False.elim h
 ·exact False.elim h
theorem lQ(j:X.A.units+64<dw):mO X W (b1 .Eq) iC:=⟨_,amA j,Tg⟩
theorem oO(j:X.A.units+64<dw):mO X W (b1 .NotEq) gA:=⟨_,al1 j,Tg⟩
@[simp] def uK:=GV λi j => .bl (decide (i<j))
@[simp] def NB:=GV λi j => .bl (decide (i<=j))
@[simp] def lF:=GV λi j => .bl (decide (j<i))
@[simp] def GW:=GV λi j => .bl (decide (j<=i))
theorem BO:mO X W (b1 .Lt) uK:=⟨_,al4,LI λ_ _ _ _=>by simp only[Den]⟩
theorem To:mO X W (b1 .LtE) NB:=⟨_,al5,LI λ_ _ _ _=>by simp only[Den]⟩
theorem qV:mO X W (b1 .Gt) lF:=⟨_,al7,LI λ_ _ _ _=>by simp only[Den]⟩
theorem Dk:mO X W (b1 .GtE) GW:=⟨_,al8,LI λ_ _ _ _=>by simp only[Den]⟩
noncomputable def BV:A->av bb
 |.bQ=>ah au
 |_=>ah ao
theorem aq4{K:ba}{G:Hp}{O:ai aq}{v:V}{a:A}(d:Den K G O v a):BV a=ah (decide (v=.bQ)):=by
 cases a with
 |bQ=>simp only[Den]at d;subst d;rfl
 |tup ds=>simp only[Den]at d;obtain⟨p,j,rfl,_⟩:=d;rfl
 |lst ds=>simp only[Den]at d;obtain⟨p,j,rfl,_⟩:=d;rfl
 |iU ds=>simp only[Den]at d;obtain⟨p,rfl,_⟩:=d;rfl
 |aB ds=>simp only[Den]at d;obtain⟨p,rfl,_⟩:=d;rfl
 |gl x=>simp only[Den]at d;obtain⟨p,_,rfl⟩:=d;rfl
 |xN p d' f i=>simp only[Den]at d;obtain⟨rfl,_⟩:=d;rfl
 |_=>simp only[Den]at d;subst d;rfl
@[simp] def Xe(neg:bb):A->A->Mo A
 |a,.bQ=>mb (need (BV a)) λk=>ret (.bl (if neg then !k else k))
 |_,_=>stuck
theorem amW:mO X W (b1 .Is) (Xe ao):=by
 refine⟨_,al6,?_⟩;intro G z B H J x y a b Q w q j h;cases b with
 |bQ =>
  simp only[Den]at j;obtain⟨k,e,h⟩:=bR.need h;rw[aq4 q]at e;cases e;exact⟨j,lA w (by simp only[Den];rfl) h⟩
 |_=>exact False.elim h
@[simp] def UU:A->Mo bb
 |.bl b=>ret b
 |_=>stuck
@[simp] def bK(f:Ev->Mo A):Ev->Mo bb:=λY=>mb (f Y) UU
theorem Af{K:ba}{t:TE}(h:fR K (Den K) W t fa):fR K FE W (Py t) (bK fa):=by
 intro G L a H J z Q w r q;refine h G L a H J z _ w r (bR.mb q λx U v e f B d c j h1=>?_);cases x with
 |bl b=>simp only[Den]at j;exact⟨b,j,lA c rfl h1⟩
 |_=>exact False.elim h1
theorem sA{j:CmpOp}{g:A->A->Mo A}(L:mO X W (b1 j) g)(ha:VE X W a fa)(hb:VE X W b fb)(hm:c2 j b=ao):VE X W (.Compare a [j] [b] pos) (aD g fa fb):=by
 obtain⟨r,B,z⟩:=L;obtain⟨t,p1,s1⟩:=ha;obtain⟨u,p2,q⟩:=hb;exact⟨_,alI B p1 p2 hm,RJ z s1 q⟩
theorem dS{j:CmpOp}{g:A->A->Mo A}(L:mO X W (b1 j) g)(ha:VE X W a fa)(hb:VE X W b fb)(hm:c2 j b=ao):VT X W (.Compare a [j] [b] pos) (bK (aD g fa fb)):=by
 obtain⟨r,B,z⟩:=L;obtain⟨t,p1,s1⟩:=ha;obtain⟨u,p2,q⟩:=hb;exact⟨_,aj1 B p1 p2 hm,Af (RJ z s1 q)⟩
@[simp] def KC(g g':A->A->Mo A)(f1 f2 j:Ev->Mo A):Ev->Mo A:=λY=>mb (f1 Y) λx=>mb (f2 Y) λy=>mb (g x y) λz=>mb (UU z) λk=>if k then mb (j Y) λu=>g' y u else ret (.bl ao)
theorem agN{K:ba}{r C:R2}{g g':A->A->Mo A}{t s p:TE}(V:xX K W r g)(S:xX K W C g')(h1:fR K (Den K) W t fa)(h2:fR K (Den K) W s fb)(h3:fR K (Den K) W p fc):fR K (Den K) W (Qd r C t s p) (KC g g' fa fb fc):=by
 intro G F I H J j Q w q h;refine h1 G F I H J j _ w q (bR.mb h λx e v H1 G1 a n R d1 h1=>?_);refine h2 G1 a e H1 J j _ R (q.ext n) (bR.mb h1 λy d u H2 G2 U l P E h2=>?_);refine V G2 U d H2 J v u x y _ P (d1.ext l) E (bR.mb h2 λz c z' H3 G3 L i o D f=>?_);cases z with
 |bl k =>
  simp only[Den]at D;refine⟨k,D,?_⟩;cases k with
  |true=>exact h3 G3 L c H3 J j _ o (q.ext ((n.trans l).trans i)) (bR.mb f λm b T H4 G4 B M N d4 X=>S G4 B b H4 J u T y m Q N (E.ext (i.trans M)) d4 X)
  |false=>exact lA o (by simp only[Den]) f
 |_=>exact False.elim f
theorem ac9{j B:CmpOp}{g g':A->A->Mo A}(h:mO X W (b1 j) g)(d:mO X W (b1 B) g')(ha:VE X W a fa)(hb:VE X W b fb)(i:VE X W c fc)
  (hm:lastMarks [j,B] [b,c]=ao:=by with_unfolding_all rfl):VE X W (.Compare a [j,B] [b,c] pos) (KC g g' fa fb fc):=by
 obtain⟨r,f,e⟩:=h;obtain⟨l,z,q⟩:=d;obtain⟨t,p1,s1⟩:=ha;obtain⟨u,p2,U⟩:=hb;obtain⟨k,p3,L⟩:=i;exact⟨_,alJ f z p1 p2 p3 hm,agN e q s1 U L⟩
theorem nM(h:VE X W e fa)(he:∀whole,isTrue e X.env whole=(do let v<-whole;standAt e.pos;c0 [v] (truthy v)):=by intro _;rfl):VT X W e (bK fa):=by
 obtain⟨t,p,s⟩:=h;exact⟨_,ajZ p he,Af s⟩
@[simp] def tK(f g:Ev->Mo bb):Ev->Mo bb:=λY=>mb (f Y) λc=>if c then g Y else ret ao
@[simp] def gV(f g:Ev->Mo bb):Ev->Mo bb:=λY=>mb (f Y) λc=>if c then ret au else g Y
@[simp] def jK(f:Ev->Mo bb):Ev->Mo bb:=λY=>mb (f Y) λc=>ret (!c)
variable{rest:ai bp}
theorem QB(h:VT X W a ta):VW X W (.BoolOp .And [a] pos) ta:=let ⟨t,p,s⟩:=h; ⟨t,pw_and1 p,s⟩
theorem tG(h:VT X W a ta):VW X W (.BoolOp .Or [a] pos) ta:=let ⟨t,p,s⟩:=h; ⟨t,pw_or1 p,s⟩
theorem JU(h1:VT X W a ta)(h2:VW X W (.BoolOp .And (b::rest) pos) tb):VW X W (.BoolOp .And (a::b::rest) pos) (tK ta tb):=by
 obtain⟨t,p1,s1⟩:=h1;obtain⟨u,p2,e⟩:=h2;refine⟨_,pw_and p1 p2,λG L U H J z Q w r h=>?_⟩;refine s1 G L U H J z _ w r (bR.mb h λc q g i k j d B f h1=>?_);cases(show g=c from f);cases c with
 |true=>exact e k j q i J z Q B (r.ext d) h1
 |false=>exact lA B rfl h1
theorem mV(h1:VT X W a ta)(h2:VW X W (.BoolOp .Or (b::rest) pos) tb):VW X W (.BoolOp .Or (a::b::rest) pos) (gV ta tb):=by
 obtain⟨t,p1,s1⟩:=h1;obtain⟨u,p2,e⟩:=h2;refine⟨_,pw_or p1 p2,λG L U H J z Q w r h=>?_⟩;refine s1 G L U H J z _ w r (bR.mb h λc q g i k j d B f h1=>?_);cases(show g=c from f);cases c with
 |false=>exact e k j q i J z Q B (r.ext d) h1
 |true=>exact lA B rfl h1
theorem VW.vt(h:VW X W e ta):VT X W e ta:=let ⟨t,p,s⟩:=h; ⟨t,p.pt,s⟩
theorem nN(h:VT X W a ta):VT X W (.UnaryOp .Not a pos) (jK ta):=by
 obtain⟨t,p,s⟩:=h;refine⟨_,aj0 p,λG z L H J j Q w r h=>?_⟩;refine s G z L H J j _ w r (bR.mb h λc B d f g q e U b h1=>?_);cases(show d=c from b);exact lA U rfl h1
@[simp] def tL(f g:Ev->Mo A):Ev->Mo A:=λY=>mb (f Y) λx=>mb (UU x) λc=>if c then g Y else ret (.bl ao)
@[simp] def EN(f:Ev->Mo A):Ev->Mo A:=λY=>mb (f Y) λx=>mb (UU x) λc=>ret (.bl (!c))
theorem AW{j}(h:VE X W a fa):VE X W (.BoolOp j [a] pos) fa:=let ⟨t,p,s⟩:=h; ⟨t,ak2 p,s⟩
theorem yR(h1:VE X W a fa)(h2:VE X W (.BoolOp .And (b::rest) pos) fb):VE X W (.BoolOp .And (a::b::rest) pos) (tL fa fb):=by
 obtain⟨t,p1,s1⟩:=h1;obtain⟨u,p2,f⟩:=h2;refine⟨_,alO p1 p2,λG U d H J z Q w r h=>?_⟩;refine s1 G U d H J z _ w r (bR.mb h λx q v g i j e B L h1=>?_);cases x with
 |bl c =>
  simp only[Den]at L;refine⟨c,L,?_⟩;cases c with
  |true=>exact f i j q g J z Q B (r.ext e) h1
  |false=>exact lA B (by simp only[Den]) h1
 |_=>exact False.elim h1
theorem JX(h:VE X W a fa):VE X W (.UnaryOp .Not a pos) (EN fa):=by
 obtain⟨t,p,s⟩:=h;refine⟨_,ak3 p,λG B U H J q Q w r h=>?_⟩;refine s G B U H J q _ w r (bR.mb h λx L v e f z d b j h1=>?_);cases x with
 |bl c =>
  simp only[Den]at j;exact⟨c,j,lA b (by simp only[Den]) h1⟩
 |_=>exact False.elim h1
end
inductive Out where
 |nx|bk|ct|ret (a:A)|exc (x:Exc)
abbrev OS:=av (Out×Ev×aH)
abbrev MS:=Ev->aH->OS
def aa8(K:ba)(W:WX)(G:Hp)(O:ai aq)(D:Ends)(J:L2.St)(H:Hp):Out->Prop
 |.nx=>D.nx J H
 |.bk=>D.bk J H
 |.ct=>D.ct J H
 |.ret a=>∀v,Den K G O v a->D.rt v H
 |.exc x=>∀cls dx,abV K G O H x cls dx->W J cls dx H
def eL(K:ba)(W:WX)(G:Hp)(O:ai aq)(D:Ends):OS->Prop
 |some (o,Y',Z')=>∀J' H' G' O',Ext G O G' O'->Wd K G' O' Z' H'->fT K G' O' J' Y'->aa8 K W G' O' D J' H' o
 |none=>b5
@[simp] noncomputable def sM{α:Type}(m:Mo α)(Y:Ev)(k:α->aH->OS):aH->OS:=λZ=>match m Z with
 |some (.ok a,Z1)=>k a Z1
 |some (.exc x,Z1)=>ah (.exc x,Y,Z1)
 |none=>ak
section
variable{K:ba}{W:WX}{G:Hp}{O:ai aq}{Z:aH}{J:L2.St}{Y:Ev}{D:Ends}
theorem eL.ext{z:Hp}{j:ai aq}{r:OS}(h:eL K W G O D r)(e:Ext G O z j):eL K W z j D r:=by
 match r,h with
 |some (o,B,L),h=>exact λJ' H' U q x w d=>h J' H' U q (e.trans x) w d
theorem eL.sM{α β:Type}{rel:Rl α β}{m:Mo α}{k:α->aH->OS}{L:β->Hp->Prop}(h:eL K W G O D (V2.sM m Y k Z))(r:fT K G O J Y)
  (U:∀a Z1 v H1 z j,Ext G O z j->Wd K z j Z1 H1->rel z j v a->eL K W z j D (k a Z1)->L v H1):bR K rel W G O J L (m Z):=by
 unfold V2.sM at h
 revert h
 generalize m Z=q;intro h
 match q,h with
 |some (.ok a,Z1),h=>exact λv H1 z j x w d=>U a Z1 v H1 z j x w d (eL.ext h x)
 |some (.exc x,Z1),h=>exact λcls b H' c B e w d=>h J H' c B e w (r.ext e) cls b d
end
def rP(K:ba)(W:WX)(t:TS)(f:MS):Prop:=∀G O Z H J Y D,Wd K G O Z H->fT K G O J Y->eL K W G O D (f Y Z)->t D J H
def VS(X:Cx)(W:WX)(st:bo)(f:MS):Prop:=∃t,PS X st t/\rP X.K W t f
def fN(X:Cx)(W:WX)(st:ai bo)(f:MS):Prop:=∃t,nX X st t/\rP X.K W t f
def HX(K:ba)(W:WX)(t:TG)(g:A->MS):Prop:=∀G O Z H J Y v a D,Wd K G O Z H->fT K G O J Y->Den K G O v a->eL K W G O D (g a Y Z)->t v J H D.nx
def aCI(K:ba)(W:WX)(t:zY)(g:ai A->MS):Prop:=∀G O Z H J Y vs as D,Wd K G O Z H->fT K G O J Y->aX K G O vs as->eL K W G O D (g as Y Z)->t vs J H D.nx
def VG(X:Cx)(W:WX)(tg:bp)(g:A->MS):Prop:=∃t,PG X tg t/\HX X.K W t g
def WS(X:Cx)(W:WX)(j:ai bp)(g:ai A->MS):Prop:=∃t,NZ X j t/\aCI X.K W t g
@[simp] noncomputable def eG:MS:=λY Z=>ah (.nx,Y,Z)
@[simp] noncomputable def aT(f g:MS):MS:=λY Z=>match f Y Z with
 |some (.nx,Y1,Z1)=>g Y1 Z1
 |r=>r
section
variable{X:Cx}{W:WX}{st:bo}{rest:ai bo}{f g:MS}{e:bp}{fe:Ev->Mo A}{pos:cq}
theorem tQ{K:ba}{G H:Hp}{O:ai aq}{Z:aH}{J:L2.St}{Y:Ev}{D:Ends}(w:Wd K G O Z H)(r:fT K G O J Y)(h:eL K W G O D (ah (.nx,Y,Z))):D.nx J H:=h J H G O (Ext.refl _ _) w r
theorem eX:fN X W [] eG:=⟨_,aj4,λ_ _ _ _ _ _ _ w r h=>tQ w r h⟩
theorem Qt{K:ba}{t u:TS}(h1:rP K W t f)(h2:rP K W u g):rP K W (ZR t u) (aT f g):=by
 intro G b U H J L D w r h;refine h1 G b U H J L _ w r ?_;unfold aT at h
 revert h
 generalize f L U=q;intro h
 match q,h with
 |some (.nx,j,z),h=>exact λJ' H' e B x c d=>h2 e B z H' J' j D c d (eL.ext h x)
 |some (.bk,j,z),h=>exact h
 |some (.ct,j,z),h=>exact h
 |some (.ret a,j,z),h=>exact h
 |some (.exc a,j,z),h=>exact h
theorem bA(h1:VS X W st f)(h2:fN X W rest g):fN X W (st::rest) (aT f g):=by
 obtain⟨t,p1,s1⟩:=h1;obtain⟨u,p2,j⟩:=h2;exact⟨_,aj6 p1 p2,Qt s1 j⟩
theorem bE(h1:VS X W st f):fN X W [st] f:=let ⟨t,p,s⟩:=h1; ⟨t,aj3 p,s⟩
@[simp] def gW(fe:Ev->Mo A):MS:=λY=>sM (fe Y) Y λ_ Z=>ah (.nx,Y,Z)
theorem kW(h:VE X W e fe)(hs:da e ak pos.line X.env=pure ao:=by rfl):VS X W (.Expr e pos) (gW fe):=by
 obtain⟨t,p,s⟩:=h;refine⟨_,akG p hs,λG z L H J j D w r h=>?_⟩;exact s G z L H J j _ w r (eL.sM h r λa B v d f q U b c h1=>tQ b (r.ext U) h1)
@[simp] def bO(fe:Ev->Mo A):MS:=λY=>sM (fe Y) Y λa Z=>ah (.ret a,Y,Z)
theorem cQ(h:VE X W e fe):VS X W (.Return (ah e) pos) (bO fe):=by
 obtain⟨t,p,s⟩:=h;refine⟨_,akB p,λG z L H J q D w r h=>?_⟩;exact s G z L H J q _ w r (eL.sM h r λa B v d f j U b c h1=>h1 J d f j (Ext.refl _ _) b (r.ext U) v c)
@[simp] def dQ(c:Ev->Mo bb)(f g:MS):MS:=λY=>sM (c Y) Y λb Z=>if b then f Y Z else g Y Z
theorem eT{c:bp}{a b:ai bo}{fc:Ev->Mo bb}(n:VT X W c fc)(h1:fN X W a f)(h2:fN X W b g):VS X W (.If c a b pos) (dQ fc f g):=by
 obtain⟨s,m,l⟩:=n;obtain⟨t,p1,s1⟩:=h1;obtain⟨u,p2,k⟩:=h2;refine⟨_,akE m p1 p2,λG e i H J z D w r h=>?_⟩;refine l G e i H J z _ w r (eL.sM h r λc q p U d j B L o h1=>?_);cases(show p=c from o);cases c with
 |true=>exact s1 d j q U J z D L (r.ext B) h1
 |false=>exact k d j q U J z D L (r.ext B) h1
@[simp] noncomputable def gN(i:ay):A->MS:=λa Y Z=>ah (.nx,Y.set i (ah a),Z)
theorem acZ{i:ay}{x:a5}(z:X.N.Nodup)(hi:X.N[i]?=ah x)(j:Loc X.env.scope x)(q:X.fn x=au\/X.env.scope.names.lookup x=ah .local:=by first|exact .inl rfl|exact .inr rfl|assumption):VG X W (.Name x pos) (gN i) :=
 ⟨_,Sw z hi j q,λ_ _ _ _ _ _ _ _ _ w r d h=>tQ w (r.set i d) h⟩
@[simp] noncomputable def nV:ai A->MS:=λas Y Z=>match as with
 |[]=>ah (.nx,Y,Z)
 |_=>ak
@[simp] def fV(g:A->MS)(gs:ai A->MS):ai A->MS:=λas=>match as with
 |a::r=>aT (g a) (gs r)
 |[]=>λ_ _=>ak
theorem wH:WS X W [] nV:=⟨_,akT,λG z B H J q vs j D w r d h=>by
 cases j with
 |nil=>rw[pM]at d;exact⟨d,tQ w r h⟩
 | cons=>exact False.elim h⟩
theorem mX{es:ai bp}{g:A->MS}{gs:ai A->MS}(h1:VG X W e g)(h2:WS X W es gs)
  (hs:(c3 (e::es) X.env).map (·.2)=assign e X.env::(c3 es X.env).map (·.2):=by rfl):WS X W (e::es) (fV g gs):=by
 obtain⟨t,p1,s1⟩:=h1;obtain⟨u,p2,k⟩:=h2;refine⟨_,akU p1 p2 hs,λG f c H J b vs U D w r d h=>?_⟩;cases U with
 |nil=>exact False.elim h
 |cons a U =>
  obtain⟨x,L,rfl,n,m⟩:=d.kZ;refine⟨x,L,rfl,s1 G f c H J b x a {D with nx:=λJ' H'=>u L J' H' D.nx} w r n ?_⟩;simp only[fV,aT]at h
  revert h
  generalize g a b c=q;intro h
  match q,h with
  |some (.nx,j,z),h=>exact λJ' H' o B x i l=>k o B z H' J' j L U D i l (m.ext x) (eL.ext h x)
  |some (.bk,j,z),h=>exact h
  |some (.ct,j,z),h=>exact h
  |some (.ret a,j,z),h=>exact h
  |some (.exc a,j,z),h=>exact h
@[simp] noncomputable def nE(n:ay)(gs:ai A->MS):A->MS:=λa Y Z=>match a with
 |.tup ds=>if ds.length=n then gs ds Y Z else ak
 |_=>ak
theorem wI{es:ai bp}{k:ay}{n:ay}{gs:ai A->MS}(U:X.calm=au)(h:WS X W es gs)
  (hn:(c3 es X.env).length=n:=by rfl) (b:(c3 es X.env).findIdx? (·.1)=ak:=by rfl):VG X W (.Tuple es k pos) (nE n gs):=by
 obtain⟨t,p,s⟩:=h;refine⟨_,akV U p hn b,λG B L H J z v a D w r d h=>?_⟩;unfold nE at h;cases a with
 |tup ds =>
  simp only at h
  by_cases hl:ds.length=n
  ·rw[ax hl]at h;simp only[Den]at d;obtain⟨p,j,rfl,h2,q⟩:=d;exact⟨p,j,rfl,jI.of (w.sub _ _ h2),by rw[q.length];exact hl,s G B L H J z j ds D w r q h⟩
  ·rw[a8 hl]at h;exact False.elim h
 |_=>exact False.elim h
@[simp] def setCell(o i v:A)(Z:aH):av aH:=match o,i with
 |.aB k,.int n=>match Z[k]? with
  |some (.lst ds)=>match tZ ds.length n with
   |some j=>ah (Z.set k (.lst (ds.set j v)))
   |none=>ak
  |_=>ak
 |_,_=>ak
@[simp] def CL(fo fi:Ev->Mo A):A->MS:=λa Y=>sM (fo Y) Y λo=>sM (fi Y) Y λi Z=>match setCell o i a Z with
 |some Z'=>ah (.nx,Y,Z')
 |none=>ak
theorem YS{o i:bp}{fo fi:Ev->Mo A}(S:VE X W o fo)(hi:VE X W i fi)
  (ha:∀v,assign (.Subscript o i pos) X.env v=(do
   let z<-c0 [v] (br o X.env)
   let f<-c0 [v,z] (br i X.env)
   standAt pos
   c0 [v,z,f] (setItem z f v)
   release [v,z,f] []):=by intro _;rfl):VG X W (.Subscript o i pos) (CL fo fi):=by
 obtain⟨t,p1,s1⟩:=S;obtain⟨u,p2,R⟩:=hi;refine⟨_,akW p1 p2 set_list ha,λG M N H J l v a D w r d h=>?_⟩;refine s1 G M N H J l _ w r (eL.sM h r λx U v1 H1 G1 B q Q V h1=>?_);refine R G1 B U H1 J l _ Q (r.ext q) (eL.sM h1 (r.ext q) λy L v2 H2 G2 K b m F h2=>?_);unfold setCell at h2;cases x with
 |aB k =>
  cases y with
  |int n =>
   simp only at h2;cases e:L[k]? with
   |none=>rw[e]at h2;exact False.elim h2
   |some c =>
    rw[e]at h2;cases c with
    |lst ds =>
     simp only at h2;cases g:tZ ds.length n with
     |none=>rw[g]at h2;exact False.elim h2
     |some j =>
      rw[g]at h2;have I:=V.ext b;simp only[Den]at I F;obtain⟨p,rfl,s⟩:=I;obtain⟨E,P,T,C⟩:=m.aB k _ p e s;refine⟨p,P,n,j,rfl,F,T,by rw[C.length];exact g,?_⟩;refine tQ (m.put (c:=.lst (ds.set j a)) s E ⟨E,_,eA,?_⟩) (r.ext (q.trans b)) h2;exact aX.set (d.ext (q.trans b)) j C
    |_=>exact False.elim h2
  |_=>exact False.elim h2
 |_=>exact False.elim h2
@[simp] def bZ(fe:Ev->Mo A)(g:A->MS):MS:=λY=>sM (fe Y) Y λa Z=>g a Y Z
theorem Ah{K:ba}{te:TE}{t:TG}{g:A->MS}(h1:fR K (Den K) W te fe)(h2:HX K W t g):rP K W (QZ te t) (bZ fe g):=by
 intro G B L H J z D w r h;exact h1 G B L H J z _ w r (eL.sM h r λa q v d e j U b c h1=>h2 e j q d J z v a D b (r.ext U) c h1)
theorem YQ{tg:bp}{g:A->MS}(he:VE X W e fe)(z:VG X W tg g)(hs:swapsWithSole [tg] e pos.line X.env=pure ao:=by rfl)(q:swappedStores [tg] e X.env=pure ak:=by rfl)
  (h1:(c3 [tg] X.env).map (·.2)=[assign tg X.env]:=by rfl):VS X W (.Assign [tg] e pos) (bZ fe g):=by
 obtain⟨t,p1,s1⟩:=he;obtain⟨u,p2,j⟩:=z;exact⟨_,akI p1 p2 hs q h1,Ah s1 j⟩
theorem acO{i:ay}{x:a5}{pos':cq}(z:X.N.Nodup)(hi:X.N[i]?=ah x)(j:Loc X.env.scope x)(he:VE X W e fe)(hs:da e (ah (.Name x pos')) pos.line X.env=pure ao:=by rfl)(q:X.fn x=au\/X.env.scope.names.lookup x=ah .local:=by first|exact .inl rfl|exact .inr rfl|assumption) :
  VS X W (.Assign [.Name x pos'] e pos) (bZ fe (gN i)):=by
 obtain⟨t,p1,s1⟩:=he;exact⟨_,akA z hi j p1 hs q,Ah s1 λ_ _ _ _ _ _ _ _ _ w r d h=>tQ w (r.set i d) h⟩
structure Src where
 ds:ai A
 ok:aH->Prop
structure DP(K:ba)(G:Hp)(O:ai aq)(σ:It)(S:Src):Prop where
 go:∀G' O' Z' H',Ext G O G' O'->Wd K G' O' Z' H'->S.ok Z'->∀i,i<S.ds.length->σ.go i H'
 stop:∀G' O' Z' H',Ext G O G' O'->Wd K G' O' Z' H'->S.ok Z'->∀i,S.ds.length<=i->σ.stop i H'
 yM:∀G' O' Z' H',Ext G O G' O'->Wd K G' O' Z' H'->S.ok Z'->∀i x H2 d,S.ds[i]?=ah d->σ.yM i H' x H2->∃G2,Ext G' O' G2 O'/\Wd K G2 O' Z' H2/\Den K G2 O' x d
def Cn(K:ba):Rl Src It:=λG O σ S=>DP K G O σ S
def VI(X:Cx)(W:WX)(tg iter:bp)(f:Ev->Mo Src):Prop:=∃t,PI X tg iter t/\fR X.K (Cn X.K) W t f
open Classical in
noncomputable def eO(ok:aH->Prop)(g:A->MS)(b:MS):ai A->MS
 |[],Y,Z=>if ok Z then ah (.nx,Y,Z)else ak
 | x::xs,Y,Z=>if ok Z then(match g x Y Z with
  | some (.nx,Y0,Z0)=>(match b Y0 Z0 with
   |some (.nx,Y1,Z1)=>eO ok g b xs Y1 Z1
   |some (.ct,Y1,Z1)=>eO ok g b xs Y1 Z1
   |some (.bk,Y1,Z1)=>ah (.nx,Y1,Z1)
   | r=>r)
  |some (.exc e,Y0,Z0)=>ah (.exc e,Y0,Z0)
  | _=>ak)else ak
@[simp] noncomputable def pI(fi:Ev->Mo Src)(g:A->MS)(b:MS):MS:=λY=>sM (fi Y) Y λS Z=>eO S.ok g b S.ds Y Z
theorem Xq{K:ba}{G:Hp}{O:ai aq}{D:Ends}{ok:aH->Prop}{g:A->MS}{b:MS}{xs:ai A}{Y:Ev}{Z:aH}(h:eL K W G O D (eO ok g b xs Y Z)):ok Z:=by
 cases xs with
 |nil =>
  unfold eO at h
  by_cases j:ok Z
  ·exact j
  ·rw[a8 j]at h;exact False.elim h
 |cons =>
  unfold eO at h
  by_cases j:ok Z
  ·exact j
  ·rw[a8 j]at h;exact False.elim h
theorem agL{K:ba}{wi:TI}{tg:TG}{tb:TS}{fi:Ev->Mo Src}{g:A->MS}{b:MS}(hi:fR K (Cn K) W wi fi)(hg:HX K W tg g)(hb:rP K W tb b):rP K W (ZT wi tg tb) (pI fi g b):=by
 intro G O Z H J Y D w r h;refine hi G O Z H J Y _ w r (eL.sM h r λS X σ H1 G1 C x1 w1 j1 h1=>?_);refine⟨λi m J' H'=>m=S.ds.length-i/\i<=S.ds.length/\∃t B L e,Ext G1 C t B/\Wd K t B L H'/\fT K t B J' e/\eL K W t B D (eO S.ok g b (S.ds.drop i) e L),
  ⟨_,rfl,IA _,G1,C,X,Y,Ext.refl _ _,w1,r.ext x1,by simpa using h1⟩,?_⟩
 rintro i m J' H' ⟨rfl,Wg,t,B,L,e,Q,T,r',h'⟩;have aL:=Xq h'
 by_cases dZ:i<S.ds.length
 ·right
  refine⟨j1.go t B L H' Q T aL i dZ,λM R=>∃I o P N,Ext G1 C I o/\Wd K I o P R/\fT K I o M N/\eL K W I o D (eO S.ok g b (S.ds.drop (i+1)) N P),λM R n=>?_,λx R y=>?_⟩
  ·exact⟨S.ds.length-(i+1),by omega,rfl,dZ,n⟩
  ·obtain⟨I,p,w2,d2⟩:=j1.yM t B L H' Q T aL i x R S.ds[i] (lI dZ) y;rw[abN dZ]at h';unfold eO at h';rw[ax aL]at h';refine hg I B L R J' e x S.ds[i] {D with nx:=λu H3=>tb _ u H3} w2 (r'.ext p) d2 ?_
   revert h'
   generalize g S.ds[i] e L=q;intro h'
   match q,h' with
   |some (.nx,v,E),h' =>
    intro u H3 G3 V F w3 r3;refine hb G3 V E H3 u v _ w3 r3 ?_;simp only at h'
    revert h'
    generalize b v E=q2;intro h'
    match q2,h' with
    |some (.nx,U,c),h'=>exact λz s l j d f k=>⟨l,j,c,U,(Q.trans (p.trans F)).trans d,f,k,eL.ext h' ((p.trans F).trans d)⟩
    |some (.ct,U,c),h'=>exact λz s l j d f k=>⟨l,j,c,U,(Q.trans (p.trans F)).trans d,f,k,eL.ext h' ((p.trans F).trans d)⟩
    |some (.bk,U,c),h'=>exact λz s l j d f k=>h' z s l j ((p.trans F).trans d) f k
    |some (.ret a,U,c),h'=>exact λz s l j d f k=>h' z s l j ((p.trans F).trans d) f k
    |some (.exc a,U,c),h'=>exact λz s l j d f k=>h' z s l j ((p.trans F).trans d) f k
   |some (.exc a,v,E),h'=>exact λz s l j d f k=>h' z s l j (p.trans d) f k
 ·have MI:i=S.ds.length:=by omega
  subst MI
  left
  rw[List.drop_length]at h';unfold eO at h';rw[ax aL]at h';exact⟨j1.stop t B L H' Q T aL _ cU,tQ T r' h'⟩
theorem tI{tg iter:bp}{body:ai bo}{fi:Ev->Mo Src}{g:A->MS}{b:MS}(z:PassesOwn (bc X.prog X.w) X.A X.env X.xe)(L:X.calm=au)(hi:VI X W tg iter fi)(B:VG X W tg g)(hb:fN X W body b)
  (hs:∀x,cb iter X.env x=pure x:=by intro _;rfl):VS X W (.For tg iter body [] pos) (pI fi g b):=by
 obtain⟨c,p1,s1⟩:=hi;obtain⟨a,p2,q⟩:=B;obtain⟨U,p3,j⟩:=hb;exact⟨_,Sn z L p1 p2 p3 hs,agL s1 q j⟩
@[simp] def srcOf(a:A)(ds:ai A):Src:=⟨ds,λZ=>iP Z a=ah ds⟩
theorem KR{Z:aH}{a:A}{ds:ai A}(h:dY Z a=ah ds):iP Z a=ah ds:=by
 cases a with
 |tup es=>simp[dY]at h
 |_=>exact h
theorem Uk{Z:aH}{a:A}{ds:ai A}(h:iP Z a=ah ds)(ha:∀es,a≠.tup es):dY Z a=ah ds:=by
 cases a with
 |tup es=>exact bz rfl (ha es)
 |_=>exact h
theorem akP{tg l:bp}{tl:TE}(hl:PE X l tl):PI X tg l (λJ H R=>tl J H λx H1=>∃a,x=.ref a/\(((∃xs,fA X.K H1 a xs)/\R (Ml X.K a) H1)\/((∃xs,jI X.K H1 a xs)/\R (Mj X.K a) H1))):=by
 intro aa s J H R I h;refine bN (hl aa s J H _ I h) λv s1 ⟨x,H1,j,B,L⟩=>?_;obtain⟨a,e,q⟩:=L;subst e;cases B
 rcases q with⟨⟨xs,hq⟩,q⟩|⟨⟨xs,hq⟩,q⟩
 ·obtain⟨z,rv,p,U⟩:=j.list hq;refine wpAny_pyIter_list p.isList ?_;refine⟨s1.heap.objs.size,[s1.heap.objs.size],_,_,H1,rfl,j.kept (t':=s1.toks) λb o e=>dD _ e,adS a _,⟨_,fW _ rfl,rfl,rfl⟩,λb hb=>?_,q⟩;have e:b=s1.heap.objs.size:=by simpa using hb
  subst e;exact j.vP cU (j.aL.fresh cU)
 ·obtain⟨z,rv,p,U⟩:=j.tuple hq;refine wpAny_pyIter_tuple (show s1.heap.IsTuple a z.toArray from p) ?_;refine⟨s1.heap.objs.size,[s1.heap.objs.size],_,_,H1,rfl,j.kept (t':=s1.toks) λb o e=>dD _ e,adQ a _,⟨_,fW _ rfl,rfl,rfl⟩,λb hb=>?_,q⟩;have e:b=s1.heap.objs.size:=by simpa using hb
  subst e;exact j.vP cU (j.aL.fresh cU)
@[simp] def fY(f:Ev->Mo A):Ev->Mo Src:=λY=>mb (f Y) λa Z=>match iP Z a with
 |some ds=>ah (.ok (srcOf a ds),Z)
 |none=>ak
theorem aqV{K:ba}{G:Hp}{O:ai aq}{p:aq}{a:A}{ds:ai A}(d:Den K G O (.ref p) a)(ha:∀es,a≠.tup es):DP K G O (Ml K p) (srcOf a ds):=by
 have key:∀U j B H',Ext G O U j->Wd K U j B H'->iP B a=ah ds->∃L,fA K H' p L/\aX K U j L ds:=λU j B H' e w h=>by
  obtain⟨q,L,h1,h2,b⟩:=qY w (d.ext e) (Uk h ha);cases h1;exact⟨L,h2,b⟩
 refine⟨λU j B H' e w h i hi=>?_,λU j B H' e w h i hi=>?_,λU j B H' e w h i x l y hy hd=>?_⟩
 ·obtain⟨L,h2,b⟩:=key U j B H' e w h;have hl:i<L.length:=by rw[b.length];exact hi
  exact⟨L,L[i],h2,lI hl⟩
 ·obtain⟨L,h2,b⟩:=key U j B H' e w h;exact⟨L,h2,by rw[b.length];exact hi⟩
 ·obtain⟨L,h2,b⟩:=key U j B H' e w h;obtain⟨k,g⟩:=hd;subst k;obtain⟨z,c,f⟩:=b.get hy;rw[g L h2]at c;cases c;exact⟨U,Ext.refl _ _,w,f⟩
theorem aqU{K:ba}{G:Hp}{O:ai aq}{p:aq}{ds es:ai A}(d:Den K G O (.ref p) (.tup es)):DP K G O (Mj K p) (srcOf (.tup es) ds):=by
 have key:∀U j B H',Ext G O U j->Wd K U j B H'->iP B (.tup es)=ah ds->∃L,jI K H' p L/\aX K U j L ds:=λU j B H' e w h=>by
  simp only[iP,jJ]at h;subst h;have d':=d.ext e;simp only[Den]at d';obtain⟨q,L,h1,h2,a⟩:=d';cases h1;exact⟨L,jI.of (w.sub _ _ h2),a⟩
 refine⟨λU j B H' e w h i hi=>?_,λU j B H' e w h i hi=>?_,λU j B H' e w h i x k y hy hd=>?_⟩
 ·obtain⟨L,h2,a⟩:=key U j B H' e w h;have hl:i<L.length:=by rw[a.length];exact hi
  exact⟨L,L[i],h2,lI hl⟩
 ·obtain⟨L,h2,a⟩:=key U j B H' e w h;exact⟨L,h2,by rw[a.length];exact hi⟩
 ·obtain⟨L,h2,a⟩:=key U j B H' e w h;obtain⟨g,f⟩:=hd;subst g;obtain⟨z,b,c⟩:=a.get hy;rw[f L h2]at b;cases b;exact⟨U,Ext.refl _ _,w,c⟩
theorem pF{tg l:bp}{fe:Ev->Mo A}(h:VE X W l fe):VI X W tg l (fY fe):=by
 obtain⟨t,p,s⟩:=h;refine⟨_,akP p,λG k m H J i R w r h=>?_⟩;refine s G k m H J i _ w r (bR.mb h λa U v f g B x L j h1=>?_);cases e:iP U a with
 |none=>simp only[e]at h1;exact False.elim h1
 |some ds =>
  simp only[e]at h1;obtain⟨q,u,h2,C,y⟩:=Ae L j e;subst h2;refine⟨q,rfl,?_⟩;cases a with
  |tup es =>
   right
   simp only[Den]at j;obtain⟨n,b,d,c,o⟩:=id j;cases d;exact⟨⟨_,jI.of (L.sub _ _ c)⟩,h1 _ f g B (Ext.refl _ _) L (aqU (by simpa only[Den]using j))⟩
  |_ =>
   left
   obtain⟨n,b,d,c,o⟩:=qY L j (Uk e (by intro _ z;cases z));cases d;exact⟨⟨_,c⟩,h1 _ f g B (Ext.refl _ _) L (aqV j (by intro _ z;cases z))⟩
@[simp] noncomputable def yY(lo:a6)(n:ay):Src:=⟨(List.range n).map λ(i:ay)=>A.int (lo+(i:a6)),λ_=>True⟩
def sD(i:a6):Prop:=-(2 ^ 62)<=i/\i<2 ^ 62
instance (i:a6):dm (sD i):=by unfold sD;infer_instance
theorem Vg{K:ba}{G:Hp}{O:ai aq}{lo:a6}{n:ay}:DP K G O (OI lo n) (yY lo n):=by
 refine⟨λ_ _ _ _ _ _ _ i hi=>show i<n by simpa[yY]using hi,λ_ _ _ _ _ _ _ i hi=>show n<=i by simpa[yY]using hi,λU q z H' e w h i x a y hy hd=>?_⟩;obtain⟨L,B⟩:=hd;subst L B;refine⟨U,Ext.refl _ _,w,?_⟩;simp only[yY,iZ]at hy;cases e:(List.range n)[i]? with
 |none=>rw[e]at hy;cases hy
 |some j =>
  rw[e]at hy;cases hy;have:=(cX.mp e).2;simp at this;subst this;simp only[Den]
@[simp] def QJ(f:Ev->Mo (ai A)):Ev->Mo Src:=λY=>mb (f Y) λas=>match as with
 |[.int j]=>mb (mJ (sD j)) λ_=>ret (yY 0 j.toNat)
 |_=>stuck
@[simp] def QI(f:Ev->Mo (ai A)):Ev->Mo Src:=λY=>mb (f Y) λas=>match as with
 |[.int i,.int j]=>mb (mJ (sD i/\sD j)) λ_=>ret (yY i (j-i).toNat)
 |_=>stuck
theorem acV{tg a:bp}{fs:Ev->Mo (ai A)}{p:cq}(f:Gl X "range")(hm:X.mg "range" = ak)(ha:VA X W [a] fs)(hs:az [a] X.env=[(ao,br a X.env)]:=by rfl):VI X W tg (.Call (.Name "range" p) [a] [] pos) (QJ fs):=by
 obtain⟨t,p,s⟩:=ha;refine⟨_,akR f hm p hs,λG b d H J L R w r h=>?_⟩;refine s G b d H J L _ w r (bR.mb h λk c vs l m U i e g h1=>?_);split at h1
 ·rename_i j;obtain⟨v,t,rfl,z,q⟩:=g.kZ;rw[pM]at q;subst q;simp only[Den]at z;subst z;obtain⟨B,h2⟩:=bR.mJ h1;exact⟨j,rfl,B.1,B.2,lA e Vg h2⟩
 ·exact False.elim h1
theorem acU{tg a b:bp}{fs:Ev->Mo (ai A)}{p:cq}(m:Gl X "range")(hm:X.mg "range" = ak)(ha:VA X W [a,b] fs)(hs:az [a,b] X.env=[(ao,br a X.env),(ao,br b X.env)]:=by rfl)(l:az [b] X.env=[(ao,br b X.env)]:=by rfl):VI X W tg (.Call (.Name "range" p) [a,b] [] pos) (QI fs):=by
 obtain⟨t,p,s⟩:=ha;refine⟨_,akQ m hm p hs l,λG d f H J U R w r h=>?_⟩;refine s G d f H J U _ w r (bR.mb h λy e vs C D c o g n h1=>?_);split at h1
 ·rename_i i j;obtain⟨v,t,rfl,L,k⟩:=n.kZ;obtain⟨u,x,rfl,B,z⟩:=k.kZ;rw[pM]at z;subst z;simp only[Den]at L B;subst L B;obtain⟨q,h2⟩:=bR.mJ h1;exact⟨i,j,rfl,⟨q.1.1,q.1.2,q.2.1,q.2.2⟩,lA g Vg h2⟩
 ·exact False.elim h1
end
section
variable{X:Cx}{W:WX}{e a b:bp}{es:ai bp}{pos:cq}{fa fb:Ev->Mo A}{fs:Ev->Mo (ai A)}
@[simp] def bM(a i:A):Mo A:=λZ=>match iP Z a,i with
 |some ds,.int n=>match jV ds n with
  |some d=>ah (.ok d,Z)
  |none=>ak
 |_,_=>ak
theorem aBY{K:ba}{G:Hp}{O:ai aq}{xs:ai V}{ds:ai A}{n:a6}{d:A}(h:aX K G O xs ds)(e:jV ds n=ah d):∃x,jV xs n=ah x/\Den K G O x d:=by
 unfold jV at e ⊢;rw[h.length];cases q:tZ ds.length n with
 |none=>rw[q]at e;cases e
 |some j=>rw[q]at e;exact h.get e
theorem cV(ha:VE X W a fa)(hb:VE X W b fb)(hs:aa4 b):VE X W (.Subscript a b pos) (aD bM fa fb):=by
 obtain⟨t,p1,s1⟩:=ha;obtain⟨u,p2,U⟩:=hb;refine⟨_,alC aqS p1 p2 hs,RJ ?_ s1 U⟩;intro G q g H J x y a i Q w f j h;unfold bM at h;split at h
 ·rename_i ds n c;split at h
  ·rename_i d e;simp only[Den]at j;have fin:∀v,Den X.K G q v d->Q v H:=λv hv=>h v H G q (Ext.refl _ _) w hv;obtain⟨p,z,rfl,hq,hd⟩:=Ae w f c;obtain⟨v,L,B⟩:=aBY hd e
   rcases hq with hq|hq
   ·exact .inl ⟨p,z,n,v,rfl,j,hq,L,fin v B⟩
   ·exact .inr (.inl ⟨p,z,n,v,rfl,j,hq,L,fin v B⟩)
  ·exact False.elim h
 ·exact False.elim h
def abZ(K:ba)(W:WX)(r:ai V->Hp->VK->Prop)(g:ai A->Mo A):Prop :=
 ∀G O Z H J xs as Q,Wd K G O Z H->aX K G O xs as->bR K (Den K) W G O J Q (g as Z)->r xs H Q
def qP(X:Cx)(W:WX)(f:aj)(g:ai A->Mo A):Prop:=∃r,mT X f r/\abZ X.K W r g
@[simp] def aR(g:ai A->Mo A)(f:Ev->Mo (ai A)):Ev->Mo A:=λY=>mb (f Y) g
theorem Qv{K:ba}{r:ai V->Hp->VK->Prop}{g:ai A->Mo A}{t:TA}(b:abZ K W r g)(h:fR K (aX K) W t fs):fR K (Den K) W (ZV r t) (aR g fs):=by
 intro G L U H J B Q w q h2;exact h G L U H J B _ w q (bR.mb h2 λd z vs e f j i a c h1=>b f j z e J vs d Q a c h1)
theorem fK{id:cm}{x:a5}{g:ai A->Mo A}{p:cq}(q:qP X W (.builtin id) g)(j:Gl X x)(hm:X.mg x=ak)(hv:c1 x=ah (.builtin id))(ha:VA X W (e::es) fs)(hn:x≠"__name__":=by decide)(z:(x==("__debug__" : a5))=ao:=by decide)
  (he:az (e::es) X.env=(ao,br e X.env)::az es X.env:=by rfl) (B:(b8 pos (az es X.env)).any (·.1)=ao:=by rfl):VE X W (.Call (.Name x p) (e::es) [] pos) (aR g fs):=by
 obtain⟨r,U,L⟩:=q;obtain⟨t,p1,s1⟩:=ha;exact⟨_,RZ U j hm hv p1 hn z he B,Qv L s1⟩
theorem YV{T:cm}{x:a5}{g:ai A->Mo A}{p:cq}(q:qP X W (.type T) g)(j:Gl X x)(hm:X.mg x=ak)(hv:c1 x=ah (.type T))(ha:VA X W (e::es) fs)(hn:x≠"__name__":=by decide)(z:(x==("__debug__" : a5))=ao:=by decide)
  (he:az (e::es) X.env=(ao,br e X.env)::az es X.env:=by rfl) (B:(b8 pos (az es X.env)).any (·.1)=ao:=by rfl):VE X W (.Call (.Name x p) (e::es) [] pos) (aR g fs):=by
 obtain⟨r,U,L⟩:=q;obtain⟨t,p1,s1⟩:=ha;exact⟨_,RY U j hm hv p1 hn z he B,Qv L s1⟩
theorem vR{K:ba}{G:Hp}{O:ai aq}{xs:ai V}{d:A}(h:aX K G O xs [d]):∃x,xs=[x]/\Den K G O x d:=by
 obtain⟨x,r,rfl,h1,h2⟩:=h.kZ;rw[pM]at h2;subst h2;exact⟨x,rfl,h1⟩
theorem HE{K:ba}{G:Hp}{O:ai aq}{xs:ai V}{d d':A}(h:aX K G O xs [d,d']):∃x y,xs=[x,y]/\Den K G O x d/\Den K G O y d':=by
 obtain⟨x,r,rfl,h1,h2⟩:=h.kZ;obtain⟨y,rfl,j⟩:=vR h2;exact⟨x,y,rfl,h1,j⟩
@[simp] def qB(as:ai A):Mo A:=λZ=>match as with
 | [a]=>(match iP Z a with
  |some ds=>ah (.ok (.int ds.length),Z)
  | none=>ak)
 |_=>ak
theorem xS:qP X W (.builtin "len") qB:=by
 refine⟨_,aAF,?_⟩;intro G j L H J U b Q w d h;unfold qB at h;split at h
 ·rename_i a;split at h
  ·rename_i ds e;obtain⟨x,rfl,B⟩:=vR d;obtain⟨p,q,rfl,h2,z⟩:=Ae w B e;exact⟨p,q,rfl,h2,h _ H G j (Ext.refl _ _) w (by simp only[Den,z.length])⟩
  ·exact False.elim h
 ·exact False.elim h
@[simp] def sP(as:ai A):Mo A:=match as with
 |[.int i,.int j]=>ret (.int (min i j))
 |_=>stuck
theorem Im(B:X.calm=au):qP X W (.builtin "min") sP:=by
 refine⟨_,aAD B,?_⟩;intro G L U H J a b Q w d h;unfold sP at h;split at h
 ·rename_i i j;obtain⟨x,y,rfl,z,q⟩:=HE d;simp only[Den]at z q;subst z q;refine⟨i,j,rfl,?_⟩;have e:(if j<i then j else i)=min i j:=by split <;> omega
  rw[e];exact lA w (by simp only[Den]) h
 ·exact False.elim h
noncomputable def intsOf:ai A->av (ai a6)
 |[]=>ah []
 |.int i::r=>(intsOf r).map (i :: ·)
 |_=>ak
theorem BX{K:ba}{G:Hp}{O:ai aq}:∀{ds:ai A} {xs:ai V} {ns:ai a6},intsOf ds=ah ns->aX K G O xs ds->xs=ns.map V.int
 |[],xs,ns,h,d=>by
  simp only[intsOf,jJ]at h;subst h;rw[pM]at d;subst d;rfl
 |a::ds,xs,ns,h,d=>by
  obtain⟨x,t,rfl,j,q⟩:=d.kZ;cases a with
  |int i =>
   simp only[intsOf,vX]at h;obtain⟨ms,h1,rfl⟩:=h;simp only[Den]at j;subst j;rw[BX h1 q];rfl
  |_=>simp[intsOf]at h
theorem zI(ns:ai a6):intsOf (ns.map A.int)=ah ns:=by
 induction ns with
 |nil=>rfl
 |cons n ns ih=>simp[intsOf,ih]
@[simp] def nF(as:ai A):Mo A:=λZ=>match as with
 | [a]=>(match (dY Z a).bind intsOf with
  |some ns=>ah (.ok (.int ns.sum),Z)
  | none=>ak)
 |_=>ak
theorem CZ(q:X.calm=au):qP X W (.builtin "sum") nF:=by
 refine⟨_,az7 q,?_⟩;intro G j b H J f g Q w d h;unfold nF at h;split at h
 ·rename_i a;split at h
  ·rename_i ns e;obtain⟨x,rfl,U⟩:=vR d;rw[sW]at e;obtain⟨ds,L,B⟩:=e;obtain⟨p,c,rfl,h2,z⟩:=qY w U L;rw[BX B z]at h2;exact⟨p,ns,rfl,h2,h _ H G j (Ext.refl _ _) w (by simp only[Den])⟩
  ·exact False.elim h
 ·exact False.elim h
noncomputable def mZ(Z:aH):A->av cm
 |.int _=>ah "int"
 |.bl _=>ah "bool"
 |.str _=>ah "str"
 |.bQ=>ah "NoneType"
 |.tup _=>ah "tuple"
 |.lst _=>ah "list"
 |.aB k=>match Z[k]? with
  |some (.lst _)=>ah "list"
  |some (.aQ _)=>ah "dict"
  |_=>ak
 |_=>ak
theorem adN{K:ba}{G H:Hp}{O:ai aq}{Z:aH}{v:V}{a:A}{t:cm}(w:Wd K G O Z H)(d:Den K G O v a)(h:mZ Z a=ah t):qF K H v (.type t):=by
 cases a with
 |int i=>simp only[mZ,jJ]at h;subst h;simp only[Den]at d;subst d;exact .int i
 |bl i=>simp only[mZ,jJ]at h;subst h;simp only[Den]at d;subst d;exact .bl i
 |str i=>simp only[mZ,jJ]at h;subst h;simp only[Den]at d;subst d;exact .str i
 |bQ=>simp only[mZ,jJ]at h;subst h;simp only[Den]at d;subst d;exact .bQ
 |tup ds=>simp only[mZ,jJ]at h;subst h;simp only[Den]at d;obtain⟨p,j,rfl,h2,_⟩:=d;exact .tup (w.sub _ _ h2)
 |lst ds=>simp only[mZ,jJ]at h;subst h;simp only[Den]at d;obtain⟨p,j,rfl,h2,_⟩:=d;exact .lst (w.sub _ _ h2)
 |aB k =>
  simp only[Den]at d;obtain⟨p,rfl,z⟩:=d;simp only[mZ]at h;split at h
  ·rename_i ds e;cases h;obtain⟨g,j,q,_⟩:=w.aB k _ p e z;exact .lst q
  ·rename_i ds e;cases h;obtain⟨g,j,q,_⟩:=w.aB k _ p e z;exact .dK q
  ·cases h
 |_=>simp[mZ]at h
noncomputable def uA(t n:cm):av bb:=if(["int", "bool", "str", "NoneType", "tuple", "list"].elem t&&["int", "bool", "tuple", "list", "str"].elem n)=au then ah (t==n||(t == "bool" && n == "int"))else ak
theorem aq3(K:ba){t n:cm}{b:bb}(h:uA t n=ah b):c7 K (.type t) (.type n)=ah b:=by
 unfold uA at h;split at h
 ·rename_i e;cases h;simp only[List.elem_eq_mem,lK,CV,eB,uS,tP]at e;obtain⟨rfl|rfl|rfl|rfl|rfl|rfl,rfl|rfl|rfl|rfl|rfl⟩:=e <;> first|kernel_rfl|(unfold c7;rw[ax (beq_self_eq_true _)];rfl)
 ·cases h
@[simp] def CM(as:ai A):Mo A:=λZ=>match as with
 | [a,.ty n]=>(match (mZ Z a).bind λt=>uA t n with
  |some b=>ah (.ok (.bl b),Z)
  | none=>ak)
 |_=>ak
theorem NQ:qP X W (.builtin "isinstance") CM:=by
 refine⟨_,aAI,?_⟩;intro G q U H J c f Q w d h;unfold CM at h;split at h
 ·rename_i a n;split at h
  ·rename_i b e;rw[sW]at e;obtain⟨t,B,z⟩:=e;obtain⟨x,y,rfl,L,j⟩:=HE d;simp only[Den]at j;subst j;exact⟨x,n,_,b,rfl,adN w L B,aq3 _ z,h _ H G q (Ext.refl _ _) w (by simp only[Den])⟩
  ·exact False.elim h
 ·exact False.elim h
def MtV(K:ba)(W:WX)(r:V->ai V->Hp->VK->Prop)(g:A->ai A->Mo A):Prop :=
 ∀G O Z H J x xs a as Q,Wd K G O Z H->Den K G O x a->aX K G O xs as->bR K (Den K) W G O J Q (g a as Z)->r x xs H Q
def Es(Z:aH)(a:A):Prop:=∃ds,dY Z a=ah ds
open Classical in
@[simp] noncomputable def ER(g:A->ai A->Mo A)(fo:Ev->Mo A)(f:Ev->Mo (ai A)):Ev->Mo A:=λY=>mb (fo Y) λo Z=>if Es Z o then mb (f Y) (λas=>g o as) Z else ak
theorem adL{K:ba}{G H:Hp}{O:ai aq}{Z:aH}{v:V}{a:A}(w:Wd K G O Z H)(d:Den K G O v a)(h:Es Z a):ZG K "list" v H:=by
 obtain⟨ds,e⟩:=h;obtain⟨p,j,rfl,q,_⟩:=qY w d e;exact .inl ⟨rfl,j,q⟩
theorem Ow{name:a5}{ag:cq}{id:cm}{r:V->ai V->Hp->VK->Prop}{g:A->ai A->Mo A}(m:PlainAttrs "list")(slot:Slot "list" name id)(N:typeOf (.builtin id)=pure (.type "method_descriptor"))(hm:MtR X id r)(hv:MtV X.K W r g)(n:VE X W a fa)(ha:VA X W (e::es) fs)
  (p:bw a name X.env (br a X.env)=br a X.env:=by rfl)
  (E:((b8 pos (az (e::es) X.env)).all (λx=>!x.1)&&(dr pos (cx [] X.env)).all (λx=>x.1.isSome)
   && decide ((e::es).length+([]:ai Keyword).length+(if([]:ai Keyword).isEmpty then 0 else 1)<30))=au:=by rfl)
  (o:(ag.endLine==pos.line)=au:=by rfl) (hs:az (e::es) X.env=(ao,br e X.env)::az es X.env:=by rfl) (M:(b8 pos (az es X.env)).any (·.1)=ao:=by rfl) :
  VE X W (.Call (.Attribute a name ag) (e::es) [] pos) (ER g fa fs):=by
 obtain⟨t,p1,s1⟩:=n;obtain⟨u,p2,l⟩:=ha;refine⟨_,alK m slot N hm p1 p2 p E o hs M,λG c d H J L Q w r h=>?_⟩;refine s1 G c d H J L _ w r (bR.mb h λx B v D I q i U b h1=>?_);split at h1
 ·rename_i hl;refine⟨adL U b hl,l I q B D J L _ U (r.ext i) (bR.mb h1 λy z vs C F j f k s h2=>?_)⟩;exact hv F j z C J v vs x y Q k (b.ext f) s h2
 ·exact False.elim h1
noncomputable def HL(Z:aH):A->av (ay×ai A)
 |.aB k=>match Z[k]? with
  |some (.lst ds)=>ah (k,ds)
  |_=>ak
 |_=>ak
theorem az0{K:ba}{G H:Hp}{O:ai aq}{Z:aH}{v:V}{a:A}{k:ay}{ds:ai A}(w:Wd K G O Z H)(d:Den K G O v a)(h:HL Z a=ah (k,ds)):∃p xs,v=.ref p/\O[k]?=ah p/\G p=ak/\H p=ah (.lst xs)/\aX K G O xs ds:=by
 cases a with
 |aB j =>
  simp only[HL]at h;split at h
  ·rename_i es e;cases h;simp only[Den]at d;obtain⟨p,rfl,q⟩:=d;obtain⟨g,xs,B,z⟩:=w.aB k _ p e q;exact⟨p,xs,rfl,q,g,B,z⟩
  ·cases h
 |_=>simp[HL]at h
@[simp] def CO(o:A)(as:ai A):Mo A:=λZ=>match HL Z o,as with
 |some (k,ds),[y]=>if ds.length<a7 then ah (.ok .bQ,Z.set k (.lst (ds++[y])))else ak
 |_,_=>ak
theorem Ug:MtV X.K W Ry CO:=by
 intro G q f H J x i a l Q w d b h;unfold CO at h;split at h
 ·rename_i k ds y e;split at h
  ·rename_i hl;obtain⟨p,z,rfl,B,g,L,j⟩:=az0 w d e;obtain⟨u,rfl,U⟩:=vR b;refine⟨p,z,u,rfl,rfl,L,by rw[j.length];exact hl,?_⟩;exact h _ _ G q (Ext.refl _ _) (w.put (c:=.lst (ds++[y])) B g ⟨g,_,eA,j.append (.cons U .nil)⟩) (by simp only[Den])
  ·exact False.elim h
 ·exact False.elim h
end
mutual
def Cl(n:ay):A->Prop
 |.aB k=>k<n
 |.tup ds=>fX n ds
 |.lst ds=>fX n ds
 |_=>True
def fX(n:ay):ai A->Prop
 |[]=>True
 |d::ds=>Cl n d/\fX n ds
end
section
variable{K:ba}{G:Hp}{O:ai aq}
mutual
theorem Den.cl:∀{v:V} {d:A},Den K G O v d->Cl O.length d
 |_,.int _,_=>by simp only[Cl]
 |_,.bl _,_=>by simp only[Cl]
 |_,.str _,_=>by simp only[Cl]
 |_,.bQ,_=>by simp only[Cl]
 |_,.ty _,_=>by simp only[Cl]
 |_,.adr _,_=>by simp only[Cl]
 |_,.xN _ _ _ _,_=>by simp only[Cl]
 |_,.gl _,_=>by simp only[Cl]
 |_,.iU _,_=>by simp only[Cl]
 |_,.tup ds,h=>by
  simp only[Den]at h;simp only[Cl];obtain⟨a,xs,_,_,j⟩:=h;exact aX.cl j
 |_,.lst ds,h=>by
  simp only[Den]at h;simp only[Cl];obtain⟨a,xs,_,_,j⟩:=h;exact aX.cl j
 |_,.aB k,h=>by
  simp only[Den]at h;simp only[Cl];obtain⟨a,_,h2⟩:=h;exact(cX.mp h2).1
theorem aX.cl:∀{xs:ai V} {ds:ai A},aX K G O xs ds->fX O.length ds
 |_,[],_=>by simp only[fX]
 |_,d::ds,h=>by
  simp only[aX]at h;simp only[fX];obtain⟨x,r,_,h2,j⟩:=h;exact⟨Den.cl h2,aX.cl j⟩
end
mutual
theorem Den.cut{O':ai aq}{n:ay}(e:∀k,k<n->O[k]?=O'[k]?):∀{v:V} {d:A},Den K G O' v d->Cl n d->Den K G O v d
 |_,.int _,h,_=>by simpa only[Den]using h
 |_,.bl _,h,_=>by simpa only[Den]using h
 |_,.str _,h,_=>by simpa only[Den]using h
 |_,.bQ,h,_=>by simpa only[Den]using h
 |_,.ty _,h,_=>by simpa only[Den]using h
 |_,.adr _,h,_=>by simpa only[Den]using h
 |_,.xN _ _ _ _,h,_=>by simpa only[Den]using h
 |_,.gl _,h,_=>by simpa only[Den]using h
 |_,.iU _,h,_=>by simpa only[Den]using h
 |_,.tup ds,h,c=>by
  simp only[Den]at h ⊢;simp only[Cl]at c;obtain⟨a,xs,h1,h2,j⟩:=h;exact⟨a,xs,h1,h2,aX.cut e j c⟩
 |_,.lst ds,h,c=>by
  simp only[Den]at h ⊢;simp only[Cl]at c;obtain⟨a,xs,h1,h2,j⟩:=h;exact⟨a,xs,h1,h2,aX.cut e j c⟩
 |_,.aB k,h,c=>by
  simp only[Den]at h ⊢;simp only[Cl]at c;obtain⟨a,h1,h2⟩:=h;exact⟨a,h1,(e k c).trans h2⟩
theorem aX.cut{O':ai aq}{n:ay}(e:∀k,k<n->O[k]?=O'[k]?):∀{xs:ai V} {ds:ai A},aX K G O' xs ds->fX n ds->aX K G O xs ds
 |_,[],h,_=>by simpa only[aX]using h
 |_,d::ds,h,c=>by
  simp only[aX]at h ⊢;simp only[fX]at c;obtain⟨x,r,h1,h2,j⟩:=h;exact⟨x,r,h1,Den.cut e h2 c.1,aX.cut e j c.2⟩
end
def rU(n:ay):Fd->Prop
 |.val a=>Cl n a
 |.lst ds=>fX n ds
 |.aQ kvs=>fX n (kvs.map (·.2))
def qO(n:ay):ai (a5×Fd)->Prop
 |[]=>True
 |p::r=>rU n p.2/\qO n r
def JC(n:ay):Cell->Prop
 |.lst ds=>fX n ds
 |.aQ kvs=>fX n (kvs.map (·.2))
 |.ins _ fs=>qO n fs
 |_=>True
theorem iM.cl{H:Hp}{v:V}{fd:Fd}(h:iM K G O H v fd):rU O.length fd:=by
 cases fd with
 |val a=>exact Den.cl h
 |lst ds=>obtain⟨_,_,_,_,_,_,q⟩:=h;exact q.cl
 |aQ j=>obtain⟨_,_,_,_,_,_,_,q⟩:=h;exact q.cl
theorem jA.cl{H:Hp}:∀{ws:ai (a5×V)} {fs:ai (a5×Fd)},jA K G O H ws fs->qO O.length fs
 |[],[],_=>trivial
 |(_,_)::_,(_,_)::_,h=>⟨h.2.1.cl,h.2.2.cl⟩
 |[],_::_,h=>h.elim
 |_::_,[],h=>h.elim
theorem pC.cl{H:Hp}{a:aq}{c:Cell}(h:pC K G O H a c):JC O.length c:=by
 cases c with
 |lst ds=>obtain⟨_,_,_,q⟩:=h;exact q.cl
 |aQ j=>obtain⟨_,_,_,_,q⟩:=h;exact q.cl
 |ins cls fs=>obtain⟨_,_,_,_,_,_,q⟩:=h;exact q.cl
 |tab x pos af=>trivial
 |dead=>trivial
theorem iM.cut{H:Hp}{O':ai aq}{n:ay}{v:V}{fd:Fd}(h:iM K G O' H v fd)(e:∀k,k<n->O[k]?=O'[k]?)(hi:∀b,b∉O'->b∉O)(c:rU n fd):iM K G O H v fd:=by
 cases fd with
 |val a=>exact Den.cut e h c
 |lst ds=>obtain⟨b,xs,h1,h2,z,q,j⟩:=h;exact⟨b,xs,h1,h2,hi b z,q,j.cut e c⟩
 |aQ B=>obtain⟨b,ws,h1,h2,z,q,j,L⟩:=h;exact⟨b,ws,h1,h2,hi b z,q,j,L.cut e c⟩
theorem jA.cut{H:Hp}{O':ai aq}{n:ay}(e:∀k,k<n->O[k]?=O'[k]?)(hi:∀b,b∉O'->b∉O):∀{ws:ai (a5×V)} {fs:ai (a5×Fd)},jA K G O' H ws fs->qO n fs->jA K G O H ws fs
 |[],[],_,_=>trivial
 |(_,_)::_,(_,_)::_,h,c=>⟨h.1,h.2.1.cut e hi c.1,jA.cut e hi h.2.2 c.2⟩
 |[],_::_,h,_=>h.elim
 |_::_,[],h,_=>h.elim
theorem pC.cut{H:Hp}{O':ai aq}{n:ay}{a:aq}{c:Cell}(h:pC K G O' H a c)(e:∀k,k<n->O[k]?=O'[k]?)(hi:∀b,b∉O'->b∉O)(j:JC n c):pC K G O H a c:=by
 cases c with
 |lst ds=>obtain⟨g,xs,h1,h2⟩:=h;exact⟨g,xs,h1,h2.cut e j⟩
 |aQ q=>obtain⟨g,ws,h1,h2,z⟩:=h;exact⟨g,ws,h1,h2,z.cut e j⟩
 |ins cls fs=>obtain⟨g,C,B,ws,h0,h1,h2⟩:=h;exact⟨g,C,B,ws,h0,h1,h2.cut e hi j⟩
 |tab x pos af=>exact h
 |dead=>trivial
theorem Ext.cut{G':Hp}{O':ai aq}(e:Ext G O G' O'):∀k,k<O.length->O[k]?=O'[k]?:=λk j=>by
 rw[lI j,e.pre k _ (lI j)]
theorem Wd.cut{G' H H':Hp}{O':ai aq}{Z Z':aH}(w:Wd K G O Z H)(U:Wd K G' O' Z' H')(e:Ext G O G' O')(ht:Z'.take Z.length=Z):Wd K G' O Z H' where
 sub:=U.sub
 inj:=w.inj
 len:=w.len
 live:=λa ha=>by
  obtain⟨k,j,m⟩:=Mc ha;exact U.live a (sX (e.pre k a (by rw[<-m];exact lI j)))
 aB:=λk c a h1 h2=>by
  have j:k<Z.length:=(cX.mp h1).1;have o:Z'[k]?=ah c:=by
   rw[<-ht,IM]at h1;rw[ax j]at h1;exact h1
  have q:=U.aB k c a o (e.pre k a h2);have d:=w.aB k c a h1 h2;cases c with
  |lst ds =>
   obtain⟨g,xs,L,B⟩:=q;obtain⟨_,_,_,l⟩:=d;exact⟨g,xs,L,B.cut e.cut l.cl⟩
  |aQ p =>
   obtain⟨g,ws,L,B,l⟩:=q;obtain⟨_,_,_,_,f⟩:=d;exact⟨g,ws,L,B,l.cut e.cut f.cl⟩
  |ins cls fs =>
   obtain⟨g,C,t,ws,h0,L,B⟩:=q;obtain⟨_,_,_,_,_,_,f⟩:=d;exact⟨g,C,t,ws,h0,L,B.cut (n:=O.length) e.cut (λb hb z=>hb (by
    obtain⟨k,j,m⟩:=Mc z;exact sX (e.pre k b (by rw[<-m];exact lI j)))) f.cl⟩
  |tab x pos af=>exact q
  |dead=>trivial
 sep:=λb k i r s h1 h2=>by
  have back:∀{k i},iJ H' O Z k i b->iJ H' O' Z' k i b:=λ{k i} h=>h.to (λa ha=>⟨e.pre k a ha,λ_ z=>z⟩) λcls fs q=>by
   have j:k<Z.length:=(cX.mp q).1;rw[<-ht,IM,ax j]at q;exact q
  exact U.sep b k i r s (back h1) (back h2)
end
open Classical in
noncomputable def trim(Z:aH):av (Rs A×aH)->av (Rs A×aH)
 |some (.ok a,Z')=>if Z'.take Z.length=Z/\Cl Z.length a then ah (.ok a,Z)else ah (.ok a,Z')
 |some (.exc x,Z')=>if Z'.take Z.length=Z/\fX Z.length (x.fs.map (·.2))then ah (.exc x,Z)else ah (.exc x,Z')
 |none=>ak
theorem adY{K:ba}{W:WX}{G H:Hp}{O:ai aq}{Z:aH}{J:L2.St}{Q:VK}{r:av (Rs A×aH)}(w:Wd K G O Z H)(h:bR K (Den K) W G O J Q (trim Z r)):bR K (Den K) W G O J Q r:=by
 match r,h with
 |some (.ok a,B),h =>
  simp only[trim]at h;split at h
  ·rename_i j;exact λv H' U z e L d=>h v H' U O ⟨e.same,λ_ _ q=>q⟩ (w.cut L e j.1) (d.cut e.cut (by rw[w.len];exact j.2))
  ·exact h
 |some (.exc x,B),h =>
  simp only[trim]at h;split at h
  ·rename_i j;intro cls b H' U z e L d;refine h cls b H' U O ⟨e.same,λ_ _ q=>q⟩ (w.cut L e j.1) d
  ·exact h
@[simp] def bT:OS->av (Rs A×aH)
 |some (.nx,_,Z)=>ah (.ok .bQ,Z)
 |some (.ret a,_,Z)=>ah (.ok a,Z)
 |some (.exc x,_,Z)=>ah (.exc x,Z)
 |_=>ak
@[simp] noncomputable def NK(n:ay)(ds:ai A):Ev:=ds.map ah++List.replicate (n-ds.length) ak
@[simp] noncomputable def cF(n:ay)(b:MS):ai A->Mo A:=λds Z=>trim Z (bT (b (NK n ds) Z))
def qT(K:ba)(n:ay)(F:ai A->Mo A):Sp:=λvs H Q E=>vs.length=n/\∃G O Z ds,Wd K G O Z H/\aX K G O vs ds/\bR K (Den K) (λ_=>E) G O [] Q (F ds Z)
abbrev dH(P:a9)(w:bh)(K:ba)(mg:a5->av aj)(base:bu)(x:a5)(k:ay)(ps:ai a5)(F:ai A->Mo A):Prop:=abW P w K mg base x k ps (qT K ps.length F)
theorem awQ{K:ba}{G:Hp}{O:ai aq}{N:ai a5}{vs:ai V}{ds:ai A}(d:aX K G O vs ds):fT K G O (L2.start N vs) (NK N.length ds):=by
 unfold L2.start NK;have hl:=d.length;refine⟨by simp[hl],λi a h=>?_⟩
 by_cases hi:i<ds.length
 ·rw[eQ (by simpa using hi)]at h;rw[iZ]at h;cases e:ds[i]? with
  |none=>rw[e]at h;cases h
  |some z =>
   rw[e]at h;cases h;obtain⟨v,q,j⟩:=d.get e;refine⟨v,?_,j⟩;rw[eQ (by simp;omega),iZ,q];rfl
 ·rw[sZ (by simpa using hi)]at h;have:=sX h;simp at this
theorem NR{K:ba}{N:ai a5}{t:TS}{b:MS}{H:Hp}{vs:ai V}{Q:VK}{E:XK}{n:ay}(s:rP K (λ_=>E) t b)(h:qT K n (cF N.length b) vs H Q E):t {nx:=λ_ H'=>Q .bQ H',rt:=Q} (L2.start N vs) H:=by
 obtain⟨hl,G,i,f,ds,w,d,q⟩:=h;refine s G i f H _ (NK N.length ds) _ w (awQ d) ?_;have j:=adY w q
 revert j
 generalize b (NK N.length ds) f=r;intro j
 match r,j with
 |some (.nx,B,L),j=>exact λJ' H' c z e U g=>j .bQ H' c z e U (by simp only[Den])
 |some (.ret a,B,L),j=>exact λJ' H' c z e U g v d'=>j v H' c z e U d'
 |some (.exc x,B,L),j=>exact λJ' H' c z e U g cls k d'=>j cls k H' c z e U d'
 |some (.bk,B,L),j=>exact False.elim j
 |some (.ct,B,L),j=>exact False.elim j
section
variable{P:a9}{w:bh}{K:ba}{mg:a5->av aj}{base:bu}
theorem Xl{x:a5}{st:bo}{N ps:ai a5}{k:ay}{b:MS}{f:aq}{fd:ck}(F:tD K x x st f fd)(S:cL N ps (aY st))
  (iB:∀(f:aq) (aS:aj) (A:bj) (outer:ai Env) (s:ar) (H:Hp) (E:XK),cE k (A.deeper (cn x (aY st) s.heap.objs.size f aS)) ->
   fN (oZ P w K mg base N x (aY st) f aS A outer s H E) (λ_=>E) (eZ st) b):gR P w K mg base (oB P w) (k+1) f fd ps (qT K ps.length (cF N.length b)):=by
 obtain⟨oc,od,kV,doc,pm,an,aS,ct,gY,rfl,lk,jG⟩:=F.ex;refine Hg lk jG S (λvs H Q E h=>h.1) λA outer s H vs Q E hr gF=>?_;obtain⟨t,p,q⟩:=iB f aS A outer s H E hr;exact⟨t,Ee p,NR q gF⟩
theorem dH.of{x:a5}{st:bo}{N ps:ai a5}{k:ay}{b:MS}(h:HasFn K mg x st)(S:cL N ps (aY st))
  (bind:∀(kV doc pm:aj) (an:av aq) (aS ct:aj) (us:ai aj),us.length=ps.length->dh (fnOf x x (kO st) (eZ st) (aY st) .none kV doc pm an aS ct) ⟨us,[]⟩=pure (ps.zip us))
  (iB:∀(f:aq) (aS:aj) (A:bj) (outer:ai Env) (s:ar) (H:Hp) (E:XK),cE k (A.deeper (cn x (aY st) s.heap.objs.size f aS)) ->
   fN (oZ P w K mg base N x (aY st) f aS A outer s H E) (λ_=>E) (eZ st) b):dH P w K mg base x (k+1) ps (cF N.length b):=by
 obtain⟨f,fd,hm,F⟩:=h.ex;exact⟨f,fd,Xl F S iB,hm,F.kp,F.binds bind⟩
abbrev PK(P:a9)(w:bh)(K:ba)(mg:a5->av aj)(base:bu)(x:a5)(k:ay)(ps:ai a5)(F:ai A->Mo A):Prop:=Def P w K mg base x k ps (λvs H Q _=>qT K ps.length F vs H Q λ_ _ _=>b5)
theorem Ze{k:ay}{f:aq}{fd:ck}{ps:ai a5}{sp:Sp}(F:gR P w K mg base (oB P w) k f fd ps sp):gR P w K mg base pS k f fd ps (λvs H Q _=>sp vs H Q λ_ _ _=>b5) :=
 ⟨λvs H Q E h=>F.len _ _ _ _ h,λA outer s H args us vs Q E hr e0 hb r gF=>uN (F.run A outer s H args us vs Q _ hr e0 hb r gF) λr s' hq=>by
  cases r with
  |error j=>obtain⟨x,cls,z,H',_,_,_,_,_,_,q⟩:=hq;exact q.elim
  | ok fl=>cases fl <;> exact hq⟩
def RH(K:ba):Sp:=λvs H Q _=>∃(a:aq) (ns:ai a6),vs=[.ref a]/\fA K H a (ns.map V.int)/\ns.length<=63/\∀H',Q (.bl au) H'
theorem aoT{fa:aq}{fd:ck}{k:ay}{F:ai A->Mo A}(h1:gR P w K mg base (oB P w) k fa fd ["_law_script"] (qT K 1 F))(z:∀ns:ai a6,ns.length<=63->∃Z,F [.iU ns] []=ah (.ok (.bl au),Z)) :
  gR P w K mg base pS k fa fd ["_law_script"] (RH K):=by
 refine(Ze h1).imp λvs H Q E hq=>?_;obtain⟨a,ns,rfl,hs,hl,q⟩:=hq;obtain⟨Z,e⟩:=z ns hl;refine⟨rfl,H,[],[],[.iU ns],⟨mM.refl _,List.nodup_nil,rfl,λa ha=>by simp at ha,λk c a h=>by simp at h,λb k i B L h=>by obtain⟨_,_,_,_,_,_,_,_,_,q,_⟩:=h;simp at q⟩,.cons (by simp only[Den];exact⟨a,rfl,hs⟩) .nil,?_⟩;rw[e];intro v H' U j _ _ d;simp only[Den]at d;subst d;exact q H'
end
section
variable{X:Cx}{W:WX}{x:a5}{p pos:cq}{e:bp}{es:ai bp}{fs:Ev->Mo (ai A)}
@[simp] def cA(n:ay)(F:ai A->Mo A):ai A->Mo A:=λas=>if as.length=n then F as else stuck
theorem Il{K:ba}{G d:Hp}{O q:ai aq}{J:L2.St}{Q:VK}{r:av (Rs A×aH)}{W:WX}(h:bR K (Den K) W G O J Q r)(c:Ext G O d q):bR K (Den K) (λ_=>λcls dx H'=>W J cls dx H') d q [] Q r:=by
 match r,h with
 |some (.ok a,z),h=>exact λv H' b j B L U=>h v H' b j (c.trans B) L U
 |some (.exc a,z),h=>exact λcls dx H' b j B L U=>h cls dx H' b j (c.trans B) L U
theorem eM{k:ay}{ps:ai a5}{F:ai A->Mo A}(T:nH X W)(D:dH X.prog X.w X.K X.mg X.base x k ps F)(hr:cE k X.A)(b:Gl X x)(ha:VA X W (e::es) fs)
  (c:(x==("__debug__" : a5))=ao:=by decide) (he:az (e::es) X.env=(ao,br e X.env)::az es X.env:=by rfl) (d:(b8 pos (az es X.env)).any (·.1)=ao:=by rfl):VE X W (.Call (.Name x p) (e::es) [] pos) (aR (cA ps.length F) fs):=by
 obtain⟨t,p1,s1⟩:=ha;refine⟨_,alH T D hr b p1 c he d,λG L U H J B Q w r h=>?_⟩;refine s1 G L U H J B _ w r (bR.mb h λf q vs l g j i a z h1=>?_);unfold cA at h1;split at h1
 ·rename_i hl;exact⟨by rw[z.length];exact hl,g,j,q,f,a,z,Il h1 (Ext.refl _ _)⟩
 ·exact False.elim h1
@[simp] noncomputable def lR(F:ai A->Mo A):ai A->Mo A:=λas Z=>match F as Z with
 |some (.exc _,_)=>ak
 |r=>r
abbrev cI(i:a6):Ev->Mo A:=λ_=>ret (.int i)
abbrev cB(i:bb):Ev->Mo A:=λ_=>ret (.bl i)
abbrev cS(i:a5):Ev->Mo A:=λ_=>ret (.str i)
abbrev cN:Ev->Mo A:=λ_=>ret .bQ
abbrev cT(n:cm):Ev->Mo A:=λ_=>ret (.ty n)
abbrev a0:Ev->Mo (ai A):=λ_=>ret []
end
end V2
namespace V2
open PySem L2
section
variable{α β:Type}{Z Z':aH}{a:A}
@[simp] theorem aET(x:α)(k:α->Mo β):mb (ret x) k=k x:=rfl
theorem bU{m:Mo α}{k:α->Mo β}{x:α}(h:m Z=ah (.ok x,Z')):mb m k Z=k x Z':=by unfold mb;rw[h]
@[simp] theorem aEU(x:α)(k:α->Mo β):mb (need (ah x)) k=k x:=rfl
theorem SQ{p:Prop} [dm p](k:Unit->Mo β)(h:p):mb (mJ p) k=k ():=by funext j;simp[mb,mJ,h]
@[simp] theorem Rg(x:α):(ret x:Mo α) Z=ah (.ok x,Z):=rfl
@[simp] theorem aEF:trim Z (ah (.ok a,Z))=ah (.ok a,Z):=by simp only[trim];split <;> rfl
theorem KH{j:aH}(h:Cl Z.length a):trim Z (ah (.ok a,Z++j))=ah (.ok a,Z):=by
 simp only[trim];rw[ax ⟨by simp,h⟩]
@[simp] theorem aEM(x:α)(Y:Ev)(k:α->aH->OS):sM (ret x) Y k=k x:=rfl
theorem dP{m:Mo α}{Y:Ev}{k:α->aH->OS}{x:α}(h:m Z=ah (.ok x,Z')):sM m Y k Z=k x Z':=by unfold sM;rw[h]
@[simp] theorem SD(Y:Ev):bT (ah (.ret a,Y,Z))=ah (.ok a,Z):=rfl
@[simp] theorem zC(Y:Ev):bT (ah (.nx,Y,Z))=ah (.ok .bQ,Z):=rfl
theorem bC{f g:MS}{Y Y1:Ev}(h:f Y Z=ah (.nx,Y1,Z')):aT f g Y Z=g Y1 Z':=by unfold aT;rw[h]
theorem Qx{f g:MS}{Y Y1:Ev}(h:f Y Z=ah (.ret a,Y1,Z')):aT f g Y Z=ah (.ret a,Y1,Z'):=by unfold aT;rw[h]
theorem HS{α:Type}(xs:ai α)(n:ay):jV xs (n:a6)=xs[n]?:=by
 unfold jV tZ;rw[ax (by omega)]
 by_cases h:(n:a6)<xs.length
 ·rw[ax h];simp
 ·rw[a8 h];simp;omega
theorem WO{α:Type}(xs:ai α)(n:ay):jV xs (OfNat.ofNat n:a6)=xs[n]?:=HS xs n
theorem aBW{α:Type}(xs:ai α):jV xs 0=xs[0]?:=HS xs 0
theorem aBX{α:Type}(xs:ai α):jV xs 1=xs[1]?:=HS xs 1
end
@[simp] theorem aD7:uA "int" "int" = ah au:=by simp[uA]
@[simp] theorem aD8:uA "int" "bool" = ah ao:=by simp[uA]
@[simp] theorem aD5:uA "tuple" "tuple" = ah au:=by simp[uA]
@[simp] theorem aD6:uA "list" "list" = ah au:=by simp[uA]
@[simp] theorem aoI(Z:aH)(ds:ai A):dY Z (.lst ds)=ah ds:=rfl
@[simp] theorem aEX(Z:aH)(ns:ai a6):dY Z (.iU ns)=ah (ns.map A.int):=rfl
@[simp] theorem aEW(Z:aH)(ds:ai A):dY Z (.tup ds)=ak:=rfl
@[simp] theorem aEY(Z:aH)(i:a6):dY Z (.int i)=ak:=rfl
@[simp] theorem aEJ(Z:aH)(ds:ai A):iP Z (.lst ds)=ah ds:=rfl
@[simp] theorem aEI(Z:aH)(ns:ai a6):iP Z (.iU ns)=ah (ns.map A.int):=rfl
@[simp] theorem aEH(Z:aH)(ds:ai A):iP Z (.tup ds)=ah ds:=rfl
@[simp] theorem aEK(Z:aH)(k:ay):iP Z (.aB k)=dY Z (.aB k):=rfl
@[simp] theorem aED(Z:aH)(i:a6):mZ Z (.int i)=ah "int":=rfl
@[simp] theorem aEE(Z:aH)(i:bb):mZ Z (.bl i)=ah "bool":=rfl
@[simp] theorem aEA(Z:aH)(i:a5):mZ Z (.str i)=ah "str":=rfl
@[simp] theorem aEB(Z:aH):mZ Z .bQ=ah "NoneType":=rfl
@[simp] theorem aD9(Z:aH)(ds:ai A):mZ Z (.tup ds)=ah "tuple":=rfl
@[simp] theorem aEC(Z:aH)(ds:ai A):mZ Z (.lst ds)=ah "list":=rfl
@[simp] theorem aE1:BV .bQ=ah au:=rfl
@[simp] theorem aE3(i:a6):BV (.int i)=ah ao:=rfl
@[simp] theorem aE0(ds:ai A):BV (.tup ds)=ah ao:=rfl
@[simp] theorem aE2(ds:ai A):BV (.lst ds)=ah ao:=rfl
@[simp] theorem aE4(b:bb):BV (.bl b)=ah ao:=rfl
theorem oS{Z:aH}{k:ay}{ds:ai A}(h:Z[k]?=ah (.lst ds)):dY Z (.aB k)=ah ds:=by simp[dY,h]
theorem adO{Z:aH}{k:ay}{ds:ai A}(h:Z[k]?=ah (.lst ds)):mZ Z (.aB k)=ah "list":=by simp[mZ,h]
theorem az1{Z:aH}{k:ay}{ds:ai A}(h:Z[k]?=ah (.lst ds)):HL Z (.aB k)=ah (k,ds):=by simp[HL,h]
theorem aq5{Z:aH}{a:A}{ds:ai A}(h:dY Z a=ah ds):Es Z a:=⟨ds,h⟩
@[simp] theorem rC(Z:aH)(c:Cell):(Z++[c])[Z.length]?=ah c:=by simp
@[simp] theorem KU(Z:aH)(c d:Cell):(Z++[c]).set Z.length d=Z++[d]:=by simp
section
variable{ok:aH->Prop}{g:A->MS}{b:MS}{x:A}{xs:ai A}{Y Y0 Y1:Ev}{Z Z0 Z1:aH}{a:A}
theorem CQ(h:ok Z):eO ok g b [] Y Z=ah (.nx,Y,Z):=by simp[eO,h]
theorem uM(h:ok Z)(j:g x Y Z=ah (.nx,Y0,Z0))(hb:b Y0 Z0=ah (.nx,Y1,Z1)):eO ok g b (x::xs) Y Z=eO ok g b xs Y1 Z1:=by simp[eO,h,j,hb]
end
open PySem PySem.Spec PyProof.Rows L2
def XR(K:ba)(a:aq):It :=
 ⟨λi H=>∃xs x,fA K H a xs/\xs[i]?=ah x,λi H x H'=>∃p y,H p=ak/\H'=upd H p (.tup [.int (i:a6),y])/\x=.ref p/\∀xs,fA K H a xs->xs[i]?=ah y,λi H=>∃xs,fA K H a xs/\xs.length<=i⟩
section
variable{X:Cx}{aa:ai (aq×cj)}{J:L2.St}{H:Hp}{s:ar}{h':bu}
theorem Inv.adP{t':ay}{e it:aq}(I:Inv X aa J H s)(k:∀b o,b≠e->b≠it->s.heap.get? b=ah o->h'.get? b=ah o)(fe:pR X aa H e)(d:pR X aa H it):Inv X aa J H {s with heap:=h',toks:=t' }:=by
 obtain⟨a0,a1,a2,w,t,p⟩:=fe;obtain⟨l,B,x,i,h,g⟩:=d;have ne:∀b u,H b=ah u->b≠e:=λb u q z=>by rw[z,a0]at q;cases q
 have L:∀b u,H b=ah u->b≠it:=λb u q z=>by rw[z,l]at q;cases q
 refine I.step (g':=s.gens) (d':=s.drawn) (ch:=[e,it]) (λb hb=>?_) (λb o _ _ j q _=>k b o (λz=>j (by simp[z])) (λz=>j (by simp[z])) q) (λb o _ _ j q _=>⟨o.slots,k b o (λz=>j (by simp[z])) (λz=>j (by simp[z])) q⟩) (λ_ _ _ _ n=>n)
  (λb o j q=>⟨o,k b o (λz=>j (by simp[z])) (λz=>j (by simp[z])) q⟩) (λ_ _ q=>q) (λ_ _ _ q=>q) (λb ps q=>⟨#[],by rw[q];simp⟩) (λm hm=>?_) (λb u q=>?_) I.bare
 ·rcases eB.mp hb with z|z
  ·subst z;exact⟨w,a1,t,p⟩
  ·have z:b=it:=by simpa using z
   subst z;exact⟨i,B,h,g⟩
 ·obtain⟨o,es,f,a,r⟩:=hm;exact⟨o,es,f,k _ o (cK a1) (cK B) a,r⟩
 ·refine(I.aL b u q).nR (λc v j U=>k c v ?_ ?_ U) (λ_ q=>q) λ_ _ q=>q
  ·rcases j with z|z
   ·rw[z];exact ne b u q
   ·exact ne c _ z
  ·rcases j with z|z
   ·rw[z];exact L b u q
   ·exact L c _ z
end
theorem Inv.ZM{X:Cx}{aa:ai (aq×cj)}{J:L2.St}{H:Hp}{s:ar}{p:aq}{o:HO}(I:Inv X aa J H s)(j:H p=ak)(h0:X.s₀.heap.get? p=ak)(U:p≠X.env.locals)(d:∀x c,X.env.cells.lookup x=ah c->c≠p)(L:∀q∈X.pn++aa,q.1≠p)
  (aL:fE X.prog X.w (upd H p o) s.heap):Inv X aa J (upd H p o) s where
 ok:=I.ok
 os:=I.os
 bare:=I.bare
 base:={
  keep:=I.base.keep
  slot:=I.base.slot
  free:=λb ob q n B=>by
   have hb:b≠p:=λz=>by subst z;rw[h0]at q;cases q
   rw[bH hb];exact I.base.free b ob q n B
  there:=I.base.there
  lO:=λb xs q=>by have z:=I.base.lO b xs q;rw[bH (iW z j)];exact z
  kN:=λb ob u q=>by have z:=I.base.kN b ob u q;rw[bH (iW z j)];exact z
  lP:=λb ps q=>by obtain⟨more,z⟩:=I.base.lP b ps q;exact⟨more,by rw[bH (iW z j)];exact z⟩}
 loc:=I.loc
 cell:=I.cell
 free:=by rw[bH (cK U)];exact I.free
 jU:=λx c q=>by rw[bH (d x c q)];exact I.jU x c q
 pin:=λq hq=>by
  obtain⟨a,b,c⟩:=I.pin q hq;exact⟨a,by rw[bH (L q hq)];exact b,c⟩
 aL:=aL
 len:=I.len
theorem adT{P:a9}{w:bh}{K:ba}{elts:ai bp}{R:ay}{S:cq}(a e it:aq)(dB:e≠it):Turn P w K (.Tuple elts R S) (XR K a) [e,it] e (λi h=>(∃old,IsEnum h e it (i:a6) old)/\h.IsListIter it a i)where
 mem:=by simp
 obj:=λi h st b hb=>by
  obtain⟨⟨old,j⟩,o,q,c,d⟩:=st
  rcases eB.mp hb with z|z
  ·subst z;exact⟨_,j,λv z=>by cases z⟩
  ·have z:b=it:=by simpa using z
   subst z;exact⟨o,q,λv z=>by rw[d]at z;cases z⟩
 keep:=λi h h' st k=>⟨let ⟨old,q⟩:=st.1; ⟨old,k e (by simp) _ q⟩,st.2.at λo q=>k it (by simp) o q⟩
 item:=by
  intro X t m y F i aa s J H E I U st r;subst t m y;obtain⟨⟨old,j⟩,L⟩:=st;obtain⟨C,x,hq,l⟩:=r;obtain⟨aU,rv,p,hz⟩:=I.list hq;obtain⟨u,hu,W⟩:=rv.get l;have M:=U e (by simp);have G:=U it (by simp);have N:e<s.heap.objs.size:=dE j;have n:it<s.heap.objs.size:=let ⟨_,q,_⟩:=L;dE q;refine wpAny_pyNext_enum_item j L p.isList (x:=u) (by simpa using hu) dB λh1 e1 i1 V z1 k1=>?_;refine⟨_,rfl,wpAny_letOwnedTupleGo_enum (s:={s with heap:=h1,toks:=s.toks+1}) e1 λh2 e2 g=>?_⟩;have B:H s.heap.objs.size=ak:=I.aL.fresh cU;have k2:∀b o,b≠e->b≠it->s.heap.get? b=ah o->h2.get? b=ah o:=λb o D n2 q=>g.extBut b o D (k1 b o D n2 q);have T:h2.get? s.heap.objs.size=ah {cls:=.type "tuple",data:=.seq #[.int (i:a6) s.toks,u]}:=g.extBut _ _ (DH N) V;have Q:Inv X aa J H {s with heap:=h2,toks:=s.toks+1}:=Inv.adP (t':=s.toks+1) I k2 M G;have i2:h2.IsListIter it a (i+1):=i1.extBut g.extBut (cK dB);have aL:fE X.prog X.w (upd H s.heap.objs.size (.tup [.int (i:a6),x])) h2:=by
   refine λb o q=>?_
   by_cases f:b=s.heap.objs.size
   ·subst f;rw[eA]at q;cases q;exact⟨by show 2<=a7;decide,[.int (i:a6) s.toks,u],.cons ⟨_,rfl⟩ (.cons W .nil),⟨_,T,rfl,_,rfl⟩⟩
   ·rw[bH f]at q;exact(Q.aL b o q).nR (λc v _ z=>z) (λc z=>by rw[bH (iW z B)];exact z) λc C z=>by rw[bH (iW z B)];exact z
  have A:pR X aa H s.heap.objs.size:=I.vP cU B;have h0:X.s₀.heap.get? s.heap.objs.size=ak:=by
   cases q:X.s₀.heap.get? s.heap.objs.size with
   |none=>rfl
   |some ob=>exact bz (kT (dE q) I.sz) (Nat.lt_irrefl _)
  have I2:Inv X aa J (upd H s.heap.objs.size (.tup [.int (i:a6),x])) {s with heap:=h2,toks:=s.toks+1}:=Inv.ZM Q B h0 A.2.1 A.2.2.2.2.1 A.2.2.2.2.2 aL;refine⟨.ref s.heap.objs.size,_,I2,rfl,⟨_,x,B,rfl,rfl,λys hy=>by rw[I.Um hy hq];exact l⟩,⟨⟨_,e2⟩,i2⟩,λb hb=>?_⟩
  rcases eB.mp hb with z|z
  ·subst z;rw[bH (dX N)];exact M.1
  ·have z:b=it:=by simpa using z
   subst z;rw[bH (dX n)];exact G.1
 done:=by
  intro X t m y F i aa s J H E I U st r;subst t m y;obtain⟨⟨old,j⟩,L⟩:=st;obtain⟨C,hq,l⟩:=r;obtain⟨aU,rv,p,hz⟩:=I.list hq;obtain⟨f0,f1,f2,f3,f4,f5⟩:=U it (by simp);have hl:=rv.length;exact wpAny_pyNext_enum_end (I.ok.hd F) j L p.isList (by simp;omega) λh' f=>⟨rfl,I.turned (t':=s.toks) (λb o hb e=>f b o hb e) f0 f1 f3 f4 f5⟩
 self:=λ_ _ _ _ _ st h=>let ⟨_,q⟩:=st.1;wpAny_pyIter_enum q h
section
variable{X:Cx}{W:WX}{pos:cq}
theorem akS{elts:ai bp}{U:ay}{c p:cq}{l:bp}{tl:TE}(k:Gl X "enumerate")(hm:X.mg "enumerate" = ak)(hl:PE X l tl)(hs:az [l] X.env=[(ao,br l X.env)]:=by rfl) :
  PI X (.Tuple elts U c) (.Call (.Name "enumerate" p) [l] [] pos) (λJ H R=>tl J H λx H1=>∃a,x=.ref a/\(∃xs,fA X.K H1 a xs)/\R (XR X.K a) H1):=by
 intro aa s J H R I h;refine uY (tW I k hm boot_enumerate ?_);refine HY (bN (wV hl wU hs pos aa s J H (λvs H1=>match vs with
  |[x]=>∃a,x=V.ref a/\(∃xs,fA X.K H1 a xs)/\R (XR X.K a) H1
  | _=>b5) I h) λus s1 ⟨vs,H1,j,e,B⟩=>?_) hs rfl
 match vs,B with
 |[x],B =>
 obtain⟨a,n,⟨xs,hq⟩,q⟩:=B;obtain⟨u,rfl,d⟩:=vals1 e;subst n;cases d;obtain⟨t,rv,f,r⟩:=j.list hq;refine call_enumerate_list f.isList λh' L m g i=>?_;refine wpAny_pyIter_enum (s:={s1 with heap:=h' }) L ?_;have o:Inv X aa J H1 {s1 with heap:=h' }:=j.kept (t':=s1.toks) i;refine⟨_,[s1.heap.objs.size+1,s1.heap.objs.size],_,_,H1,rfl,o,adT a _ _ (Nat.succ_ne_self _),⟨⟨.none,L⟩,m⟩,λb hb=>?_,q⟩
 rcases eB.mp hb with z|z
 ·subst z;exact j.vP (qI _) (j.aL.fresh (qI _))
 ·have z:b=s1.heap.objs.size:=by simpa using z
  subst z;exact j.vP cU (j.aL.fresh cU)
noncomputable def xO:ay->ai A->ai A
 |_,[]=>[]
 |n,x::xs => .tup [.int (n:a6),x]::xO (n+1) xs
theorem Hv:∀(n:ay) (xs:ai A),(xO n xs).length=xs.length
 |_,[]=>rfl
 |n,x::xs=>by simp only[xO,lH,Hv (n+1) xs]
theorem Xy:∀(n i:ay) (xs:ai A),(xO n xs)[i]?=xs[i]?.map λx => .tup [.int ((n+i:ay):a6),x]
 |_,_,[]=>by simp[xO]
 |n,0,x::xs=>by simp[xO]
 |n,i+1,x::xs=>by
  simp only[xO,List.getElem?_cons_succ];rw[Xy (n+1) i xs];have e:n+1+i=n+(i+1):=by omega
  rw[e]
def enumSrc(a:A)(ds:ai A):Src:=⟨xO 0 ds,λZ=>dY Z a=ah ds⟩
@[simp] def Pf(f:Ev->Mo A):Ev->Mo Src:=λY=>mb (f Y) λa Z=>match dY Z a with
 |some ds=>ah (.ok (enumSrc a ds),Z)
 |none=>ak
theorem aqW{K:ba}{G:Hp}{O:ai aq}{p:aq}{a:A}{ds:ai A}(d:Den K G O (.ref p) a):DP K G O (XR K p) (enumSrc a ds):=by
 have key:∀U j B H',Ext G O U j->Wd K U j B H'->dY B a=ah ds->∃L,fA K H' p L/\aX K U j L ds:=λU j B H' e w h=>by
  obtain⟨q,L,h1,h2,b⟩:=qY w (d.ext e) h;cases h1;exact⟨L,h2,b⟩
 refine⟨λU j B H' e w h i hi=>?_,λU j B H' e w h i hi=>?_,λU j B H' e w h i x r y hy hd=>?_⟩
 ·obtain⟨L,h2,b⟩:=key U j B H' e w h;have hl:i<L.length:=by rw[b.length,<-Hv 0 ds];exact hi
  exact⟨L,L[i],h2,lI hl⟩
 ·obtain⟨L,h2,b⟩:=key U j B H' e w h;exact⟨L,h2,by rw[b.length,<-Hv 0 ds];exact hi⟩
 ·obtain⟨L,h2,b⟩:=key U j B H' e w h;obtain⟨q,z,f,n,m,l⟩:=hd;subst n m;have c:(xO 0 ds)[i]?=ah y:=hy;rw[Xy]at c;cases ed:ds[i]? with
  |none=>rw[ed]at c;cases c
  |some d' =>
   rw[ed]at c;cases c;obtain⟨o,g,k⟩:=b.get ed;rw[l L h2]at g;cases g;refine⟨upd U q (.tup [.int (i:a6),z]),Ext.new (w.oY f) _,w.new f _,?_⟩;simp only[Den];exact⟨q,_,rfl,eA,.cons (by simp only[Den,Nat.zero_add]) (.cons (k.ext (Ext.new (w.oY f) _)) .nil)⟩
theorem acW{elts:ai bp}{B:ay}{g p:cq}{l:bp}{fe:Ev->Mo A}(i:Gl X "enumerate")(hm:X.mg "enumerate" = ak)(h:VE X W l fe)(hs:az [l] X.env=[(ao,br l X.env)]:=by rfl) :
  VI X W (.Tuple elts B g) (.Call (.Name "enumerate" p) [l] [] pos) (Pf fe):=by
 obtain⟨t,p,s⟩:=h;refine⟨_,akS i hm p hs,λG c d H J b R w r h=>?_⟩;refine s G c d H J b _ w r (bR.mb h λa z v m n j B L U h1=>?_);cases e:dY z a with
 |none=>simp only[e]at h1;exact False.elim h1
 |some ds =>
  simp only[e]at h1;obtain⟨q,f,h2,k,o⟩:=qY L U e;subst h2;exact⟨q,rfl,⟨f,k⟩,h1 _ m n j (Ext.refl _ _) L (aqW U)⟩
theorem acQ{st:bo}:VS X W st (λ_ _=>ak):=⟨_,akD,λ_ _ _ _ _ _ _ _ _ h=>h.elim⟩
theorem acJ{st:ai bo}:fN X W st (λ_ _=>ak):=⟨_,aj5,λ_ _ _ _ _ _ _ _ _ h=>h.elim⟩
end
noncomputable def BS(n:ay)(q:ai ay)(Y:Ev):Ev:=List.replicate n ak++q.map (λj=>(Y[j]?).join)
def DC(X:Cx)(W:WX)(ifs:ai bp)(f:Ev->Mo bb):Prop:=∃t,DE X ifs t/\fR X.K FE W t f
abbrev uW:Ev->Mo bb:=λ_=>ret au
theorem JV{X:Cx}{W:WX}:DC X W [] uW:=⟨_,akO,λ_ _ _ _ _ _ _ w _ q=>lA w rfl q⟩
theorem YR{X:Cx}{W:WX}{c:bp}{f:Ev->Mo bb}(h:VT X W c f):DC X W [c] f:=let ⟨t,p,s⟩:=h; ⟨t,akN p,s⟩
open Classical in
noncomputable def pL(ok:aH->Prop)(g:A->MS)(c:Ev->Mo bb)(e:Ev->Mo A)(n:ay):ai A->Ev->aH->av (Ev×aH)
 |[],Y,Z=>if ok Z then ah (Y,Z)else ak
 | x::xs,Y,Z=>if ok Z then(match g x Y Z with
  | some (.nx,Y1,Z1)=>(match c Y1 Z1 with
   | some (.ok au,Z2)=>(match e Y1 Z2 with
    | some (.ok y,Z3)=>(match Z3[n]? with
     |some (.lst ys)=>if ys.length<a7 then pL ok g c e n xs Y1 (Z3.set n (.lst (ys++[y])))else ak
     | _=>ak)
    | _=>ak)
   |some (.ok ao,Z2)=>pL ok g c e n xs Y1 Z2
   | _=>ak)
  | _=>ak)else ak
open Classical in
noncomputable def Ef(cf:bb)(Z1:aH)(r:av (Ev×aH)):av (Rs A×aH):=match r with
 | some (_,Z')=>(match Z'[Z1.length]? with
  |some (.lst ys)=>if cf then ah (.ok (.aB Z1.length),Z')else if Z'.take Z1.length=Z1/\fX Z1.length ys then ah (.ok (.lst ys),Z1)else ah (.ok (.lst ys),Z'.set Z1.length .dead)
  | _=>ak)
 |none=>ak
noncomputable def mD(q:bb)(n:ay)(j:ai ay)(fi:Ev->Mo Src)(g:A->MS)(c:Ev->Mo bb)(e:Ev->Mo A):Ev->Mo A:=λY=>mb (fi Y) λS Z1=>Ef q Z1 (pL S.ok g c e Z1.length S.ds (BS n j Y) (Z1++[.lst []]))
theorem awI{ok:aH->Prop}{g:A->MS}{c:Ev->Mo bb}{e:Ev->Mo A}{n:ay}{xs:ai A}{Y:Ev}{Z:aH}{r:Ev×aH}(h:pL ok g c e n xs Y Z=ah r):ok Z:=by
 cases xs with
 |nil=>unfold pL at h;by_cases j:ok Z;exact j;rw[a8 j]at h;cases h
 |cons=>unfold pL at h;by_cases j:ok Z;exact j;rw[a8 j]at h;cases h
theorem aoR{K:ba}{G:Hp}{O:ai aq}{J:L2.St}{Y:Ev}(q:ai a5)(z:ai ay)(r:fT K G O J Y):fT K G O (zH q z J) (BS q.length z Y):=by
 unfold zH BS;refine⟨by simp,λi d h=>?_⟩
 by_cases hi:i<q.length
 ·rw[eQ (by simpa using hi)]at h;rw[List.getElem?_replicate,ax hi]at h;cases h
 ·rw[sZ (by simpa using Le hi),List.length_replicate,iZ]at h;cases e:z[i-q.length]? with
  |none=>rw[e]at h;cases h
  |some j =>
   rw[e]at h;have h':(Y[j]?).join=ah d:=nK h;obtain⟨v,L,B⟩:=r.2 j d (join_some h');refine⟨v,?_,B⟩;rw[sZ (by simpa using Le hi),fI,iZ,e];show ah (J[j]?).join=_;rw[L];rfl
section
variable{K:ba}{W:WX}
theorem Qu{E:ai a5}{F:ai ay}{wi:TI}{tg:TG}{tc:TT}{te:TE}{fi:Ev->Mo Src}{g:A->MS}{c:Ev->Mo bb}{e:Ev->Mo A}{cf:bb}(W0:WX)(hi:fR K (Cn K) W wi fi)(hg:HX K W0 tg g)(hc:fR K FE W0 tc c)(he:fR K (Den K) W0 te e) :
  fR K (Den K) W (QX E F wi tg tc te) (mD cf E.length F fi g c e):=by
 intro G O Z H J Y Q w r h;refine hi G O Z H J Y _ w r (bR.mb h λS a σ H1 s B x1 w1 j1 h1=>?_);intro D hD;unfold Ef at h1;cases er:pL S.ok g c e a.length S.ds (BS E.length F Y) (a++[.lst []])with
 |none=>rw[er]at h1;exact False.elim h1
 |some rr =>
 obtain⟨R,V⟩:=rr;rw[er]at h1;simp only at h1;have hw0:Wd K s (B++[D]) (a++[.lst []]) (upd H1 D (.lst [])):=w1.cell hD ⟨w1.oY hD,[],eA,.nil⟩;have r0:fT K s (B++[D]) (zH E F J) (BS E.length F Y):=aoR E F (r.ext (x1.trans (Ext.cell D)));have Xa:(B++[D])[a.length]?=ah D:=by rw[<-w1.len];simp
 refine⟨λi m J' H'=>m=S.ds.length-i/\i<=S.ds.length/\∃f j L d,Ext s (B++[D]) f j/\Wd K f j L H'/\fT K f j J' d/\pL S.ok g c e a.length (S.ds.drop i) d L=ah (R,V),
  ⟨_,rfl,IA _,s,_,_,_,Ext.refl _ _,hw0,r0,by simpa using er⟩,?_⟩
 rintro i m J' H' ⟨rfl,Wg,f,j,L,d,e',u,r',h'⟩;have aL:=awI h';have M:Ext s B f j:=(Ext.cell D).trans e'
 by_cases dZ:i<S.ds.length
 ·right
  refine⟨j1.go f j L H' M u aL i dZ,λP H2=>∃G2 p Z2 T,Ext s (B++[D]) G2 p/\Wd K G2 p Z2 H2/\fT K G2 p P T/\pL S.ok g c e a.length (S.ds.drop (i+1)) T Z2=ah (R,V),λP H2 n=>?_,λx H2 y=>?_⟩
  ·exact⟨S.ds.length-(i+1),by omega,rfl,dZ,n⟩
  ·obtain⟨G2,e2,w2,d2⟩:=j1.yM f j L H' M u aL i x H2 S.ds[i] (lI dZ) y;rw[abN dZ]at h';unfold pL at h';rw[ax aL]at h';refine hg G2 j L H2 J' d x S.ds[i] ⟨_,λ_ _=>b5,λ_ _=>b5,λ_ _=>b5⟩ w2 (r'.ext e2) d2 ?_
   revert h'
   generalize g S.ds[i] d L=q;intro h';split at h'
   ·rename_i U X;intro N H3 G3 O3 x3 w3 r3;refine hc G3 O3 X H3 N U _ w3 r3 ?_
    revert h'
    generalize c U X=C;intro h';split at h'
    ·rename_i k;intro b H4 G4 o t w4 hb;cases(show b=au from hb);rw[ax rfl];refine he G4 o k H4 N U _ w4 (r3.ext t) ?_
     revert h'
     generalize e U k=q3;intro h';split at h'
     ·rename_i z Z5;intro v H5 G5 O5 x5 w5 d5;split at h'
      ·rename_i ys ey;split at h'
       ·rename_i hl;have eD:=(((e'.trans e2).trans x3).trans t).trans x5;have I:=eD.pre _ _ Xa;obtain⟨l,xs,q1,C⟩:=w5.aB _ _ D ey I;refine⟨xs,q1,by rw[C.length];exact hl,G5,O5,_,U,eD,w5.put (c:=.lst (ys++[z])) I l ⟨l,_,eA,C.append (.cons d5 .nil)⟩,(r3.ext t).ext x5,h'⟩
       ·cases h'
      ·cases h'
     ·cases h'
    ·rename_i k;intro b H4 G4 o t w4 hb;cases(show b=ao from hb);rw[a8 (by simp)];exact⟨G4,o,k,U,((e'.trans e2).trans x3).trans t,w4,r3.ext t,h'⟩
    ·cases h'
   ·cases h'
 ·have MI:i=S.ds.length:=by omega
  subst MI
  left
  refine⟨j1.stop f j L H' M u aL _ cU,?_⟩;rw[List.drop_length]at h';unfold pL at h';rw[ax aL]at h';cases h';split at h1
  ·rename_i ys ey;have I:=e'.pre _ _ Xa;obtain⟨l,xs,q1,C⟩:=u.aB _ _ D ey I;split at h1
   ·exact h1 _ H' f j M u (by simp only[Den];exact⟨D,rfl,I⟩)
   ·have wf:=u.freeze I l q1;split at h1
    ·rename_i Wm;have eC:Ext s B (upd f D (.lst xs)) j:=M.trans (Ext.new l _);have wc:=w1.cut wf eC (by rw[List.take_set_of_le cU];exact Wm.1);refine h1 _ H' _ B ⟨eC.same,λ_ _ q=>q⟩ wc ?_;simp only[Den];exact⟨D,xs,rfl,eA,(C.ext (Ext.new l _)).cut eC.cut (by rw[w1.len];exact Wm.2)⟩
    ·refine h1 _ H' _ j (M.trans (Ext.new l _)) wf ?_;simp only[Den];exact⟨D,xs,rfl,eA,C.ext (Ext.new l _)⟩
  ·exact False.elim h1
end
def ZU{α β:Type}(K:ba)(rel:Rl α β)(W:WX)(f:Ev->Mo α):L2.St->Hp->(β->Hp->Prop)->Prop:=λJ H Q=>∃G O Z Y,Wd K G O Z H/\fT K G O J Y/\bR K rel W G O J Q (f Y Z)
def Qe(K:ba)(W:WX)(g:A->MS):TG:=λv J H Q=>∃G O Z Y a D,Wd K G O Z H/\fT K G O J Y/\Den K G O v a/\eL K W G O D (g a Y Z)/\D.nx=Q
theorem RK{α β:Type}{K:ba}{rel:Rl α β}{W:WX}{f:Ev->Mo α}:fR K rel W (ZU K rel W f) f:=λG q z H J j Q w r h=>⟨G,q,z,j,w,r,h⟩
theorem Qw{K:ba}{W:WX}{g:A->MS}:HX K W (Qe K W g) g:=λG q z H J j v a D w r d h=>⟨G,q,z,j,a,D,w,r,d,h,rfl⟩
theorem VE.qD{X:Cx}{W:WX}{e:bp}{f:Ev->Mo A}(h:VE X W e f):PE X e (ZU X.K (Den X.K) W f):=by
 obtain⟨t,p,s⟩:=h;exact λaa L J H Q I ⟨G,z,B,j,w,r,q⟩=>p aa L J H Q I (s G z B H J j Q w r q)
theorem DC.qD{X:Cx}{W:WX}{ifs:ai bp}{f:Ev->Mo bb}(h:DC X W ifs f):DE X ifs (ZU X.K FE W f):=by
 obtain⟨t,p,s⟩:=h;exact λaa L J H Q I ⟨G,z,B,j,w,r,q⟩=>p aa L J H Q I (s G z B H J j Q w r q)
theorem VG.qD{X:Cx}{W:WX}{tg:bp}{g:A->MS}(h:VG X W tg g):PG X tg (Qe X.K W g):=by
 obtain⟨t,p,s⟩:=h;intro aa L J H v u Q I rv h;obtain⟨G,z,B,j,a,D,w,r,d,q,e⟩:=h;exact p aa L J H v u Q I rv (e ▸ s G z B H J j v a D w r d q)
abbrev kH:WX:=λ_ _ _ _=>b5
theorem ac5{X:Cx}{W:WX}{elt tg iter:bp}{ifs:ai bp}{scope:cp}{pos:cq}{fi:Ev->Mo Src}{g:A->MS}{c:Ev->Mo bb}{e:Ev->Mo A}(B:bb)(j:ai a5)(q:ai ay)(z:X.calm=au)(L:uU X scope j q)(hi:VI X W tg iter fi)
  (hb:∀cl C s H fp,VG (gL X scope j q cl C s H fp) kH tg g/\DC (gL X scope j q cl C s H fp) kH ifs c/\VE (gL X scope j q cl C s H fp) kH elt e)
  (hs:∀x,cb iter X.env x=pure x:=by intro _;rfl):VE X W (.ListComp elt [⟨tg,iter,ifs,0⟩] scope pos) (mD B j.length q fi g c e):=by
 obtain⟨U,p1,s1⟩:=hi;exact⟨_,alB z L p1 (λcl C s H fp=>⟨(hb cl C s H fp).1.qD,(hb cl C s H fp).2.1.qD,(hb cl C s H fp).2.2.qD⟩) hs,Qu _ s1 Qw RK RK⟩
noncomputable def sortI(ns:ai a6):ai a6:=ns.mergeSort λa b=>decide (a<=b)
theorem sortI_perm(ns:ai a6):(sortI ns).Perm ns:=List.mergeSort_perm ns _
theorem Ad(ns:ai a6):(sortI ns).Pairwise (· <= ·):=by
 have h:=List.pairwise_mergeSort (le:=λa b:a6=>decide (a<=b)) (λa b c h1 h2=>by simp at h1 h2 ⊢;omega) (λa b=>by simp;omega) ns;exact h.imp λh=>Tj h
theorem BC{ns ms:ai a6}(p:ms.Perm ns)(h:ms.Pairwise (· <= ·)):ms=sortI ns :=
 List.Perm.eq_of_pairwise (le:=(· <= ·)) (λa b _ _ h1 h2=>Int.le_antisymm h1 h2) h (Ad ns) (p.trans (sortI_perm ns).symm)
theorem EY(ns:ai a6):(sortI ns).length=ns.length:=(sortI_perm ns).length_eq
section
variable{X:Cx}{W:WX}
theorem YX:∀{us:ai aj} {ns:ai a6},cg us ns->Vals (ns.map V.int) us
 |_,_,.nil => .nil
 |_,_,.cons n t h => .cons ⟨t,rfl⟩ (YX h)
theorem aAA:mT X (.builtin "sorted") (λxs H Q=>∃(a:aq) (ns:ai a6),xs=[.ref a]/\fA X.K H a (ns.map V.int)/\ns.length<64/\∀l,H l=ak->Q (.ref l) (upd H l (.lst ((sortI ns).map V.int)))):=by
 intro aa s J H xs us Q I r h;obtain⟨a,ns,rfl,hq,g,q⟩:=h;obtain⟨u,rfl,z⟩:=vals1 r;cases z;obtain⟨j,rv,B,i⟩:=I.list hq;have L:cg j ns:=intsAre_of rv;have hl:j.length=ns.length:=by rw[<-rv.length,fI]
 refine sorted_ints B.isList L (by omega) λae f d c U=>?_;obtain⟨e,he⟩:=sortedAll_at s.heap j ae;have hn:=BC c U;subst hn;refine⟨.ref (s.heap.objs.size+1),_,I.laid (t':=s.toks) (o:=.lst ((sortI ns).map V.int)) (λb o q=>sortedAll_old q) (qI _) ?_,rfl,q _ (I.aL.fresh (qI _))⟩;exact⟨by rw[fI,EY,jP];omega,ae.toList,e,YX d,he⟩
@[simp] def NA(c:bb)(as:ai A):Mo A:=λZ=>match as with
 | [a]=>(match (dY Z a).bind intsOf with
  |some ns=>if ns.length<64 then jD c ((sortI ns).map A.int) Z else ak
  | none=>ak)
 |_=>ak
theorem aAO(c:bb):qP X W (.builtin "sorted") (NA c):=by
 refine⟨_,aAA,?_⟩;intro G U b H J g i Q w d h;unfold NA at h;split at h
 ·rename_i a;split at h
  ·rename_i ns e;split at h
   ·rename_i j;obtain⟨x,rfl,L⟩:=vR d;rw[sW]at e;obtain⟨ds,B,z⟩:=e;obtain⟨p,f,rfl,h2,q⟩:=qY w L B;rw[BX z q]at h2;exact⟨p,ns,rfl,h2,j,λl hl=>pY w hl (HC _) h⟩
   ·exact False.elim h
  ·exact False.elim h
 ·exact False.elim h
end
end V2
namespace M
open PySem V2
@[simp] abbrev aM:=V2.dO 0
@[simp] abbrev aW:=V2.dO 1
@[simp] abbrev bX:=V2.dO 2
@[simp] abbrev cH:=V2.dO 3
@[simp] abbrev dG:=V2.dO 4
@[simp] abbrev fP:=V2.dO 5
@[simp] abbrev eR:=V2.dO 6
@[simp] abbrev tF:=V2.dO 7
@[simp] abbrev rZ:=V2.dO 8
@[simp] abbrev rY:=V2.dO 9
@[simp] abbrev EK:=V2.dO 10
@[simp] abbrev cM:=V2.cI 0
@[simp] abbrev cJ:=V2.cI 1
@[simp] abbrev yO:=V2.cI 2
@[simp] abbrev pE:=V2.cI 3
@[simp] abbrev JT:=V2.cI 4
@[simp] abbrev wC5:=V2.cI 5
@[simp] abbrev QA:=V2.cI 6
@[simp] abbrev YN:=V2.cI 7
@[simp] abbrev Oi:=V2.cI 8
@[simp] abbrev oI:=V2.cI 9
@[simp] abbrev yP:=V2.cI 10
@[simp] abbrev bV:=V2.Hc ao
@[simp] noncomputable abbrev aG{α:Type}(a:α)(Z:V2.aH):av (V2.Rs α×V2.aH):=ah (.ok a,Z)
@[simp] noncomputable abbrev fU(Y:V2.Ev)(Z:V2.aH):av (V2.Out×V2.Ev×V2.aH):=ah (.nx,Y,Z)
@[simp] noncomputable abbrev aA(i:a6):av V2.A:=ah (.int i)
@[simp] noncomputable abbrev aE(i:ay):av V2.A:=ah (.aB i)
@[simp] noncomputable abbrev eV(i:ai V2.A):av V2.A:=ah (.lst i)
noncomputable section
def aaB:MS :=
 (aT (bZ (aD (fH) (aD (sO) (aD bV aM cJ) (aD bV (cI 48271) (aD (sO) (cI 118) aW))) (cI 2147483629)) (gN 2))
  (bO (aD (fH) (aD bV (aD bV (aD (sO) (aD (lG) bX (cI 977)) (cI 16807)) (aD (sO) bX (aD bV (aD (sO) aW aW) YN))) aW) (cI 2147483587))))
def DV:ai A->Mo A:=cF 3 aaB
def Jn:MS :=
 (aT (bZ cM (gN 2))
  (aT (dQ (bK (aD uK aW (aR qB (aC aM a0))))
   (bZ (aD (fH) (aD bM aM aW) (cI 2147483647)) (gN 2))
   eG)
  (bO (aR (cA 2 DV) (aC bX (aC (aD bV aW (cI 101)) a0))))))
def DW:ai A->Mo A:=cF 3 Jn
end
end M
namespace V2
open PySem PySem.Spec PyProof.Rows L2
noncomputable def iN(kvs:ai (Key×A))(k:Key):av A:=(kvs.find? λj=>decide (j.1=k)).map (·.2)
noncomputable def nB(kvs:ai (Key×A))(k:Key)(a:A):ai (Key×A) :=
 if kvs.any λj=>decide (j.1=k)then kvs.map (λj=>if j.1=k then(j.1,a)else j)else kvs++[(k,a)]
noncomputable def jS:A->av Key
 |.int i=>ah (.inl i)
 |.str x=>ah (.inr x)
 |_=>ak
section
variable{K:ba}{G:Hp}{O:ai aq}
theorem LX{v:V}{a:A}{k:Key}(d:Den K G O v a)(h:jS a=ah k):v=kV k:=by
 cases a with
 |int i=>simp only[jS,jJ]at h;subst h;simp only[Den]at d;exact d
 |str i=>simp only[jS,jJ]at h;subst h;simp only[Den]at d;exact d
 |_=>simp[jS]at h
theorem QF{k:Key}:∀{ws:ai (Key×V)} {kvs:ai (Key×A)},ws.map (·.1)=kvs.map (·.1)->aX K G O (ws.map (·.2)) (kvs.map (·.2))->(∀a,iN kvs k=ah a->∃v,lN ws k=ah v/\Den K G O v a)/\(iN kvs k=ak->lN ws k=ak)
 |[],[],_,_=>⟨λa h=>(by cases h),λ_=>rfl⟩
 |[],_::_,h,_=>by simp at h
 |_::_,[],h,_=>by simp at h
 |p::ws,q::kvs,h,d=>by
  simp only[cW,IP]at h;obtain⟨x,r,e,l,i⟩:=d.kZ;simp only[cW,IP]at e;obtain⟨g,f⟩:=e;obtain⟨U,L⟩:=QF (k:=k) h.2 (f ▸ i)
  by_cases j:q.1=k
  ·have B:p.1=k:=h.1.trans j;refine⟨λa ha=>?_,λhn=>?_⟩
   ·simp only[iN,DM,j,decide_true,OB,jJ]at ha;exact⟨p.2,by simp[lN,B],by rw[<-ha,g];exact l⟩
   ·simp[iN,j]at hn
  ·have B:¬p.1=k:=λz=>j (h.1.symm.trans z);have b:lN (p::ws) k=lN ws k:=by simp[lN,B]
   have c:iN (q::kvs) k=iN kvs k:=by simp[iN,j]
   rw[b,c];exact⟨U,L⟩
theorem aaF{k:Key}{ws:ai (Key×V)}{kvs:ai (Key×A)}(h:ws.map (·.1)=kvs.map (·.1)):(ws.any λj=>decide (j.1=k))=(kvs.any λj=>decide (j.1=k)):=by
 have z:(ws.any λj=>decide (j.1=k))=(ws.map (·.1)).any λx=>decide (x=k):=by rw[List.any_map];rfl
 have q:(kvs.any λj=>decide (j.1=k))=(kvs.map (·.1)).any λx=>decide (x=k):=by rw[List.any_map];rfl
 rw[z,q,h]
theorem ajU{k:Key}{v:V}{a:A}{ws:ai (Key×V)}{kvs:ai (Key×A)}(h:ws.map (·.1)=kvs.map (·.1)):(putK ws k v).map (·.1)=(nB kvs k a).map (·.1):=by
 unfold putK nB;rw[aaF h];split
 ·rw[sY,sY];have z:ws.map ((·.1) ∘ λj:Key×V=>if j.1=k then(j.1,v)else j)=ws.map (·.1):=IJ λx _=>by simp only[Function.comp];split <;> rfl
  have q:kvs.map ((·.1) ∘ λj:Key×A=>if j.1=k then(j.1,a)else j)=kvs.map (·.1):=IJ λx _=>by simp only[Function.comp];split <;> rfl
  rw[z,q,h]
 ·rw[IK,IK,h];rfl
theorem Sb{k:Key}{v:V}{a:A}(z:Den K G O v a):∀{ws:ai (Key×V)} {kvs:ai (Key×A)},ws.map (·.1)=kvs.map (·.1)->aX K G O (ws.map (·.2)) (kvs.map (·.2))->aX K G O ((ws.map λj=>if j.1=k then(j.1,v)else j).map (·.2)) ((kvs.map λj=>if j.1=k then(j.1,a)else j).map (·.2))
 |[],[],_,_ => .nil
 |[],_::_,h,_=>by simp at h
 |_::_,[],h,_=>by simp at h
 |p::ws,q::kvs,h,d=>by
  simp only[cW,IP]at h;obtain⟨x,r,e,b,U⟩:=d.kZ;simp only[cW,IP]at e;obtain⟨L,B⟩:=e;have ih:=Sb (k:=k) z h.2 (B ▸ U);simp only[cW];refine .cons ?_ ih;rw[h.1];split
  ·exact z
  ·rw[L];exact b
theorem ajV{k:Key}{v:V}{a:A}{ws:ai (Key×V)}{kvs:ai (Key×A)}(h:ws.map (·.1)=kvs.map (·.1))(d:aX K G O (ws.map (·.2)) (kvs.map (·.2)))(j:Den K G O v a):aX K G O ((putK ws k v).map (·.2)) ((nB kvs k a).map (·.2)):=by
 unfold putK nB;rw[aaF h];split
 ·exact Sb j h d
 ·rw[IK,IK];exact d.append (.cons j .nil)
noncomputable def fL(Z:aH):A->av (ay×ai (Key×A))
 |.aB k=>match Z[k]? with
  |some (.aQ kvs)=>ah (k,kvs)
  |_=>ak
 |_=>ak
theorem sT{H:Hp}{Z:aH}{v:V}{a:A}{k:ay}{kvs:ai (Key×A)}(w:Wd K G O Z H)(d:Den K G O v a)(h:fL Z a=ah (k,kvs)):∃p ws,v=.ref p/\O[k]?=ah p/\G p=ak/\H p=ah (.dK ws)/\ws.map (·.1)=kvs.map (·.1)/\aX K G O (ws.map (·.2)) (kvs.map (·.2)):=by
 cases a with
 |aB j =>
  simp only[fL]at h;split at h
  ·rename_i es e;cases h;simp only[Den]at d;obtain⟨p,rfl,q⟩:=d;obtain⟨g,ws,L,B,z⟩:=w.aB k _ p e q;exact⟨p,ws,rfl,q,g,L,B,z⟩
  ·cases h
 |_=>simp[fL]at h
theorem mK{Z:aH}{k:ay}{kvs:ai (Key×A)}(h:Z[k]?=ah (.aQ kvs)):fL Z (.aB k)=ah (k,kvs):=by simp[fL,h]
end
section
variable{X:Cx}{W:WX}{o i e:bp}{pos:cq}{fo fi fe:Ev->Mo A}
@[simp] noncomputable def tJ:Ev->Mo A:=λ_ Z=>ah (.ok (.aB Z.length),Z++[.aQ []])
theorem yQ:VE X W (.Dict [] [] pos) tJ:=by
 refine⟨_,alE,λG q B H J z Q w r h=>?_⟩;intro p j;refine h _ _ G (q++[p]) (Ext.cell p) (w.cell j ⟨w.oY j,[],eA,rfl,.nil⟩) ?_;simp only[Den];exact⟨p,rfl,by rw[<-w.len];simp⟩
@[simp] def xM(o i:A):Mo A:=λZ=>match fL Z o,jS i with
 |some (_,kvs),ah k=>match iN kvs k with
  |some a=>ah (.ok a,Z)
  |none=>ak
 |_,_=>ak
theorem Ov(I:X.A.units+1<dw)(K:VE X W o fo)(hi:VE X W i fi)(hs:Lb i):VE X W (.Subscript o i pos) (aD xM fo fi):=by
 obtain⟨t,p1,s1⟩:=K;obtain⟨u,p2,s⟩:=hi;refine⟨_,alG I p1 p2 hs,λG b d H J B Q w r h=>?_⟩;refine s1 G b d H J B _ w r (bR.mb h λx z v V G1 q f l S h1=>?_);refine s G1 q z V J B _ l (r.ext f) (bR.mb h1 λy c u T G2 j e L R h2=>?_);unfold xM at h2;split at h2
 ·rename_i k0 F k P N;split at h2
  ·rename_i a M;obtain⟨p,ws,rfl,hk,g,E,D,C⟩:=sT L (S.ext e) P;obtain⟨U,n,m⟩:=(QF D C).1 a M;rw[LX R N];exact⟨p,U,rfl,by rw[<-n];exact qN.k E,h2 U T G2 j (Ext.refl _ _) L m⟩
  ·exact False.elim h2
 ·exact False.elim h2
@[simp] def GY(o i z:A):Mo A:=λZ=>match fL Z o,jS i with
 |some (_,kvs),ah k=>ah (.ok ((iN kvs k).getD z),Z)
 |_,_=>ak
def Et(Z:aH)(a:A):Prop:=∃k kvs,fL Z a=ah (k,kvs)
open Classical in
@[simp] noncomputable def iO(fo fi fe:Ev->Mo A):Ev->Mo A:=λY=>mb (fo Y) λo Z=>if Et Z o then mb (fi Y) (λi=>mb (fe Y) λz=>GY o i z) Z else ak
theorem wJ{ag:cq}(hu:X.A.units+1<dw)(ho:VE X W o fo)(hi:VE X W i fi)(he:VE X W e fe)(m:M2 X o "get" ag i e pos):VE X W (.Call (.Attribute o "get" ag) [i,e] [] pos) (iO fo fi fe):=by
 obtain⟨t,p1,s1⟩:=ho;obtain⟨u,p2,s2⟩:=hi;obtain⟨u',p3,V⟩:=he;refine⟨_,alF hu p1 p2 p3 m,λG K N H J L Q w r h=>?_⟩;refine s1 G K N H J L _ w r (bR.mb h λx d v H1 G1 b C D E h1=>?_);split at h1
 ·rename_i hd;obtain⟨k0,aEZ,e0⟩:=hd;obtain⟨p,P,rfl,hk,g,q1,q2,q3⟩:=sT D E e0;refine⟨p,rfl,.inl ⟨P,.inl q1⟩,?_⟩;refine s2 G1 b d H1 J L _ D (r.ext C) (bR.mb h1 λy c u H2 G2 U s R d2 h2=>?_);refine V G2 U c H2 J L _ R ((r.ext C).ext s) (bR.mb h2 λz M u3 F I q n f d3 j=>?_);unfold GY at j;split at j
  ·rename_i k1 l k e1 e2;obtain⟨p',jB,GD,pZ,g',r1,r2,r3⟩:=sT f (E.ext (s.trans n)) e1;cases GD;rw[LX (d2.ext n) e2];refine⟨lN jB k,qN.k r1,?_⟩;obtain⟨i1,i2⟩:=QF (k:=k) r2 r3;cases B:iN l k with
   |none =>
    rw[B]at j;rw[i2 B];exact j _ F I q (Ext.refl _ _) f d3
   |some a =>
    rw[B]at j;obtain⟨v',T,S⟩:=i1 a B;rw[T];exact j _ F I q (Ext.refl _ _) f S
  ·exact False.elim j
 ·exact False.elim h1
@[simp] def FA(o i v:A)(Z:aH):av aH:=match fL Z o,jS i with
 |some (k,kvs),ah key=>if kvs.length<a7 then ah (Z.set k (.aQ (nB kvs key v)))else ak
 |_,_=>ak
@[simp] def pT(fe fo fi:Ev->Mo A):MS:=λY=>sM (fe Y) Y λa=>sM (fo Y) Y λo=>sM (fi Y) Y λi Z=>match FA o i a Z with
 |some Z'=>ah (.nx,Y,Z')
 |none=>ak
theorem AV{pos':cq}(V:X.A.units+1<dw)(ho:VE X W o fo)(hi:VE X W i fi)(he:VE X W e fe)(hs:da e (ah (.Subscript o i pos')) pos.line X.env=pure ao:=by rfl):VS X W (.Assign [.Subscript o i pos'] e pos) (pT fe fo fi):=by
 obtain⟨t,p1,s1⟩:=ho;obtain⟨u,p2,R⟩:=hi;obtain⟨u',p3,Q⟩:=he;refine⟨_,akH V p1 p2 p3 hs,λG E K H J a D w r h=>?_⟩;refine Q G E K H J a _ w r (eL.sM h r λz l v H1 G1 d j P d1 h1=>?_);refine s1 G1 d l H1 J a _ P (r.ext j) (eL.sM h1 (r.ext j) λx f vo H2 G2 b L N d2 h2=>?_);refine R G2 b f H2 J a _ N ((r.ext j).ext L) (eL.sM h2 ((r.ext j).ext L) λy F vi H3 G3 C m s d3 U=>?_);unfold FA at U;split at U
 ·rename_i I B;split at B
  ·rename_i k q key e1 e2;split at B
   ·rename_i hl;cases B;obtain⟨p,M,rfl,hk,g,T,n,S⟩:=sT s (d2.ext m) e1;rw[LX d3 e2];have BY:M.length=q.length:=by have:=b7 List.length n;simpa using this
    refine⟨p,_,rfl,PM.k T (by rw[BY];exact hl),?_⟩;exact tQ (s.put (c:=.aQ (nB q key z)) hk g ⟨g,_,eA,ajU n,ajV n S (d1.ext (L.trans m))⟩) (((r.ext j).ext L).ext m) U
   ·cases B
  ·cases B
 ·exact False.elim U
@[simp] def GX(neg:bb)(i o:A):Mo A:=λZ=>match fL Z o,jS i with
 |some (_,kvs),ah k=>ah (.ok (.bl (if neg then !(iN kvs k).isSome else(iN kvs k).isSome)),Z)
 |_,_=>ak
theorem agM{K:ba}{neg:bb}{ty td:TE}(h1:fR K (Den K) W ty fi)(h2:fR K (Den K) W td fo):fR K (Den K) W (if neg then Qc ty td else aeP ty td) (aD (GX neg) fi fo):=by
 have key:∀G q B H J j (Q:VK),Wd K G q B H->fT K G q J j->bR K (Den K) W G q J Q (aD (GX neg) fi fo j B)->ty J H λy e=>td J e λx U=>∃a o,x=.ref a/\qN U a y o/\Q (.bl (if neg then !o.isSome else o.isSome)) U:=by
  intro G q B H J j Q w r h;refine h1 G q B H J j _ w r (bR.mb h λy d v e X c t A T n=>?_);refine h2 X c d e J j _ A (r.ext t) (bR.mb n λx m u U V b s i S L=>?_);unfold GX at L;split at L
  ·rename_i k0 z k R P;obtain⟨p,f,rfl,hk,g,F,E,D⟩:=sT i S R;rw[LX (T.ext s) P];refine⟨p,lN f k,rfl,qN.k F,?_⟩;have N:(lN f k).isSome=(iN z k).isSome:=by
    obtain⟨M,I⟩:=QF (k:=k) E D;cases l:iN z k with
    |none=>simp[I l]
    |some a=>obtain⟨v',C,_⟩:=M a l;simp[C]
   rw[N];exact L _ U V b (Ext.refl _ _) i (by simp only[Den])
  ·exact False.elim L
 cases neg with
 |true=>exact key
 |false=>exact key
theorem acH(q:X.A.units+1<dw)(hi:VE X W i fi)(z:VE X W o fo)(h1:c2 .NotIn o=ao:=by rfl):VT X W (.Compare i [.NotIn] [o] pos) (bK (aD (GX au) fi fo)):=by
 obtain⟨t,p1,s1⟩:=hi;obtain⟨u,p2,j⟩:=z;exact⟨_,aj2 (alP q p1 p2) h1,Af (agM (neg:=au) s1 j)⟩
noncomputable def intKeys:ai (Key×A)->av (ai a6)
 |[]=>ah []
 |(.inl i,_)::r=>(intKeys r).map (i :: ·)
 |_=>ak
theorem Vl:∀{kvs:ai (Key×A)} {ns:ai a6},intKeys kvs=ah ns->kvs.map (·.1)=ns.map Sum.inl
 |[],ns,h=>by simp only[intKeys,jJ]at h;subst h;rfl
 |(.inl i,_)::r,ns,h=>by
  simp only[intKeys,vX]at h;obtain⟨ms,h1,rfl⟩:=h;simp[Vl h1]
 |(.inr i,_)::r,ns,h=>by simp[intKeys]at h
@[simp] def Gw(c:bb)(as:ai A):Mo A:=λZ=>match as with
 | [a]=>(match fL Z a with
  | some (_,kvs)=>(match intKeys kvs with
   |some ns=>if ns.length<64 then jD c ((sortI ns).map A.int) Z else ak
   | none=>ak)
  | none=>ak)
 |_=>ak
theorem aAP(b:X.calm=au)(c:bb):qP X W (.builtin "sorted") (Gw c):=by
 refine⟨_,aAB b,?_⟩;intro G m n H J o t Q w d h;unfold Gw at h;split at h
 ·rename_i a;split at h
  ·rename_i k L e;split at h
   ·rename_i ns f;split at h
    ·rename_i B;obtain⟨x,rfl,i⟩:=vR d;obtain⟨p,j,rfl,s,g,z,q,r⟩:=sT w i e;refine⟨p,j,ns,rfl,z,by rw[q];exact Vl f,B,λms l U hs hl=>?_⟩;rw[BC U hs];exact pY w hl (HC _) h
    ·exact False.elim h
   ·exact False.elim h
  ·exact False.elim h
 ·exact False.elim h
end
section
variable{X:Cx}{W:WX}{x:a5}{e:bp}{es:ai bp}{np jH pos:cq}{fs:Ev->Mo (ai A)}
@[simp] def wN(x:a5)(f:Ev->Mo (ai A)):MS:=λY=>sM (f Y) Y λas Z=>if as.length<=a7 then ah (.exc ⟨x,[]⟩,Y,Z)else ak
theorem acP{C:aq}(T:nH X W)(c:X.calm=au)(ι:OA X.K C)(b:Gl X x)(hm:X.mg x=ah (.ref C))(d:cc X.K aw x=ah (ah (.ref C)))(ha:VA X W (e::es) fs)
  (f:(x==("__debug__" : a5))=ao:=by decide) (he:az (e::es) X.env=(ao,br e X.env)::az es X.env:=by rfl) (g:(b8 jH (az (e::es) X.env)).any (·.1)=ao:=by rfl) :
  VS X W (.Raise (ah (.Call (.Name x np) (e::es) [] jH)) ak pos) (wN x fs):=by
 obtain⟨t,p,s⟩:=ha;refine⟨_,akC T c ι b hm p f he g,λG z L H J q D w r h=>?_⟩;refine s G z L H J q _ w r (eL.sM h r λm B vs k l j U a i h1=>?_);split at h1
 ·rename_i hl;exact⟨by rw[i.length];exact hl,h1 J k l j (Ext.refl _ _) a (r.ext U) _ _ ⟨⟨C,d,rfl⟩,.inl ⟨rfl,rfl⟩⟩⟩
 ·exact False.elim h1
end
def NX(X:Cx)(W:WX)(st:bo)(f:MS):Prop:=∃t,XA X st t/\rP X.K W t f
def xV(X:Cx)(W:WX)(st:ai bo)(f:MS):Prop:=∃t,uP X st t/\rP X.K W t f
section
variable{X:Cx}{W:WX}{st:bo}{rest:ai bo}{f g:MS}
theorem VS.v0(h:VS X W st f):NX X W st f:=let ⟨t,p,s⟩:=h; ⟨t,p.Cz,s⟩
theorem fN.v0(h:fN X W rest f):xV X W rest f:=let ⟨t,p,s⟩:=h; ⟨t,p.Cz,s⟩
theorem QC(h1:NX X W st f)(h2:xV X W rest g):xV X W (st::rest) (aT f g):=by
 obtain⟨t,p1,s1⟩:=h1;obtain⟨u,p2,j⟩:=h2;exact⟨_,aj7 p1 p2,Qt s1 j⟩
end
def wL(K:ba)(W:WX)(f:MS):TS:=λD J H=>∃G O Z Y,Wd K G O Z H/\fT K G O J Y/\eL K W G O D (f Y Z)
theorem fN.qD{X:Cx}{W:WX}{st:ai bo}{f:MS}(h:fN X W st f):nX X st (wL X.K W f):=by
 obtain⟨t,p,s⟩:=h;exact λaa L J H D I ⟨G,z,B,j,w,r,q⟩=>p aa L J H D I (s G z B H J j D w r q)
theorem xV.qD{X:Cx}{W:WX}{st:ai bo}{f:MS}(h:xV X W st f):uP X st (wL X.K W f):=by
 obtain⟨t,p,s⟩:=h;exact λL J H D I ⟨G,z,B,j,w,r,q⟩=>p L J H D I (s G z B H J j D w r q)
noncomputable def xP(i:ay):OS->OS
 |some (.exc _,_,_)=>ak
 |some (o,Y,Z)=>ah (o,Y.set i ak,Z)
 |none=>ak
section
variable{P:a9}{w:bh}{K:ba}{mg:a5->av aj}{base:bu}
theorem PK.of0{x:a5}{st:bo}{N ps:ai a5}{k:ay}{b:MS}(h:HasFn K mg x st)(S:cL N ps (aY st))
  (bind:∀(kV doc pm:aj) (an:av aq) (aS ct:aj) (us:ai aj),us.length=ps.length->dh (fnOf x x (kO st) (eZ st) (aY st) .none kV doc pm an aS ct) ⟨us,[]⟩=pure (ps.zip us))
  (iB:∀(f:aq) (aS:aj) (A:bj) (outer:ai Env) (s:ar) (H:Hp) (E:XK),cE k (A.deeper (cn x (aY st) s.heap.objs.size f aS)) ->
   xV (kP pS P w K mg base N x (aY st) f aS A outer s H E).tS kH (eZ st) b):PK P w K mg base x (k+1) ps (cF N.length b):=by
 refine Def.of0 h S bind (λvs H Q E h=>h.1) λf aS A outer s H vs Q E hr gF=>?_;obtain⟨t,p,q⟩:=iB f aS A outer s H E hr;exact⟨t,p,NR (E:=λ_ _ _=>b5) q gF⟩
end
structure rO(K:ba)(rs ns:ai a5):Prop where
 xc:∀n∈ns,∀D,cc K aw n=ah (ah (.ref D))->XC K D
 sub:∀n∈rs,∀m∈ns,∀D C,cc K aw n=ah (ah (.ref D))->cc K aw m=ah (ah (.ref C))->b4 K (.ref D) (.ref C)=ah (n==m||m==("RankError" : a5))
 ve:∀n∈rs,∀D,cc K aw n=ah (ah (.ref D))->b4 K (.ref D) (.type "ValueError")=ah au
 rn:∀n∈rs,n∈ns
noncomputable def jO(rs ns:ai a5)(n m:a5):av bb:=if n∈rs/\m∈ns then ah (n==m||m==("RankError" : a5))else ak
noncomputable def pD(rs:ai a5)(n:a5)(T:cm):av bb:=if n∈rs/\T = "ValueError" then ah au else ak
theorem rO.own{K:ba}{rs ns:ai a5}(T:rO K rs ns)(n m:a5)(b:bb)(D C:aq)(h:jO rs ns n m=ah b)(hn:cc K aw n=ah (ah (.ref D)))(hm:cc K aw m=ah (ah (.ref C))):c7 K (.ref D) (.ref C)=ah b:=by
 unfold jO at h;split at h
 ·rename_i q;cases h;exact ao2 (T.xc _ (T.rn _ q.1) _ hn) (T.xc _ q.2 _ hm) (T.sub _ q.1 _ q.2 _ _ hn hm)
 ·cases h
theorem rO.bt{K:ba}{rs ns:ai a5}(T:rO K rs ns)(n:a5)(ρ:cm)(b:bb)(D:aq)(h:pD rs n ρ=ah b)(hn:cc K aw n=ah (ah (.ref D))):c7 K (.ref D) (.type ρ)=ah b:=by
 unfold pD at h;split at h
 ·rename_i q;cases h;obtain⟨q,rfl⟩:=q;exact ao1 (T.ve _ q _ hn) ao3
 ·cases h
noncomputable def NW(tb:a5->av bb):ai a5->av bb
 |[]=>ah ao
 |m::r=>match tb m with
  |some au=>ah au
  |some ao=>NW tb r
  |none=>ak
noncomputable def GQ:A->av a5
 |.gl m=>ah m
 |_=>ak
def zP:ai A->av (ai a5)
 |[]=>ah []
 |a::r=>(GQ a).bind λm=>(zP r).map λms=>m::ms
def isA(tb:a5->av bb)(j:cm->av bb):A->av bb
 |.gl m=>tb m
 |.ty T=>j T
 |.tup as=>(zP as).bind (NW tb)
 |_=>ak
@[simp] def Gy(p:aq)(tb:a5->av bb)(j:cm->av bb)(as:ai A):Mo A:=λZ=>match as with
 |[.adr q,a]=>if q=p/\j "ValueError" = ah au then(match isA tb j a with
  |some b=>ah (.ok (.bl b),Z)
  | none=>ak)else ak
 |_=>ak
section
variable{K:ba}{rs ns:ai a5}{G:Hp}{O:ai aq}
theorem avM:∀{as:ai A} {ms:ai a5} {xs:ai V},zP as=ah ms->aX K G O xs as->∃cs:ai aq,xs=cs.map V.ref/\ms.map (λm=>cc K aw m)=cs.map λC=>ah (ah (.ref C)):=by
 intro as
 induction as with
 |nil =>
  intro ms xs h d;cases h;simp only[aX]at d;subst d;exact⟨[],rfl,rfl⟩
 |cons a r ih =>
  intro ms xs h d;simp only[aX]at d;obtain⟨x,b,rfl,z,U⟩:=d;unfold zP at h;rw[sW]at h;obtain⟨m,j,h⟩:=h;rw[vX]at h;obtain⟨mG,L,rfl⟩:=h;obtain⟨cs,rfl,q⟩:=ih L U;cases a with
  |gl y =>
   simp only[GQ,jJ]at j;subst j;simp only[Den]at z;obtain⟨C,B,rfl⟩:=z;exact⟨C::cs,rfl,by rw[cW,cW,B,q]⟩
  |_=>cases j
theorem aB4(hT:rO K rs ns){n:a5}{D:aq}(hn:cc K aw n=ah (ah (.ref D))):∀{ms:ai a5} {cs:ai aq} {b:bb},ms.map (λm=>cc K aw m)=cs.map (λC=>ah (ah (.ref C)))->NW (jO rs ns n) ms=ah b->kitAny K (.ref D) (cs.map Value.ref)=ah b:=by
 intro ms
 induction ms with
 |nil =>
  intro cs b e h;cases cs with
  |nil=>exact h
  |cons=>cases e
 |cons m r ih =>
  intro cs b e h;cases cs with
  |nil=>cases e
  |cons C cs =>
   simp only[cW,IP]at e;unfold NW at h;split at h
   ·rename_i q;cases h;simp only[cW,kitAny,hT.own _ _ _ _ _ q hn e.1]
   ·rename_i q;simp only[cW,kitAny,hT.own _ _ _ _ _ q hn e.1];exact ih e.2 h
   ·cases h
end
theorem aAQ{X:Cx}{W:WX}{rs ns:ai a5}{p:aq}{oe:cj}{n:a5}(f:(p,oe)∈X.pn)(hT:rO X.K rs ns)(he:∃E,cc X.K aw n=ah (ah (.ref E))/\oe.cls=.ref E):qP X W (.builtin "isinstance") (Gy p (jO rs ns n) (pD rs n)):=by
 refine⟨_,aAJ f,?_⟩;intro G c s H J u r Q w d h;obtain⟨E,B,L⟩:=he;unfold Gy at h;split at h
 ·rename_i q a;split at h
  ·rename_i hq;obtain⟨rfl,hv⟩:=hq;split at h
   ·rename_i b e;obtain⟨x,y,rfl,U,j⟩:=HE d;simp only[Den]at U;subst U;have hr:n∈rs:=by
     unfold pD at hv;split at hv
     ·rename_i z;exact z.1
     ·cases hv
    refine⟨E,L,hT.xc _ (hT.rn _ hr) _ B,?_⟩;have fin:Q (.bl b) H:=h _ H G c (Ext.refl _ _) w (by simp only[Den]);rw[L];cases a with
    |gl m =>
     simp only[Den]at j;obtain⟨C,i,rfl⟩:=j;exact .inl ⟨C,b,rfl,hT.own _ _ _ _ _ e B i,fin⟩
    |ty T =>
     simp only[Den]at j;subst j;exact .inr (.inl ⟨T,b,rfl,hT.bt _ _ _ _ e B,fin⟩)
    |tup r =>
     simp only[Den]at j;obtain⟨a,t,rfl,g,dl⟩:=j;unfold isA at e;rw[sW]at e;obtain⟨ms,l,k⟩:=e;obtain⟨o,rfl,q⟩:=avM l dl;exact .inr (.inr ⟨a,o,b,rfl,w.sub _ _ g,aB4 hT B q k,fin⟩)
    |_=>cases e
   ·exact False.elim h
  ·exact False.elim h
 ·exact False.elim h
def kE(K:ba)(mg:a5->av aj)(x:a5):Prop:=∃C,XC K C/\mg x=ah (.ref C)/\cc K aw x=ah (ah (.ref C))
def qH(K:ba)(mg:a5->av aj)(x:a5):Prop:=∃C,OA K C/\mg x=ah (.ref C)/\cc K aw x=ah (ah (.ref C))
section
variable{X:Cx}{W:WX}{x y:a5}{e:bp}{es:ai bp}{np jH pos GB:cq}{fs:Ev->Mo (ai A)}
@[simp] def cG(x:a5):Ev->Mo A:=λ_=>ret (.gl x)
theorem vB(h:kE X.K X.mg x)(j:Gl X x)(hd:(x==("__debug__" : a5))=ao:=by decide):VE X W (.Name x pos) (cG x):=by
 obtain⟨C,_,h1,h2⟩:=h;exact Oo j h1 h2 hd
theorem EL(T:nH X W)(q:X.calm=au)(ι:qH X.K X.mg x)(j:Gl X x)(ha:VA X W (e::es) fs)
  (B:(x==("__debug__" : a5))=ao:=by decide) (he:az (e::es) X.env=(ao,br e X.env)::az es X.env:=by rfl) (L:(b8 jH (az (e::es) X.env)).any (·.1)=ao:=by rfl) :
  VS X W (.Raise (ah (.Call (.Name x np) (e::es) [] jH)) ak pos) (wN x fs):=by
 obtain⟨C,z,h1,h2⟩:=ι;exact acP T q z j h1 h2 ha B he L
end
theorem GZ{α:Type}{P:α->Prop}:∀n∈([]:ai α),P n:=by simp
theorem eN{α:Type}{P:α->Prop}{a:α}{l:ai α}(h:P a)(t:∀n∈l,P n):∀n∈a::l,P n:=λn hn=>by
 rcases eB.mp hn with z|z
 ·exact z ▸ h
 ·exact t n z
theorem sF{K:ba}{n:a5}{C:aq}{P:aq->Prop}(h:cc K aw n=ah (ah (.ref C)))(p:P C):∀D,cc K aw n=ah (ah (.ref D))->P D:=λD j=>by
 rw[h]at j;cases j;exact p
theorem iQ{K:ba}{n m:a5}{C B:aq}{P:aq->aq->Prop}(h:cc K aw n=ah (ah (.ref C)))(h':cc K aw m=ah (ah (.ref B)))(p:P C B):∀D j,cc K aw n=ah (ah (.ref D))->cc K aw m=ah (ah (.ref j))->P D j:=λD j q z=>by
 rw[h]at q;rw[h']at z;cases q;cases z;exact p
theorem dH.Tn{P:a9}{w:bh}{K:ba}{mg:a5->av aj}{base:bu}{x:a5}{k:ay}{ps:ai a5}{F:ai A->Mo A}(D:PK P w K mg base x k ps F):dH P w K mg base x k ps (lR F):=by
 obtain⟨f,fd,h1,h2,U,L⟩:=D.ex;refine⟨f,fd,⟨λvs H Q E h=>h.1,λA outer s H args us vs Q E hr e0 hb r gF=>?_⟩,h2,U,L⟩;refine uN (h1.run A outer s H args us vs Q (λ_ _ _=>b5) hr e0 hb r ?_) λr s' hq=>?_
 ·obtain⟨hl,G,q,j,ds,w,d,p⟩:=gF;refine⟨hl,G,q,j,ds,w,d,?_⟩
  revert p
  unfold lR;generalize F ds j=B;intro p
  match B,p with
  |some (.ok a,z),p=>exact p
 ·cases r with
  |error ev=>exact False.elim hq
  |ok v=>cases v <;> exact hq
end V2
namespace L2
open PySem PySem.Spec PyProof.Rows
theorem cE.mE{k:ay}{A:bj}(r:cE k A):A.units+1<dw:=by have:=r.units;omega
end L2
namespace V2
theorem aA3:PySem.bootBuiltins "ValueError" = ah (.type "ValueError"):=by decide +kernel
end V2
namespace L2
open PySem PySem.Spec PyProof.Rows
theorem kR.tS{X:Cx}(t:kR X):kR X.tS:=⟨t.1,t.2,t.3⟩
theorem KI{CX:oA}{P:a9}{w:bh}{K:ba}{mg:a5->av aj}{base:bu}{N:ai a5}{af:a5}{scope:cp}{f:aq}{j:aj}{A:bj}{outer:ai Env}{s:ar}{H:Hp}{E:XK}:kR (kP CX P w K mg base N af scope f j A outer s H E).tS:=kR.tS QR
theorem Pw{CX:oA}{P:a9}{w:bh}{K:ba}{mg:a5->av aj}{base:bu}{N:ai a5}{af:a5}{scope:cp}{f:aq}{j:aj}{A:bj}{outer:ai Env}{s:ar}{H:Hp}{E:XK}{W:WX} :
  nH ((kP CX P w K mg base N af scope f j A outer s H E).tS.mB (XE (kP CX P w K mg base N af scope f j A outer s H E).tS W)) W:=nH.of KI rfl W
end L2
namespace M
open PySem V2
noncomputable section
def VR:MS :=
 (pT (aD bV (iO aW bX cM) cH) aW bX)
def Zt:Ev->Mo A :=
 (mD ao 1 [1] (fY (aR (Gw ao) (aC aW a0))) (gN 0) uW (mY (aC aM (aC (aD xM aW aM) a0))))
def VU:MS :=
 (aT (bZ tJ (gN 1))
  (aT (pI (fY aM) (nE 2 (fV (gN 2) (fV (gN 3) nV))) VR)
  (bO Zt)))
def OQ:ai A->Mo A:=cF 4 VU
end
end M
namespace V2
open PySem PySem.Spec PyProof.Rows L2
section
variable{X:Cx}{W:WX}
theorem af6{ns ms:ai a6}(p:ms.Perm ns)(h:ms.Pairwise (· >= ·)):ms=(sortI ns).reverse:=by
 have:=BC (ns:=ns) (ms:=ms.reverse) ((List.reverse_perm ms).trans p) (by rw[List.pairwise_reverse];exact h);rw[<-this,List.reverse_reverse]
theorem akZ{e:bp}{te:TE}{np kp U pos:cq}{j:ay}(hm:X.mg "sorted" = ak)(g:Gl X "sorted")(he:PE X e te)(hs:az [e] X.env=[(ao,br e X.env)]:=by rfl) :
  PE X (.Call (.Name "sorted" np) [e] [⟨ah "reverse",.Constant (.bool au) j U,kp⟩] pos) (λJ H Q=>te J H λx H1=>∃a ns,x=.ref a/\fA X.K H1 a (ns.map V.int)/\ns.length<64/\∀l,H1 l=ak->Q (.ref l) (upd H1 l (.lst ((sortI ns).reverse.map V.int)))):=by
 intro aa s J H Q I h;refine uY (tW I g hm HP ?_);refine callWith_kw (bN (wV he wU hs pos aa s J H (λvs H1=>match vs with
  |[x]=>∃a ns,x=V.ref a/\fA X.K H1 a (ns.map V.int)/\ns.length<64/\∀l,H1 l=ak->Q (.ref l) (upd H1 l (.lst ((sortI ns).reverse.map V.int)))
  | _=>b5) I h) λus s1 ⟨vs,H1,L,d,z⟩=>?_) (by rw[hs];rfl) (by rw[hs];rfl)
 match vs,z with
 |[x],z =>
 obtain⟨a,ns,k,hq,t,q⟩:=z;obtain⟨u,rfl,c⟩:=vals1 d;subst k;cases c;obtain⟨B,rv,f,v⟩:=L.list hq;have i:cg B ns:=intsAre_of rv;have hl:B.length=ns.length:=by rw[<-rv.length,fI]
 refine kws_cons ?_;refine bG ?_;refine kws_nil ?_;show wpAny _ _ (call (.builtin "sorted") [.ref a] [(Str.ofString "reverse",.bool au)]) _ _ s1;refine sorted_ints_rev f.isList i (by omega) λae r p n m=>?_;obtain⟨e,he⟩:=sortedAll_at s1.heap B ae;have hn:=af6 n (by simpa[Ordered]using m);subst hn;refine⟨.ref (s1.heap.objs.size+1),_,L.laid (t':=s1.toks) (o:=.lst ((sortI ns).reverse.map V.int)) (λb o q=>sortedAll_old q) (qI _) ?_,rfl,q _ (L.aL.fresh (qI _))⟩;exact⟨by rw[fI,List.length_reverse,EY,jP];omega,ae.toList,e,YX p,he⟩
@[simp] def Pe(c:bb)(f:Ev->Mo A):Ev->Mo A:=λY=>mb (f Y) λa Z=>match (dY Z a).bind intsOf with
 |some ns=>if ns.length<64 then jD c ((sortI ns).reverse.map A.int) Z else ak
 |none=>ak
theorem ac1{e:bp}{f:Ev->Mo A}{np kp i pos:cq}{j:ay}(c:bb)(hm:X.mg "sorted" = ak)(m:Gl X "sorted")(he:VE X W e f)(hs:az [e] X.env=[(ao,br e X.env)]:=by rfl) :
  VE X W (.Call (.Name "sorted" np) [e] [⟨ah "reverse",.Constant (.bool au) j i,kp⟩] pos) (Pe c f):=by
 obtain⟨t,p,s⟩:=he;refine⟨_,akZ hm m p hs,λG b g H J L Q w r h=>?_⟩;refine s G b g H J L _ w r (bR.mb h λa d v D E U C z x h1=>?_);split at h1
 ·rename_i ns e;split at h1
  ·rename_i k;rw[sW]at e;obtain⟨ds,u,o⟩:=e;obtain⟨q,y,rfl,B,n⟩:=qY z x u;rw[BX o n]at B;exact⟨q,ns,rfl,B,k,λl hl=>pY z hl (HC _) h1⟩
  ·exact False.elim h1
 ·exact False.elim h1
end
end V2
namespace KS
open PySem PySem.W PyProof.Rows
def go{α:Type}(lt:ay->ay->bb):KasT α->α
 |.ret a=>a
 |.ask i j k=>go lt (k (lt i j))
theorem vO{α β:Type}(lt:ay->ay->bb)(f:α->KasT β):∀t:KasT α,go lt (t.bind f)=go lt (f (go lt t))
 |.ret _=>rfl
 |.ask i j k=>by
  show go lt ((k (lt i j)).bind f)=_;rw[vO lt f (k (lt i j))];rfl
section
variable(r:ay->a6)
noncomputable abbrev tV:ay->ay->bb:=λi j=>decide (r i<r j)
noncomputable def Ky(p:bf ay)(i:ay):a6:=r (p.getD i 0)
def Up(p:bf ay)(k:ay):Prop:=∀i j,i<=j->j<k->Ky r p i<=Ky r p j
def Dn(p:bf ay)(k:ay):Prop:=∀i j,i<=j->j<k->Ky r p j<=Ky r p i
variable{r}
theorem getD_eq{p q:bf ay}{i j:ay}(h:p[i]?=q[j]?):p.getD i 0=q.getD j 0:=by
 simp[Nt,h]
theorem LN{p q:bf ay}{i j:ay}(h:Ky r p i<Ky r q j):tV r (p.getD i 0) (q.getD j 0)=au:=xQ h
theorem LO{p q:bf ay}{i j:ay}(h:¬Ky r p i<Ky r q j):tV r (p.getD i 0) (q.getD j 0)=ao:=lW h
theorem Eh{p:bf ay}{i j:ay}(q:j<=p.size)(k:ay):Ky r (cw p i j) k=if i<=k/\k<j then Ky r p (i+j-1-k)else Ky r p k:=by
 have h:=getElem?_mirror_all (i:=i) q k;unfold Ky cw;split
 ·rename_i c;rw[ax c]at h;rw[getD_eq h]
 ·rename_i c;rw[a8 c]at h;rw[getD_eq h]
theorem Eg{p:bf ay}{i j:ay}(q:j<=p.size)(e:∀k,i<=k->k<j->Ky r p k=Ky r p (j-1))(k:ay):Ky r (cw p i j) k=Ky r p k:=by
 rw[Eh q];split
 ·rename_i c;rw[e _ (by omega) (by omega),e k c.1 c.2]
 ·rfl
theorem BH(p:bf ay)(i j:ay):(cw p i j).size=p.size:=mirror_size _ _ _ _
theorem RQ(p:bf ay)(i j:ay):(cw p i j).Perm p:=mirror_perm _ _ _ _
theorem adG{p:bf ay}{n:ay}(h1:1<=n)(h:Up r p n)(hn:Ky r p (n-1)<=Ky r p n):Up r p (n+1):=by
 intro i j q B
 by_cases e:j=n
 ·subst e
  by_cases z:i=j
  ·subst z;exact DR _
  ·exact Int.le_trans (h i (j-1) (by omega) (by omega)) hn
 ·exact h i j q (by omega)
theorem VJ{p:bf ay}{n:ay}(h1:1<=n)(h:Dn r p n)(hn:Ky r p n<=Ky r p (n-1)):Dn r p (n+1):=by
 intro i j q B
 by_cases e:j=n
 ·subst e
  by_cases z:i=j
  ·subst z;exact DR _
  ·exact Int.le_trans hn (h i (j-1) (by omega) (by omega))
 ·exact h i j q (by omega)
theorem asc{p:bf ay}:∀(f n:ay),1<=n->Up r p n->∃m,go (tV r) (kas_asc p f n)=m/\n<=m/\m<=n+f/\Up r p m/\(m<n+f->Ky r p m<Ky r p (m-1))
 |0,n,_,h=>⟨n,rfl,nY _,nY _,h,λz=>by omega⟩
 |f+1,n,h1,h=>by
  by_cases c:Ky r p n<Ky r p (n-1)
  ·refine⟨n,?_,nY _,by omega,h,λ_=>c⟩;have j:=LN c;simp only[kas_asc,go,j,nC]
  ·obtain⟨m,e,a,b,u,l⟩:=asc f (n+1) (by omega) (adG h1 h (by omega));refine⟨m,?_,by omega,by omega,u,λz=>l (by omega)⟩;rw[<-e];have j:=LO c;simp only[kas_asc,go,j,yL,lC]
theorem desc:∀(f:ay) (p:bf ay) (n q:ay),q+1<=n->n+f<=p.size->Dn r p n->(∀k,n-(q+1)<=k->k<n->Ky r p k=Ky r p (n-1)) ->
  ∃B m L,go (tV r) (b9 f p n q)=(B,m,L)/\n<=m/\m<=n+f/\L+1<=m/\B.size=p.size/\B.Perm p/\(∀k,Ky r B k=Ky r p k)/\Dn r B m/\(∀k,m-(L+1)<=k->k<m->Ky r B k=Ky r B (m-1))
 |0,p,n,q,hq,_,hd,he=>⟨p,n,q,rfl,nY _,nY _,hq,rfl,.refl _,λ_=>rfl,hd,he⟩
 |f+1,p,n,q,hq,E,hd,he=>by
  by_cases c:Ky r p n<Ky r p (n-1)
  ·have U:=LN c;have v:Dn r p (n+1):=VJ (by omega) hd (by omega)
   by_cases w:q>0
   ·have u:∀k,Ky r (cw p (n-(q+1)) n) k=Ky r p k:=Eg (by omega) he;have hd2:Dn r (cw p (n-(q+1)) n) (n+1):=λi j a b=>by rw[u,u];exact v i j a b
    obtain⟨B,m,L,e,C,A,t,s,o,l,h,g⟩:=desc f (cw p (n-(q+1)) n) (n+1) 0 (by omega) (by rw[BH];omega) hd2 (λk y x=>by
     have:k=n+1-1:=by omega
     rw[this])
    refine⟨B,m,L,?_,by omega,by omega,t,by rw[s,BH],o.trans (RQ _ _ _),λk=>by rw[l,u],h,g⟩;rw[<-e];simp only[b9,go,U,nC,w]
   ·obtain⟨B,m,L,e,C,A,t,s,o,l,h,g⟩:=desc f p (n+1) 0 (by omega) (by omega) v (λk y x=>by
     have:k=n+1-1:=by omega
     rw[this])
    refine⟨B,m,L,?_,by omega,by omega,t,s,o,l,h,g⟩;rw[<-e];simp only[b9,go,U,nC,w,lC]
  ·have U:=LO c
   by_cases d:Ky r p (n-1)<Ky r p n
   ·have d':=LN d;refine⟨p,n,q,?_,nY _,by omega,hq,rfl,.refl _,λ_=>rfl,hd,he⟩;simp only[b9,go,U,d',yL,nC,lC]
   ·have d':=LO d;have D:Ky r p n=Ky r p (n-1):=by omega
    obtain⟨B,m,L,e,C,A,t,s,o,l,h,g⟩:=desc f p (n+1) (q+1) (by omega) (by omega) (VJ (by omega) hd (by omega)) (λk y x=>by
     rw[show n+1-1=n by omega]
     by_cases z:k=n
     ·rw[z]
     ·rw[he k (by omega) (by omega),D])
    refine⟨B,m,L,?_,by omega,by omega,t,s,o,l,h,g⟩;rw[<-e];simp only[b9,go,U,d',yL,lC]
theorem adH{p:bf ay}{n:ay}(hn:n<=p.size)(h:Dn r p n):Up r (cw p 0 n) n:=by
 intro i j z q;rw[Eh hn,Eh hn,ax ⟨by omega,by omega⟩,ax ⟨by omega,q⟩];exact h _ _ (by omega) (by omega)
theorem tail3{p:bf ay}{n nrem:ay}(h1:1<=n)(hn:n<=nrem)(hz:nrem<=p.size)(h:Dn r p n):∃m j,go (tV r) (kas_tail3 n nrem p)=(m,j)/\1<=m/\m<=nrem/\j.size=p.size/\j.Perm p/\Up r j m:=by
 obtain⟨m,e,a,b,u,_⟩:=asc (r:=r) (nrem-n) n h1 (adH (by omega) h);refine⟨m,cw p 0 n,?_,by omega,by omega,BH _ _ _,RQ _ _ _,u⟩;unfold kas_tail3;rw[vO,e];rfl
theorem descPart{p:bf ay}{n nrem:ay}(h1:1<=n)(hn:n+1<=nrem)(hz:nrem<=p.size)(h:Dn r p (n+1)):∃m q,go (tV r) (c9 n nrem p)=(m,q)/\1<=m/\m<=nrem/\q.size=p.size/\q.Perm p/\Up r q m:=by
 obtain⟨p1,z,B,e,D,C,A,s,o,w,l,t⟩:=desc (r:=r) (nrem-(n+1)) p (n+1) 0 (by omega) (by omega) h (λk v u=>by
  have:k=n+1-1:=by omega
  rw[this])
 by_cases f:B>0
 ·have g:∀k,Ky r (cw p1 (z-(B+1)) z) k=Ky r p1 k:=Eg (by omega) t;obtain⟨m,q,L,d,c,b,a,U⟩:=tail3 (p:=cw p1 (z-(B+1)) z) (n:=z) (nrem:=nrem) (r:=r) (by omega) (by omega) (by rw[BH];omega) (λi j x y=>by rw[g,g];exact l i j x y);refine⟨m,q,?_,d,c,by rw[b,BH,s],a.trans ((RQ _ _ _).trans o),U⟩;unfold c9;rw[vO,e];simp only[f,nC];exact L
 ·obtain⟨m,q,L,d,c,b,a,U⟩:=tail3 (p:=p1) (n:=z) (nrem:=nrem) (r:=r) (by omega) (by omega) (by omega) l;refine⟨m,q,?_,d,c,by rw[b,s],a.trans o,U⟩;unfold c9;rw[vO,e];simp only[f,lC];exact L
theorem count{p:bf ay}{nrem:ay}(h1:1<=nrem)(hz:nrem<=p.size):∃m q,go (tV r) (kas_count nrem p)=(m,q)/\1<=m/\m<=nrem/\q.size=p.size/\q.Perm p/\Up r q m:=by
 obtain⟨n,e,a,b,u,l⟩:=asc (r:=r) (p:=p) (nrem-1) 1 cU (λi j x y=>by
  have:i=j:=by omega
  rw[this];exact DR _)
 unfold kas_count;rw[vO,e]
 by_cases f:n=nrem
 ·subst f;refine⟨n,p,by simp[go],a,nY _,rfl,.refl _,u⟩
 ·have L:(n==nrem)=ao:=by simpa using f
  have lt:=l (by omega);simp only[L,yL,lC]
  by_cases d:n>1
  ·simp only[d,nC,go]
   by_cases c:Ky r p 0<Ky r p (n-1)
   ·have U:=LN c;simp only[U,nC,go];exact⟨n,p,rfl,a,by omega,rfl,.refl _,u⟩
   ·have U:=LO c;simp only[U,yL,lC];have eqs:∀k,k<n->Ky r p k=Ky r p (n-1):=λk B=>by
     have x:=u 0 k (by omega) B;have y:=u k (n-1) (by omega) (by omega);omega
    have z:∀k,Ky r (cw p 0 n) k=Ky r p k:=Eg (by omega) λk _ B=>eqs k B;obtain⟨m,q,h,w,v,t,s,o⟩:=descPart (r:=r) (p:=cw p 0 n) (n:=n) (nrem:=nrem) (by omega) (by omega) (by rw[BH];omega) (VJ (by omega) (λi j x y=>by rw[z,z,eqs i (by omega),eqs j y];exact DR _) (by rw[z,z];omega));exact⟨m,q,h,w,v,by rw[t,BH],s.trans (RQ _ _ _),o⟩
  ·simp only[d,lC];have g:n=1:=by omega
   subst g;exact descPart cU (by omega) hz (VJ cU (λi j x y=>by
    have:i=j:=by omega
    rw[this];exact DR _) (by omega))
theorem place{p:bf ay}{k:ay}(j:Up r p k):∀(f l t:ay),l<=t->t<=k->t-l<=f->(∀i,i<l->Ky r p i<=Ky r p k)->(∀i,t<=i->i<k->Ky r p k<Ky r p i) ->
  ∃m,go (tV r) (kas_place p k f l t)=m/\m<=k/\(∀i,i<m->Ky r p i<=Ky r p k)/\(∀i,m<=i->i<k->Ky r p k<Ky r p i)
 |0,l,t,h1,h2,g,z,q=>⟨l,rfl,by omega,z,λi a b=>q i (by omega) b⟩
 |f+1,l,t,h1,h2,g,z,q=>by
  by_cases c:l>=t
  ·exact⟨l,by simp only[kas_place,c,nC,go],by omega,z,λi a b=>q i (by omega) b⟩
  ·by_cases d:Ky r p k<Ky r p ((l+t)/2)
   ·have d':=LN d;obtain⟨m,e,U,L,B⟩:=place j f l ((l+t)/2) (by omega) (by omega) (by omega) z (λi a b=>by
     have:=j ((l+t)/2) i a b;omega)
    refine⟨m,?_,U,L,B⟩;rw[<-e];simp only[kas_place,c,lC,go,d',nC]
   ·have d':=LO d;obtain⟨m,e,U,L,B⟩:=place j f ((l+t)/2+1) t (by omega) h2 (by omega) (λi a=>by
     have:=j i ((l+t)/2) (by omega) (by omega);omega) q
    refine⟨m,?_,U,L,B⟩;rw[<-e];simp only[kas_place,c,lC,go,d',yL]
theorem Uy{p:bf ay}{k d:ay}(hs:k<p.size)(hd:d<=k)(i:ay):Ky r (bubble p k d) i=if i=k-d then Ky r p k else if k-d<i/\i<=k then Ky r p (i-1)else Ky r p i:=by
 have h:=getElem?_bubble hs d hd i
 by_cases c:i=k-d
 ·rw[ax c]at h ⊢;exact b7 r (getD_eq h)
 ·rw[a8 c]at h ⊢
  by_cases j:k-d<i/\i<=k
  ·rw[ax j]at h ⊢;exact b7 r (getD_eq h)
  ·rw[a8 j]at h ⊢;exact b7 r (getD_eq h)
theorem bin:∀(f:ay) (p:bf ay) (k:ay),k+f<=p.size->Up r p k->∃q,go (tV r) (kas_bin f p k)=q/\q.size=p.size/\q.Perm p/\Up r q (k+f)
 |0,p,k,_,h=>⟨p,rfl,rfl,.refl _,h⟩
 |f+1,p,k,w,h=>by
  obtain⟨m,e,y,v,u⟩:=place h k 0 k (by omega) cU (by omega) (λi z=>by omega) (λi a b=>by omega);have g:Up r (bubble p k (k-m)) (k+1):=by
   intro i j d x;rw[Uy (by omega) (by omega),Uy (by omega) (by omega)];have n:k-(k-m)=m:=by omega
   rw[n]
   by_cases L:i=m
   ·rw[ax L]
    by_cases B:j=m
    ·rw[ax B];exact DR _
    ·rw[a8 B,ax ⟨by omega,by omega⟩];exact Int.le_of_lt (u (j-1) (by omega) (by omega))
   ·rw[a8 L]
    by_cases U:m<i/\i<=k
    ·rw[ax U,a8 (by omega),ax ⟨by omega,by omega⟩];exact h _ _ (by omega) (by omega)
    ·rw[a8 U]
     by_cases B:j=m
     ·rw[ax B];exact v i (by omega)
     ·rw[a8 B]
      by_cases c:m<j/\j<=k
      ·rw[ax c];exact h _ _ (by omega) (by omega)
      ·rw[a8 c];exact h _ _ d (by omega)
  obtain⟨q,l,t,s,o⟩:=bin f (bubble p k (k-m)) (k+1) (by rw[bubble_size];omega) g;refine⟨q,?_,by rw[t,bubble_size],s.trans (bubble_perm _ _ _),by rw[show k+(f+1)=k+1+f by omega];exact o⟩;rw[<-l];simp only[kas_bin,vO,e]
theorem sorts{n:ay}(h1:1<=n):∃p,go (tV r) (kas_sort n)=p/\p.size=n/\p.toList.Perm (List.range n)/\Up r p n:=by
 obtain⟨m,p,e,g,f,B,b,z⟩:=count (r:=r) (p:=List.toArray (List.range n)) (nrem:=n) h1 (by simp);have sz:(List.toArray (List.range n)).size=n:=by simp
 rw[sz]at B;have j:p.toList.Perm (List.range n):=by have:=Array.perm_iff_toList_perm.mp b;simpa using this
 unfold kas_sort;rw[vO,e]
 by_cases c:m<n
 ·simp only[c,nC];obtain⟨L,U,d,a,q⟩:=bin (r:=r) (n-max m 1) p (max m 1) (by omega) (by rw[show max m 1=m by omega];exact z);refine⟨L,U,by omega,(Array.perm_iff_toList_perm.mp a).trans j,?_⟩;rw[show max m 1+(n-max m 1)=n by omega]at q;exact q
 ·simp only[c,lC];have:m=n:=by omega
  subst this;exact⟨p,rfl,B,j,z⟩
end
def reach{α:Type}(lt:ay->ay->bb)(N:ay):KasT α->Prop
 |.ret _=>True
 |.ask i j k=>i<N/\j<N/\reach lt N (k (lt i j))
theorem vG{α β:Type}{lt:ay->ay->bb}{N:ay}{f:α->KasT β}:∀{t:KasT α},reach lt N t->reach lt N (f (go lt t))->reach lt N (t.bind f)
 |.ret _,_,h=>h
 |.ask _ _ _,h1,h2=>⟨h1.1,h1.2.1,vG h1.2.2 h2⟩
theorem Od{α:Type}{cmp:ay->ay->(bb->ar->Prop)->ar->Prop}{lt:ay->ay->bb}{N:ay}{s:ar}(q:∀i j C,i<N->j<N->C (lt i j) s->cmp i j C s){Q:α->ar->Prop}:∀(t:KasT α),reach lt N t->Q (go lt t) s->t.kasWp cmp Q s
 |.ret _,_,h=>h
 |.ask i j k,hr,h=>q i j _ hr.1 hr.2.1 (Od q (k (lt i j)) hr.2.2 h)
def Bd(N:ay)(p:bf ay):Prop:=0<N/\∀x∈p,x<N
section
variable{lt:ay->ay->bb}{N:ay}
theorem Bd.get{p:bf ay}(h:Bd N p)(i:ay):p.getD i 0<N:=by
 rw[Nt];cases e:p[i]? with
 |none=>exact h.1
 |some x=>exact h.2 x (Array.mem_of_getElem? e)
theorem Bd.perm{p q:bf ay}(h:Bd N p)(e:q.Perm p):Bd N q:=⟨h.1,λx j=>h.2 x (e.mem_iff.mp j)⟩
theorem Bd.rev{p:bf ay}(h:Bd N p)(i j:ay):Bd N (cw p i j):=h.perm (mirror_perm _ _ _ _)
theorem Cq{p:bf ay}(h:Bd N p):∀f n,reach lt N (kas_asc p f n)
 |0,_=>trivial
 |f+1,n=>by
  refine⟨h.get _,h.get _,?_⟩;dsimp only;split
  ·trivial
  ·exact Cq h f (n+1)
theorem RU:∀(f:ay) (p:bf ay) (n q:ay),Bd N p->reach lt N (b9 f p n q)/\Bd N (go lt (b9 f p n q)).1
 |0,p,_,_,h=>⟨trivial,h⟩
 |f+1,p,n,q,h=>by
  have g:go lt (b9 (f+1) p n q)=go lt (if lt (p.getD n 0) (p.getD (n-1) 0)=au then(if q>0 then b9 f (cw p (n-(q+1)) n) (n+1) 0 else b9 f p (n+1) 0)else .ask (p.getD (n-1) 0) (p.getD n 0) λd=>if d=au then .ret (p,n,q)else b9 f p (n+1) (q+1)):=rfl;rw[g];show(_/\_/\reach lt N (if lt (p.getD n 0) (p.getD (n-1) 0)=au then(if q>0 then b9 f (cw p (n-(q+1)) n) (n+1) 0 else b9 f p (n+1) 0)else .ask (p.getD (n-1) 0) (p.getD n 0) λd=>if d=au then .ret (p,n,q)else b9 f p (n+1) (q+1)))/\_
  by_cases c:lt (p.getD n 0) (p.getD (n-1) 0)=au
  ·rw[ax c]
   by_cases j:q>0
   ·rw[ax j];have ih:=RU f (cw p (n-(q+1)) n) (n+1) 0 (h.rev _ _);exact⟨⟨h.get _,h.get _,ih.1⟩,ih.2⟩
   ·rw[a8 j];have ih:=RU f p (n+1) 0 h;exact⟨⟨h.get _,h.get _,ih.1⟩,ih.2⟩
  ·rw[a8 c];have z:go lt (.ask (p.getD (n-1) 0) (p.getD n 0) λd=>if d=au then .ret (p,n,q)else b9 f p (n+1) (q+1))=go lt (if lt (p.getD (n-1) 0) (p.getD n 0)=au then KasT.ret (p,n,q)else b9 f p (n+1) (q+1)):=rfl;rw[z];show(_/\_/\_/\_/\reach lt N (if lt (p.getD (n-1) 0) (p.getD n 0)=au then KasT.ret (p,n,q)else b9 f p (n+1) (q+1)))/\_
   by_cases d:lt (p.getD (n-1) 0) (p.getD n 0)=au
   ·rw[ax d];exact⟨⟨h.get _,h.get _,h.get _,h.get _,trivial⟩,h⟩
   ·rw[a8 d];have ih:=RU f p (n+1) (q+1) h;exact⟨⟨h.get _,h.get _,h.get _,h.get _,ih.1⟩,ih.2⟩
theorem Ro{p:bf ay}(h:Bd N p)(n nrem:ay):reach lt N (kas_tail3 n nrem p)/\Bd N (go lt (kas_tail3 n nrem p)).2:=by
 unfold kas_tail3;refine⟨vG (Cq (h.rev _ _) _ _) trivial,?_⟩;rw[vO];exact h.rev _ _
theorem Rq{p:bf ay}(h:Bd N p)(n nrem:ay):reach lt N (c9 n nrem p)/\Bd N (go lt (c9 n nrem p)).2:=by
 obtain⟨a,b⟩:=RU (lt:=lt) (nrem-(n+1)) p (n+1) 0 h;unfold c9;rw[vO]
 by_cases c:(go lt (b9 (nrem-(n+1)) p (n+1) 0)).2.2>0
 ·have t:=Ro (lt:=lt) (b.rev ((go lt (b9 (nrem-(n+1)) p (n+1) 0)).2.1-((go lt (b9 (nrem-(n+1)) p (n+1) 0)).2.2+1)) (go lt (b9 (nrem-(n+1)) p (n+1) 0)).2.1) (go lt (b9 (nrem-(n+1)) p (n+1) 0)).2.1 nrem;refine⟨vG a ?_,?_⟩
  ·rw[ax c];exact t.1
  ·rw[ax c];exact t.2
 ·have t:=Ro (lt:=lt) b (go lt (b9 (nrem-(n+1)) p (n+1) 0)).2.1 nrem;refine⟨vG a ?_,?_⟩
  ·rw[a8 c];exact t.1
  ·rw[a8 c];exact t.2
theorem aiN{p:bf ay}(h:Bd N p)(nrem:ay):reach lt N (kas_count nrem p)/\Bd N (go lt (kas_count nrem p)).2:=by
 unfold kas_count;rw[vO];have a:=Cq (lt:=lt) h (nrem-1) 1;generalize hn:go lt (kas_asc p (nrem-1) 1)=n
 by_cases j:(n==nrem)=au
 ·rw[ax j];refine⟨vG a ?_,h⟩;rw[hn,ax j];trivial
 ·rw[a8 j]
  by_cases q:n>1
  ·rw[ax q];have g:go lt (.ask (p.getD 0 0) (p.getD (n-1) 0) λc=>if c=au then .ret (n,p)else c9 n nrem (cw p 0 n))=go lt (if lt (p.getD 0 0) (p.getD (n-1) 0)=au then .ret (n,p)else c9 n nrem (cw p 0 n)):=rfl;rw[g]
   by_cases z:lt (p.getD 0 0) (p.getD (n-1) 0)=au
   ·rw[ax z];refine⟨vG a ?_,h⟩;rw[hn,a8 j,ax q];refine⟨h.get _,h.get _,?_⟩;dsimp only;rw[ax z];trivial
   ·rw[a8 z];have t:=Rq (lt:=lt) (h.rev 0 n) n nrem;refine⟨vG a ?_,t.2⟩;rw[hn,a8 j,ax q];refine⟨h.get _,h.get _,?_⟩;dsimp only;rw[a8 z];exact t.1
  ·rw[a8 q];have t:=Rq (lt:=lt) h n nrem;refine⟨vG a ?_,t.2⟩;rw[hn,a8 j,a8 q];exact t.1
theorem Cp{p:bf ay}(h:Bd N p)(k:ay):∀f l t,reach lt N (kas_place p k f l t)
 |0,_,_=>trivial
 |f+1,l,t=>by
  unfold kas_place;split
  ·trivial
  ·refine⟨h.get _,h.get _,?_⟩;dsimp only;split
   ·exact Cp h k f _ _
   ·exact Cp h k f _ _
theorem Rr:∀(f:ay) (p:bf ay) (k:ay),Bd N p->reach lt N (kas_bin f p k)
 |0,_,_,_=>trivial
 |f+1,p,k,h=>vG (Cp h k _ _ _) (Rr f _ _ (h.perm (bubble_perm _ _ _)))
theorem Rp{n:ay}(h:0<n):reach lt n (kas_sort n):=by
 have b:Bd n (List.toArray (List.range n)):=⟨h,λx j=>by simpa using j⟩;obtain⟨z,q⟩:=aiN (lt:=lt) b n;unfold kas_sort;refine vG z ?_;split
 ·exact Rr _ _ _ q
 ·trivial
end
noncomputable def dM:ai a6->ai a6->bb
 |[],[]=>ao
 |[],_::_=>au
 |_::_,[]=>ao
 |a::as,b::bs=>if a=b then dM as bs else decide (a<b)
theorem Dz:∀a,dM a a=ao
 |[]=>rfl
 |a::j=>by simp[dM,Dz j]
theorem LS:∀{a b c:ai a6},dM a b=au->dM b c=au->dM a c=au
 |[],[],_,h,_=>by simp[dM]at h
 |[],_::_,[],_,h=>by simp[dM]at h
 |[],_::_,_::_,_,_=>rfl
 |_::_,[],_,h,_=>by simp[dM]at h
 |_::_,_::_,[],_,h=>by simp[dM]at h
 |a::L,b::bs,c::B,h1,h2=>by
  simp only[dM]at h1 h2 ⊢
  by_cases q:a=b
  ·subst q
   by_cases j:a=c
   ·subst j;simp only[nC]at h1 h2 ⊢;exact LS h1 h2
   ·simp only[nC,j,lC]at h1 h2 ⊢;exact h2
  ·by_cases j:b=c
   ·subst j;simp only[q,lC]at h1 ⊢;exact h1
   ·simp only[q,j,lC,CV]at h1 h2;have z:¬a=c:=by omega
    simp only[z,lC,CV];omega
theorem SW:∀{a b:ai a6},dM a b=ao->dM b a=ao->a=b
 |[],[],_,_=>rfl
 |[],_::_,h,_=>by simp[dM]at h
 |_::_,[],_,h=>by simp[dM]at h
 |a::q,b::bs,h1,h2=>by
  simp only[dM]at h1 h2
  by_cases e:a=b
  ·subst e;simp only[nC]at h1 h2;rw[SW h1 h2]
  ·have j:¬b=a:=λz=>e z.symm;simp only[e,j,lC,decide_eq_false_iff_not]at h1 h2;omega
def KZ(ts:ai (ai a6))(t:ai a6):a6:=((ts.filter λx=>dM x t).length:a6)
theorem Hl{α:Type}{p q:α->bb}(h:∀x,p x=au->q x=au):∀l:ai α,(l.filter p).length<=(l.filter q).length
 |[]=>nY _
 |x::l=>by
  have ih:=Hl h l
  by_cases j:p x=au
  ·simp[j,h x j,ih]
  ·by_cases hq:q x=au
   ·simp[j,hq];omega
   ·simp[j,hq,ih]
theorem Xm{α:Type}{p q:α->bb}(h:∀x,p x=au->q x=au):∀(l:ai α) (y:α),y∈l->p y=ao->q y=au->(l.filter p).length<(l.filter q).length
 |[],_,hy,_,_=>by cases hy
 |x::l,y,hy,z,hq=>by
  have le:=Hl h l
  rcases eB.mp hy with e|e
  ·subst e;simp[z,hq];omega
  ·have ih:=Xm h l y e z hq
   by_cases j:p x=au
   ·simp[j,h x j,ih]
   ·by_cases B:q x=au
    ·simp[j,B];omega
    ·simp[j,B,ih]
theorem Rj{ts:ai (ai a6)}{a b:ai a6}(ha:a∈ts):KZ ts a<KZ ts b<->dM a b=au:=by
 unfold KZ;constructor
 ·intro h
  by_cases c:dM a b=au
  ·exact c
  ·exfalso;have z:dM a b=ao:=by simpa using c
   have:(ts.filter λx=>dM x b).length<=(ts.filter λx=>dM x a).length:=Hl (λx j=>by
    by_cases d:dM b a=au
    ·exact LS j d
    ·have e:=SW z (by simpa using d);rw[e];exact j) ts
   omega
 ·intro h;have:=Xm (p:=λx=>dM x a) (q:=λx=>dM x b) (λx j=>LS j h) ts a ha (Dz a) h;omega
section
variable{prog:a9}{w:bh}{A:bj}{E:aj->ar->Prop}{s:ar}
theorem Uo{Q:bb->ar->Prop}:∀{xs ys:ai aj} {ns ms:ai a6} (i:ay) (fin:bb),cg xs ns->cg ys ms->fin=decide (ns.length<ms.length)->Q (dM ns ms) s->KatLex prog w A au fin Q (xs.zip ys) i s
 |[],[],_,_,i,fin,.nil,.nil,j,h=>by subst j;exact kat_nil (by simpa[dM]using h)
 |[],_::_,_,_,i,fin,.nil,.cons m u k,j,h=>by subst j;exact kat_nil (by simpa[dM]using h)
 |_::_,[],_,_,i,fin,.cons n t h1,.nil,j,h=>by subst j;exact kat_nil (by simpa[dM]using h)
 |_::_,_::_,_,_,i,fin,.cons n t h1,.cons m u h2,j,h=>by
  rw[List.zip_cons_cons];refine kat_cons (wpAny_eqBool_int ?_)
  by_cases e:n=m
  ·subst e;rw[show(n==n)=au by simp];exact kat_yes (Uo (i+1) fin h1 h2 (by rw[j];simp) (by simpa[dM]using h))
  ·rw[show(n==m)=ao by simpa using e];refine kat_no ?_;have h':Q (decide (n<m)) s:=by simpa[dM,e]using h
   by_cases hi:i=0
   ·subst hi;exact oneLt_int h'
   ·rw[show(au&&i==0)=ao by simpa using hi];exact kat_one _ _ (lt_int h')
end
def TupAt(h:bu)(v:aj)(ns:ai a6):Prop:=∃a o xs n,v=.ref a/\h.get? a=ah o/\o.cls=.type "tuple"/\o.data=.seq xs n/\cg xs.toList ns
def mL(h:bu):ai aj->ai (ai a6)->Prop
 |[],[]=>True
 |v::vs,t::ts=>TupAt h v t/\mL h vs ts
 |_,_=>b5
theorem mL.len{h:bu}:∀{vs:ai aj} {ts:ai (ai a6)},mL h vs ts->vs.length=ts.length
 |[],[],_=>rfl
 |_::_,_::_,t=>by simp[mL.len t.2]
 |[],_::_,t=>t.elim
 |_::_,[],t=>t.elim
theorem mL.get{h:bu}:∀{vs:ai aj} {ts:ai (ai a6)},mL h vs ts->∀i,i<ts.length->TupAt h (vs.getD i .none) (ts.getD i [])
 |[],[],_,i,hi=>by simp at hi
 |_::_,_::_,t,0,_=>t.1
 |_::_,_::_,t,i+1,hi=>by simpa using mL.get t.2 i (by simpa using hi)
 |[],_::_,t,_,_=>t.elim
 |_::_,[],t,_,_=>t.elim
theorem mL.keeps{h h':bu}(k:∀b o,h.get? b=ah o->o.cls=.type "tuple"->h'.get? b=ah o):∀{vs:ai aj} {ts:ai (ai a6)},mL h vs ts->mL h' vs ts
 |[],[],_=>trivial
 |_::_,_::_,⟨⟨a,o,xs,n,h1,h2,j,q⟩,t⟩=>⟨⟨a,o,xs,n,h1,k _ _ h2 j,j,q⟩,mL.keeps k t⟩
 |[],_::_,t=>t.elim
 |_::_,[],t=>t.elim
theorem mL.Vc{h:bu}:∀{vs:ai aj} {ts:ai (ai a6)},mL h vs ts->(∀t∈ts,t≠[])->∃fs ns,KatTups h vs fs/\cg fs ns/\fs.length=vs.length
 |[],[],_,_=>⟨[],[],.nil,.nil,rfl⟩
 |_::_,t::ts,⟨⟨a,o,xs,n,h1,h2,U,L,B⟩,r⟩,dB=>by
  obtain⟨fs,ns,z,q,j⟩:=mL.Vc r λt ht=>dB t (gQ _ ht);subst h1;have hn:=dB t sG;obtain⟨l⟩:=xs;cases B with
  |nil=>exact bz rfl hn
  |cons m u hh =>
   exact⟨.int m u::fs,m::ns,.cons h2 U L rfl z,.cons m u q,by simp[j]⟩
 |[],_::_,t,_=>t.elim
 |_::_,[],t,_=>t.elim
section
variable{prog:a9}{w:bh}{A:bj}{E:aj->ar->Prop}{s:ar}
theorem aB0{vs:ai aj}{ts:ai (ai a6)}(T:mL s.heap vs ts){i j:ay}(hi:i<ts.length)(d:j<ts.length){C:bb->ar->Prop}(h:C (dM (ts.getD i []) (ts.getD j [])) s):kas_ask prog w A (tuples' au) vs i j C s:=by
 obtain⟨a,o,l,n,f,h2,r,e,z⟩:=T.get i hi;obtain⟨b,m,k,p,g,L,t,q,B⟩:=T.get j d;unfold kas_ask;rw[f,g];have c:=z.length;have U:=B.length;refine kat_lt h2 e L q (Uo 0 _ z B ?_ h);rw[<-mU,<-mU,c,U]
theorem ao4{vs:ai aj}{ts:ai (ai a6)}(T:mL s.heap vs ts)(dB:∀t∈ts,t≠[])(h2:2<=vs.length){Q:SortKind->ar->Prop}(h:Q (tuples' au) s):wpAny (bc prog w) A (keyKind' vs.toArray) Q E s:=by
 obtain⟨fs,ns,q,j,z⟩:=T.Vc dB;refine kat_kind (T:=.type "int") q (by omega) (λv hv=>?_) (by decide) ?_
 ·obtain⟨n,t,rfl⟩:=j.all v hv;exact Looks.of_pure rfl
 ·have e:(Value.type "int" != Value.type "tuple")=au:=by decide
  rw[e];exact h
def DD(ts:ai (ai a6))(p:ai ay):Prop:=p.Perm (List.range ts.length)/\p.Pairwise λi j=>dM (ts.getD j []) (ts.getD i [])=ao
theorem go_congr{α:Type}{lt lt':ay->ay->bb}{N:ay}(h:∀i j,i<N->j<N->lt i j=lt' i j):∀t:KasT α,reach lt N t->go lt t=go lt' t
 |.ret _,_=>rfl
 |.ask i j k,hr=>by
  show go lt (k (lt i j))=go lt' (k (lt' i j));rw[<-h i j hr.1 hr.2.1];exact go_congr h _ hr.2.2
abbrev LP(ts:ai (ai a6)):ay->ay->bb:=λi j=>dM (ts.getD i []) (ts.getD j [])
theorem getD_mem{ts:ai (ai a6)}{i:ay}(h:i<ts.length):ts.getD i []∈ts:=by
 rw[List.getD_eq_getElem?_getD,lI h];exact OF h
theorem af1{ts:ai (ai a6)}(h:1<=ts.length):DD ts (go (LP ts) (kas_sort ts.length)).toList/\(go (LP ts) (kas_sort ts.length)).size=ts.length:=by
 have e:go (LP ts) (kas_sort ts.length)=go (tV λi=>KZ ts (ts.getD i [])) (kas_sort ts.length):=go_congr (N:=ts.length) (λi j hi B=>by
  have q:=Rj (ts:=ts) (b:=ts.getD j []) (getD_mem hi);show dM _ _=decide _
  by_cases c:dM (ts.getD i []) (ts.getD j [])=au
  ·rw[c];exact(xQ (q.mpr c)).symm
  ·have g:dM (ts.getD i []) (ts.getD j [])=ao:=by simpa using c
   rw[g];exact(lW λz=>c (q.mp z)).symm) _ (Rp (by omega))
 obtain⟨p,f,l,L,k⟩:=sorts (r:=λi=>KZ ts (ts.getD i [])) h;rw[e,f];refine⟨⟨L,?_⟩,l⟩;rw[Ma];intro i j hi B m;rw[mU]at hi B;have u:=k i j (by omega) (by omega);unfold Ky at u;have d:p.getD i 0=p.toList[i]:=by simp[Nt,hi]
 have a:p.getD j 0=p.toList[j]:=by simp[Nt,B]
 rw[d,a]at u;dsimp only at u;have U:p.toList[j]<ts.length:=by
  have:=L.mem_iff.mp (OF (by rw[mU];exact B));simpa using this
 have q:=Rj (ts:=ts) (b:=ts.getD p.toList[i] []) (getD_mem U)
 by_cases c:dM (ts.getD p.toList[j] []) (ts.getD p.toList[i] [])=au
 ·have:=q.mpr c;omega
 ·simpa using c
theorem Ul{a:aq}{vs:ai aj}{ts:ai (ai a6)}{n:ay}{P:PySem.Fin->ar->Prop}(B:s.heap.get? a=ah (b0 "list" vs.toArray n))(T:mL s.heap vs ts)(dB:∀t∈ts,t≠[])(x:vs.length<64)
  (h:∀p:ai ay,DD ts p->P (.done (.ret .none)) {s with heap:=c8 s.heap a vs (List.toArray (p.map λi=>vs.getD i Value.none))}) :
  wpAny (bc prog w) A (Builtin.«list.sort» ⟨[.ref a],[]⟩) P E s:=by
 rw[list_sort_plain];have hlen:=T.len;have ha:a<s.heap.objs.size:=dE B;refine aJ (listItems_at B rfl ?_);refine aJ (listUpdate_at B rfl ?_ (by rw[kD,jP];omega) BQ);obtain⟨g,l⟩:∃g,(s.heap.update a (Obj.mapSeq λ_=>(#[]:bf aj))).get? a=ah (b0 "list" #[] g):=⟨_,GS B (λ_=>#[])⟩;refine aJ (seqEpoch_at l rfl ?_);refine aJ (wpAny_newTuple ?_ (by show vs.length<=_;rw[jP];omega));refine aJ (PV ?_ BQ);refine qQ ?_;have old:∀b o,s.heap.get? b=ah o->o.cls=.type "tuple"->(((s.heap.update a (Obj.mapSeq λ_=>(#[]:bf aj))).push (b0 "tuple" vs.toArray 0)).push (b0 "list" #[] 0)).get? b=ah o:=λb o hb c=>by
  have d:b≠a:=λz=>by subst z;rw[B]at hb;cases hb;have c:Value.type "list" = Value.type "tuple":=c;exact bz c (by decide)
  have dZ:b<s.heap.objs.size:=dE hb;rw[ON _ _ _ (by rw[size_push',XU];exact dX (IB dZ)),ON _ _ _ (by rw[XU];exact dX dZ),Heap.get?_update_ne _ _ _ _ d];exact hb
 have U:(((s.heap.update a (Obj.mapSeq λ_=>(#[]:bf aj))).push (b0 "tuple" vs.toArray 0)).push (b0 "list" #[] 0)).get? a=ah (b0 "list" #[] g):=by
  rw[ON _ _ _ (by rw[size_push',XU];exact dX (IB ha)),ON _ _ _ (by rw[XU];exact dX ha)];exact l
 show wpAny (bc prog w) A _ P E {s with heap:=((s.heap.update a (Obj.mapSeq λ_=>(#[]:bf aj))).push (b0 "tuple" vs.toArray 0)).push (b0 "list" #[] 0)};dsimp only
 by_cases h2:vs.toArray.size<2
 ·have q:vs.length<2:=by simpa using h2
  rw[ax h2,ax h2];refine aJ (bG ?_);rw[StateT.run_pure];refine aJ (bG ?_);dsimp only;have eo:(arrOf (SortSt.mk' general' (vs.toArray.zip vs.toArray) #[] 7 ak)).map (·.2)=List.toArray ((List.range vs.length).map λi=>vs.getD i Value.none):=by
   show(vs.toArray.zip vs.toArray).map (·.2)=_
   match vs,q with
   |[],_=>simp
   |[v],_=>simp[List.range_succ]
  rw[eo];refine aJ (seqEpoch_at U rfl ?_);refine aJ (listUpdate_at U rfl ?_ BQ (by rw[kD,fI,abM,jP];omega));simp only[bne_self_eq_false,yL,lC];refine bG (h (List.range vs.length) ⟨by rw[hlen],?_⟩)
  match vs,q with
  |[],_=>exact .nil
  |[v],_=>exact List.pairwise_singleton _ _
 ·have q:2<=vs.length:=by simpa using h2
  rw[a8 h2,a8 h2];have m:=T.keeps old;obtain⟨r,sz⟩:=af1 (ts:=ts) (by omega);refine aJ (ao4 m dB q ?_);refine aJ (lZ (kat_run (Q:=λL s'=>∃p:bf ay,p.size=vs.length/\arrOf L=p.map (kas_item (vs.toArray.zip vs.toArray))/\failedOf L=ak/\s'={s with heap:=((s.heap.update a (Obj.mapSeq λ_=>(#[]:bf aj))).push (b0 "tuple" vs.toArray 0)).push (b0 "list" #[] 0)}/\p=go (LP ts) (kas_sort ts.length))
   rfl q x (λu L s' K I H G=>⟨u,K,I,H,G⟩) ?_) ?_ λ_ _ e=>e)
  ·rw[hlen];exact Od (lt:=LP ts) (N:=ts.length) (λi j C hi y F=>aB0 m hi y F) _ (Rp (by omega)) ⟨rfl,rfl⟩
  ·rintro⟨⟨⟩,L⟩ s' ⟨p,M,f,D,rfl,rfl⟩;dsimp only;have k:=kat_snds rfl f;rw[k];refine aJ (seqEpoch_at U rfl ?_);refine aJ (listUpdate_at U rfl ?_ BQ (by rw[kD,fI,mU,sz,jP];omega));rw[D];simp only[bne_self_eq_false,yL,lC];exact bG (h _ r)
theorem af2{l:aq}{vs:ai aj}{ts:ai (ai a6)}{Q:aj->ar->Prop}(hl:s.heap.IsList l vs.toArray)(T:mL s.heap vs ts)(dB:∀t∈ts,t≠[])(B:vs.length<64)
  (h:∀p:ai ay,DD ts p->Q (.ref (s.heap.objs.size+1)) {s with heap:=sortedAll s.heap vs (List.toArray (p.map λi=>vs.getD i Value.none))}) :
  wpAny (bc prog w) A (call (.builtin "sorted") [.ref l]) Q E s:=by
 refine YG kind_sorted plain_sorted entry_sorted (args_sorted1 _) ?_;unfold Builtin.«sorted»;refine aJ (m:=checkCount "sorted" 1 1 _) (bG ?_);refine aJ (collect_list hl ?_ (by rw[jP];omega));refine aJ (PV ?_ (by rw[jP];omega));have j:((s.heap.push (b0 "list" #[] 0)).update s.heap.objs.size (Obj.mapSeq (· ++ vs.toArray))).objs.size=s.heap.objs.size+1:=by
  rw[XU,size_push']
 have z:(((s.heap.push (b0 "list" #[] 0)).update s.heap.objs.size (Obj.mapSeq (· ++ vs.toArray))).push (b0 "list" vs.toArray 0)).get? (s.heap.objs.size+1)=ah (b0 "list" vs.toArray 0):=by
  rw[<-j];exact fW _ rfl
 have keep:∀b o,s.heap.get? b=ah o->(((s.heap.push (b0 "list" #[] 0)).update s.heap.objs.size (Obj.mapSeq (· ++ vs.toArray))).push (b0 "list" vs.toArray 0)).get? b=ah o:=λb o q=>by
  have dZ:b<s.heap.objs.size:=dE q;rw[ON _ _ _ (by rw[j];exact dX (IB dZ)),Heap.get?_update_ne _ _ _ _ (dX dZ),ON _ _ _ (dX dZ)];exact q
 show wpAny _ _ _ _ _ {s with heap:=((s.heap.push (b0 "list" #[] 0)).update s.heap.objs.size (Obj.mapSeq (· ++ vs.toArray))).push (b0 "list" vs.toArray 0)};rw[j];refine aJ (qQ (rW slot_list_sort ⟨_,z,rfl⟩ entry_list_sort (Ul z (T.keeps λb o q _=>keep b o q) dB B λp L=>⟨_,rfl,?_⟩) (args_list_sort _)));exact bG ⟨_,rfl,h p L⟩
end
end KS
namespace V2
open PySem PySem.Spec PyProof.Rows L2 KS
def pH(ts:ai (ai a6)):ai (ai a6):=ts.mergeSort λa b=>!dM b a
theorem aoJ{a b c:ai a6}(h1:dM b a=ao)(h2:dM c b=ao):dM c a=ao:=by
 by_cases z:dM c a=au
 ·by_cases y:dM a b=au
  ·rw[LS z y]at h2;cases h2
  ·have e:=SW (by simpa using y) h1;subst e;rw[z]at h2;cases h2
 ·simpa using z
theorem aoK(a b:ai a6):dM b a=ao\/dM a b=ao:=by
 by_cases z:dM b a=au
 ·right
  by_cases y:dM a b=au
  ·have:=LS z y;rw[Dz]at this;cases this
  ·simpa using y
 ·left;simpa using z
theorem RI(ts:ai (ai a6)):(pH ts).Perm ts:=List.mergeSort_perm ts _
theorem Ab(ts:ai (ai a6)):(pH ts).Pairwise λa b=>dM b a=ao:=by
 have h:=List.pairwise_mergeSort (le:=λa b:ai a6=>!dM b a) (λa b c h1 h2=>by
  simp only[Bool.not_eq_true']at h1 h2 ⊢;exact aoJ h1 h2) (λa b=>by
  rcases aoK a b with z|z <;> simp[z]) ts
 exact h.imp λh=>by simpa using h
theorem Qn{ts us:ai (ai a6)}(p:us.Perm ts)(h:us.Pairwise λa b=>dM b a=ao):us=pH ts :=
 List.Perm.eq_of_pairwise (le:=λa b=>dM b a=ao) (λa b _ _ h1 h2=>SW h2 h1) h (Ab ts) (p.trans (RI ts).symm)
theorem af3(ts:ai (ai a6)):(pH ts).length=ts.length:=(RI ts).length_eq
theorem range_getD{α:Type}(l:ai α)(d:α):(List.range l.length).map (λi=>l.getD i d)=l:=by
 apply List.ext_getElem
 ·simp
 ·intro i h1 h2;simp[h2]
theorem Ql{ts:ai (ai a6)}{p:ai ay}(h:DD ts p):p.map (λi=>ts.getD i [])=pH ts:=by
 refine Qn ?_ ?_
 ·have:=h.1.map λi=>ts.getD i [];rwa[range_getD]at this
 ·exact List.pairwise_map.mpr h.2
def xW(H:Hp):ai V->ai (ai a6)->Prop
 |[],[]=>True
 |y::ys,t::ts=>(∃b,y=.ref b/\H b=ah (.tup (t.map V.int)))/\xW H ys ts
 |_,_=>b5
section
variable{X:Cx}{W:WX}
theorem Pl{aa:ai (aq×cj)}{J:L2.St}{H:Hp}{s:ar}(I:Inv X aa J H s){ys:ai V}{us:ai aj}{ts:ai (ai a6)}(r:Vals ys us)(T:xW H ys ts):mL s.heap us ts:=by
 induction r generalizing ts with
 |nil=>cases ts with
  |nil=>trivial
  |cons _ _=>exact False.elim T
 |cons r B ih=>cases ts with
  |nil=>exact False.elim T
  |cons t ts =>
   obtain⟨⟨b,e,hb⟩,T⟩:=T;subst e;cases r;obtain⟨_,L,j,⟨o,q,iA,n,z⟩⟩:=I.aL b _ hb;exact⟨⟨b,o,_,n,rfl,q,iA,z,by simpa using intsAre_of j⟩,ih T⟩
theorem Oz:∀{ys:ai V} {us:ai aj},Vals ys us->∀i,i<ys.length->RelV (ys.getD i .bQ) (us.getD i .none)
 |_::_,_::_,.cons r j,0,_=>r
 |_::_,_::_,.cons r j,i+1,h=>by simpa using Oz j i (by simpa using h)
theorem YW{ys:ai V}{us:ai aj}(r:Vals ys us):∀{p:ai ay},(∀i∈p,i<ys.length)->Vals (p.map λi=>ys.getD i .bQ) (p.map λi=>us.getD i .none)
 |[],_ => .nil
 |i::p,h => .cons (Oz r i (h i sG)) (YW r λj q=>h j (gQ _ q))
theorem xW.len{H:Hp}:∀{ys:ai V} {ts:ai (ai a6)},xW H ys ts->ys.length=ts.length
 |[],[],_=>rfl
 |_::_,_::_,t=>by simp[xW.len t.2]
 |[],_::_,t=>t.elim
 |_::_,[],t=>t.elim
theorem az8:mT X (.builtin "sorted") (λxs H Q=>∃(a:aq) (ys:ai V) (ts:ai (ai a6)),xs=[.ref a]/\fA X.K H a ys/\xW H ys ts/\(∀t∈ts,t≠[])/\ys.length<64/\∀p,DD ts p->∀l,H l=ak->Q (.ref l) (upd H l (.lst (p.map λi=>ys.getD i .bQ)))):=by
 intro aa s J H xs us Q I r h;obtain⟨a,ys,ts,rfl,hq,T,dB,d,q⟩:=h;obtain⟨u,rfl,B⟩:=vals1 r;cases B;obtain⟨j,rv,L,f⟩:=I.list hq;have hl:j.length=ys.length:=by rw[<-rv.length]
 refine af2 L.isList (Pl I rv T) dB (by omega) λp z=>?_;have U:∀i∈p,i<ys.length:=λi hi=>by
  have:=z.1.mem_iff.mp hi;rw[T.len];simpa using this
 have c:p.length=ys.length:=by rw[z.1.length_eq,abM,T.len]
 obtain⟨e,he⟩:=sortedAll_at s.heap j (List.toArray (p.map λi=>j.getD i Value.none));refine⟨.ref (s.heap.objs.size+1),_,I.laid (t':=s.toks) (o:=.lst (p.map λi=>ys.getD i .bQ)) (λb o q=>sortedAll_old q) (qI _) ?_,rfl,q p z _ (I.aL.fresh (qI _))⟩;exact⟨by rw[fI,c,jP];omega,p.map (λi=>j.getD i Value.none),e,YW rv U,he⟩
noncomputable def rD(t:ai a6):A:=.tup (t.map A.int)
def QP:A->av (ai a6)
 |.tup ds=>(intsOf ds).bind λns=>if ns=[]then ak else ah ns
 |_=>ak
def yT:ai A->av (ai (ai a6))
 |[]=>ah []
 |a::r=>(QP a).bind λt=>(yT r).map λts=>t::ts
theorem Vk:∀{ds:ai A} {ns:ai a6},intsOf ds=ah ns->ds=ns.map A.int
 |[],ns,h=>by simp only[intsOf,jJ]at h;subst h;rfl
 |a::ds,ns,h=>by
  cases a with
  |int i =>
   simp only[intsOf,vX]at h;obtain⟨ms,h1,rfl⟩:=h;simp[Vk h1]
  |_=>simp[intsOf]at h
theorem ZH:∀{ds:ai A} {ts:ai (ai a6)},yT ds=ah ts->ds=ts.map rD/\∀t∈ts,t≠[]
 |[],ts,h=>by simp only[yT,jJ]at h;subst h;simp
 |a::ds,ts,h=>by
  simp only[yT,sW,vX]at h;obtain⟨t,h1,us,h2,rfl⟩:=h;obtain⟨e,hn⟩:=ZH h2;cases a with
  |tup B =>
   simp only[QP,sW]at h1;obtain⟨ns,q,j⟩:=h1;split at j
   ·cases j
   ·rename_i dB;cases j;refine⟨by simp[rD,Vk q,<-e],λt ht=>?_⟩
    rcases eB.mp ht with z|z
    ·rw[z];exact dB
    ·exact hn t z
  |_=>cases h1
theorem aw7{K:ba}{G:Hp}{O:ai aq}{xs:ai V}{ns:ai a6}(d:aX K G O xs (ns.map A.int)):xs=ns.map V.int:=BX (zI ns) d
theorem Pm{K:ba}{G H:Hp}{O:ai aq}(sub:mM G H):∀{ts:ai (ai a6)} {ys:ai V},aX K G O ys (ts.map rD)->xW H ys ts
 |[],ys,d=>by rw[qL,pM]at d;subst d;trivial
 |t::ts,ys,d=>by
  obtain⟨x,r,rfl,q,z⟩:=d.kZ;simp only[rD,Den]at q;obtain⟨b,B,rfl,j,dl⟩:=q;rw[aw7 dl]at j;exact⟨⟨b,rfl,sub _ _ j⟩,Pm sub z⟩
theorem Yj{K:ba}{G:Hp}{O:ai aq}:∀{ts:ai (ai a6)} {ys:ai V},aX K G O ys (ts.map rD)->∀i,i<ts.length->Den K G O (ys.getD i .bQ) (rD (ts.getD i []))
 |t::ts,ys,d,i,h=>by
  obtain⟨x,r,rfl,q,j⟩:=d.kZ;cases i with
  |zero=>exact q
  |succ i=>simpa using Yj j i (by simpa using h)
theorem Hz{K:ba}{G:Hp}{O:ai aq}{ts:ai (ai a6)}{ys:ai V}(d:aX K G O ys (ts.map rD)):∀{p:ai ay},(∀i∈p,i<ts.length)->aX K G O (p.map λi=>ys.getD i .bQ) ((p.map λi=>ts.getD i []).map rD)
 |[],_=>by rw[qL,qL,qL,pM]
 |i::p,h => .cons (Yj d i (h i sG)) (Hz d λj q=>h j (gQ _ q))
@[simp] def UP(c:bb)(as:ai A):Mo A:=λZ=>match as with
 | [a]=>(match (dY Z a).bind yT with
  |some ts=>if ts.length<64 then jD c ((pH ts).map rD) Z else ak
  | none=>ak)
 |_=>ak
theorem Zg(c:bb):qP X W (.builtin "sorted") (UP c):=by
 refine⟨_,az8,?_⟩;intro G g k H J m o Q w d h;unfold UP at h;split at h
 ·rename_i a;split at h
  ·rename_i B e;split at h
   ·rename_i n;obtain⟨x,rfl,f⟩:=vR d;rw[sW]at e;obtain⟨ds,b,U⟩:=e;obtain⟨p,z,rfl,h2,j⟩:=qY w f b;obtain⟨L,dB⟩:=ZH U;rw[L]at j;have hlen:z.length=B.length:=by rw[j.length];simp
    refine⟨p,z,B,rfl,h2,Pm w.sub j,dB,by omega,λq hq l hl=>?_⟩;have dp:=Hz j (p:=q) λi hi=>by have:=hq.1.mem_iff.mp hi;simpa using this
    rw[Ql hq]at dp;exact pY w hl dp h
   ·exact False.elim h
  ·exact False.elim h
 ·exact False.elim h
@[simp] def Gz(as:ai A):Mo A:=match as with
 |[.int i]=>ret (.int i)
 |[.bl b]=>ret (.int (if b then 1 else 0))
 |_=>stuck
theorem aAR:qP X W (.type "int") Gz:=by
 refine⟨_,aAL,?_⟩;intro G q z H J B L Q w d h;unfold Gz at h;split at h
 ·rename_i i;obtain⟨x,rfl,j⟩:=vR d;simp only[Den]at j;subst j;exact .inl ⟨i,rfl,lA w (by simp only[Den]) h⟩
 ·rename_i b;obtain⟨x,rfl,j⟩:=vR d;simp only[Den]at j;subst j;exact .inr ⟨b,rfl,lA w (by simp only[Den]) h⟩
 ·exact False.elim h
end
end V2
namespace M
open PySem V2
noncomputable section
def Zy:Ev->Mo A :=
 (mD ao 1 [] (fY aM) (gN 0) uW (aD bM aM cJ))
def aBR:Ev->Mo A :=
 (mD ao 1 [2] (fY aM) (gN 0) (bK (aD lF (aD bM aM cJ) aW)) (mY (aC (aD bM aM cM) (aC (aD (qA) (aD bM aM cJ) aW) a0))))
def Zz:MS :=
 (bO (tL (aR CM (aC aM (aC (cT "int") a0))) (EN (aR CM (aC aM (aC (cT "bool") a0))))))
def yD:ai A->Mo A:=cF 1 Zz
end
end M
namespace V2
open PySem L2
@[simp] theorem Xg(neg:bb)(i j:a6)(Z:aH):zR neg (.int i) (.int j) Z=ah (.ok (.bl (if neg then !(i==j)else i==j)),Z):=by
 simp[zR,res,cO,gH]
@[simp] theorem aFT(i j:a6)(Z:aH):iC (.int i) (.int j) Z=ah (.ok (.bl (i==j)),Z):=Xg ao i j Z
@[simp] theorem aFS(i j:a6)(Z:aH):gA (.int i) (.int j) Z=ah (.ok (.bl (!(i==j))),Z):=Xg au i j Z
theorem HK{i j:a6}(q : -18446744073709551616<i)(h1:i<18446744073709551616):oE i j:=.inl ⟨q,h1⟩
theorem Ig{i j:a6}(q : -18446744073709551616<j)(h1:j<18446744073709551616):oE i j:=.inr ⟨q,h1⟩
@[simp] theorem aF7{α:Type}(x:α)(l:ai α):jV (x::l) 0=ah x:=aBW _
@[simp] theorem aF6{α:Type}(x y:α)(l:ai α):jV (x::y::l) 1=ah y:=aBX _
@[simp] theorem aF5{α:Type}(x y z:α)(l:ai α):jV (x::y::z::l) 2=ah z:=WO _ 2
@[simp] theorem aF4{α:Type}(x y z u:α)(l:ai α):jV (x::y::z::u::l) 3=ah u:=WO _ 3
end V2
namespace M
open PySem L2 V2
noncomputable def zG(c k:a6):a6 :=
 ((c+1)*(48271+118*k)%2147483629/977*16807+(c+1)*(48271+118*k)%2147483629*(k*k+7)+k)%2147483587
theorem SO(c k:a6):0<=zG c k:=Int.emod_nonneg _ (by decide)
theorem Du(c k:a6):zG c k<2147483587:=abQ _ (by decide)
theorem OE(c k:a6)(Z:aH)(b:0<=c)(f:c<8589934592)(a:0<=k)(U:k<1048576):DV [.int c,.int k] Z=aG (.int (zG c k)) Z:=by
 have e:=Int.emod_nonneg ((c+1)*(48271+118*k)) (show(2147483629:a6)≠0 by decide);have d:=abQ ((c+1)*(48271+118*k)) (show(0:a6)<2147483629 by decide);have h1:oE (c+1) (48271+118*k):=HK (by omega) (by omega);have h2:oE k k:=HK (by omega) (by omega);have L:∀j,oE ((c+1)*(48271+118*k)%2147483629) j:=λj=>HK (by omega) (by omega);have B:∀j,oE j 16807:=λj=>Ig (by decide) (by decide);have z:∀j,oE 118 j:=λj=>HK (by decide) (by decide);have q:∀j,oF j 977:=λj=>⟨by decide,by decide⟩
 simp[DV,aaB,h1,h2,L,B,z,q,zG]
def zW(ns:ai a6)(k:a6):a6:=zG (if k<ns.length then ns[k.toNat]?.getD 0%2147483647 else 0) (k+101)
theorem Zd(ns:ai a6)(k:a6):0<=zW ns k:=SO _ _
theorem az2(ns:ai a6)(k:a6):zW ns k<2147483587:=Du _ _
theorem Lo(ns:ai a6)(k:a6)(Z:aH)(j:0<=k)(z:k<1000000):DW [.iU ns,.int k] Z=aG (.int (zW ns k)) Z:=by
 by_cases h:k<(ns.length:a6)
 ·obtain⟨n,rfl⟩:=DS j;have hn:n<ns.length:=by omega
  have e:jV (ns.map A.int) (n:a6)=(aA (ns[n])):=by rw[HS];simp[hn]
  have q:=Int.emod_nonneg ns[n] (show(2147483647:a6)≠0 by decide);have B:=abQ ns[n] (show(0:a6)<2147483647 by decide);have m:=λZ=>OE (ns[n]%2147483647) (n+101) Z q (by omega) (by omega) (by omega);simp[DW,Jn,h,e,m,zW,hn]
 ·have m:=λZ=>OE 0 (k+101) Z (by decide) (by decide) (by omega) (by omega);simp[DW,Jn,h,m,zW]
end M
namespace V2
open PySem L2
theorem Hu{f:A->A->bb}:∀(xs:ai A),(∀x∈xs,f x x=au)->zT f xs xs=au
 |[],_=>rfl
 |x::xs,h=>by simp only[zT,h x sG,Bool.true_and];exact Hu xs λy hy=>h y (gQ _ hy)
theorem Xw:∀(n:ay) (a:A),cO n a=au->gH n a a=au:=by
 intro n
 induction n with
 |zero=>intro a h;cases a <;> first|(simp[gH];done)|(simp[cO]at h)
 |succ n ih =>
  intro a h;cases a with
  |tup ds=>simp only[cO,IQ]at h;simp only[gH];exact Hu ds λx j=>ih x (h x j)
  |lst ds=>simp only[cO,IQ]at h;simp only[gH];exact Hu ds λx j=>ih x (h x j)
  |int i=>simp[gH]
  |bl i=>simp[gH]
  |str i=>simp[gH]
  |bQ=>simp[gH]
  |_=>simp[cO]at h
theorem vF{Z:aH}{n:ay}{a:A}(h:cO 8 a=au):res Z n a=ah a:=by
 cases n <;> simp[res,h]
theorem Xf{a b c:A}{Z:aH}(ha:res Z 6 a=ah c)(hb:res Z 6 b=ah c)(j:cO 8 c=au):iC a b Z=ah (.ok (.bl au),Z):=by
 simp[iC,zR,ha,hb,j,Xw 8 c j]
theorem Cj{Z:aH}{n k:ay}{ds:ai A}(h:Z[k]?=ah (.lst ds)):res Z (n+1) (.aB k)=(tU (res Z n) ds).map .lst:=by
 rw[res,a8 (by simp[cO])];simp[h]
theorem SR{Z:aH}{n:ay}:∀(ds:ai A),ds.all (cO 8)=au->tU (res Z n) ds=ah ds
 |[],_=>rfl
 |d::ds,h=>by
  simp only[Mg,lK]at h;simp[tU,vF h.1,SR ds h.2]
abbrev E:=a6×a6×a6
theorem Ho{ok:aH->Prop}{g:A->MS}{c:Ev->Mo bb}{e:Ev->Mo A}(F:A->av A)(P:Ev->Prop)(Z0:aH)(aL:∀ys,ok (Z0++[.lst ys])):∀(xs:ai A) (Y:Ev) (acc:ai A),P Y->acc.length+xs.length<=1000000 ->
  (∀x∈xs,∀Y,P Y->∀ys,∃Y1,P Y1/\g x Y (Z0++[.lst ys])=ah (.nx,Y1,Z0++[.lst ys])/\((∃y,F x=ah y/\c Y1 (Z0++[.lst ys])=ah (.ok au,Z0++[.lst ys])/\e Y1 (Z0++[.lst ys])=ah (.ok y,Z0++[.lst ys]))\/(F x=ak/\c Y1 (Z0++[.lst ys])=ah (.ok ao,Z0++[.lst ys])))) ->
  ∃Y',pL ok g c e Z0.length xs Y (Z0++[.lst acc])=ah (Y',Z0++[.lst (acc++xs.filterMap F)])
 |[],Y,acc,_,_,_=>⟨Y,by simp[pL,aL]⟩
 |x::xs,Y,acc,b,hl,turn=>by
  simp only[lH]at hl;obtain⟨Y1,U,L,q⟩:=turn x sG Y b acc;have a:acc.length<a7:=by rw[jP];omega
  rcases q with⟨y,z,B,d⟩|⟨z,B⟩
  ·obtain⟨Y',ih⟩:=Ho F P Z0 aL xs Y1 (acc++[y]) U (by simp;omega) λx j=>turn x (gQ _ j);exact⟨Y',by simp[pL,aL,L,B,d,a,ih,z]⟩
  ·obtain⟨Y',ih⟩:=Ho F P Z0 aL xs Y1 acc U (by omega) λx j=>turn x (gQ _ j);exact⟨Y',by simp[pL,aL,L,B,ih,z]⟩
theorem yS{n:ay}{j:ai ay}{fi:Ev->Mo Src}{g:A->MS}{c:Ev->Mo bb}{e:Ev->Mo A}{Y:Ev}{Z Z0:aH}{S:Src}(F:A->av A)(P:Ev->Prop)(z:fi Y Z=ah (.ok S,Z0))(aL:∀ys,S.ok (Z0++[.lst ys]))(U:P (BS n j Y))(hl:S.ds.length<=1000000)
  (turn:∀x∈S.ds,∀Y,P Y->∀ys,∃Y1,P Y1/\g x Y (Z0++[.lst ys])=ah (.nx,Y1,Z0++[.lst ys])/\((∃y,F x=ah y/\c Y1 (Z0++[.lst ys])=ah (.ok au,Z0++[.lst ys])/\e Y1 (Z0++[.lst ys])=ah (.ok y,Z0++[.lst ys]))\/(F x=ak/\c Y1 (Z0++[.lst ys])=ah (.ok ao,Z0++[.lst ys]))))
  (L:fX Z0.length (S.ds.filterMap F)):mD ao n j fi g c e Y Z=ah (.ok (.lst (S.ds.filterMap F)),Z0):=by
 obtain⟨B,q⟩:=Ho F P Z0 aL S.ds (BS n j Y) [] U (by simpa using hl) turn;simp[mD,mb,z,q,Ef,L]
theorem UR{a b c:A}{Z:aH}(ha:res Z 6 a=ah c)(hb:res Z 6 b=ah c)(j:cO 8 c=au):gA a b Z=ah (.ok (.bl ao),Z):=by
 simp[gA,zR,ha,hb,j,Xw 8 c j]
theorem CN{a:A}{Z:aH}(h:cO 8 a=au):iC a a Z=ah (.ok (.bl au),Z):=Xf (vF h) (vF h) h
theorem UQ{a:A}{Z:aH}(h:cO 8 a=au):gA a a Z=ah (.ok (.bl ao),Z):=UR (vF h) (vF h) h
theorem aiH{f:Ev->Mo (ai A)}{Y:Ev}{Z Z':aH}{j:a6}(h:f Y Z=ah (.ok [.int j],Z'))(hs:sD j):QJ f Y Z=ah (.ok (yY 0 j.toNat),Z'):=by
 unfold QJ;rw[bU h];show mb (mJ (sD j)) _ Z'=_;rw[SQ _ hs];rfl
theorem uL{fi:Ev->Mo Src}{g:A->MS}{b:MS}{Y:Ev}{Z Z':aH}{S:Src}(h:fi Y Z=ah (.ok S,Z')):pI fi g b Y Z=eO S.ok g b S.ds Y Z':=by
 unfold pI;rw[dP h]
theorem CW{n:ay}:∀{as:ai A},(∀a∈as,Cl n a)->fX n as
 |[],_=>by simp only[fX]
 |a::as,h=>by simp only[fX];exact⟨h a sG,CW λb hb=>h b (gQ _ hb)⟩
end V2
namespace M
open PySem L2 V2
abbrev Rn:=a6×a6
noncomputable def dR(r:Rn):A:=.tup [.int r.1,.int r.2]
def aI(rs:ai Rn):ai A:=rs.map dR
theorem clT(n:ay)(r:Rn):Cl n (dR r):=by simp[dR,Cl,fX]
theorem Ii(n:ay)(rs:ai Rn):fX n (aI rs):=CW λa h=>by
 obtain⟨r,_,rfl⟩:=mQ.mp h;exact clT n r
theorem Sj(rs:ai Rn):cO 8 (.lst (aI rs))=au:=by
 simp[cO,aI,dR]
noncomputable def nP(rs:ai Rn)(n:a6):a6:=(rs.map λr=>if r.1=n then r.2 else 0).sum
noncomputable def whole(rs:ai Rn):a6:=(rs.map (·.2)).sum
noncomputable def gM(j:ai a6)(f:a6->a6):ai (Key×A):=j.map λk=>(.inl k,.int (f k))
theorem Pa(j:ai a6)(f:a6->a6)(n:a6):iN (gM j f) (.inl n)=if n∈j then(aA (f n))else ak:=by
 induction j with
 |nil=>rfl
 |cons k j ih =>
  simp only[iN,gM,cW,DM]at ih ⊢
  by_cases e:k=n
  ·subst e;simp
  ·have:(Sum.inl k:Key)≠Sum.inl n:=λz=>e (Sum.inl.inj z);simp only[this,decide_false];rw[ih];have q:¬n=k:=λz=>e z.symm;simp[q]
theorem aB3(j:ai a6)(f:a6->a6)(n:a6):((gM j f).any λq=>decide (q.1=(Sum.inl n:Key)))=decide (n∈j):=by
 induction j with
 |nil=>rfl
 |cons k j ih =>
  simp only[gM,cW,OH]at ih ⊢;rw[ih]
  by_cases e:k=n
  ·subst e;simp
  ·have h1:(Sum.inl k:Key)≠Sum.inl n:=λz=>e (Sum.inl.inj z);have B:¬n=k:=λz=>e z.symm;simp[h1,B]
noncomputable def sV(j:ai a6)(n:a6):ai a6:=if n∈j then j else j++[n]
theorem ajW(j:ai a6)(f g:a6->a6)(n:a6)(B:∀k∈j,k≠n->g k=f k):nB (gM j f) (.inl n) (.int (g n))=gM (sV j n) g:=by
 unfold nB sV;rw[aB3]
 by_cases h:n∈j
 ·simp only[h,decide_true,nC];simp only[gM,sY];refine IJ λk q=>?_
  by_cases e:k=n
  ·subst e;simp
  ·have h1:(Sum.inl k:Key)≠Sum.inl n:=λz=>e (Sum.inl.inj z);simp[h1,B k q e]
 ·simp only[h,decide_false,lC];simp only[gM,IK,cW,qL];rw[IJ (g:=λk=>((Sum.inl k:Key),A.int (g k))) λk q=>by rw[B k q (λz=>h (z ▸ q))]];simp
def xA(j:ai a6)(rs:ai Rn):ai a6:=rs.foldl (λj r=>sV j r.1) j
theorem an7{j:ai a6}{n k:a6}:k∈sV j n<->k∈j\/k=n:=by
 unfold sV;split
 ·rename_i h;exact⟨.inl,λz=>z.elim id λe=>e ▸ h⟩
 ·simp
theorem Uv(j:ai a6)(n:a6):(sV j n).length<=j.length+1:=by unfold sV;split <;> simp
theorem Ed:∀(rs:ai Rn) (j:ai a6),(xA j rs).length<=j.length+rs.length
 |[],j=>by simp[xA]
 |r::rs,j=>by
  have h1:=Ed rs (sV j r.1);have h2:=Uv j r.1;show(xA (sV j r.1) rs).length<=_;simp only[lH];omega
noncomputable def lB(r:Rn):ai a6:=[r.1,r.2]
noncomputable def ES:ai a6->Rn
 |[a,b]=>(a,b)
 |_=>(0,0)
def dI(rs:ai Rn):ai Rn:=(pH (rs.map lB)).map ES
theorem Ac(rs:ai Rn):(dI rs).map lB=pH (rs.map lB):=by
 unfold dI;rw[sY];have h:∀t∈pH (rs.map lB),(lB ∘ ES) t=id t:=λt ht=>by
  obtain⟨r,_,rfl⟩:=mQ.mp ((RI (rs.map lB)).mem_iff.mp ht);rfl
 rw[IJ h,List.map_id]
theorem Hw(rs:ai Rn):(pH (rs.map lB)).map rD=aI (dI rs):=by rw[<-Ac,sY];rfl
theorem QO:∀rs:ai Rn,yT (aI rs)=ah (rs.map lB)
 |[]=>rfl
 |r::rs=>by
  show(QP (dR r)).bind (λt=>(yT (aI rs)).map λj=>t::j)=_;rw[QO rs];simp[QP,dR,intsOf,lB]
theorem Qo(rs:ai Rn):(dI rs).length=rs.length:=by unfold dI;rw[List.length_map,af3,List.length_map]
theorem af5(rs:ai Rn):dI (dI rs)=dI rs:=by
 have h:pH (rs.map lB)=pH (pH (rs.map lB)):=Qn (DN _) (Ab _);show(pH ((dI rs).map lB)).map ES=_;rw[Ac,<-h];rfl
def desc(rs:ai Rn):ai a6:=(sortI (rs.map (·.2))).reverse
def taken(rs:ai Rn)(keep:ay):a6:=if keep<rs.length then(desc rs).getD keep 0 else 0
noncomputable def eK(t:a6)(rs:ai Rn):ai Rn:=(rs.filter λr=>decide (t<r.2)).map λr=>(r.1,r.2-t)
theorem aw6(rs:ai Rn):(desc rs).length=rs.length:=by unfold desc;rw[List.length_reverse,EY,List.length_map]
theorem Yi(rs:ai Rn):(desc rs).Perm (rs.map (·.2)):=(List.reverse_perm _).trans (sortI_perm _)
theorem Yh(rs:ai Rn):(desc rs).Pairwise (· >= ·):=by unfold desc;rw[List.pairwise_reverse];exact Ad _
theorem azK(D:ai a6)(h:D.Pairwise (· >= ·))(k:ay)(j:k<D.length):(D.filter λc=>decide (D[k]<c)).length<=k:=by
 generalize q:D[k]=g;rw[<-List.take_append_drop k D,List.filter_append,uT];have h2:(D.drop k).filter (λc=>decide (g<c))=[]:=by
  rw[List.filter_eq_nil_iff];intro c z;obtain⟨i,hi,rfl⟩:=Mc z;rw[List.getElem_drop];simp only[List.length_drop]at hi;have:D[k+i]<=D[k]:=by
   by_cases B:i=0
   ·subst B;exact DR _
   ·exact Ma.mp h k (k+i) j (by omega) (by omega)
  rw[q]at this;simp;omega
 rw[h2];have:=List.length_filter_le (λc=>decide (g<c)) (D.take k);rw[XN]at this;simp only[DL];omega
theorem azL(D:ai a6)(h:D.Pairwise (· >= ·))(k:ay)(j:k<D.length):k<(D.filter λc=>decide (D[k]<=c)).length:=by
 generalize q:D[k]=g;rw[<-List.take_append_drop (k+1) D,List.filter_append,uT];have h2:(D.take (k+1)).filter (λc=>decide (g<=c))=D.take (k+1):=by
  rw[List.filter_eq_self];intro c z;obtain⟨i,hi,rfl⟩:=Mc z;rw[List.getElem_take];rw[XN]at hi;have:D[k]<=D[i]:=by
   by_cases B:i=k
   ·subst B;exact DR _
   ·exact Ma.mp h i k (by omega) j (by omega)
  rw[q]at this;simpa using this
 rw[h2,XN];omega
theorem QV(rs:ai Rn)(k:ay)(j:k<rs.length):∃h:k<(desc rs).length,taken rs k=(desc rs)[k]:=by
 have h:k<(desc rs).length:=by rw[aw6];exact j
 refine⟨h,?_⟩;unfold taken;rw[ax j];simp[h]
theorem Ut(p:a6->bb)(rs:ai Rn):(rs.filter λr=>p r.2).length=((desc rs).filter p).length:=by
 rw[((Yi rs).filter p).length_eq,List.filter_map,fI];rfl
theorem Yr(rs:ai Rn)(k:ay)(j:k<rs.length):(rs.filter λr=>decide (taken rs k<r.2)).length<=k:=by
 obtain⟨h,e⟩:=QV rs k j;rw[e,Ut λc=>decide ((desc rs)[k]<c)];exact azK _ (Yh rs) k h
theorem Ys(rs:ai Rn)(k:ay)(j:k<rs.length):k<(rs.filter λr=>decide (taken rs k<=r.2)).length:=by
 obtain⟨h,e⟩:=QV rs k j;rw[e,Ut λc=>decide ((desc rs)[k]<=c)];exact azL _ (Yh rs) k h
theorem Yq(rs:ai Rn)(h1:∀r∈rs,1<=r.2)(k:ay)(j:k<rs.length):0<taken rs k:=by
 obtain⟨h,e⟩:=QV rs k j;rw[e];obtain⟨r,hr,hq⟩:=mQ.mp ((Yi rs).mem_iff.mp (OF h));have:=h1 r hr;omega
theorem aoN(q:Ev->Mo A)(f:Ev->Mo A)(hq:q=mD ao 1 [] (fY f) (gN 0) uW (aD bM aM cJ))(rs:ai Rn)(hl:rs.length<=1000)(Y:Ev)(Z:aH)(B:f Y Z=aG (.lst (aI rs)) Z):q Y Z=aG (.lst (rs.map λr=>A.int r.2)) Z:=by
 have j:(aI rs).filterMap (λa=>match a with | .tup [_,x]=>ah x|_=>ak)=rs.map λr=>A.int r.2:=by
  simp only[aI,Me];rw[<-Mf];rfl
 rw[<-j,hq];refine yS (S:=srcOf (.lst (aI rs)) (aI rs)) _ (λY=>∃u,Y=[u]) (by simp[B]) (λ_=>rfl) ⟨ak,rfl⟩ (by simp[aI];omega) ?_ (by
  show fX _ (List.filterMap _ (aI rs));rw[j];exact CW λa h=>by obtain⟨r,_,rfl⟩:=mQ.mp h;simp only[Cl])
 rintro x z Y ⟨u,rfl⟩ L;obtain⟨r,_,rfl⟩:=mQ.mp z;exact⟨[ah (dR r)],⟨_,rfl⟩,by simp,.inl ⟨_,rfl,rfl,by simp[dR]⟩⟩
@[simp] theorem aF3{α:Type}(x y z u v:α)(l:ai α):jV (x::y::z::u::v::l) 4=ah v:=WO _ 4
noncomputable def fC(t:a6)(a:A):av A:=match a with
 |.tup [.int n,.int c]=>if t<c then ah (.tup [.int n,.int (c-t)])else ak
 |_=>ak
theorem Hq(t:a6):∀rs:ai Rn,(aI rs).filterMap (fC t)=aI (eK t rs)
 |[]=>rfl
 |r::rs=>by
  have ih:=Hq t rs;have e:aI (r::rs)=dR r::aI rs:=rfl;rw[e,XO]
  by_cases h:t<r.2
  ·have q:fC t (dR r)=ah (dR (r.1,r.2-t)):=by simp[fC,dR,h]
   have j:eK t (r::rs)=(r.1,r.2-t)::eK t rs:=by simp[eK,h]
   rw[q,j];simp only;rw[ih];rfl
  ·have q:fC t (dR r)=ak:=by simp[fC,dR,h]
   have j:eK t (r::rs)=eK t rs:=by simp[eK,h]
   rw[q,j];exact ih
theorem ay4(rs:ai Rn)(hl:rs.length<=1000)(Y:Ev)(Z:aH)(j:(Y[0]?).join=ah (.lst (aI rs))):Zy Y Z=aG (.lst (rs.map λr=>A.int r.2)) Z :=
 aoN Zy aM rfl rs hl Y Z (by simp[j])
theorem ay3(rs:ai Rn)(hl:rs.length<=1000)(t:a6)(x:av A)(Z:aH):aBR [eV (aI rs),x,aA t] Z=aG (.lst (aI (eK t rs))) Z:=by
 rw[<-Hq];refine yS (S:=srcOf (.lst (aI rs)) (aI rs)) (fC t) (λj=>∃u,j=[u,aA t]) (by simp) (λ_=>rfl) ⟨ak,rfl⟩ (by simp[aI];omega) ?_ (by
  show fX _ (List.filterMap _ (aI rs));rw[Hq];exact Ii _ _)
 rintro z q j ⟨u,rfl⟩ B;obtain⟨r,_,rfl⟩:=mQ.mp q;have h2:(2:ay)<=a7:=by decide
 refine⟨[ah (dR r),aA t],⟨_,rfl⟩,by simp,?_⟩
 by_cases h:t<r.2
 ·exact .inl ⟨dR (r.1,r.2-t),by simp[fC,dR,h],by simp[dR,h],by simp[dR,h2]⟩
 ·exact .inr ⟨by simp[fC,dR,h],by simp[dR,h]⟩
theorem aq7(rs:ai Rn):intsOf (rs.map λr=>A.int r.2)=ah (rs.map (·.2)):=by
 have:=zI (rs.map (·.2));rw[sY]at this;exact this
theorem aeA(rs:ai Rn)(k:ay)(j:k<rs.length):jV ((desc rs).map A.int) (k:a6)=(aA (taken rs k)):=by
 obtain⟨h,e⟩:=QV rs k j;rw[HS,e];simp[h]
theorem awE(t:a6)(rs:ai Rn):(eK t rs).length<=rs.length:=by
 unfold eK;rw[List.length_map];exact List.length_filter_le _ _
theorem aiM{Z:aH}{k:ay}{rs:ai Rn}(g:Z[k]?=ah (.lst (aI rs))):res Z 6 (.aB k)=ah (.lst (aI rs)):=by
 have h:(aI rs).all (cO 8)=au:=by simp[aI,dR,cO]
 rw[Cj g,SR _ h];rfl
end M
namespace V2
open PySem PySem.Spec PyProof.Rows L2
noncomputable def putD{α:Type}(f:a5)(v:α):ai (a5×α)->ai (a5×α)
 |[]=>[(f,v)]
 |(g,x)::r=>if g=f then(g,v)::r else(g,x)::putD f v r
@[simp] noncomputable def Fd.cell:Fd->av Cell
 |.lst ds=>ah (.lst ds)
 |.aQ kvs=>ah (.aQ kvs)
 |.val _=>ak
theorem SV{α:Type}{f:a5}:∀{l:ai (a5×α)} {x:α},l.lookup f=ah x->∃i,l[i]?=ah (f,x)/\∀y,putD f y l=l.set i (f,y)
 |[],_,h=>by simp at h
 |(g,z)::r,x,h=>by
  by_cases e:g=f
  ·subst e;simp[List.lookup]at h;subst h;exact⟨0,rfl,λy=>by simp[putD]⟩
  ·have hb:(f==g)=ao:=vV.mpr (cK e);simp only[List.lookup,hb]at h;obtain⟨i,h1,h2⟩:=SV h;exact⟨i+1,by simpa using h1,λy=>by simp[putD,e,h2 y]⟩
theorem RV{α:Type}{f g:a5}{v:α}:∀{l:ai (a5×α)},(putD f v l).lookup g=if g=f then ah v else l.lookup g
 |[]=>by
  by_cases e:g=f
  ·subst e;simp[putD]
  ·have hb:(g==f)=ao:=vV.mpr e;simp[putD,List.lookup,hb,e]
 |(k,x)::r=>by
  have ih:=RV (f:=f) (g:=g) (v:=v) (l:=r)
  by_cases h:k=f
  ·subst h
   by_cases e:g=k
   ·subst e;simp[putD]
   ·have hb:(g==k)=ao:=vV.mpr e;simp[putD,List.lookup,hb,e]
  ·by_cases e:g=k
   ·subst e;simp[putD,h]
   ·have hb:(g==k)=ao:=vV.mpr e;simp only[putD,a8 h,List.lookup,hb];exact ih
theorem LA{α:Type}{f:a5}{v w:α}:∀{l:ai (a5×α)},putD f w (putD f v l)=putD f w l
 |[]=>by simp[putD]
 |(k,x)::r=>by
  by_cases h:k=f
  ·simp[putD,h]
  ·simp[putD,h,LA (l:=r)]
section
variable{K:ba}{G H:Hp}{O:ai aq}{Z:aH}
theorem vQ:∀{ws:ai (a5×V)} {fs:ai (a5×Fd)},jA K G O H ws fs<->ws.length=fs.length/\∀(i:ay) (h:a5) (v:V) (g:a5) (fd:Fd),ws[i]?=ah (h,v)->fs[i]?=ah (g,fd)->h=g/\iM K G O H v fd
 |[],[]=>⟨λ_=>⟨rfl,λi h v g fd q=>by simp at q⟩,λ_=>trivial⟩
 |[],_::_=>⟨λh=>h.elim,λh=>by simp at h⟩
 |_::_,[]=>⟨λh=>h.elim,λh=>by simp at h⟩
 |(f,v)::ws,(g,d)::fs=>by
  constructor
  ·rintro⟨h1,h2,L⟩;obtain⟨B,j⟩:=vQ.mp L;refine⟨by simp[B],λi h z g' fd a b=>?_⟩;cases i with
   |zero=>simp at a b;obtain⟨rfl,rfl⟩:=a;obtain⟨rfl,rfl⟩:=b;exact⟨h1,h2⟩
   |succ i=>exact j i h z g' fd (by simpa using a) (by simpa using b)
  ·rintro⟨B,j⟩;obtain⟨h1,h2⟩:=j 0 f v g d rfl rfl;exact⟨h1,h2,vQ.mpr ⟨by simpa using B,λi h z g' fd a b=>j (i+1) h z g' fd (by simpa using a) (by simpa using b)⟩⟩
theorem jA.look{ws:ai (a5×V)}{fs:ai (a5×Fd)}{f:a5}{fd:Fd}(h:jA K G O H ws fs)(l:fs.lookup f=ah fd):∃v,ws.lookup f=ah v/\iM K G O H v fd:=by
 induction fs generalizing ws with
 |nil=>simp at l
 |cons p fs ih =>
  obtain⟨g,d⟩:=p;cases ws with
  |nil=>exact h.elim
  |cons q ws =>
   obtain⟨g',v⟩:=q;obtain⟨e,h2,j⟩:=h;subst e
   by_cases hb:(f==g')=au
   ·simp only[List.lookup,hb]at l ⊢;cases l;exact⟨v,rfl,h2⟩
   ·have hb:(f==g')=ao:=by simpa using hb
    simp only[List.lookup,hb]at l ⊢;exact ih j l
theorem jA.anB{ws:ai (a5×V)}{fs:ai (a5×Fd)}{f:a5}(h:jA K G O H ws fs)(l:fs.lookup f=ak):ws.lookup f=ak:=by
 induction fs generalizing ws with
 |nil =>
  cases ws with
  |nil=>rfl
  |cons q ws=>exact h.elim
 |cons p fs ih =>
  obtain⟨g,d⟩:=p;cases ws with
  |nil=>exact h.elim
  |cons q ws =>
   obtain⟨g',v⟩:=q;obtain⟨e,h2,j⟩:=h;subst e
   by_cases hb:(f==g')=au
   ·simp only[List.lookup,hb]at l;cases l
   ·have hb:(f==g')=ao:=by simpa using hb
    simp only[List.lookup,hb]at l ⊢;exact ih j l
theorem jA.put{ws:ai (a5×V)}{fs:ai (a5×Fd)}{f:a5}{fd:Fd}{v:V}(h:jA K G O H ws fs)(d:iM K G O H v fd):jA K G O H (iV f v ws) (putD f fd fs):=by
 induction fs generalizing ws with
 |nil =>
  cases ws with
  |nil=>exact⟨rfl,d,trivial⟩
  |cons q ws=>exact h.elim
 |cons p fs ih =>
  obtain⟨g,x⟩:=p;cases ws with
  |nil=>exact h.elim
  |cons q ws =>
   obtain⟨g',B⟩:=q;obtain⟨e,h2,z⟩:=h;subst e
   by_cases j:g'=f
   ·simp only[iV,putD,ax j];exact⟨rfl,d,z⟩
   ·simp only[iV,putD,a8 j];exact⟨rfl,h2,ih z⟩
theorem jA.len{ws:ai (a5×V)}{fs:ai (a5×Fd)}(h:jA K G O H ws fs):ws.length=fs.length:=(vQ.mp h).1
theorem iM.alU{v:V}{fd:Fd}{c:Cell}(h:iM K G O H v fd)(q:fd.cell=ah c):∃b,v=.ref b/\b∉O/\(∃o,H b=ah o)/\pC K G O H b c:=by
 cases fd with
 |val a=>cases q
 |lst ds=>cases q;obtain⟨b,xs,h1,h2,B,j,z⟩:=h;exact⟨b,h1,B,⟨_,j⟩,h2,xs,j,z⟩
 |aQ L=>cases q;obtain⟨b,ws,h1,h2,B,j,z,U⟩:=h;exact⟨b,h1,B,⟨_,j⟩,h2,ws,j,z,U⟩
theorem iM.FJ{b:aq}{fd:Fd}{c:Cell}(j:fd.cell=ah c)(hb:b∉O)(h:pC K G O H b c):iM K G O H (.ref b) fd:=by
 cases fd with
 |val a=>cases j
 |lst ds=>cases j;obtain⟨h1,xs,h2,q⟩:=h;exact⟨b,xs,rfl,h1,hb,h2,q⟩
 |aQ z=>cases j;obtain⟨h1,ws,h2,q,B⟩:=h;exact⟨b,ws,rfl,h1,hb,h2,q,B⟩
theorem Fd.azX{fd:Fd}{c:Cell}(j:fd.cell=ah c):fd.own=au:=by cases fd <;> first|rfl|cases j
theorem Fd.azY{fd:Fd}{c:Cell}(j:fd.cell=ah c):c.noOwn=au:=by cases fd <;> cases j <;> rfl
theorem iM.lend{b:aq}{v:V}{fd:Fd}(h:iM K G O H v fd)(hb:fd.own=au->v≠.ref b):iM K G (O++[b]) H v fd:=by
 cases fd with
 |val a=>exact Den.ext (Ext.cell b) h
 |lst ds =>
  obtain⟨B,xs,h1,h2,z,q,j⟩:=h;exact⟨B,xs,h1,h2,by simp;exact⟨z,λe=>hb rfl (by rw[h1,e])⟩,q,j.ext (Ext.cell b)⟩
 |aQ L =>
  obtain⟨B,ws,h1,h2,z,q,j,U⟩:=h;exact⟨B,ws,h1,h2,by simp;exact⟨z,λe=>hb rfl (by rw[h1,e])⟩,q,j,U.ext (Ext.cell b)⟩
theorem Wd.unfold{s:ay}{cls f:a5}{fs:ai (a5×Fd)}{fd:Fd}{c:Cell}(w:Wd K G O Z H)(hs:Z[s]?=ah (.ins cls fs))(hf:fs.lookup f=ah fd)(E:fd.cell=ah c) :
  ∃b,Wd K G (O++[b]) (Z.set s (.ins cls (putD f (.val (.aB Z.length)) fs))++[c]) H:=by
 obtain⟨a,ha⟩:=w.addr hs;obtain⟨g,C,P,ws,h0,h1,h2⟩:=w.aB s _ a hs ha;obtain⟨n,e1,e2⟩:=SV hf;obtain⟨q1,q2⟩:=vQ.mp h2;have CD:n<fs.length:=(cX.mp e1).1;obtain⟨⟨N,v0⟩,e3⟩:∃p,ws[n]?=ah p:=⟨ws[n]'(by omega),lI _⟩;obtain⟨rfl,o0⟩:=q2 n N v0 f fd e3 e1;obtain⟨b,rfl,hb,⟨o,ho⟩,hC⟩:=o0.alU E;have Te:iJ H O Z s n b:=⟨a,cls,fs,C,P,ws,_,_,fd,ha,hs,h1,e1,Fd.azX E,e3⟩;have lU:s<Z.length:=(cX.mp hs).1;have F:∀k,k<Z.length->(O++[b])[k]?=O[k]?:=λk r=>eQ (by rw[w.len];exact r);have I:∀k,k<Z.length->(Z.set s (.ins cls (putD N (.val (.aB Z.length)) fs))++[c])[k]?=(Z.set s (.ins cls (putD N (.val (.aB Z.length)) fs)))[k]?:=λk r=>eQ (by simpa using r);refine⟨b,w.sub,?_,by simp[w.len],λx hx=>?_,λk c' Q l m=>?_,λb' k i k' i' l m=>?_⟩
 ·rw[Mb];exact⟨w.inj,by simp,λx hx y hy=>by simp at hy;subst hy;exact λe=>hb (e ▸ hx)⟩
 ·rcases XM.mp hx with h|h
  ·exact w.live x h
  ·simp at h;subst h;exact⟨o,ho⟩
 ·by_cases r:k<Z.length
  ·rw[F k r]at m;rw[I k r]at l
   by_cases A:k=s
   ·subst A;rw[fJ lU]at l;cases l;rw[ha]at m;cases m;refine⟨g,C,P,ws,h0,h1,vQ.mpr ⟨by rw[e2];simpa using q1,λj h v g' L B z=>?_⟩⟩;rw[e2]at z
    by_cases D:j=n
    ·subst D;rw[fJ CD]at z;cases z;rw[e3]at B;cases B;refine⟨rfl,?_⟩;simp only[iM,Den];exact⟨b,rfl,by rw[<-w.len];simp⟩
    ·rw[eW (cK D)]at z;obtain⟨T,S⟩:=q2 j h v g' L B z;refine⟨T,S.lend λW ev=>D ?_⟩;subst ev;exact(w.sep b _ j _ n ⟨a,cls,fs,C,P,ws,_,_,L,ha,hs,h1,z,W,B⟩ Te).2
   ·rw[eW (cK A)]at l;have q:=w.aB k c' Q l m;cases c' with
    |lst ds=>obtain⟨B,xs,z,d⟩:=q;exact⟨B,xs,z,d.ext (Ext.cell b)⟩
    |aQ kvs=>obtain⟨B,t,z,d,U⟩:=q;exact⟨B,t,z,d,U.ext (Ext.cell b)⟩
    |ins V X =>
     obtain⟨y0,R,M,t,B,z,d⟩:=q;obtain⟨p1,p2⟩:=vQ.mp d;refine⟨y0,R,M,t,B,z,vQ.mpr ⟨p1,λj h v g' L U u=>?_⟩⟩;obtain⟨T,S⟩:=p2 j h v g' L U u;refine⟨T,S.lend λW ev=>A ?_⟩;subst ev;exact(w.sep b k j s n ⟨Q,V,X,R,M,t,_,_,L,m,l,z,u,W,U⟩ Te).1
    |tab x pos af=>exact q
    |dead=>trivial
  ·have jM:k=Z.length:=by
    have:=(cX.mp l).1;simp at this;omega
   subst jM;rw[<-w.len]at m;simp at m;subst m;simp at l;subst l;cases fd with
   |val x=>cases E
   |lst ds=>cases E;obtain⟨B,xs,z,d⟩:=hC;exact⟨B,xs,z,d.ext (Ext.cell b)⟩
   |aQ kvs=>cases E;obtain⟨B,t,z,d,U⟩:=hC;exact⟨B,t,z,d,U.ext (Ext.cell b)⟩
 ·have back:∀{k i},iJ H (O++[b]) (Z.set s (.ins cls (putD N (.val (.aB Z.length)) fs))++[c]) k i b'->iJ H O Z k i b':=λ{k i} h=>by
   have h0':=h;obtain⟨Q,V,X,R,M,t,g',h',L,B,z,d,U,u,y6⟩:=h
   by_cases r:k<Z.length
   ·rw[F k r]at B;rw[I k r]at z
    by_cases A:k=s
    ·subst A;rw[fJ lU]at z;cases z;rw[ha]at B;cases B;rw[h1]at d;cases d;rw[e2]at U
     by_cases D:i=n
     ·subst D;rw[fJ CD]at U;cases U;cases u
     ·rw[eW (cK D)]at U;exact⟨a,_,fs,C,P,ws,g',h',L,ha,hs,h1,U,u,y6⟩
    ·rw[eW (cK A)]at z;exact⟨Q,V,X,R,M,t,g',h',L,B,z,d,U,u,y6⟩
   ·have jM:k=Z.length:=by
     have:=(cX.mp z).1;simp at this;omega
    subst jM;exact(h0'.no (by simp) (Fd.azY E)).elim
  exact w.sep b' k i k' i' (back l) (back m)
theorem qO.get{n:ay}:∀{fs:ai (a5×Fd)} {i:ay} {p:a5×Fd},qO n fs->fs[i]?=ah p->rU n p.2
 |[],_,_,_,h=>by simp at h
 |_::_,0,_,c,h=>by simp at h;subst h;exact c.1
 |_::fs,i+1,_,c,h=>qO.get (fs:=fs) c.2 (by simpa using h)
theorem Wd.fold{s:ay}{cls f:a5}{fs:ai (a5×Fd)}{fd:Fd}{c:Cell}{q:aH}(w:Wd K G O (q++[c]) H)(hs:q[s]?=ah (.ins cls fs))(hf:fs.lookup f=ah (.val (.aB q.length)))(hc:fd.cell=ah c)
  (N:∀k c',k≠s->q[k]?=ah c'->JC q.length c') (ML:qO q.length (putD f fd fs)):Wd K G (O.take q.length) (q.set s (.ins cls (putD f fd fs))) H:=by
 have W:s<q.length:=(cX.mp hs).1;have hlen:O.length=q.length+1:=by rw[w.len];simp
 have e:∀k,k<q.length->(q++[c])[k]?=q[k]?:=λk N=>eQ N;have d:∀k,k<q.length->(O.take q.length)[k]?=O[k]?:=λk N=>by rw[IM,ax N]
 obtain⟨b,hb⟩:∃b,O[q.length]?=ah b:=⟨O[q.length]'(by omega),lI _⟩;have eι:O=O.take q.length++[b]:=by
  have:=List.take_append_getElem (l:=O) (i:=q.length) (by omega);rw[lI (show q.length<O.length by omega)]at hb;cases hb;rw[List.take_append_getElem,abJ (by omega)]
 have hbn:b∉O.take q.length:=λz=>by
  have nd:=w.inj;rw[eι,Mb]at nd;exact nd.2.2 b z b (by simp) rfl
 have sub:∀x,x∉O->x∉O.take q.length:=λx hx z=>hx (List.mem_of_mem_take z);have ha:∃a,O[s]?=ah a:=w.addr (show(q++[c])[s]?=ah (.ins cls fs)by rw[e s W];exact hs);obtain⟨a,ha⟩:=ha;obtain⟨g,C,dx,ws,h0,h1,h2⟩:=w.aB s _ a (by rw[e s W];exact hs) ha;obtain⟨i0,e1,e2⟩:=SV hf;obtain⟨q1,q2⟩:=vQ.mp h2;have CD:i0<fs.length:=(cX.mp e1).1;have hcb:=w.aB q.length c b (by simp) hb;refine⟨w.sub,w.inj.sublist (List.take_sublist ..),by simp[hlen],λx hx=>w.live x (List.mem_of_mem_take hx),λk c' Q m t=>?_,λp k i k' i' m t=>?_⟩
 ·have y:k<q.length:=by simpa using(cX.mp m).1
  rw[d k y]at t
  by_cases A:k=s
  ·subst A;rw[fJ W]at m;cases m;rw[ha]at t;cases t;refine⟨g,C,dx,ws,h0,h1,vQ.mpr ⟨by rw[e2];simpa using q1,λj h v g' B U L=>?_⟩⟩;have Yz:rU q.length B:=ML.get L;rw[e2]at L
   by_cases P:j=i0
   ·subst P;rw[fJ CD]at L;cases L;obtain⟨S,o⟩:=q2 j h v _ _ U e1;refine⟨S,?_⟩;simp only[iM,Den]at o;obtain⟨b2,rfl,uH⟩:=o;rw[hb]at uH;cases uH;exact iM.FJ hc hbn (hcb.cut d sub (by cases fd <;> cases hc <;> exact Yz))
   ·rw[eW (cK P)]at L;obtain⟨S,o⟩:=q2 j h v g' B U L;exact⟨S,o.cut d sub Yz⟩
  ·rw[eW (cK A)]at m;exact(w.aB k c' Q (by rw[e k y];exact m) t).cut d sub (N k c' A m)
 ·
  have back:∀{k i},iJ H (O.take q.length) (q.set s (.ins cls (putD f fd fs))) k i p->(iJ H O (q++[c]) k i p/\p∉O)\/(k=s/\i=i0/\p=b):=λ{k i} h=>by
   obtain⟨Q,T,I,C',rE,X,g',h',B,U,L,u,n,R,D⟩:=h;have y:k<q.length:=by simpa using(cX.mp L).1
   rw[d k y]at U;have ae:∀{T I X C' rE B g' h'},(q++[c])[k]?=ah (.ins T I)->H Q=ah (.ins C' rE X)->I[i]?=ah (g',B)->B.own=au->X[i]?=ah (h',V.ref p)->p∉O:=λ{_ _ _ _ _ fdx _ _} F E x3 x4 x5=>by
    obtain⟨_,_,_,YJ,_,p1,p2⟩:=w.aB k _ Q F U;rw[E]at p1;cases p1;obtain⟨_,r⟩:=(vQ.mp p2).2 i _ _ _ _ x5 x3;cases fdx with
    |val x=>cases x4
    |lst ds=>obtain⟨b3,_,t1,_,t2,_⟩:=r;cases t1;exact t2
    |aQ kvs=>obtain⟨b3,_,t1,_,t2,_⟩:=r;cases t1;exact t2
   by_cases A:k=s
   ·subst A;rw[fJ W]at L;cases L;rw[ha]at U;cases U;rw[h1]at u;cases u;rw[e2]at n
    by_cases P:i=i0
    ·subst P
     right
     rw[fJ CD]at n;cases n;obtain⟨S,o⟩:=q2 i _ _ _ _ D e1;simp only[iM,Den]at o;obtain⟨b2,eb,uH⟩:=o;rw[hb]at uH;cases uH;cases eb;exact⟨rfl,rfl,rfl⟩
    ·rw[eW (cK P)]at n;have M:(q++[c])[k]?=ah (.ins cls fs):=by rw[e k y];exact hs
     exact .inl ⟨⟨a,_,fs,C,dx,ws,g',h',B,ha,M,h1,n,R,D⟩,ae M h1 n R D⟩
   ·rw[eW (cK A)]at L;have M:(q++[c])[k]?=ah (.ins T I):=by rw[e k y];exact L
    exact .inl ⟨⟨Q,T,I,C',rE,X,g',h',B,U,M,u,n,R,D⟩,ae M u n R D⟩
  have Wq:b∈O:=sX hb
  rcases back m with⟨F,E⟩|⟨F,E,x3⟩ <;> rcases back t with⟨U,L⟩|⟨U,L,u⟩
  ·exact w.sep p k i k' i' F U
  ·subst u;exact bz Wq E
  ·subst x3;exact bz Wq L
  ·exact⟨F.trans U.symm,E.trans L.symm⟩
end
def Unf(s:ay)(f:a5)(Z Z1:aH):Prop:=∃cls fs fd c,Z[s]?=ah (.ins cls fs)/\fs.lookup f=ah fd/\fd.cell=ah c/\Z1=Z.set s (.ins cls (putD f (.val (.aB Z.length)) fs))++[c]
def Folds(s:ay)(f:a5)(n:ay)(Z2 Z':aH):Prop:=∃j c cls fs fd,Z2=j++[c]/\j.length=n/\j[s]?=ah (.ins cls fs)/\fs.lookup f=ah (.val (.aB n))/\fd.cell=ah c /\
 (∀k c',k≠s->j[k]?=ah c'->JC n c')/\qO n (putD f fd fs)/\Z'=j.set s (.ins cls (putD f fd fs))
structure ClS(Z:aH)(Y:Ev):Prop where
 aB:∀(k:ay) (c:Cell),Z[k]?=ah c->JC Z.length c
 env:∀(i:ay) (d:A),Y[i]?=ah (ah d)->Cl Z.length d
section
variable{K:ba}{G H:Hp}{O:ai aq}{Z Z1 Z2 Z':aH}{J:L2.St}{Y:Ev}{W:WX}{s:ay}{f:a5}
theorem Wd.vT(w:Wd K G O Z H)(r:fT K G O J Y):ClS Z Y where
 aB:=λk c h=>by
  obtain⟨a,ha⟩:=w.addr h;have:=(w.aB k c a h ha).cl;rwa[w.len]at this
 env:=λi d h=>by
  obtain⟨v,_,q⟩:=r.2 i d h;have:=q.cl;rwa[w.len]at this
theorem Wd.unf(w:Wd K G O Z H)(h:Unf s f Z Z1):∃b,Wd K G (O++[b]) Z1 H:=by
 obtain⟨cls,fs,fd,c,h1,h2,j,rfl⟩:=h;exact w.unfold h1 h2 j
theorem awK{G':Hp}{O':ai aq}{b:aq}{n:ay}(hl:O.length=n)(e:Ext G (O++[b]) G' O'):Ext G O G' (O'.take n):=⟨e.same,λk x h=>by
 have j:=(cX.mp h).1;rw[IM,ax (by omega)];exact e.pre k x (by rw[eQ j];exact h)⟩
theorem Wd.av8{n:ay}(w:Wd K G O Z2 H)(h:Folds s f n Z2 Z'):Wd K G (O.take n) Z' H:=by
 obtain⟨j,c,cls,fs,fd,rfl,rfl,U,L,B,z,q,rfl⟩:=h;exact w.fold U L B z q
theorem aeB{O':ai aq}{n:ay}:∀k,k<n->(O'.take n)[k]?=O'[k]?:=λk j=>by rw[IM,ax j]
theorem Xx{J':L2.St}{Y':Ev}{G':Hp}{O':ai aq}{n:ay}(r:fT K G' O' J' Y')(j:∀(i:ay) (d:A),Y'[i]?=ah (ah d)->Cl n d):fT K G' (O'.take n) J' Y' :=
 ⟨r.1,λi d h=>let ⟨v,h1,h2⟩:=r.2 i d h; ⟨v,h1,h2.cut aeB (j i d h)⟩⟩
theorem akL{b:aq}{D:Ends}{Y':Ev}(w:Wd K G O Z H)(L:Folds s f Z.length Z2 Z')(B:∀(i:ay) (d:A),Y'[i]?=ah (ah d)->Cl Z.length d)(h:eL K W G O D (ah (.nx,Y',Z'))):eL K W G (O++[b]) D (ah (.nx,Y',Z2)):=by
 intro J' H' U j e q z;exact h J' H' U (j.take Z.length) (awK w.len e) (q.av8 L) (Xx z B)
end
section
variable{X:Cx}{W:WX}{e:bp}{tg:bp}{st:bo}{g d:Ev->Mo A}{gb db:Ev->Mo bb}{gs ds:MS}{gt dt:A->MS}
theorem acR(h:VS X W st gs)(hd:∀Y Z r,ClS Z Y->ds Y Z=ah r->∃s f Z1 Z2,Unf s f Z Z1/\gs Y Z1=ah (.nx,r.2.1,Z2)/\Folds s f Z.length Z2 r.2.2/\(∀(i:ay) (d:A),r.2.1[i]?=ah (ah d)->Cl Z.length d)/\r.1=.nx):VS X W st ds:=by
 obtain⟨t,p,a⟩:=h;refine⟨t,p,λG L Z H J Y D w r h=>?_⟩;cases e:ds Y Z with
 |none=>rw[e]at h;exact h.elim
 |some q =>
  obtain⟨s,f,Z1,Z2,h1,h2,B,z,j⟩:=hd Y Z q (w.vT r) e;obtain⟨b,U⟩:=w.unf h1;obtain⟨k,g,c⟩:=q;simp only at h2 B z j;subst j;rw[e]at h;refine a G (L++[b]) Z1 H J Y D U (r.ext (Ext.cell b)) ?_;rw[h2];exact akL w B z h
end
def bY(K:ba)(cs:ai a5)(f:a5):Prop:=∀cls∈cs,∃C,cc K aw cls=ah (ah (.ref C))/\mS K C/\DG K C f
@[simp] def Hb(cs:ai a5)(f:a5)(a:A):Mo A:=λZ=>match a with
 |.aB s=>match Z[s]? with
  |some (.ins cls fs)=>if cls∈cs then match fs.lookup f with
   |some (.val b)=>ah (.ok b,Z)
   |_=>ak else ak
  |_=>ak
 |_=>ak
@[simp] def dF(cs:ai a5)(f:a5)(fe:Ev->Mo A):Ev->Mo A:=λY=>mb (fe Y) (Hb cs f)
@[simp] def jQ(cs:ai a5)(f:a5)(fo fv:Ev->Mo A):MS:=λY=>sM (fv Y) Y λb=>sM (fo Y) Y λa Z=>match a with
 |.aB s=>match Z[s]? with
  |some (.ins cls fs)=>if cls∈cs/\fs.length<1000 then ah (.nx,Y,Z.set s (.ins cls (putD f (.val b) fs)))else ak
  |_=>ak
 |_=>ak
section
variable{K:ba}{G H:Hp}{O:ai aq}{Z:aH}
theorem Wd.ins(w:Wd K G O Z H){s:ay}{cls:a5}{fs:ai (a5×Fd)}{v:V}(h:Z[s]?=ah (.ins cls fs))(d:Den K G O v (.aB s)):∃a C dx,∃ws:ai (a5×V),v=.ref a/\O[s]?=ah a/\G a=ak/\cc K aw cls=ah (ah (.ref C))/\H a=ah (.ins C dx ws)/\jA K G O H ws fs:=by
 simp only[Den]at d;obtain⟨a,rfl,ha⟩:=d;obtain⟨g,C,dx,ws,h1,h2,j⟩:=w.aB s _ a h ha;exact⟨a,C,dx,ws,rfl,ha,g,h1,h2,j⟩
theorem Sg{f:a5}{v:V}{b:A}:∀{ws:ai (a5×V)} {fs:ai (a5×Fd)} {i:ay} {g h:a5} {fd:Fd} {x:V},jA K G O H ws fs->(putD f (.val b) fs)[i]?=ah (g,fd)->fd.own=au->(iV f v ws)[i]?=ah (h,x)->fs[i]?=ah (g,fd)/\ws[i]?=ah (h,x)
 |[],[],i,g,h,fd,x,_,y,o,_=>by
  cases i with
  |zero=>simp[putD]at y;obtain⟨_,rfl⟩:=y;cases o
  |succ i=>simp[putD]at y
 |[],_::_,_,_,_,_,_,q,_,_,_=>q.elim
 |_::_,[],_,_,_,_,_,q,_,_,_=>q.elim
 |(k,u)::ws,(L,d)::fs,i,g,h,fd,x,q,y,o,z=>by
  obtain⟨rfl,B,j⟩:=q
  by_cases e:k=f
  ·simp only[putD,iV,ax e]at y z;cases i with
   |zero=>simp at y;obtain⟨_,rfl⟩:=y;cases o
   |succ i=>exact⟨by simpa using y,by simpa using z⟩
  ·simp only[putD,iV,a8 e]at y z;cases i with
   |zero=>exact⟨by simpa using y,by simpa using z⟩
   |succ i =>
    have:=Sg (f:=f) (v:=v) (b:=b) (i:=i) j (by simpa using y) o (by simpa using z);exact⟨by simpa using this.1,by simpa using this.2⟩
theorem Wd.agS(w:Wd K G O Z H){s:ay}{cls f:a5}{fs:ai (a5×Fd)}{a C dx:aq}{ws:ai (a5×V)}{v:V}{b:A}(h:Z[s]?=ah (.ins cls fs))(ha:O[s]?=ah a)(E:G a=ak)(h0:cc K aw cls=ah (ah (.ref C)))
  (h1:H a=ah (.ins C dx ws)) (h2:jA K G O H ws fs) (d:Den K G O v b):Wd K G O (Z.set s (.ins cls (putD f (.val b) fs))) (upd H a (.ins C dx (iV f v ws))):=by
 have t:s<Z.length:=(cX.mp h).1;have D:∀b o,b∉O->G b=ak->H b=ah o->b∉O/\G b=ak/\upd H a (.ins C dx (iV f v ws)) b=ah o:=λb o x y z=>by
  have nb:b≠a:=λe=>by subst e;exact x (FU ha)
  exact⟨x,y,by rw[bH nb];exact z⟩
 have N:jA K G O (upd H a (.ins C dx (iV f v ws))) ws fs:=h2.map λ_ _ q=>q.mono (Ext.refl _ _) D;refine⟨λb u q=>?_,w.inj,by simp[w.len],λb hb=>?_,λj T b U L=>?_,λn j i R S U L=>?_⟩
 ·have e:b≠a:=λe=>by subst e;rw[E]at q;cases q
  rw[bH e];exact w.sub _ _ q
 ·by_cases e:b=a
  ·subst e;exact⟨_,eA⟩
  ·rw[bH e];exact w.live b hb
 ·by_cases B:j=s
  ·subst B;rw[fJ t]at U;cases U;rw[ha]at L;cases L;exact⟨E,C,dx,_,h0,eA,N.put d⟩
  ·rw[eW (cK B)]at U;have dB:b≠a:=λe=>by subst e;exact B (zE w.inj L ha)
   exact(w.aB j T b U L).mono (Ext.refl _ _) rfl (bH dB) D
 ·have back:∀{j i},iJ (upd H a (.ins C dx (iV f v ws))) O (Z.set s (.ins cls (putD f (.val b) fs))) j i n->iJ H O Z j i n:=λ{j i} q=>by
   obtain⟨F,M,P,W,I,Q,g',h',c,l,k,g,r,m,p⟩:=q
   by_cases B:j=s
   ·subst B;rw[fJ t]at k;cases k;rw[ha]at l;cases l;rw[eA]at g;cases g;have pi:=Sg h2 r m p;exact⟨a,cls,fs,C,dx,ws,g',h',c,ha,h,h1,pi.1,m,pi.2⟩
   ·rw[eW (cK B)]at k;have dB:F≠a:=λe=>by subst e;exact B (zE w.inj l ha)
    rw[bH dB]at g;exact⟨F,M,P,W,I,Q,g',h',c,l,k,g,r,m,p⟩
  exact w.sep n j i R S (back U) (back L)
end
section
variable{X:Cx}{W:WX}{e o value:bp}{f:a5}{cs:ai a5}{pos pos':cq}{fe fo fv:Ev->Mo A}
theorem fF(h:VE X W e fe)(x:bY X.K cs f)(hb:bw e f X.env (br e X.env)=br e X.env:=by rfl):VE X W (.Attribute e f pos) (dF cs f fe):=by
 obtain⟨t,p,s⟩:=h;refine⟨_,FI p hb,λG g i H J d Q w r h=>?_⟩;refine s G g i H J d _ w r (bR.mb h λa q v N P j R L M h1=>?_);unfold Hb at h1;cases a with
 |aB k =>
  simp only at h1;cases B:q[k]? with
  |none=>rw[B]at h1;exact h1.elim
  |some c =>
   rw[B]at h1;cases c with
   |ins cls fs =>
    simp only at h1
    by_cases iA:cls∈cs
    ·rw[ax iA]at h1;cases z:fs.lookup f with
     |none=>rw[z]at h1;exact h1.elim
     |some E =>
      rw[z]at h1;cases E with
      |val b =>
       obtain⟨a,C,F,m,rfl,ha,S,D,y,A⟩:=L.ins B M;obtain⟨T,U,o,n⟩:=x cls iA;rw[D]at U;cases U;obtain⟨u,l,I⟩:=A.look z;exact⟨a,C,F,m,u,rfl,y,o,n,l,h1 u N P j (Ext.refl _ _) L I⟩
      |_=>exact h1.elim
    ·rw[a8 iA]at h1;exact h1.elim
   |_=>exact h1.elim
 |_=>exact h1.elim
theorem mW(Q:VE X W o fo)(hv:VE X W value fv)(S:bY X.K cs f)(hs:da value (ah (.Attribute o f pos')) pos.line X.env=pure ao:=by rfl):VS X W (.Assign [.Attribute o f pos'] value pos) (jQ cs f fo fv):=by
 obtain⟨t,p,s⟩:=Q;obtain⟨u,q,z⟩:=hv;refine⟨_,akF p q hs,λG E F H J e D w r h=>?_⟩;refine z G E F H J e _ w r (eL.sM h r λb U y H1 G1 B d M d1 h1=>?_);refine s G1 B U H1 J e _ M (r.ext d) (eL.sM h1 (r.ext d) λa L v H2 G2 A g i V h2=>?_);cases a with
 |aB k =>
  simp only at h2;cases j:L[k]? with
  |none=>rw[j]at h2;exact h2.elim
  |some c =>
   rw[j]at h2;cases c with
   |ins cls fs =>
    simp only at h2
    by_cases iA:cls∈cs/\fs.length<1000
    ·rw[ax iA]at h2;obtain⟨a,C,T,I,rfl,ha,R,x,m,n⟩:=i.ins j V;obtain⟨C',l,P,N⟩:=S cls iA.1;rw[x]at l;cases l;refine⟨a,C,T,I,rfl,m,P,N,by rw[n.len];exact iA.2,?_⟩;exact tQ (i.agS j ha R x m n (d1.ext g)) ((r.ext d).ext g) h2
    ·rw[a8 iA]at h2;exact h2.elim
   |_=>exact h2.elim
 |_=>exact h2.elim
end
end V2
namespace L2
open PySem PySem.Spec PyProof.Rows
section
variable{X:Cx}{W:WX}{k:ay}{f C:aq}{fd:ck}{ps:ai a5}{sp:Sp}{dvs:ai V}{ds:ai aj}{x m:a5}{p pos ag:cq}{e o:bp}{es:ai bp}{ta:TE}{t:TA}
theorem Cg{aa:ai (aq×cj)}{J:St}{H:Hp}{s:ar}{Q:VK}{us:ai aj}{vs:ai V}(T:nH X W)(F:gR X.prog X.w X.K X.mg X.base (oB X.prog X.w) k f fd ps sp)(hr:cE k X.A)(hb:Binds X.K fd ps ds)(hd:Vals dvs ds)
  (I:Inv X aa J H s) (r:Vals vs us) (h:sp (vs++dvs) H Q λcls dx H'=>W J cls dx H'):wpAny (bc X.prog X.w) X.A (call (.ref f) us) (EP X aa J Q) X.xe s:=by
 have j:Vals (vs++dvs) (us++ds):=r.append hd;have hl:(us++ds).length=ps.length:=by rw[<-j.length];exact F.len _ _ _ _ h
 refine JQ (uN (F.run X.A X.stack s H ⟨us,[]⟩ (us++ds) (vs++dvs) Q _ hr I.NN (hb s us I.fB hl) j h) λr s' hq=>?_);cases r with
 |error L =>
  obtain⟨a,cls,dx,H',rfl,os,bare,un,aL,ex,q⟩:=hq;have B:=(I.VP os un aL bare (λb z=>bz z (by simp))).Df;exact T.to _ _ ⟨J,H',a,cls,dx,rfl,B,(ex.first I T.ex).any,q⟩
 |ok fl =>
  cases fl with
  |ret u=>exact I.after hq
  |next=>exact False.elim hq
  |brk=>exact False.elim hq
  |cont=>exact False.elim hq
def QW(X:Cx)(W:WX)(m:a5)(ta:TE)(t:TA):TE:=λJ H Q=>ta J H λx H1=>∃a C dx fs k f fd ps ds dvs sp,x=.ref a/\H1 a=ah (.ins C dx fs)/\fs.lookup m=ak/\mS X.K C/\Meth X.K C m f /\
 gR X.prog X.w X.K X.mg X.base (oB X.prog X.w) k f fd ps sp/\cE k X.A/\Binds X.K fd ps ds/\Vals dvs ds/\t J H1 λvs H2=>sp (.ref a::vs++dvs) H2 Q λcls dx H'=>W J cls dx H'
theorem ak6{pl:Sem bb}(T:nH X W)(he:PE X o ta)(ha:PA X (e::es) t)
  (b:az (e::es) X.env=(ao,br e X.env)::az es X.env:=by rfl) (g:(b8 pos (az es X.env)).any (·.1)=ao:=by rfl)
  (ht:br (.Call (.Attribute o m ag) (e::es) [] pos) X.env=(do
   let j<-br o X.env
   standAt ag.atName
   let (f,first)<-c0 [j] (dj j m pl)
   callWith pos f first (b8 pos (az (e::es) X.env)) (dr pos (cx [] X.env))):=by rfl) :
  PE X (.Call (.Attribute o m ag) (e::es) [] pos) (QW X W m ta t):=by
 intro aa s J H Q I h;refine methodCall_KW (pl:=pl) (bN (he aa s J H _ I h) λu s1 h1=>?_) ht;obtain⟨x,n,B,L,a,C,w,fs,k,f,v,ps,ds,i,sp,rfl,d,l,c,hm,F,hr,hb,hd,q⟩:=h1;obtain rfl:u=Value.ref a:=L;refine Gu B d c hm l ?_;refine callWith_K (first:=[.ref a]) (h₀:=X.base) I.ok.mod.tX hm.kp (bN (ha pos aa s1 J n _ B q) λus p ⟨vs,y,z,r,U⟩=>⟨z.fB,?_⟩) b g;exact Cg (us:=.ref a::us) (vs:=.ref a::vs) T F hr hb hd z (.cons rfl r) U
theorem ak5{pl:Sem bb}(T:nH X W)(he:PE X o ta)
  (ht:br (.Call (.Attribute o m ag) [] [] pos) X.env=(do
   let z<-br o X.env
   standAt ag.atName
   let (f,first)<-c0 [z] (dj z m pl)
   callWith pos f first (b8 pos (az [] X.env)) (dr pos (cx [] X.env))):=by rfl) :
  PE X (.Call (.Attribute o m ag) [] [] pos) (QW X W m ta Pz):=by
 intro aa s J H Q I h;refine methodCall_KW (pl:=pl) (bN (he aa s J H _ I h) λu s1 h1=>?_) ht;obtain⟨x,e,j,B,a,C,d,fs,k,f,b,ps,ds,U,sp,rfl,L,l,c,hm,F,hr,hb,hd,q⟩:=h1;obtain rfl:u=Value.ref a:=B;refine Gu j L c hm l ?_;exact PySem.W.callWith_K0 (first:=[.ref a]) j.fB hm.kp (Cg (us:=[.ref a]) (vs:=[.ref a]) T F hr hb hd j (.cons rfl .nil) q)
structure Nq(K:ba)(R:aq)(m:a5)(f:aq):Prop where
 reads:PySem.W.readsIn K R (.type "type")=au
 find:PySem.W.findCls K (.ref R) (.type "type") m=ah (.val (.ref f))
 ga:specialIn K (.ref R) "__getattribute__" = ah (ah (.builtin "type.__getattribute__"))
 kp:keepIn K (.ref f)=au
theorem alN{pl:Sem bb}{R:aq}{j:a5}{np:cq}(T:nH X W)(B:Nq X.K R m f)(q:X.mg j=ah (.ref R))(b:Gl X j)(F:gR X.prog X.w X.K X.mg X.base (oB X.prog X.w) k f fd ps sp)(hr:cE k X.A)(hb:Binds X.K fd ps [])(ha:PA X (e::es) t)
  (d:(j==("__debug__" : a5))=ao:=by decide) (c:az (e::es) X.env=(ao,br e X.env)::az es X.env:=by rfl) (g:(b8 pos (az es X.env)).any (·.1)=ao:=by rfl)
  (ht:br (.Call (.Attribute (.Name j np) m ag) (e::es) [] pos) X.env=(do
   let z<-br (.Name j np) X.env
   standAt ag.atName
   let (f,first)<-c0 [z] (dj z m pl)
   callWith pos f first (b8 pos (az (e::es) X.env)) (dr pos (cx [] X.env))):=by rfl) :
  PE X (.Call (.Attribute (.Name j np) m ag) (e::es) [] pos) (Qf sp W t):=by
 intro aa s J H Q I h;refine methodCall_KW (pl:=pl) (BR I b q ?_ d) ht;refine PySem.W.method_cls I.fB B.ga (PySem.W.cls_value I.fB B.reads B.find (Wt (v:=.ref f) rfl) ?_);have I0:=I.tok (s.toks+1);refine callWith_K (first:=[]) (h₀:=X.base) I.ok.mod.tX B.kp (bN (ha pos aa _ J H _ I0 h) λus n ⟨vs,l,L,r,a⟩=>⟨L.fB,?_⟩) c g;have U:sp (vs++[]) l Q λcls i H'=>W J cls i H':=by rw[wC];exact a
 exact Cg (us:=us) (vs:=vs) (dvs:=[]) T F hr hb .nil L r U
end
end L2
namespace V2
open PySem PySem.Spec PyProof.Rows L2
@[simp] def bI(n:ay)(das:ai A)(F:ai A->Mo A):ai A->Mo A:=λas=>if as.length+das.length=n then F (as++das)else stuck
structure bL(P:a9)(w:bh)(K:ba)(mg:a5->av aj)(base:bu)(cls m:a5)(k:ay)(n:ay)(das:ai A)(F:ai A->Mo A):Prop where
 ex:∃C f fd ps ds dvs,cc K aw cls=ah (ah (.ref C))/\mS K C/\Meth K C m f/\ps.length=n/\gR P w K mg base (oB P w) k f fd ps (qT K ps.length F)/\Binds K fd ps ds/\Vals dvs ds/\∀G O,aX K G O dvs das
@[simp] def US(m:a5)(tab:ai (a5×(ai A->Mo A)))(fs:Mo (ai A))(a:A):Mo A:=λZ=>match a with
 |.aB s=>match Z[s]? with
  |some (.ins cls fs0)=>match tab.lookup cls,fs0.lookup m with
   |some F,ak=>mb fs (λas=>F (.aB s::as)) Z
   |_,_=>ak
  |_=>ak
 |_=>ak
@[simp] def bP(m:a5)(tab:ai (a5×(ai A->Mo A)))(fo:Ev->Mo A)(fs:Ev->Mo (ai A)):Ev->Mo A:=λY=>mb (fo Y) (US m tab (fs Y))
def bB(X:Cx)(m:a5)(tab:ai (a5×(ai A->Mo A))):Prop:=∀cls F,tab.lookup cls=ah F->∃k n das j,F=bI n das j/\cE k X.A/\bL X.prog X.w X.K X.mg X.base cls m k n das j
section
variable{X:Cx}{W:WX}{m:a5}{tab:ai (a5×(ai A->Mo A))}{o e:bp}{es:ai bp}{fo:Ev->Mo A}{fs:Ev->Mo (ai A)}{pos ag:cq}
theorem bB.nil:bB X m []:=λcls F h=>by simp at h
theorem bB.cons{cls:a5}{k n:ay}{das:ai A}{F:ai A->Mo A}(h:bL X.prog X.w X.K X.mg X.base cls m k n das F)(hr:cE k X.A)(t:bB X m tab):bB X m ((cls,bI n das F)::tab):=λc j q=>by
 by_cases e:c=cls
 ·subst e;simp[List.lookup]at q;exact⟨k,n,das,F,q.symm,hr,h⟩
 ·have hb:(c==cls)=ao:=vV.mpr e;simp only[List.lookup,hb]at q;exact t c j q
theorem Ag{ta:TE}{t:TA}(BZ:bB X m tab)(s1:fR X.K (Den X.K) W ta fo)(R:fR X.K (aX X.K) W t fs):fR X.K (Den X.K) W (QW X W m ta t) (bP m tab fo fs):=by
 intro G D E H J o Q w r h;refine s1 G D E H J o _ w r (bR.mb h λa q v H1 G1 L M p l h1=>?_);unfold US at h1;cases a with
 |aB s =>
  simp only at h1;cases i:q[s]? with
  |none=>rw[i]at h1;exact h1.elim
  |some c =>
   rw[i]at h1;cases c with
   |ins cls d =>
    simp only at h1;cases g:tab.lookup cls with
    |none=>rw[g]at h1;exact h1.elim
    |some F =>
     rw[g]at h1;cases e:d.lookup m with
     |some _=>rw[e]at h1;exact h1.elim
     |none =>
      rw[e]at h1;obtain⟨k,n,B,F0,rfl,hr,MV⟩:=BZ cls F g;obtain⟨C,f,fd,ps,ds,z,V,iA,TX,hn,FO,hb,hv,b⟩:=MV.ex;obtain⟨a,C',dx,N,rfl,ha,hg,u,S,T⟩:=p.ins i l;rw[V]at u;cases u;refine⟨a,C,dx,N,k,f,fd,ps,ds,z,_,rfl,S,T.anB e,iA,TX,FO,hr,hb,hv,?_⟩;refine R G1 L q H1 J o _ p (r.ext M) (bR.mb h1 λy U vs H2 A j I P d2 h2=>?_);unfold bI at h2;split at h2
      ·rename_i hl;have x:aX X.K A j (.ref a::vs++z) (.aB s::y++B):=(aX.cons (by simp only[Den]at l ⊢;obtain⟨a2,e5,e6⟩:=l;exact⟨a2,e5,I.pre _ _ e6⟩) d2).append (b _ _);refine⟨?_,A,j,U,.aB s::y++B,P,x,Il h2 (Ext.refl _ _)⟩;have:=x.length;rw[this,hn];simp only[uT,lH]at hl ⊢;omega
      ·exact h2.elim
   |_=>exact h1.elim
 |_=>exact h1.elim
theorem mC{pl:Sem bb}(T:nH X W)(U:bB X m tab)(z:VE X W o fo)(ha:VA X W (e::es) fs)
  (B:az (e::es) X.env=(ao,br e X.env)::az es X.env:=by rfl) (L:(b8 pos (az es X.env)).any (·.1)=ao:=by rfl)
  (ht:br (.Call (.Attribute o m ag) (e::es) [] pos) X.env=(do
   let j<-br o X.env
   standAt ag.atName
   let (f,first)<-c0 [j] (dj j m pl)
   callWith pos f first (b8 pos (az (e::es) X.env)) (dr pos (cx [] X.env))):=by rfl) :
  VE X W (.Call (.Attribute o m ag) (e::es) [] pos) (bP m tab fo fs):=by
 obtain⟨a,p1,s1⟩:=z;obtain⟨t,p2,q⟩:=ha;exact⟨_,ak6 T p1 p2 B L ht,Ag U s1 q⟩
theorem iF{pl:Sem bb}(T:nH X W)(B:bB X m tab)(z:VE X W o fo)
  (ht:br (.Call (.Attribute o m ag) [] [] pos) X.env=(do
   let j<-br o X.env
   standAt ag.atName
   let (f,first)<-c0 [j] (dj j m pl)
   callWith pos f first (b8 pos (az [] X.env)) (dr pos (cx [] X.env))):=by rfl) :
  VE X W (.Call (.Attribute o m ag) [] [] pos) (bP m tab fo a0):=by
 obtain⟨a,p1,s1⟩:=z;refine⟨_,ak5 T p1 ht,Ag B s1 ?_⟩;intro G q U H J L Q w r h;exact h [] H G q (Ext.refl _ _) w .nil
structure xZ(P:a9)(w:bh)(K:ba)(mg:a5->av aj)(base:bu)(cls:a5)(k:ay)(n:ay)(F:ai A->Mo A):Prop where
 ex:∃C f fd ps,cc K aw cls=ah (ah (.ref C))/\mg cls=ah (.ref C)/\Mk K C f/\ps.length=n/\gR P w K mg base (oB P w) k f fd ps (qT K ps.length F)/\Binds K fd ps []
@[simp] noncomputable def sQ(cls:a5)(n:ay)(F:ai A->Mo A)(as:ai A):Mo A:=λZ=>if as.length+1=n then match F (.aB Z.length::as) (Z++[.ins cls []])with
 |some (.ok .bQ,Z2)=>ah (.ok (.aB Z.length),Z2)
 |_=>ak else ak
theorem JY{cls:a5}{k n:ay}{F:ai A->Mo A}{p:cq}(M:xZ X.prog X.w X.K X.mg X.base cls k n F)(hr:cE (k+1) X.A)(N:Gl X cls)(ha:VA X W (e::es) fs)
  (R:(cls==("__debug__" : a5))=ao:=by decide) (he:az (e::es) X.env=(ao,br e X.env)::az es X.env:=by rfl) (S:(b8 pos (az es X.env)).any (·.1)=ao:=by rfl) :
  VE X W (.Call (.Name cls p) (e::es) [] pos) (aR (sQ cls n F) fs):=by
 obtain⟨C,f,fd,ps,P,hm,mk,hn,FO,hb⟩:=M.ex;obtain⟨t,p1,s1⟩:=ha;refine⟨_,ak8 mk (Ze FO) hr N hm hb .nil alR p1 R he S,λG o u H J m Q w r h=>?_⟩;refine s1 G o u H J m _ w r (bR.mb h λc j vs d g z x1 L T h1=>?_);unfold sQ at h1
 by_cases hl:c.length+1=n
 ·rw[ax hl]at h1;intro x B l V dB;have D:=L.grow (H':=upd d B (.own x)) (mM.new V);have I:upd d B (.own x) x=ak:=by rw[bH (cK dB)];exact l
  have y:Wd X.K g (z++[x]) (j++[.ins cls []]) (upd (upd d B (.own x)) x (.ins C B [])):=D.cell I ⟨L.oY l,C,B,[],P,eA,trivial⟩;have i:aX X.K g (z++[x]) (.ref x::(vs++[])) (.aB j.length::c):=.cons (by simp only[Den];exact⟨x,rfl,by rw[<-L.len];simp⟩) (by rw[wC];exact T.ext (Ext.cell x));refine⟨by rw[i.length,hn];simpa using hl,g,z++[x],_,_,y,i,?_⟩
  revert h1
  generalize F (.aB j.length::c) (j++[.ins cls []])=q;intro h1
  match q,h1 with
  |some (.ok .bQ,s),h1 =>
   intro v H' G' U b E d';simp only[Den]at d';subst d';refine⟨rfl,h1 (.ref x) H' G' U ⟨b.same,λk a q=>b.pre k a (by rw[eQ (cX.mp q).1];exact q)⟩ E ?_⟩;simp only[Den];exact⟨x,rfl,b.pre _ _ (by rw[<-L.len];simp)⟩
 ·rw[a8 hl]at h1;exact h1.elim
structure yC(P:a9)(w:bh)(K:ba)(mg:a5->av aj)(base:bu)(rk m:a5)(k:ay)(n:ay)(F:ai A->Mo A):Prop where
 ex:∃R f fd ps,mg rk=ah (.ref R)/\Nq K R m f/\ps.length=n/\gR P w K mg base (oB P w) k f fd ps (qT K ps.length F)/\Binds K fd ps []
theorem Ox{pl:Sem bb}{j:a5}{k n:ay}{F:ai A->Mo A}{np:cq}(T:nH X W)(B:yC X.prog X.w X.K X.mg X.base j m k n F)(g:Gl X j)(hr:cE k X.A)(ha:VA X W (e::es) fs)
  (l:(j==("__debug__" : a5))=ao:=by decide) (i:az (e::es) X.env=(ao,br e X.env)::az es X.env:=by rfl) (o:(b8 pos (az es X.env)).any (·.1)=ao:=by rfl)
  (ht:br (.Call (.Attribute (.Name j np) m ag) (e::es) [] pos) X.env=(do
   let L<-br (.Name j np) X.env
   standAt ag.atName
   let (f,first)<-c0 [L] (dj L m pl)
   callWith pos f first (b8 pos (az (e::es) X.env)) (dr pos (cx [] X.env))):=by rfl) :
  VE X W (.Call (.Attribute (.Name j np) m ag) (e::es) [] pos) (aR (cA n F) fs):=by
 obtain⟨R,f,y,ps,hm,v,hn,u,hb⟩:=B.ex;obtain⟨t,p1,s1⟩:=ha;refine⟨_,alN T v hm g u hr hb p1 l i o ht,λG b c H J a Q w r h=>?_⟩;refine s1 G b c H J a _ w r (bR.mb h λp z vs C s q x d U h1=>?_);unfold cA at h1;split at h1
 ·rename_i hl;exact⟨by rw[U.length,hn];exact hl,s,q,z,p,d,U,Il h1 (Ext.refl _ _)⟩
 ·exact False.elim h1
end
def pV(cs:ai a5)(i:ay)(f:a5)(Y:Ev)(Z:aH):av (ay×a5×ai (a5×Fd)×Fd):=match (Y[i]?).join with
 |some (.aB s)=>match Z[s]? with
  |some (.ins cls fs)=>if cls∈cs then(fs.lookup f).map λfd=>(s,cls,fs,fd)else ak
  |_=>ak
 |_=>ak
abbrev kI(Z:aH)(s:ay)(cls f:a5)(fs:ai (a5×Fd))(c:Cell):aH:=Z.set s (.ins cls (putD f (.val (.aB Z.length)) fs))++[c]
section
variable{cs:ai a5}{i:ay}{f:a5}{Y:Ev}{Z:aH}{s:ay}{cls:a5}{fs:ai (a5×Fd)}{fd fd':Fd}{c c':Cell}
theorem Td(h:pV cs i f Y Z=ah (s,cls,fs,fd)):Y[i]?=ah (ah (.aB s))/\Z[s]?=ah (.ins cls fs)/\cls∈cs/\fs.lookup f=ah fd:=by
 unfold pV at h;cases B:(Y[i]?).join with
 |none=>rw[B]at h;cases h
 |some d =>
  rw[B]at h;cases d with
  |aB k =>
   simp only at h;cases z:Z[k]? with
   |none=>rw[z]at h;cases h
   |some c =>
    rw[z]at h;cases c with
    |ins L U =>
     simp only at h
     by_cases j:L∈cs
     ·rw[ax j]at h;cases q:U.lookup f with
      |none=>rw[q]at h;cases h
      |some x =>
       rw[q]at h;cases h;exact⟨join_some B,z,j,q⟩
     ·rw[a8 j]at h;cases h
    |_=>cases h
  |_=>cases h
theorem Ik{n:ay}{f:a5}{fd:Fd}:∀{fs:ai (a5×Fd)},qO n fs->rU n fd->qO n (putD f fd fs)
 |[],_,h=>⟨h,trivial⟩
 |(g,x)::r,c,h=>by
  by_cases e:g=f
  ·simp only[putD,ax e];exact⟨h,c.2⟩
  ·simp only[putD,a8 e];exact⟨c.1,Ik c.2 h⟩
theorem Eb(h:pV cs i f Y Z=ah (s,cls,fs,fd)):(kI Z s cls f fs c)[Z.length]?=ah c:=by
 rw[sZ (by simp)];simp
theorem Ea(h:pV cs i f Y Z=ah (s,cls,fs,fd)):dF cs f (dO i) Y (kI Z s cls f fs c)=ah (.ok (.aB Z.length),kI Z s cls f fs c):=by
 obtain⟨h1,h2,q,z⟩:=Td h;have hs:s<Z.length:=(cX.mp h2).1;have e:(kI Z s cls f fs c)[s]?=ah (.ins cls (putD f (.val (.aB Z.length)) fs)):=by
  rw[eQ (by simpa using hs),fJ hs]
 have l:(putD f (Fd.val (.aB Z.length)) fs).lookup f=ah (.val (.aB Z.length)):=by rw[RV,ax rfl]
 have j:(Y[i]?).join=ah (.aB s):=by rw[h1];rfl
 simp only[dF,dO,need,mb,j,OB,Hb,e,ax q,l]
theorem Uq(j:Cell):(kI Z s cls f fs c).set Z.length j=kI Z s cls f fs j:=by
 unfold kI;rw[abK _ _ (by simp)];simp
end
def DO(i:ay)(f:a5)(g:MS)(Y:Ev)(Z:aH)(r:Out×Ev×aH):Prop :=
 ∃s cls fs fd c q fd' c',Y[i]?=ah (ah (.aB s))/\Z[s]?=ah (.ins cls fs)/\fs.lookup f=ah fd/\fd.cell=ah c/\g Y (kI Z s cls f fs c)=ah (.nx,r.2.1,q++[c'])/\q.length=Z.length /\
  q[s]?=ah (.ins cls (putD f (.val (.aB Z.length)) fs))/\fd'.cell=ah c'/\(∀(k:ay) (x:Cell),k≠s->q[k]?=ah x->Z[k]?=ah x\/JC Z.length x)/\(fd'=fd\/rU Z.length fd') /\
  (∀(j:ay) (d:A),r.2.1[j]?=ah (ah d)->Y[j]?=ah (ah d)\/Cl Z.length d)/\r.1=.nx/\r.2.2=q.set s (.ins cls (putD f fd' fs))
open Classical in
noncomputable def wO(i:ay)(f:a5)(g:MS):MS:=λY Z=>if h:∃r,DO i f g Y Z r then ah (Classical.choose h)else ak
theorem azZ{a b:Fd}{c:Cell}(h1:a.cell=ah c)(h2:b.cell=ah c):a=b:=by
 cases a with
 |val x=>cases h1
 |lst ds=>cases b with
  |lst es=>cases h1;cases h2;rfl
  |val _=>cases h2
  |aQ _=>cases h1;cases h2
 |aQ j=>cases b with
  |aQ es=>cases h1;cases h2;rfl
  |val _=>cases h2
  |lst _=>cases h1;cases h2
theorem DO.uniq{i:ay}{f:a5}{g:MS}{Y:Ev}{Z:aH}{r j:Out×Ev×aH}(h:DO i f g Y Z r)(h':DO i f g Y Z j):r=j:=by
 obtain⟨s,cls,fs,fd,c,k,X,N,a1,a2,y,x,w,W,V,v,T,C,A,D,E⟩:=h;obtain⟨s',I,K,m,P,e,l,M,d,b,a,U,L,S,R,p,Q,u,t,z,q⟩:=h';rw[a1]at d;cases d;rw[a2]at b;cases b;rw[y]at a;cases a;rw[x]at U;cases U;rw[w]at L;obtain⟨H,G,F⟩:=r;obtain⟨p1,p2,p3⟩:=j;simp only[jJ,Kx,true_and]at *;obtain⟨o,n⟩:=L;obtain⟨rfl,B⟩:=List.append_inj' n rfl;simp only[IP,and_true]at B;subst B;have:=azZ v p;subst this;subst D z;exact⟨rfl,o,by rw[E,q]⟩
theorem ah8{i:ay}{f:a5}{g:MS}{Y:Ev}{Z:aH}{r:Out×Ev×aH}(h:DO i f g Y Z r):wO i f g Y Z=ah r:=by
 have ex:∃r,DO i f g Y Z r:=⟨r,h⟩;unfold wO;rw[dif_pos ex];exact b7 ah (DO.uniq (PN ex) h)
section
variable{X:Cx}{W:WX}{st:bo}{f:a5}{cs:ai a5}{i:ay}{pos aEV ag iY aER:cq}{gs:MS}{x:a5}
theorem YO(h:VS X W st gs):VS X W st (wO i f gs):=by
 refine acR h λF l r cl hd=>?_;unfold wO at hd;split at hd
 ·rename_i ex;cases hd;generalize hr:Classical.choose ex=r;have gF:=PN ex;rw[hr]at gF;obtain⟨s,cls,fs,b,c,q,C,e,H,L,g,A,y,w,v,u,t,a,U,D,E⟩:=gF;obtain⟨G,p,_⟩:=SV g;have B:rU l.length b:=(cl.aB s _ L:qO _ fs).get p;refine⟨s,f,_,q++[e],⟨cls,fs,b,c,L,g,A,rfl⟩,y,⟨q,e,cls,_,C,rfl,w,v,by rw[RV,ax rfl],u,λk x n m=>?_,?_,by rw[LA];exact E⟩,λj d o=>?_,D⟩
  ·rcases t k x n m with z|z
   ·exact cl.aB k x z
   ·exact z
  ·rw[LA];exact Ik (cl.aB s _ L:qO _ fs) (by rcases a with z|z;exact z ▸ B;exact z)
  ·rcases U j d o with z|z
   ·exact cl.env j d z
   ·exact z
 ·cases hd
end
def BL(cs:ai a5)(i:ay)(Y:Ev)(Z:aH):av (ay×a5×ai (a5×Fd)):=match (Y[i]?).join with
 |some (.aB s)=>match Z[s]? with
  |some (.ins cls fs)=>if cls∈cs then ah (s,cls,fs)else ak
  |_=>ak
 |_=>ak
theorem amU{cs:ai a5}{i:ay}{Y:Ev}{Z:aH}{s:ay}{cls:a5}{fs:ai (a5×Fd)}(h:BL cs i Y Z=ah (s,cls,fs)):Y[i]?=ah (ah (.aB s))/\Z[s]?=ah (.ins cls fs)/\cls∈cs:=by
 unfold BL at h;cases z:(Y[i]?).join with
 |none=>rw[z]at h;cases h
 |some d =>
  rw[z]at h;cases d with
  |aB k =>
   simp only at h;cases q:Z[k]? with
   |none=>rw[q]at h;cases h
   |some c =>
    rw[q]at h;cases c with
    |ins B L =>
     simp only at h
     by_cases j:B∈cs
     ·rw[ax j]at h;cases h;exact⟨join_some z,q,j⟩
     ·rw[a8 j]at h;cases h
    |_=>cases h
  |_=>cases h
@[simp] noncomputable def Fd.FJ:Cell->av Fd
 |.lst ds=>ah (.lst ds)
 |.aQ kvs=>ah (.aQ kvs)
 |_=>ak
theorem Fd.amS{c:Cell}{fd:Fd}(h:Fd.FJ c=ah fd):fd.cell=ah c:=by
 cases c <;> cases h <;> rfl
open Classical in
@[simp] noncomputable def vE(cs:ai a5)(i:ay)(f:a5)(fv:Ev->Mo A):MS:=λY Z=>match BL cs i Y Z with
 |some (s,cls,fs)=>match fv Y Z with
  |some (.ok (.aB n),Z1)=>match Z1[Z.length]? with
   |some c=>match Fd.FJ c with
    |some fd=>if n=Z.length/\Z1=Z++[c]/\fs.length<1000/\rU Z.length fd then ah (.nx,Y,Z.set s (.ins cls (putD f fd fs)))else ak
    |none=>ak
   |none=>ak
  |_=>ak
 |none=>ak
section
variable{X:Cx}{W:WX}{st:bo}{f:a5}{cs:ai a5}{i:ay}{fv:Ev->Mo A}
theorem QD(h:VS X W st (jQ cs f (dO i) fv)):VS X W st (vE cs i f fv):=by
 obtain⟨t,p,v⟩:=h;refine⟨t,p,λG l z H J B D w r h=>?_⟩;have cl:=w.vT r;unfold vE at h;split at h
 ·rename_i s cls fs eo;split at h
  ·rename_i n m K;split at h
   ·rename_i c P;split at h
    ·rename_i fd I;split at h
     ·rename_i E;obtain⟨rfl,rfl,hl,iA⟩:=E;obtain⟨h1,h2,F⟩:=amU eo;have U:s<z.length:=(cX.mp h2).1;have M:=Fd.amS I;refine v G l z H J B D w r ?_;have o:(B[i]?).join=ah (.aB s):=by rw[h1];rfl
      have A:(z++[c])[s]?=ah (.ins cls fs):=by rw[eQ U];exact h2
      have e:jQ cs f (dO i) fv B z=ah (.nx,B,z.set s (.ins cls (putD f (.val (.aB z.length)) fs))++[c]):=by
       simp only[jQ,sM,K,dO,need,o,OB,A,ax (And.intro F hl)];rw[abL _ _ U]
      rw[e];intro J' H' N L ex u y;have b:=u.fold (s:=s) (f:=f) (fd:=fd) (cls:=cls) (fs:=putD f (.val (.aB z.length)) fs) (fJ U) (by rw[RV,ax rfl];simp) M (λk x a g=>by
       rw[eW (cK a)]at g;have:=cl.aB k x g;simpa using this) (by
       rw[LA];have:=Ik (f:=f) (cl.aB s _ h2:qO _ fs) iA;simpa using this)
      rw[LA,qJ,vZ]at b;refine h J' H' N (L.take z.length) ⟨ex.same,λk x q=>?_⟩ b (Xx y λj d C=>cl.env j d C);have a:=(cX.mp q).1;rw[IM,ax (by rw[<-w.len];exact a)];exact ex.pre k x q
     ·exact h.elim
    ·exact h.elim
   ·exact h.elim
  ·exact h.elim
 ·exact h.elim
end
theorem rF{K:ba}{f:a5}:bY K [] f:=λcls h=>by simp at h
theorem pA{K:ba}{f cls:a5}{cs:ai a5}{C:aq}(h1:cc K aw cls=ah (ah (.ref C)))(h2:mS K C)(j:bx K (.ref C) f=ah ak)(t:bY K cs f):bY K (cls::cs) f:=λc h=>by
 rcases eB.mp h with e|e
 ·subst e;exact⟨C,h1,h2,j⟩
 ·exact t c e
section
variable{P:a9}{w:bh}{K:ba}{mg:a5->av aj}{base:bu}
theorem Hh{x af:a5}{st:bo}{N ps:ai a5}{k:ay}{b:MS}{f:aq}{fd:ck}(F:tD K x af st f fd)(S:cL N ps (aY st))
  (iB:∀(f:aq) (aS:aj) (A:bj) (outer:ai Env) (s:ar) (H:Hp) (E:XK),cE k (A.deeper (cn af (aY st) s.heap.objs.size f aS)) ->
   fN (oZ P w K mg base N af (aY st) f aS A outer s H E) (λ_=>E) (eZ st) b):gR P w K mg base (oB P w) (k+1) f fd ps (qT K ps.length (cF N.length b)):=by
 obtain⟨oc,od,kV,doc,pm,an,aS,ct,gY,rfl,lk,jG⟩:=F.ex;refine Hg lk jG S (λvs H Q E h=>h.1) λA outer s H vs Q E hr gF=>?_;obtain⟨t,p,q⟩:=iB f aS A outer s H E hr;exact⟨t,Ee p,NR q gF⟩
structure iL(K:ba)(mg:a5->av aj)(cls m af:a5)(st:bo):Prop where
 ex:∃C f fd,cc K aw cls=ah (ah (.ref C))/\mg cls=ah (.ref C)/\mS K C/\Meth K C m f/\tD K m af st f fd
theorem bL.of{cls m af:a5}{st:bo}{N ps:ai a5}{k:ay}{b:MS}(h:iL K mg cls m af st)(S:cL N ps (aY st))
  (bind:∀(kV doc pm:aj) (an:av aq) (aS ct:aj) (us:ai aj),us.length=ps.length->dh (fnOf m af (kO st) (eZ st) (aY st) .none kV doc pm an aS ct) ⟨us,[]⟩=pure (ps.zip us))
  (iB:∀(f:aq) (aS:aj) (A:bj) (outer:ai Env) (s:ar) (H:Hp) (E:XK),cE k (A.deeper (cn af (aY st) s.heap.objs.size f aS)) ->
   fN (oZ P w K mg base N af (aY st) f aS A outer s H E) (λ_=>E) (eZ st) b):bL P w K mg base cls m (k+1) ps.length [] (cF N.length b):=by
 obtain⟨C,f,fd,h1,_,h2,j,F⟩:=h.ex;exact⟨C,f,fd,ps,[],[],h1,h2,j,rfl,Hh F S iB,F.binds bind,.nil,λ_ _ => .nil⟩
structure XW(K:ba)(mg:a5->av aj)(cls af:a5)(st:bo):Prop where
 ex:∃C f fd,cc K aw cls=ah (ah (.ref C))/\mg cls=ah (.ref C)/\Mk K C f/\tD K "__init__" af st f fd
theorem xZ.of{cls af:a5}{st:bo}{N ps:ai a5}{k:ay}{b:MS}(h:XW K mg cls af st)(S:cL N ps (aY st))
  (bind:∀(kV doc pm:aj) (an:av aq) (aS ct:aj) (us:ai aj),us.length=ps.length->dh (fnOf "__init__" af (kO st) (eZ st) (aY st) .none kV doc pm an aS ct) ⟨us,[]⟩=pure (ps.zip us))
  (iB:∀(f:aq) (aS:aj) (A:bj) (outer:ai Env) (s:ar) (H:Hp) (E:XK),cE k (A.deeper (cn af (aY st) s.heap.objs.size f aS)) ->
   fN (oZ P w K mg base N af (aY st) f aS A outer s H E) (λ_=>E) (eZ st) b):xZ P w K mg base cls (k+1) ps.length (cF N.length b):=by
 obtain⟨C,f,fd,h1,h2,j,F⟩:=h.ex;exact⟨C,f,fd,ps,h1,h2,j,rfl,Hh F S iB,F.binds bind⟩
structure OO(K:ba)(mg:a5->av aj)(rk m af:a5)(st:bo):Prop where
 ex:∃R f fd,mg rk=ah (.ref R)/\Nq K R m f/\tD K m af st f fd
theorem yC.of{j m af:a5}{st:bo}{N ps:ai a5}{k:ay}{b:MS}(h:OO K mg j m af st)(S:cL N ps (aY st))
  (bind:∀(kV doc pm:aj) (an:av aq) (aS ct:aj) (us:ai aj),us.length=ps.length->dh (fnOf m af (kO st) (eZ st) (aY st) .none kV doc pm an aS ct) ⟨us,[]⟩=pure (ps.zip us))
  (iB:∀(f:aq) (aS:aj) (A:bj) (outer:ai Env) (s:ar) (H:Hp) (E:XK),cE k (A.deeper (cn af (aY st) s.heap.objs.size f aS)) ->
   fN (oZ P w K mg base N af (aY st) f aS A outer s H E) (λ_=>E) (eZ st) b):yC P w K mg base j m (k+1) ps.length (cF N.length b):=by
 obtain⟨R,f,fd,h1,h2,F⟩:=h.ex;exact⟨R,f,fd,ps,h1,h2,rfl,Hh F S iB,F.binds bind⟩
end
theorem Inv.Pk{X:Cx}{aa:ai (aq×cj)}{J:L2.St}{H:Hp}{s:ar}{h':bu}{t':ay}{ch:ai aq}(I:Inv X aa J H s)(k:∀b o,b∉ch->s.heap.get? b=ah o->h'.get? b=ah o)(hf:∀b∈ch,pR X aa H b):Inv X aa J H {s with heap:=h',toks:=t' }:=by
 have ne:∀b u,H b=ah u->b∉ch:=λb u q z=>by rw[(hf b z).1]at q;cases q
 refine I.step (g':=s.gens) (d':=s.drawn) (ch:=ch) (λb hb=>?_) (λb o _ _ j q _=>k b o j q) (λb o _ _ j q _=>⟨o.slots,k b o j q⟩) (λ_ _ _ _ n=>n)
  (λb o j q=>⟨o,k b o j q⟩) (λ_ _ q=>q) (λ_ _ _ q=>q) (λb ps q=>⟨#[],by rw[q];simp⟩) (λm hm=>?_) (λb u q=>?_) I.bare
 ·obtain⟨a0,a1,a2,e,d,a⟩:=hf b hb;exact⟨e,a1,d,a⟩
 ·obtain⟨o,es,U,L,r⟩:=hm;exact⟨o,es,U,k _ o (λz=>(hf _ z).2.1 rfl) L,r⟩
 ·refine(I.aL b u q).nR (λc v j B=>k c v ?_ B) (λ_ q=>q) λ_ _ q=>q
  rcases j with z|z
  ·rw[z];exact ne b u q
  ·exact ne c _ z
open PySem PySem.Spec PyProof PyProof.Rows L2
end V2
namespace L2
open PySem PySem.Spec PyProof.Rows
section
variable{X:Cx}
theorem aj9{elt tg iter:bp}{ifs:ai bp}{scope:cp}{pos n pos':cq}{j:ai a5}{q:ai ay}{f:TI}{g:TG}{tc:TT}{te:TE}{k:ay}{x:a5}(P:X.N.Nodup)(CF:X.N[k]?=ah x)(p:Loc X.env.scope x)(M:X.calm=au)(L:uU X scope j q)(hi:PI X tg iter f)
  (hb:∀cl C s H fp,PG (gL X scope j q cl C s H fp) tg g/\DE (gL X scope j q cl C s H fp) ifs tc/\PE (gL X scope j q cl C s H fp) elt te)
  (Fe:da (.ListComp elt [⟨tg,iter,ifs,0⟩] scope pos) (ah (.Name x pos')) n.line X.env=pure au)
  (hs:∀x,cb iter X.env x=pure x) (K:X.fn x=au\/X.env.scope.names.lookup x=ah .local):PS X (.Assign [.Name x pos'] (.ListComp elt [⟨tg,iter,ifs,0⟩] scope pos) n) (QZ (QX j q f g tc te) (Gx k)):=by
 intro aa s J H D I h;rw[exec_Assign_Name_used _ _ _ _ Fe];refine aJ (wpAny_standAt (aJ ?_));show wpAny _ X.A (do let _<-comprehension (.ListComp elt [⟨tg,iter,ifs,0⟩] scope pos) scope X.env _ (newList []) ao (br iter X.env) (ah (assign (.Name x pos') X.env))) _ _ s;refine aJ (lZ (Uw (use:=ah (assign (.Name x pos') X.env)) (R:=λ_ s'=>SP X aa D .next s') M L hi hb hs I h λd C V r F S m W t=>?_) (λ_ s' hq=>bG (bG hq)) λ_ _ e=>e);obtain⟨U,a,c,i,l,G,fC⟩:=id W;have Q:=S.pinned (fp:=[C]) (λb hb=>by rw[qK.mp hb];exact m) λb hb=>⟨U,by rw[qK.mp hb];exact i,λv z=>by rw[l]at z;cases z⟩
 refine bN (Sw (pos:=pos') P CF p K _ r J V (.ref d) _ _ Q rfl t) λ_ s8 ⟨B,T,o,u⟩=>?_;obtain⟨w,E,_⟩:=o.pin (C,U) (nL _ (nL _ (LM (AG _) i)));exact⟨F,⟨U,a,c,w,l,G,fC⟩,λh' y=>⟨B,T,o.KG.back ⟨E,m.2⟩ y,u⟩⟩
end
end L2
namespace V2
open PySem PySem.Spec PyProof.Rows L2
theorem acN{X:Cx}{W:WX}{elt tg iter:bp}{ifs:ai bp}{scope:cp}{pos z pos':cq}{fi:Ev->Mo Src}{g:A->MS}{c:Ev->Mo bb}{e:Ev->Mo A}{i:ay}{x:a5}(f:bb)(j:ai a5)(q:ai ay)(b:X.N.Nodup)(l:X.N[i]?=ah x)(B:Loc X.env.scope x)(a:X.calm=au)(L:uU X scope j q)(hi:VI X W tg iter fi)
  (hb:∀cl C s H fp,VG (gL X scope j q cl C s H fp) kH tg g/\DC (gL X scope j q cl C s H fp) kH ifs c/\VE (gL X scope j q cl C s H fp) kH elt e)
  (k:da (.ListComp elt [⟨tg,iter,ifs,0⟩] scope pos) (ah (.Name x pos')) z.line X.env=pure au:=by rfl)
  (hs:∀x,cb iter X.env x=pure x:=by intro _;rfl) (U:X.fn x=au\/X.env.scope.names.lookup x=ah .local:=by first|exact .inl rfl|exact .inr rfl|assumption) :
  VS X W (.Assign [.Name x pos'] (.ListComp elt [⟨tg,iter,ifs,0⟩] scope pos) z) (bZ (mD f j.length q fi g c e) (gN i)):=by
 obtain⟨m,p1,s1⟩:=hi;exact⟨_,aj9 b l B a L p1 (λcl C s H fp=>⟨(hb cl C s H fp).1.qD,(hb cl C s H fp).2.1.qD,(hb cl C s H fp).2.2.qD⟩) k hs U,Ah (Qu _ s1 Qw RK RK) λ_ _ _ _ _ _ _ _ _ w r d h=>tQ w (r.set i d) h⟩
@[elab_as_elim] theorem us0{P:ai aj->Prop}(us:ai aj)(h:us.length=0)(f:P []):P us:=by cases us with|nil=>exact f|cons _ _=>simp at h
@[elab_as_elim] theorem QM{P:ai aj->Prop}(us:ai aj)(h:us.length=1)(f:∀a,P [a]):P us:=by
 cases us with
 |nil=>simp at h
 |cons a r=>exact us0 r (by simpa using h) (f a)
@[elab_as_elim] theorem BA{P:ai aj->Prop}(us:ai aj)(h:us.length=2)(f:∀a b,P [a,b]):P us:=by
 cases us with
 |nil=>simp at h
 |cons a r=>exact QM (P:=λr=>P (a::r)) r (by simpa using h) (f a)
@[elab_as_elim] theorem QL{P:ai aj->Prop}(us:ai aj)(h:us.length=3)(f:∀a b c,P [a,b,c]):P us:=by
 cases us with
 |nil=>simp at h
 |cons a r=>exact BA (P:=λr=>P (a::r)) r (by simpa using h) (f a)
@[elab_as_elim] theorem ZF{P:ai aj->Prop}(us:ai aj)(h:us.length=4)(f:∀a b c d,P [a,b,c,d]):P us:=by
 cases us with
 |nil=>simp at h
 |cons a r=>exact QL (P:=λr=>P (a::r)) r (by simpa using h) (f a)
@[elab_as_elim] theorem Pg{P:ai aj->Prop}(us:ai aj)(h:us.length=5)(f:∀a b c d e,P [a,b,c,d,e]):P us:=by
 cases us with
 |nil=>simp at h
 |cons a r=>exact ZF (P:=λr=>P (a::r)) r (by simpa using h) (f a)
section
variable{X:Cx}{aa:ai (aq×cj)}{J:L2.St}{H:Hp}{s:ar}
theorem Inv.NH(I:Inv X aa J H s):∃m,s.heap.Ns X.env.locals m/\Fr X.base X.env.locals s.heap m :=
 let ⟨m,hn,_⟩:=I.loc
 ⟨m,hn,hn,I.bk,xY I.ok.qE I.ok.above⟩
end
section
variable{X:Cx}{W:WX}{e a b:bp}{es:ai bp}{pos:cq}{fa fb:Ev->Mo A}{fs:Ev->Mo (ai A)}
@[simp] noncomputable def Rf:MS:=λ_ _=>ak
theorem acI{body:ai bo}:fN X W body Rf:=acJ
end
end V2
namespace L2
open PySem PySem.Spec PyProof.Rows
def Ux(scope:cp):bb:=(scope.kind == .function)&&scope.names.all λy=>y.2 != .cell&&(y.2 != .free&&(y.2 != .local||scope.names.lookup y.1==ah .local))
theorem uU.of0{X:Cx}{scope:cp}{ls:ai a5}(ok:Ux scope=au):uU X scope ls []:=by
 unfold Ux at ok;rw[lK,IQ]at ok;obtain⟨h1,h2⟩:=ok;have hl:∀y∈scope.names,y.2≠.cell/\y.2≠.free/\(y.2=.local->scope.names.lookup y.1=ah .local):=λy hy=>by
  have:=h2 y hy;rw[lK,lK,Bool.or_eq_true]at this;refine⟨by simpa using this.1,by simpa using this.2.1,λe=>?_⟩
  rcases this.2.2 with z|z
  ·simp[e]at z
  ·simpa using z
 refine⟨by simpa using h1,λy hy=>(hl y hy).1,λy hy=>(hl y hy).2.2,λy hy hf=>?_,λj q=>?_⟩
 ·exact bz hf (hl y hy).2.1
 ·simp at q
open PySem PySem.Spec PyProof.Rows Builtin Builtin.ObjectAttr
theorem Yc:(Str.empty:a5).length=0:=by decide
theorem text_len{y:a5}{i:a6}(hy:y.length<=1000)(hl:i.natAbs.log2<1920):(Str.empty++y++Str.ofString (toString i)).length<=3000:=by
 have e:=int_text_length_le (k:=1920) (by decide) hl;rw[strLen_append,strLen_append,Yc,PySem.ofString_length];omega
section
variable{X:Cx}{C:aq}{i:ay}{n y:a5}{np pos:cq}{b₀:bo}{suite:ai bo}{rest:ai cz}{ts th:TH}
theorem Sv(t:kR X)(c:XC X.K C)(G:Gl X y)(hm:X.mg y=ah (.ref C))(L:X.N.Nodup)(hi:X.N[i]?=ah n)(hl:X.env.scope.names.lookup n=ah .local)(hs:∀x oe,(∃vs,oe.data=.fields vs)->nX (X.kQ x oe) (b₀::suite) (ts x oe.cls oe.dict))(hr:PH X rest th)
  (P:(y==("__debug__" : a5))=ao:=by decide):PH X (.ExceptHandler (ah (.Name y np)) (ah n) (b₀::suite) pos::rest) (tH X.K C i ts th):=by
 intro s J H D x cls Q I ex h;obtain⟨E,b,rfl,w,h⟩:=h;obtain⟨oe,vs,M,MR,hd,he,F⟩:=ex.pin I t;have S:=I.kQ (x:=x) (oe:=oe) ⟨he,F⟩;refine wpAny_handleBy_cons (codeAny_handlers_test (BR (X:=X.kQ x oe) (s:=s) S G hm ?_ P)) (by intro q;cases q);obtain⟨hh,g,d,tk,os⟩:=s;refine ab4 c I.fB he M w ?_;cases b with
 |false =>
  exact hr _ J H D x _ Q I ex (by simpa using h)
 |true =>
  rw[ax rfl]at h;refine codeAny_handlers_suite_as (UX I t ex λh1 o e=>?_);obtain⟨m,U,V,k,p,R,a⟩:=e.pin o t;have l:=o.kQ (x:=x) (oe:=m) ⟨R,a⟩;refine RG (X:=X.kQ x m) (v:=.ref x) l L hi (.inl hl) rfl (λA T=>?_) (.inr hl);rw[<-V,<-k]at h;refine lZ (hs x m ⟨U,p⟩ [] A (J.set i (ah (.ref x))) H (D.drop i) T h) (λf W q=>?_) λ_ _ z=>False.elim z;cases f with
  |next =>
   obtain⟨J',H',j,q⟩:=q;exact VF (j.uncaught I.ok) L hi hl λs' B=>⟨_,H',B,q⟩
  |brk =>
   obtain⟨J',H',j,q⟩:=q;exact VF (j.uncaught I.ok) L hi hl λs' B=>⟨_,H',B,q⟩
  |cont =>
   obtain⟨J',H',j,q⟩:=q;exact VF (j.uncaught I.ok) L hi hl λs' B=>⟨_,H',B,q⟩
  |ret u =>
   obtain⟨v,J',H',j,r,q⟩:=q;exact VF (j.uncaught I.ok) L hi hl λs' B=>⟨v,_,H',B,r,q⟩
end
end L2
namespace V2
open PySem PySem.Spec PyProof.Rows L2
section
variable{K:ba}{G H:Hp}{O:ai aq}{Z:aH}{d:aq}
theorem Wd.neG(w:Wd K G O Z H)(hd:H d=ak){a:aq}{o:HO}(h:G a=ah o):a≠d:=λz=>by
 have:=w.sub _ _ h;rw[z,hd]at this;cases this
theorem Wd.awL(w:Wd K G O Z H)(hd:H d=ak)(o:HO):Ext G O (upd G d o) O:=⟨λa u h=>by rw[bH (w.neG hd h)];exact h,λ_ _ h=>h⟩
theorem Wd.up(w:Wd K G O Z H)(hd:H d=ak)(o:HO):Wd K (upd G d o) O Z (upd H d o):=w.new hd o
end
def mI(p d:aq)(e:Exc):A:=match e.fs with
 |[(f,.int i)] => .xN p d f i
 |_ => .adr p
def EA(e:Exc)(d:aq)(dx:av aq):Prop:=(e.fs=[]/\dx=ak)\/(e.fs≠[]/\dx=ah d)
open Classical in
noncomputable def yX(i:ay)(sub:a5->bb)(fb:MS)(fh:aq->aq->Exc->MS):MS:=λY Z=>match fb Y Z with
 |some (.exc e,Y1,Z1)=>if sub e.cls=au then(if hr:∃r,∀p d,xP i (fh p d e (Y1.set i (ah (mI p d e))) Z1)=ah r then ah (Classical.choose hr)else ak)else ak
 |r=>r
theorem adX{i:ay}{sub:a5->bb}{fb:MS}{j:aq->aq->Exc->MS}{Y Y1:Ev}{Z Z1:aH}{e:Exc}{r:Out×Ev×aH}(h:fb Y Z=ah (.exc e,Y1,Z1))(hs:sub e.cls=au)(hr:∀p d,xP i (j p d e (Y1.set i (ah (mI p d e))) Z1)=ah r):yX i sub fb j Y Z=ah r:=by
 have q:∃r,∀p d,xP i (j p d e (Y1.set i (ah (mI p d e))) Z1)=ah r:=⟨r,hr⟩;have z:=PN q 0 0;rw[hr 0 0]at z;simp only[yX,h,hs,nC];rw[dif_pos q,<-z]
theorem agI{K:ba}{W:WX}{C:aq}{i:ay}{sub:a5->bb}{fb:MS}{s:aq->aq->Exc->MS}
  (sI:∀n E,sub n=au->cc K aw n=ah (ah (.ref E))->b4 K (.ref E) (.ref C)=ah au) :
  rP K W (Px (λW=>wL K W fb) (tH K C i (λx cls dx D J H=>∃(e:Exc) (d:aq),(∃E,cc K aw e.cls=ah (ah (.ref E))/\cls=.ref E)/\EA e d dx/\wL K kH (s x d e) D J H) ZS)) (yX i sub fb s):=by
 intro G A u H J t D w r h;refine⟨G,A,u,t,w,r,?_⟩;unfold yX at h
 revert h
 generalize fb t u=q;intro h
 match q,h with
 |none,h=>exact h
 |some (.nx,B,L),h=>exact h
 |some (.bk,B,L),h=>exact h
 |some (.ct,B,L),h=>exact h
 |some (.ret a,B,L),h=>exact h
 |some (.exc e,B,L),h =>
  simp only at h;split at h
  ·rename_i hs;split at h
   ·rename_i hr;intro J' H' y o p F M cls dx Q x P;obtain⟨⟨E,v,rfl⟩,R⟩:=Q;refine⟨E,au,rfl,sI _ E hs v,?_⟩;rw[ax rfl];have hd:∃d,EA e d dx/\Den K y o (.ref x) (mI x d e):=by
     rcases R with⟨h1,rfl⟩|⟨d,f,T,rfl,h1,h2⟩
     ·exact⟨0,.inl ⟨h1,rfl⟩,by unfold mI;rw[h1];simp only[Den]⟩
     ·exact⟨d,.inr ⟨by rw[h1];simp,rfl⟩,by unfold mI;rw[h1];simp only[Den];exact⟨trivial,h2⟩⟩
    obtain⟨d,I,hd2⟩:=hd;refine⟨e,d,⟨E,v,rfl⟩,I,y,o,L,B.set i (ah (mI x d e)),F,M.set i hd2,?_⟩;have hq:=PN hr x d
    revert hq h
    generalize Classical.choose hr=S;generalize s x d e (B.set i (ah (mI x d e))) L=N;intro h hq
    match N,hq with
    |some (.nx,U,b),hq=>cases hq;exact λj l m z c g k=>h (j.set i ak) l m z (p.trans c) g (k.unset i ak)
    |some (.bk,U,b),hq=>cases hq;exact λj l m z c g k=>h (j.set i ak) l m z (p.trans c) g (k.unset i ak)
    |some (.ct,U,b),hq=>cases hq;exact λj l m z c g k=>h (j.set i ak) l m z (p.trans c) g (k.unset i ak)
    |some (.ret a,U,b),hq=>cases hq;exact λj l m z c g k=>h (j.set i ak) l m z (p.trans c) g (k.unset i ak)
   ·exact False.elim h
  ·exact False.elim h
structure EE(K:ba)(oe:cj)(d:aq)(e:Exc):Prop where
 dat:∃vs,oe.data=.fields vs
 cls:∃E,cc K aw e.cls=ah (ah (.ref E))/\oe.cls=.ref E
 dic:EA e d oe.dict
theorem acL{X:Cx}{W:WX}{C:aq}{i:ay}{n y:a5}{np pos GB:cq}{body:ai bo}{b₀:bo}{suite:ai bo}{sub:a5->bb}{fb:MS}{j:aq->aq->Exc->MS}(t:kR X)(B:X.ex=[])(c:XC X.K C)(L:Gl X y)(hm:X.mg y=ah (.ref C))(a:X.N.Nodup)(hi:X.N[i]?=ah n)(hl:X.env.scope.names.lookup n=ah .local)
  (sI:∀n E,sub n=au->cc X.K aw n=ah (ah (.ref E))->b4 X.K (.ref E) (.ref C)=ah au)
  (hb:∀W,xV (X.mB (XE X W)) W body fb) (hh:∀(p:aq) (oe:cj) (d:aq) (e:Exc),EE X.K oe d e->fN (X.kQ p oe) kH (b₀::suite) (j p d e))
  (b:(y==("__debug__" : a5))=ao:=by decide):NX X W (.Try body [.ExceptHandler (ah (.Name y np)) (ah n) (b₀::suite) GB] [] [] pos) (yX i sub fb j):=by
 refine⟨_,Sm t B (tb:=λW=>wL X.K W fb) (λW=>(hb W).qD) (Sv t c L hm a hi hl (ts:=λx cls f D J H=>∃(e:Exc) (d:aq),(∃E,cc X.K aw e.cls=ah (ah (.ref E))/\cls=.ref E)/\EA e d f/\wL X.K kH (j x d e) D J H) (λx oe U=>?_) Su b),agI sI⟩;intro aa z J H D I ⟨e,d,he,hd,q⟩;exact(hh x oe d e ⟨U,he,hd⟩).qD aa z J H D I q
theorem acM{X:Cx}{W:WX}{i:ay}{n y:a5}{np pos GB:cq}{body:ai bo}{b₀:bo}{suite:ai bo}{rs ns:ai a5}{fb:MS}{j:aq->aq->Exc->MS}(t:kR X)(L:X.ex=[])(c:kE X.K X.mg y)(U:Gl X y)(hT:rO X.K rs ns)(a:X.N.Nodup)(hi:X.N[i]?=ah n)(hl:X.env.scope.names.lookup n=ah .local)
  (hb:∀W,xV (X.mB (XE X W)) W body fb) (hh:∀(p:aq) (oe:cj) (d:aq) (e:Exc),EE X.K oe d e->fN (X.kQ p oe) kH (b₀::suite) (j p d e))
  (f:(y==("__debug__" : a5))=ao:=by decide):NX X W (.Try body [.ExceptHandler (ah (.Name y np)) (ah n) (b₀::suite) GB] [] [] pos) (yX i (λz=>jO rs ns z y==ah au) fb j):=by
 obtain⟨C,b,h1,h2⟩:=c;refine acL t L b U h1 a hi hl (λz E q B=>?_) hb hh f;have q:jO rs ns z y=ah au:=by simpa using q
 unfold jO at q;split at q
 ·rename_i hm;rw[<-q];exact hT.sub _ hm.1 _ hm.2 _ _ B h2
 ·cases q
noncomputable def NJ:A->av aq
 |.adr q=>ah q
 |.xN q _ _ _=>ah q
 |_=>ak
@[simp] def zQ(p:aq)(tb:a5->av bb)(j:cm->av bb)(as:ai A):Mo A:=λZ=>match as with
 | [x,a]=>(match NJ x with
  |some q=>Gy p tb j [.adr q,a] Z
  | none=>ak)
 |_=>ak
theorem HN{X:Cx}{W:WX}{rs ns:ai a5}{p:aq}{oe:cj}{n:a5}(b:(p,oe)∈X.pn)(hT:rO X.K rs ns)(he:∃E,cc X.K aw n=ah (ah (.ref E))/\oe.cls=.ref E):qP X W (.builtin "isinstance") (zQ p (jO rs ns n) (pD rs n)):=by
 obtain⟨t,h1,h2⟩:=aAQ (W:=W) b hT he;refine⟨t,h1,λG z B H J L k Q w d h=>?_⟩;unfold zQ at h;split at h
 ·rename_i x a;split at h
  ·rename_i q hq;refine h2 G z B H J L [.adr q,a] Q w ?_ h;obtain⟨g,e,rfl,j,c⟩:=HE d;refine .cons ?_ (.cons c .nil);cases x with
   |adr U=>cases hq;exact j
   |xN U d' f i=>cases hq;simp only[Den]at j ⊢;exact j.1
   |_=>cases hq
  ·exact False.elim h
 ·exact False.elim h
def kY:Hp->ai aq->ai (ai V)->Hp
 |H,a::as,t::ts=>kY (upd H a (.tup t)) as ts
 |H,[],_=>H
 |H,_::_,[]=>H
theorem adF{H:Hp}{a b:aq}{o u:HO}(h:a≠b):upd (upd H a o) b u=upd (upd H b u) a o:=by
 funext c
 by_cases h1:c=a
 ·subst h1;rw[bH h,eA,eA]
 ·by_cases h2:c=b
  ·subst h2;rw[eA,bH h1,eA]
  ·rw[bH h2,bH h1,bH h1,bH h2]
theorem Ph{l:aq}{o:HO}:∀(as:ai aq) (ts:ai (ai V)) (H:Hp),l∉as->kY (upd H l o) as ts=upd (kY H as ts) l o
 |[],ts,H,_=>by cases ts <;> rfl
 |a::as,[],H,_=>rfl
 |a::as,t::ts,H,h=>by
  have j:l≠a:=λe=>h (by rw[e];exact List.mem_cons_self ..);show kY (upd (upd H l o) a (.tup t)) as ts=upd (kY (upd H a (.tup t)) as ts) l o;rw[adF j];exact Ph as ts _ λe=>h (gQ _ e)
theorem TF{P:a9}{w:bh}{k:Key}{u:aj}(h:(gB P w).is k u=au):RelV (kV k) u:=by
 rcases tY (k:=k) (v:=u) h with⟨i,t,q,j⟩|⟨x,t,q,j⟩
 ·subst q;exact⟨t,j⟩
 ·subst q;exact⟨t,j⟩
section
variable{X:Cx}{W:WX}
theorem ZL{aa:ai (aq×cj)}{J:L2.St}{g B:ar}{s:Hp}(f:Inv X aa J s g):∀(as:ai aq) (ts:ai (ai V)) (H:Hp),Inv X aa J H B->as.length=ts.length->as.Nodup->(∀a∈as,g.heap.objs.size<=a/\H a=ak) ->
  (∀(j:ay) (a:aq) (t:ai V),as[j]?=ah a->ts[j]?=ah t->t.length<=a7/\∃L n,Vals t L/\B.heap.get? a=ah {cls:=.type "tuple",data:=.seq L.toArray n})->Inv X aa J (kY H as ts) B
 |[],[],H,I,_,_,_,_=>I
 |[],_::_,H,I,hl,_,_,_=>by simp at hl
 |_::_,[],H,I,hl,_,_,_=>by simp at hl
 |a::as,t::ts,H,I,hl,hn,hb,h=>by
  obtain⟨h1,h2⟩:=hb a sG;obtain⟨k,L,n,rv,e⟩:=h 0 a t rfl rfl;have aL:fE X.prog X.w (upd H a (.tup t)) B.heap:=by
   refine λb o q=>?_
   by_cases i:b=a
   ·subst i;rw[eA]at q;cases q;exact⟨k,L,rv,⟨_,e,rfl,_,rfl⟩⟩
   ·rw[bH i]at q;exact(I.aL b o q).nR (λc v _ z=>z) (λc z=>by rw[bH (iW z h2)];exact z) λc x z=>by rw[bH (iW z h2)];exact z
  have d:pR X aa H a:=f.vP h1 h2;have l:X.s₀.heap.get? a=ak:=by
   cases q:X.s₀.heap.get? a with
   |none=>rfl
   |some ob=>exact bz (kT (dE q) (xY f.sz h1)) (Nat.lt_irrefl _)
  have r:=Inv.ZM I h2 l d.2.1 d.2.2.2.2.1 d.2.2.2.2.2 aL;rw[nZ]at hn;exact ZL f as ts _ r (by simpa using hl) hn.2 (λb U=>⟨(hb b (gQ _ U)).1,by rw[bH (λz=>hn.1 (by rw[<-z];exact U))];exact(hb b (gQ _ U)).2⟩) (λj b u p m=>h (j+1) b u p m)
theorem SA{α β:Type}{F:α->β->Prop}:∀{B:ai α} {z:ai β},Paired F B z->∀{j:ay} {a:α},B[j]?=ah a->∃b,z[j]?=ah b/\F a b
 |_,_,.nil,j,a,h=>by simp at h
 |_,_,.cons r _,0,a,h=>by cases h;exact⟨_,rfl,r⟩
 |_,_,.cons _ L,j+1,a,h=>by obtain⟨b,q,f⟩:=SA L (j:=j) (by simpa using h);exact⟨b,by simpa using q,f⟩
theorem AZ:∀as:ai aq,Vals (as.map V.ref) (as.map Value.ref)
 |[] => .nil
 |a::as => .cons rfl (AZ as)
theorem Sz{o:bp}{td:TE}{p1 ag m d:cq}(hc:X.calm=au)(M:Gl X "list")(N:X.mg "list" = ak)(T:PE X o td)
  (hs:az [.Call (.Attribute o "items" ag) [] [] d] X.env=[(ao,br (.Call (.Attribute o "items" ag) [] [] d) X.env)]:=by rfl)
  (gG:bw o "items" X.env (br o X.env)=br o X.env:=by rfl) (hZ:(ag.endLine==d.line)=au:=by rfl) :
  PE X (.Call (.Name "list" p1) [.Call (.Attribute o "items" ag) [] [] d] [] m) (λJ H Q=>td J H λx H1=>∃a kvs,x=.ref a/\H1 a=ah (.dK kvs) /\
   ∀(as:ai aq) (l:aq),as.length=kvs.length->as.Nodup->l∉as->(∀b∈as,H1 b=ak)->H1 l=ak->Q (.ref l) (upd (kY H1 as (kvs.map λL=>[kV L.1,L.2])) l (.lst (as.map V.ref)))):=by
 intro aa s J H Q I h;refine uY (tW I M N WZ ?_);refine HY ?_ hs rfl;rw[hs];show wpAny _ _ (spliced ((ao,br (.Call (.Attribute o "items" ag) [] [] d) X.env)::[])) _ _ s;refine JD ?_;refine PZ gG hZ (bN (T aa s J H _ I h) λv s1 ⟨x,H1,y,P,m⟩=>?_);obtain⟨a,kvs,rfl,C,q⟩:=m;cases P;obtain⟨h1,h2,R⟩:=BW y (.inl ⟨kvs,.inl C⟩);obtain⟨z,_,vs,rel,u⟩:=zU y.aL C;refine⟨"dict", "dict.items",PySem.F.plainAttrs_dict,PySem.F.slot_dict_items,PySem.F.type_dict_items,h1,h2,JE rfl (PySem.evalArgs_none ?_)⟩;refine HM PySem.F.slot_dict_items u.typeIs PySem.F.entry_dict_items (PySem.F.args_dict_items_1 _) (meets_dict_items (gB X.prog X.w) a R) ⟨⟨vs,u⟩,?_⟩;refine PO ?_;have B:Inv X aa J H1 {s1 with heap:=s1.heap.push {cls:=.type "dict_items",data:=.fields #[.ref a]} }:=y.kept (t':=s1.toks) λb o e=>dD _ e;obtain⟨ep,K⟩:=u.dictAt;have LY:kvs.length=vs.length:=rel.length;refine PySem.W.kdx_call (knd:=gB X.prog X.w) (kvs:=vs) (ep:=ep) (s:={s1 with heap:=s1.heap.push {cls:=.type "dict_items",data:=.fields #[.ref a]} }) (B.ok.hd hc) ⟨_,fW _ rfl,rfl,rfl⟩ (K.push _) (by omega) λh' tk acc c as A hS hl f S=>?_;generalize lV:({s1 with heap:=s1.heap.push {cls:=.type "dict_items",data:=.fields #[.ref a]} }:ar)=U at B A hS f;have G:as.Nodup:=f.rise.imp λh=>dX h;have n:U.heap.objs.size∉as:=λz=>bz (f.above _ z) (Nat.lt_irrefl _);have i:∀b∈as,U.heap.objs.size<=b:=λb hb=>XD (f.above b hb);have p:as.length<=a7:=by omega
 have I3:Inv X aa J (upd H1 U.heap.objs.size (.lst (as.map V.ref))) {U with heap:=h',toks:=tk}:=B.laid (t':=tk) (o:=.lst (as.map V.ref)) A cU ⟨by rw[fI];exact p,as.map Value.ref,c,AZ as,by rw[<-S];exact hS⟩;have E:=ZL B as (kvs.map λL=>[kV L.1,L.2]) _ I3 (by simp;omega) G (λb hb=>⟨i b hb,by rw[bH (λz=>n (by rw[<-z];exact hb))];exact B.aL.fresh (i b hb)⟩) (λj b t e1 g=>by
  obtain⟨key,k,x,g1,g2,g3⟩:=f.pairs j b e1;rw[iZ]at g;cases r:kvs[j]? with
  |none=>rw[r]at g;cases g
  |some L =>
   rw[r]at g;cases g;obtain⟨wZ,D,g6,g7⟩:=SA rel r;rw[g1]at D;cases D;refine⟨by show 2<=a7;decide,[key,x],0,.cons (by rw[g6];exact TF g2) (.cons g7 .nil),g3⟩)
 rw[Ph as _ H1 n]at E;exact⟨.ref U.heap.objs.size,_,E,rfl,q as _ (by omega) G n (λb hb=>B.aL.fresh (i b hb)) (B.aL.fresh cU)⟩
end
noncomputable def kA:Key->A
 |.inl i => .int i
 |.inr s => .str s
theorem Hy{K:ba}{G:Hp}{O:ai aq}(k:Key):Den K G O (kV k) (kA k):=by cases k <;> simp only[kV,kA,Den]
def lT(j:Key×A):A:=.tup [kA j.1,j.2]
section
variable{K:ba}
theorem QN{Z:aH}:∀(as:ai aq) (ws:ai (Key×V)) (kvs:ai (Key×A)) (G H:Hp) (O:ai aq),Wd K G O Z H->as.length=ws.length->as.Nodup->(∀b∈as,H b=ak)->ws.map (·.1)=kvs.map (·.1)->aX K G O (ws.map (·.2)) (kvs.map (·.2)) ->
  ∃G',Ext G O G' O/\Wd K G' O Z (kY H as (ws.map λq=>[kV q.1,q.2]))/\aX K G' O (as.map V.ref) (kvs.map lT)
 |[],[],[],G,H,O,w,_,_,_,_,_=>⟨G,Ext.refl _ _,w,by rw[qL,qL,pM]⟩
 |[],[],_::_,_,_,_,_,_,_,_,h,_=>by simp at h
 |[],_::_,_,_,_,_,_,h,_,_,_,_=>by simp at h
 |_::_,[],_,_,_,_,_,h,_,_,_,_=>by simp at h
 |_::_,_::_,[],_,_,_,_,_,_,_,h,_=>by simp at h
 |a::as,j::ws,q::kvs,G,H,O,w,hl,hn,hb,U,d=>by
  rw[cW,cW]at d U;obtain⟨x,r,i,m,l⟩:=d.kZ;obtain⟨rfl,rfl⟩:=OG i;obtain⟨f,g⟩:=OG U;rw[nZ]at hn;have ha:=hb a sG;have e0:=w.awL ha (.tup [kV j.1,j.2]);have e:=w.up ha (.tup [kV j.1,j.2]);obtain⟨G',B,c,k⟩:=QN as ws kvs _ _ O e (by simpa using hl) hn.2 (λb L=>by rw[bH (λz=>hn.1 (by rw[<-z];exact L))];exact hb b (gQ _ L)) g (l.ext e0);refine⟨G',e0.trans B,c,?_⟩;rw[cW,cW];refine .cons ?_ k;simp only[lT,Den];refine⟨a,[kV j.1,j.2],rfl,B.same _ _ eA,.cons (by rw[f];exact Hy _) (.cons (m.ext (e0.trans B)) (by rw[pM]))⟩
end
section
variable{X:Cx}{W:WX}
@[simp] def ZE(c:bb)(f:Ev->Mo A):Ev->Mo A:=λY=>mb (f Y) λa Z=>match fL Z a with
 |some (_,kvs)=>jD c (kvs.map lT) Z
 |none=>ak
theorem ac3{o:bp}{f:Ev->Mo A}{p1 ag i B:cq}(c:bb)(R:X.calm=au)(M:X.mg "list" = ak)(K:Gl X "list")(P:VE X W o f)
  (hs:az [.Call (.Attribute o "items" ag) [] [] B] X.env=[(ao,br (.Call (.Attribute o "items" ag) [] [] B) X.env)]:=by rfl)
  (T:bw o "items" X.env (br o X.env)=br o X.env:=by rfl) (S:(ag.endLine==B.line)=au:=by rfl) :
  VE X W (.Call (.Name "list" p1) [.Call (.Attribute o "items" ag) [] [] B] [] i) (ZE c f):=by
 obtain⟨t,p,s⟩:=P;refine⟨_,Sz R K M p hs T S,λG C E H J y Q w r h=>?_⟩;refine s G C E H J y _ w r (bR.mb h λa D v n G1 U x1 u d1 h1=>?_);split at h1
 ·rename_i k m e;obtain⟨p,d,rfl,hk,g,i,B,N⟩:=sT u d1 e;refine⟨p,d,rfl,i,λj l hl hn L hb I=>?_⟩;obtain⟨G',e1,F,d2⟩:=QN j d m G1 n U u hl hn hb B N;have dB:kY n j (d.map λx=>[kV x.1,x.2]) l=ak:=by
   have:∀(j:ai aq) (q:ai (ai V)) (H:Hp),l∉j->kY H j q l=H l:=by
    intro j
    induction j with
    |nil=>intro q H _;cases q <;> rfl
    |cons b j ih =>
     intro q H L;cases q with
     |nil=>rfl
     |cons t q =>
      show kY (upd H b (.tup t)) j q l=H l;rw[ih q _ λz=>L (gQ _ z),bH λz=>L (by rw[z];exact List.mem_cons_self ..)]
   rw[this j _ n L];exact I
  exact pY F dB d2 (h1.ext e1)
 ·exact False.elim h1
end
end V2
namespace L2
open PySem PySem.Spec PyProof.Rows
theorem awT:entryFor table "dict_itemiterator.__iter__" = ah Builtin.«dict_keyiterator.__iter__» :=
 entryFor_alias (id' := "dict_keyiterator.__iter__") (by kernel_rfl) (by rfl) (by decide +kernel) (by kernel_rfl)
theorem aqX{prog:a9}{w:bh}{A:bj}{E:aj->ar->Prop}{s:ar}{it d:aq}{i n ep:ay}{ok j:aj}{Q:aj->ar->Prop}(h:IsItemIter s.heap it d i n ep ok j)(q:Q (.ref it) s):wpAny (bc prog w) A (pyIter (.ref it)) Q E s:=by
 have ty:s.TypeIs (.ref it) "dict_itemiterator":=⟨_,h,rfl⟩;exact wpAny_pyIter_slot ty F.slot_dict_itemiterator_iter (rW F.slot_dict_itemiterator_iter ty awT (bG ⟨_,rfl,_,_,ty,F.slot_dict_itemiterator_next.lookup,q⟩) (F.args_dict_itemiterator_iter_1 _))
end L2
namespace V2
open PySem PySem.Spec PyProof.Rows L2
def Mm(a:aq)(o:cj)(kvs:ai (Key×V)):It :=
 ⟨λi H=>H a=ah (.dW o (.dK kvs))/\i<kvs.length,λi H x H'=>∃p j,kvs[i]?=ah j/\H p=ak/\H'=upd H p (.tup [kV j.1,j.2])/\x=.ref p,λi H=>H a=ah (.dW o (.dK kvs))/\kvs.length<=i⟩
theorem Xi{X:Cx}{aa:ai (aq×cj)}{J:L2.St}{H:Hp}{s:ar}{a:aq}{o:cj}{kvs:ai (Key×V)}{es:bf DictEntry}{ep:ay}(I:Inv X aa J H s)(h:H a=ah (.dW o (.dK kvs)))(hd:o.data=.dict es ep) :
  ∃vs,KV kvs vs/\Heap.DictAt (gB X.prog X.w) s.heap a vs ep:=by
 obtain⟨h1,z,y,vs,rel,U,eY,b,q,L,j,B⟩:=I.aL a _ h;rw[h1]at q;cases q;rw[hd]at j;cases j;exact⟨vs,rel,o,es,h1,L,hd,B⟩
theorem adU{P:a9}{w:bh}{K:ba}{elts:ai bp}{F:ay}{G:cq}(a it:aq)(o:cj)(kvs:ai (Key×V))(es:bf DictEntry)(ep:ay)(hd:o.data=.dict es ep) :
  Turn P w K (.Tuple elts F G) (Mm a o kvs) [it] it (λi h=>∃ok B,IsItemIter h it a i kvs.length ep ok B)where
 mem:=by simp
 obj:=λi h st c j=>by
  obtain⟨ok,B,st⟩:=st;have e:c=it:=by simpa using j
  subst e;exact⟨_,st,λv z=>by cases z⟩
 keep:=λi h h' st k=>by
  obtain⟨ok,B,st⟩:=st;exact⟨ok,B,k it (by simp) _ st⟩
 item:=by
  intro X p l r j i aa s J H E I g st n;subst p l r;obtain⟨ok,B,st⟩:=st;obtain⟨t,hi⟩:=n;obtain⟨vs,rel,dat⟩:=Xi I t hd;have hl:kvs.length=vs.length:=rel.length;have x:kvs[i]?=ah kvs[i]:=lI hi;generalize kvs[i]=L at x;obtain⟨f,W,T,S⟩:=SA rel x;have d:it<s.heap.objs.size:=dE st;rw[hl]at st;refine wpAny_pyNext_items_item (k:=f.1) (v:=f.2) st dat W λkey h1 m a1 a2 a3 a4=>?_;refine⟨_,rfl,wpAny_letOwnedTupleGo_items (s:={s with heap:=h1}) a1 λh2 C y=>?_⟩;have U:H s.heap.objs.size=ak:=I.aL.fresh cU;have Q:∀c o,c∉[it]->s.heap.get? c=ah o->h2.get? c=ah o:=λc o j q=>by
   have j:c≠it:=by simpa using j
   exact y.extBut c o j (a4 c o j q)
  have M:h2.get? s.heap.objs.size=ah {cls:=.type "tuple",data:=.seq #[key,f.2]}:=y.extBut _ _ (DH d) a2;have D:Inv X aa J H {s with heap:=h2}:=Inv.Pk (t':=s.toks) I Q g;have N:RelV (kV L.1) key:=by rw[T];exact TF m
  have aL:fE X.prog X.w (upd H s.heap.objs.size (.tup [kV L.1,L.2])) h2:=by
   refine λb o q=>?_
   by_cases A:b=s.heap.objs.size
   ·subst A;rw[eA]at q;cases q;exact⟨by show 2<=a7;decide,[key,f.2],.cons N (.cons S .nil),⟨_,M,rfl,_,rfl⟩⟩
   ·rw[bH A]at q;exact(D.aL b o q).nR (λc v _ z=>z) (λc z=>by rw[bH (iW z U)];exact z) λc xs z=>by rw[bH (iW z U)];exact z
  have u:pR X aa H s.heap.objs.size:=I.vP cU U;have R:X.s₀.heap.get? s.heap.objs.size=ak:=by
   cases q:X.s₀.heap.get? s.heap.objs.size with
   |none=>rfl
   |some ob=>exact bz (kT (dE q) I.sz) (Nat.lt_irrefl _)
  have I2:Inv X aa J (upd H s.heap.objs.size (.tup [kV L.1,L.2])) {s with heap:=h2}:=Inv.ZM D U R u.2.1 u.2.2.2.2.1 u.2.2.2.2.2 aL;rw[<-hl]at C;refine⟨.ref s.heap.objs.size,_,I2,rfl,⟨_,L,x,U,rfl,rfl⟩,⟨_,_,C⟩,λc j=>?_⟩;have UK:=(g c j).1;have e:c=it:=by simpa using j
  subst e;rw[bH (dX d)];exact UK
 done:=by
  intro X p l r j i aa s J H E I g st n;subst p l r;obtain⟨ok,B,st⟩:=st;obtain⟨t,hi⟩:=n;obtain⟨vs,rel,dat⟩:=Xi I t hd;have hl:kvs.length=vs.length:=rel.length;rw[hl]at st;refine wpAny_pyNext_items_end (I.ok.hd j) st dat (by simp;omega) λh' m=>⟨rfl,Inv.Pk (t':=s.toks) I (λc o j q=>m c o (by simpa using j) q) g⟩
 self:=λ_ _ _ _ _ st h=>by
  obtain⟨ok,B,st⟩:=st;exact aqX st h
theorem Inv.av4{X:Cx}{aa:ai (aq×cj)}{J:L2.St}{H:Hp}{s:ar}{a:aq}{kvs:ai (Key×V)}{o:cj}(I:Inv X aa J H s)(h:H a=ah (.dK kvs))(L:s.heap.get? a=ah o):Inv X aa J (upd H a (.dW o (.dK kvs))) s where
 ok:=I.ok
 os:=I.os
 bare:=I.bare
 base:={
  keep:=I.base.keep
  slot:=I.base.slot
  free:=λb ob q n B=>by
   have z:=I.base.free b ob q n B;rw[bH (cK (iW h z))];exact z
  there:=I.base.there
  lO:=λb xs q=>by have z:=I.base.lO b xs q;rw[bH (zF z h (by intro w;cases w))];exact z
  kN:=λb ob u q=>by have z:=I.base.kN b ob u q;rw[bH (zF z h (by intro w;cases w))];exact z
  lP:=λb ps q=>by obtain⟨more,z⟩:=I.base.lP b ps q;exact⟨more,by rw[bH (zF z h (by intro w;cases w))];exact z⟩}
 loc:=I.loc
 cell:=I.cell
 free:=by rw[bH (cK (iW h I.free))];exact I.free
 jU:=λx c q=>by rw[bH (cK (iW h (I.jU x c q)))];exact I.jU x c q
 pin:=λq hq=>by
  obtain⟨x,y,c⟩:=I.pin q hq;exact⟨x,by rw[bH (cK (iW h y))];exact y,c⟩
 aL:=λb u q=>by
  have st:∀c v,H c=ah v->v≠.dK kvs->upd H a (.dW o (.dK kvs)) c=ah v:=λc v z hv=>by rw[bH (zF z h hv)];exact z
  by_cases j:b=a
  ·subst j;rw[eA]at q;cases q;exact⟨L,(I.aL b _ h).nR (λc v _ z=>z) (λc z=>st c _ z (by intro w;cases w)) λc xs z=>st c _ z (by intro w;cases w)⟩
  ·rw[bH j]at q;exact(I.aL b u q).nR (λc v _ z=>z) (λc z=>st c _ z (by intro w;cases w)) λc xs z=>st c _ z (by intro w;cases w)
 len:=I.len
section
variable{X:Cx}{W:WX}{pos:cq}
theorem Ss{o:bp}{td:TE}{elts:ai bp}{n:ay}{p ag g:cq}(A:PE X o td)(E:bw o "items" X.env (br o X.env)=br o X.env:=by rfl)(D:(ag.endLine==g.line)=au:=by rfl) :
  PI X (.Tuple elts n p) (.Call (.Attribute o "items" ag) [] [] g) (λJ H R=>td J H λx H1=>∃a kvs,x=.ref a/\H1 a=ah (.dK kvs)/\∀ob,R (Mm a ob kvs) (upd H1 a (.dW ob (.dK kvs)))):=by
 intro aa s J H R I h;refine PZ E D (bN (A aa s J H _ I h) λv s1 ⟨x,H1,f,r,u⟩=>?_);obtain⟨a,kvs,rfl,B,q⟩:=u;cases r;obtain⟨h1,h2,t⟩:=BW f (.inl ⟨kvs,.inl B⟩);obtain⟨z,_,vs,rel,U⟩:=zU f.aL B;refine⟨"dict", "dict.items",PySem.F.plainAttrs_dict,PySem.F.slot_dict_items,PySem.F.type_dict_items,h1,h2,JE rfl (PySem.evalArgs_none ?_)⟩;refine HM PySem.F.slot_dict_items U.typeIs PySem.F.entry_dict_items (PySem.F.args_dict_items_1 _) (meets_dict_items (gB X.prog X.w) a t) ⟨⟨vs,U⟩,?_⟩;obtain⟨ob,es,L,l,K,k,G⟩:=U;have hl:kvs.length=vs.length:=rel.length;have m:Inv X aa J H1 {s1 with heap:=s1.heap.push {cls:=.type "dict_items",data:=.fields #[.ref a]} }:=f.kept (t':=s1.toks) λb o e=>dD _ e;have dat:Heap.DictAt (gB X.prog X.w) (s1.heap.push {cls:=.type "dict_items",data:=.fields #[.ref a]}) a vs L:=⟨ob,es,dD _ l,K,k,G⟩;refine wpAny_pyIter_items (s:={s1 with heap:=s1.heap.push {cls:=.type "dict_items",data:=.fields #[.ref a]} }) ⟨_,fW _ rfl,rfl,rfl⟩ dat ?_;generalize i:({s1 with heap:=s1.heap.push {cls:=.type "dict_items",data:=.fields #[.ref a]} }:ar)=j at m dat;have ga:j.heap.get? a=ah ob:=by rw[<-i];exact dD _ l
 have d:=V2.Inv.av4 m B ga;have M:Inv X aa J (upd H1 a (.dW ob (.dK kvs))) {j with heap:=j.heap.push {cls:=.type "dict_itemiterator",data:=.fields #[.none,.bool ao,.ref a,.int 0 0,.int vs.length 0,.int L 0,.none,.none]} }:=d.kept (t':=j.toks) λb o e=>dD _ e;have y:j.heap=s1.heap.push {cls:=.type "dict_items",data:=.fields #[.ref a]}:=by rw[<-i]
 refine⟨j.heap.objs.size,[j.heap.objs.size],_,_,_,rfl,M,adU a _ ob kvs es L k,⟨.none,.none,by rw[hl];exact fW _ rfl⟩,λc C=>?_,q ob⟩;have e:c=j.heap.objs.size:=by simpa using C
 subst e;exact d.vP cU (d.aL.fresh cU)
def FZ(kvs:ai (Key×A)):Src:=⟨kvs.map lT,λ_=>True⟩
@[simp] def QK(f:Ev->Mo A):Ev->Mo Src:=λY=>mb (f Y) λa Z=>match fL Z a with
 |some (k,kvs)=>ah (.ok (FZ kvs),Z.set k .dead)
 |none=>ak
theorem Vh{K:ba}{G:Hp}{O:ai aq}{p:aq}{o:cj}{ws:ai (Key×V)}{kvs:ai (Key×A)}(n:G p=ah (.dW o (.dK ws)))(m:ws.map (·.1)=kvs.map (·.1))(d:aX K G O (ws.map (·.2)) (kvs.map (·.2))):DP K G O (Mm p o ws) (FZ kvs):=by
 have hl:ws.length=kvs.length:=by have:=b7 List.length m;simpa using this
 have k:(FZ kvs).ds.length=kvs.length:=by simp[FZ]
 refine⟨λc j B H' e w h i hi=>⟨w.sub _ _ (e.same _ _ n),by rw[hl,<-k];exact hi⟩,λc j B H' e w h i hi=>⟨w.sub _ _ (e.same _ _ n),by rw[hl,<-k];exact hi⟩,λc j B H' e w h i x u y hy hd=>?_⟩;obtain⟨q,U,r,b,rfl,rfl⟩:=hd;have L:(kvs.map lT)[i]?=ah y:=hy;rw[iZ]at L;cases a:kvs[i]? with
 |none=>rw[a]at L;cases L
 |some g =>
  rw[a]at L;cases L;have t:U.1=g.1:=by
   have:=b7 (λl=>l[i]?) m;simp only[iZ,r,a,OB,jJ]at this;exact this
  obtain⟨z,f,s⟩:=d.get (i:=i) (d:=g.2) (by rw[iZ,a];rfl);rw[iZ,r]at f;cases f;refine⟨upd c q (.tup [kV U.1,U.2]),Ext.new (w.oY b) _,w.new b _,?_⟩;simp only[lT,Den];exact⟨q,[kV U.1,U.2],rfl,eA,.cons (by rw[t];exact Hy _) (.cons ((s.ext e).ext (Ext.new (w.oY b) _)) .nil)⟩
theorem acX{o:bp}{f:Ev->Mo A}{elts:ai bp}{B:ay}{x ag q:cq}(E:VE X W o f)(I:bw o "items" X.env (br o X.env)=br o X.env:=by rfl)(F:(ag.endLine==q.line)=au:=by rfl) :
  VI X W (.Tuple elts B x) (.Call (.Attribute o "items" ag) [] [] q) (QK f):=by
 obtain⟨t,p,s⟩:=E;refine⟨_,Ss p I F,λG l n H J i R w r h=>?_⟩;refine s G l n H J i _ w r (bR.mb h λa m v M d j B U K h1=>?_);split at h1
 ·rename_i k D e;obtain⟨p,z,rfl,b,g,C,q,y⟩:=sT U K e;refine⟨p,z,rfl,C,λob=>?_⟩;have u:=U.put (k:=k) (c:=.dead) (o:=.dW ob (.dK z)) b g trivial;have L:=u.freeze b g eA;rw[qJ]at L;have e0:Ext d j (upd d p (.dW ob (.dK z))) j:=Ext.new g _;exact h1 _ _ _ _ e0 L (Vh eA q (y.ext e0))
 ·exact False.elim h1
end
section
variable{P:a9}{w:bh}{K:ba}{mg:a5->av aj}{base:bu}
structure abS(K:ba)(x af:a5)(st:bo)(f T:aq)(fd:ck):Prop where
 ex:∃(oc:aj) (od:av aq) (kV doc pm:aj) (an:av aq) (aS ct:aj) (gY:bf (av aj)),
  fd=fnOf x af (kO st) (eZ st) (aY st) (.ref T) kV doc pm an aS ct/\K.lookup f=ah ⟨oc,od,.func fd,gY⟩/\codeIn K aS af=au
structure IV(K:ba)(mg:a5->av aj)(cls m af:a5)(st:bo)(dv:bf aj):Prop where
 ex:∃C f fd T o n,cc K aw cls=ah (ah (.ref C))/\mg cls=ah (.ref C)/\mS K C/\Meth K C m f/\abS K m af st f T fd/\K.lookup T=ah o/\o.data=.seq dv n
theorem bL.ofD{cls m af:a5}{st:bo}{N ps:ai a5}{k:ay}{b:MS}{j:bf aj}{ds:ai aj}{dvs:ai V}{das:ai A}(h:IV K mg cls m af st j)(hv:Vals dvs ds)(hd:∀G O,aX K G O dvs das)(S:cL N ps (aY st))
  (bind:∀(T:aq) (kV doc pm:aj) (an:av aq) (aS ct:aj) (us:ai aj),us.length+ds.length=ps.length->∃k,dh (fnOf m af (kO st) (eZ st) (aY st) (.ref T) kV doc pm an aS ct) ⟨us,[]⟩=seqItems? (.ref T) >>= k/\k (ah j)=pure (ps.zip (us++ds)))
  (iB:∀(f:aq) (aS:aj) (A:bj) (outer:ai Env) (s:ar) (H:Hp) (E:XK),cE k (A.deeper (cn af (aY st) s.heap.objs.size f aS)) ->
   fN (oZ P w K mg base N af (aY st) f aS A outer s H E) (λ_=>E) (eZ st) b):bL P w K mg base cls m (k+1) ps.length das (cF N.length b):=by
 obtain⟨C,f,fd,T,o,n,h1,_,h2,L,F,hT,z⟩:=h.ex;obtain⟨oc,od,kV,doc,pm,an,aS,ct,gY,rfl,lk,jG⟩:=F.ex;refine⟨C,f,_,ps,ds,dvs,h1,h2,L,rfl,Hg lk jG S (λvs H Q E h=>h.1) λA outer s H vs Q E hr gF=>?_,λs us B hl=>?_,hv,hd⟩
 ·obtain⟨t,p,q⟩:=iB f aS A outer s H E hr;exact⟨t,Ee p,NR q gF⟩
 ·obtain⟨c,a,U⟩:=bind T kV doc pm an aS ct us (by rw[<-uT];exact hl);exact BindsTo.of_defaults rfl (B _ _ hT) z a U
end
@[elab_as_elim] theorem us6{P:ai aj->Prop}(us:ai aj)(h:us.length=6)(f:∀a b c d e g,P [a,b,c,d,e,g]):P us:=by
 cases us with
 |nil=>simp at h
 |cons a r=>exact Pg (P:=λr=>P (a::r)) r (by simpa using h) (f a)
end V2
namespace L2
open PySem
theorem cE.m{j k:ay}{A:bj}(r:cE k A)(h:j<=k:=by first|decide|omega):cE j A:=r.mono h
end L2
namespace V2
open PySem L2 PyProof.Rows
variable{P:a9}{w:bh}{K:ba}{mg:a5->av aj}{base:bu}
theorem ay6{h:bu}{x:a5}{v:a6}{t:Tok}(X:K.In h)(G:h.Ns aw mg)(a:cc K aw x=ah (ah (.int v t))):∃t,mg x=ah (.int v t):=⟨_,mg_of X G a⟩
theorem Tc{h:bu}{c:a5}{C:aq}(X:K.In h)(G:h.Ns aw mg)(a:cc K aw c=ah (ah (.ref C)))(e:excIn K C Iq "ValueError.__new__" = au):qH K mg c:=⟨C,⟨e⟩,mg_of X G a,a⟩
structure iK(K:ba)(X:aq)(m q:a5)(st:bo):Prop where
 ex:∃f fd,Meth K X m f/\tD K m q st f fd
theorem jC{X f:aq}{m q:a5}{st:bo}{oc:aj}{od an:av aq}{gY:bf (av aj)}{kV doc pm aS ct:aj}(a:bx K (.ref X) m=ah (ah (.ref f)))
  (l:K.lookup f=ah ⟨oc,od,.func (fnOf m q (kO st) (eZ st) (aY st) .none kV doc pm an aS ct),gY⟩) (c:codeIn K aS q=au) (k:keepIn K (.ref f)=au) (i:isFn K (.ref f)=au):iK K X m q st:=⟨f,_,⟨a,i,k⟩,ND l c k⟩
theorem iK.has{h:bu}{cls m q:a5}{st:bo}{C:aq}(M:iK K C m q st)(X:K.In h)(G:h.Ns aw mg)(n:cc K aw cls=ah (ah (.ref C)))(L:mS K C):iL K mg cls m q st :=
 let ⟨f,fd,a,b⟩:=M.ex; ⟨C,f,fd,n,mg_of X G n,L,a,b⟩
structure OJ(K:ba)(X:aq)(q:a5)(st:bo):Prop where
 ex:∃f fd,Mk K X f/\tD K "__init__" q st f fd
theorem Vm{X f:aq}{q:a5}{st:bo}{oc:aj}{od an:av aq}{gY:bf (av aj)}{kV doc pm aS ct:aj}(a:bx K (.ref X) "__init__" = ah (ah (.ref f)))
  (l:K.lookup f=ah ⟨oc,od,.func (fnOf "__init__" q (kO st) (eZ st) (aY st) .none kV doc pm an aS ct),gY⟩) (c:codeIn K aS q=au) (k:keepIn K (.ref f)=au) (i:isFn K (.ref f)=au)
  (mk:makesIn K X=au) (j:keepIn K (.ref X)=au):OJ K X q st:=⟨f,_,⟨mk,a,i,j⟩,ND l c k⟩
theorem OJ.has{h:bu}{cls q:a5}{st:bo}{C:aq}(M:OJ K C q st)(X:K.In h)(G:h.Ns aw mg)(n:cc K aw cls=ah (ah (.ref C))):XW K mg cls q st :=
 let ⟨f,fd,a,b⟩:=M.ex; ⟨C,f,fd,n,mg_of X G n,a,b⟩
structure OD(K:ba)(X:aq)(m q:a5)(st:bo)(dv:bf aj):Prop where
 ex:∃f fd T o n,Meth K X m f/\abS K m q st f T fd/\K.lookup T=ah o/\o.data=.seq dv n
theorem Ub{X f T:aq}{m q:a5}{st:bo}{oc tc:aj}{od an td:av aq}{gY ts:bf (av aj)}{kV doc pm aS ct:aj}{n:ay}{j:bf aj}(a:bx K (.ref X) m=ah (ah (.ref f)))
  (l:K.lookup f=ah ⟨oc,od,.func (fnOf m q (kO st) (eZ st) (aY st) (.ref T) kV doc pm an aS ct),gY⟩) (c:codeIn K aS q=au) (k:keepIn K (.ref f)=au) (i:isFn K (.ref f)=au)
  (t:K.lookup T=ah ⟨tc,td,.seq j n,ts⟩):OD K X m q st j:=⟨f,_,T,_,n,⟨a,i,k⟩,⟨⟨_,_,_,_,_,_,_,_,_,rfl,l,c⟩⟩,t,rfl⟩
theorem OD.has{h:bu}{cls m q:a5}{st:bo}{C:aq}{j:bf aj}(M:OD K C m q st j)(X:K.In h)(G:h.Ns aw mg)(n:cc K aw cls=ah (ah (.ref C)))(L:mS K C):IV K mg cls m q st j :=
 let ⟨f,fd,T,o,k,a,b,c,d⟩:=M.ex; ⟨C,f,fd,T,o,k,n,mg_of X G n,L,a,b,c,d⟩
theorem dN{N P:ai a5}{j:cp}(a:j.kind=.function:=by rfl)(b:j.isCoroutine=ao:=by rfl)(c:j.isGenerator=ao:=by rfl)(d:N.Nodup:=by decide +kernel)(e:N.take P.length=P:=by rfl)(f:∀x∈P,j.names.lookup x=ah .local\/j.names.lookup x=ah .cell:=by decide +kernel)(g:∀y∈j.names,y.2≠.free:=by decide +kernel):cL N P j:=⟨a,b,c,d,e,f,g⟩
theorem lcO{X:Cx}{scope:cp}{z:ai a5}{q:ai ay}(j:cp)(N:ai a5)(L:X.env.scope=j:=by rfl)(B:X.N=N:=by rfl)(ok:SX scope j N q=au:=by decide +kernel):uU X scope z q:=.of j N L B ok
end V2
namespace PySem
open PyProof.Rows
def vW(xs:bf ay):Prop:=∀i j a b:ay,i<j->xs[i]?=ah a->xs[j]?=ah b->a<b
theorem Iv(xs:bf ay)(j:ay)(hr:vW xs):∀(fuel lo hi:ay),lo<=hi->hi<=xs.size->hi-lo<=fuel->(∀i a,i<lo->xs[i]?=ah a->a<j)->(∀i a,hi<=i->xs[i]?=ah a->j<=a) ->
  lo<=SetTable.below.go xs j fuel lo hi/\SetTable.below.go xs j fuel lo hi<=xs.size/\(∀i a,i<SetTable.below.go xs j fuel lo hi->xs[i]?=ah a->a<j)/\(∀i a,SetTable.below.go xs j fuel lo hi<=i->xs[i]?=ah a->j<=a)
 |0,lo,hi,h1,h2,e,L,B=>by
  have:lo=hi:=by omega
  subst this;exact⟨nY _,h2,L,B⟩
 |fuel+1,lo,hi,h1,h2,e,L,B=>by
  unfold SetTable.below.go
  by_cases dZ:lo<hi
  ·rw[ax dZ];have hm:(lo+hi)/2<xs.size:=by omega
   have q:xs[(lo+hi)/2]?=ah xs[(lo+hi)/2]:=Gv xs _ hm;have hd:xs.getD ((lo+hi)/2) j=xs[(lo+hi)/2]:=by simp[Array.getD,hm]
   show lo<=(if xs.getD ((lo+hi)/2) j<j then SetTable.below.go xs j fuel ((lo+hi)/2+1) hi else SetTable.below.go xs j fuel lo ((lo+hi)/2))/\(if xs.getD ((lo+hi)/2) j<j then SetTable.below.go xs j fuel ((lo+hi)/2+1) hi else SetTable.below.go xs j fuel lo ((lo+hi)/2))<=xs.size/\(∀i a,i<(if xs.getD ((lo+hi)/2) j<j then SetTable.below.go xs j fuel ((lo+hi)/2+1) hi else SetTable.below.go xs j fuel lo ((lo+hi)/2))->xs[i]?=ah a->a<j)/\(∀i a,(if xs.getD ((lo+hi)/2) j<j then SetTable.below.go xs j fuel ((lo+hi)/2+1) hi else SetTable.below.go xs j fuel lo ((lo+hi)/2))<=i->xs[i]?=ah a->j<=a);rw[hd]
   by_cases U:xs[(lo+hi)/2]<j
   ·rw[ax U];obtain⟨a,b,c,d⟩:=Iv xs j hr fuel ((lo+hi)/2+1) hi (by omega) h2 (by omega) (λi a f ha=>by
     rcases XB i ((lo+hi)/2)with z|z
     ·have:=hr i ((lo+hi)/2) a _ z ha q;omega
     ·have:i=(lo+hi)/2:=by omega
      subst this;rw[q]at ha;cases ha;exact U) B
    exact⟨by omega,b,c,d⟩
   ·rw[a8 U];obtain⟨a,b,c,d⟩:=Iv xs j hr fuel lo ((lo+hi)/2) (by omega) (by omega) (by omega) L (λi a f ha=>by
     rcases XB ((lo+hi)/2) i with z|z
     ·have:=hr ((lo+hi)/2) i _ a z q ha;omega
     ·have:i=(lo+hi)/2:=by omega
      subst this;rw[q]at ha;cases ha;omega)
    exact⟨a,b,c,d⟩
  ·rw[a8 dZ];have:lo=hi:=by omega
   subst this;exact⟨nY _,h2,L,B⟩
theorem Iu{xs:bf ay}(hr:vW xs)(j:ay):SetTable.below xs j<=xs.size/\(∀i a,i<SetTable.below xs j->xs[i]?=ah a->a<j)/\(∀i a,SetTable.below xs j<=i->xs[i]?=ah a->j<=a):=by
 obtain⟨_,b,c,d⟩:=Iv xs j hr xs.size 0 xs.size BQ cU (by omega) (λi a h=>bz h (Nat.not_lt_zero _)) (λi a h ha=>by
  have:=(PR.mp ha).1;omega)
 exact⟨b,c,d⟩
theorem aBE{xs:bf ay}(hr:vW xs){i a:ay}(h:xs[i]?=ah a):SetTable.below xs (a+1)=i+1:=by
 obtain⟨b,c,d⟩:=Iu hr (a+1);have hi:=(PR.mp h).1
 rcases Nat.lt_trichotomy (SetTable.below xs (a+1)) (i+1)with z|z|z
 ·have:=d i a (by omega) h;omega
 ·exact z
 ·have hl:i+1<xs.size:=by omega
  have j:xs[i+1]?=ah xs[i+1]:=Gv xs _ hl;have h1:=c (i+1) _ z j;have h2:=hr i (i+1) a _ (by omega) h j;omega
theorem aBD{xs:bf ay}(hr:vW xs):SetTable.below xs 0=0:=by
 obtain⟨b,c,d⟩:=Iu hr 0
 rcases Nat.eq_zero_or_pos (SetTable.below xs 0)with z|z
 ·exact z
 ·have hl:0<xs.size:=by omega
  have j:xs[0]?=ah xs[0]:=Gv xs _ hl;have:=c 0 _ z j;omega
theorem arA{α:Type}(xs:bf α)(p:ay)(x:α)(B:p<=xs.size)(i:ay):(SetTable.insertAt xs p x)[i]?=if i<p then xs[i]? else if i=p then ah x else xs[i-1]?:=by
 unfold SetTable.insertAt;have j:(xs.extract 0 p).size=p:=by simp;omega
 have z:((xs.extract 0 p).push x).size=p+1:=by rw[Array.size_push,j]
 rw[Array.getElem?_append,z]
 by_cases h1:i<p
 ·rw[ax (by omega),ax h1,Array.getElem?_push,j,a8 (by omega),Array.getElem?_extract];simp;intro h;omega
 ·rw[a8 h1]
  by_cases h2:i=p
  ·rw[ax (by omega),ax h2,Array.getElem?_push,j,ax h2]
  ·rw[a8 (by omega),a8 h2,Array.getElem?_extract]
   by_cases q:i-(p+1)<xs.size-p
   ·rw[ax (by simpa using q),show(p+(i-(p+1)))=i-1 by omega]
   ·rw[a8 (by simpa using q),eq_comm,ab2];omega
theorem aiJ{xs:bf ay}(hr:vW xs)(j:ay)(hn:xs[SetTable.below xs j]?≠ah j):vW (SetTable.insertAt xs (SetTable.below xs j) j):=by
 obtain⟨b,c,d⟩:=Iu hr j;have d':∀i a,SetTable.below xs j<=i->xs[i]?=ah a->j<a:=λi a h1 h2=>by
  have B:=d i a h1 h2
  rcases XB j a with z|z
  ·exact z
  ·exfalso;have:a=j:=by omega
   subst this
   rcases XB (SetTable.below xs a) i with y|y
   ·have hl:SetTable.below xs a<xs.size:=by have:=(PR.mp h2).1;omega
    have U:xs[SetTable.below xs a]?=ah xs[SetTable.below xs a]:=Gv xs _ hl;have f:=d _ _ cU U;have e:=hr _ i _ a y U h2;omega
   ·have:i=SetTable.below xs a:=by omega
    subst this;exact hn h2
 intro i k x y L q hy;rw[arA _ _ _ b]at q hy
 by_cases h1:i<SetTable.below xs j
 ·rw[ax h1]at q
  by_cases h2:k<SetTable.below xs j
  ·rw[ax h2]at hy;exact hr i k x y L q hy
  ·rw[a8 h2]at hy
   by_cases B:k=SetTable.below xs j
   ·rw[ax B]at hy;cases hy;exact c i x h1 q
   ·rw[a8 B]at hy;exact hr i (k-1) x y (by omega) q hy
 ·rw[a8 h1]at q;rw[a8 (by omega),a8 (by omega)]at hy
  by_cases B:i=SetTable.below xs j
  ·rw[ax B]at q;cases q;exact d' (k-1) y (by omega) hy
  ·rw[a8 B]at q;exact hr (i-1) (k-1) x y (by omega) q hy
theorem aiI(n:ay):vW (Array.range n):=by
 intro i j a b L ha hb;have h1:=(PR.mp ha);have h2:=(PR.mp hb);obtain⟨p,q⟩:=h1;obtain⟨B,z⟩:=h2;simp at q z;omega
theorem aiK{l:ai ay}(h:l.Pairwise (· < ·)):vW l.toArray:=by
 intro i j a b L ha hb;simp only[List.getElem?_toArray]at ha hb;obtain⟨p,q⟩:=cX.mp ha;obtain⟨B,z⟩:=cX.mp hb;have:=Ma.mp h i j p B L;rw[q,z]at this;exact this
theorem Dc(t:b6)(ha:ay->a6)(h:a6):∀(fuel:ay) (p:SetTable.Probe) (j:ay) (q:av ay),SetTable.probe.go t ha h fuel p=ah (.empty j q)->t.slot j=.empty/\∀d,q=ah d->p.dummy=ah d\/t.slot d=.dummy
 |0,p,j,q,e=>by cases e
 |fuel+1,p,j,q,e=>by
  unfold SetTable.probe.go at e;cases hs:t.slot p.j with
  |empty =>
   rw[hs]at e;dsimp only at e;cases e;exact⟨hs,λd hd => .inl hd⟩
  |dummy =>
   rw[hs]at e;dsimp only at e;obtain⟨a,b⟩:=Dc t ha h fuel _ j q e;refine⟨a,λd hd=>?_⟩
   rcases b d hd with z|z
   ·have B:(t.advance {p with dummy:=ah p.j}).dummy=ah p.j:=by
     unfold SetTable.advance;split <;> rfl
    rw[B]at z;cases z;exact .inr hs
   ·exact .inr z
  |live i =>
   rw[hs]at e;dsimp only at e
   by_cases hh:(ha i==h)=au
   ·rw[ax hh]at e;cases e
   ·rw[a8 hh]at e;obtain⟨a,b⟩:=Dc t ha h fuel _ j q e;refine⟨a,λd hd=>?_⟩
    rcases b d hd with z|z
    ·have B:(t.advance p).dummy=p.dummy:=by
      unfold SetTable.advance;split <;> rfl
     rw[B]at z;exact .inl z
    ·exact .inr z
theorem Qq{t:b6}{j:ay}(h:t.slot j=.empty\/t.slot j=.dummy):t.place[SetTable.below t.place j]?≠ah j:=by
 intro z;unfold SetTable.slot at h;simp only[z,beq_self_eq_true,nC]at h
 rcases h with h|h <;> cases h
theorem av5{t:b6}{h:a6}{j:ay}{b:bb}(e:t.freeSlot h=ah (j,b)):t.place[SetTable.below t.place j]?≠ah j:=by
 unfold SetTable.freeSlot at e;split at e
 ·next B q L =>
  cases e;obtain⟨a,c⟩:=Dc t _ h _ _ B q L;cases q with
  |none=>exact Qq (.inl a)
  |some d =>
   rcases c d rfl with z|z
   ·cases z
   ·exact Qq (.inr z)
 ·cases e
structure pB(led:bb)(t:b6):Prop where
 rise:vW t.place
 led:t.led=led
theorem ad3(led:bb):pB led (.fresh 0 0 led):=⟨λi j a b _ h=>by simp[SetTable.fresh]at h,rfl⟩
theorem QS{led:bb}{t:b6}(h:pB led t)(n:ay):pB led (t.standIn n):=⟨aiI n,h.led⟩
theorem ad2{led:bb}{t:b6}(h:pB led t)(es:bf (a6×aj))(hs:a6)(x:aj):pB led (layNew t es hs x).2.1:=by
 unfold layNew;split
 ·next slot q e =>
  show pB led ((t.put slot).1.orStandIn _);have j:pB led (t.put slot).1:=⟨aiJ h.rise slot (av5 e),h.led⟩;unfold SetTable.orStandIn;split
  ·exact j
  ·exact QS j _
 ·exact QS h _
theorem ad0{led:bb}{t:b6}(h:pB led t)(es:bf (a6×aj))(w:ay):pB led (relayAll t es w).2.1:=by
 unfold relayAll;split
 ·next j order e =>
  show pB led (if(coversAll order es.size&&j.fits (order.filterMap (es[·]?)).size)=au then(order.filterMap (es[·]?),j,ao)else(es,t.standIn es.size,au)).2.1;split
  ·show pB led j;unfold SetTable.relaid SetTable.laid at e;cases z:SetTable.layClean (SetTable.sizeAbove w-1) (es.map (·.1))with
   |none=>rw[z]at e;cases e
   |some U =>
    rw[z]at e;simp at e;obtain⟨B,c⟩:=e;subst B;refine⟨aiK ?_,h.led⟩;rw[List.map_filterMap];refine List.Pairwise.filterMap _ (R:=(· < ·)) (λa b L x q y hy=>?_) List.pairwise_lt_range;simp at q hy;obtain⟨_,_,rfl⟩:=q;obtain⟨_,_,rfl⟩:=hy;exact L
  ·exact QS h _
 ·exact QS h _
theorem ad1{led:bb}{t:b6}(h:pB led t)(b:bb):pB led {t with plain:=b}:=⟨h.rise,h.led⟩
noncomputable def nS(w:bh):bb:=!w.params.followText "set-order"
def kB(prog:a9)(w:bh)(h:bu)(a:aq)(es:bf (a6×aj)):Prop :=
 ∃o ep t,h.get? a=ah o/\o.ExactSet/\o.data=.set es ep t/\ElemsOf (cv prog w) es.toList/\es.size<de/\t.fits es.size=au/\pB (nS w) t
section
variable{prog:a9}{w:bh}{A:bj}{E:aj->ar->Prop}{s:ar}
theorem kB.at{h h':bu}{a:aq}{es:bf (a6×aj)}(x:kB prog w h a es)(e:∀o,h.get? a=ah o->h'.get? a=ah o):kB prog w h' a es :=
 let ⟨o,q,t,j,r⟩:=x; ⟨o,q,t,e _ j,r⟩
theorem kB.typeIs{a:aq}{es:bf (a6×aj)}(x:kB prog w s.heap a es):s.TypeIs (.ref a) "set":=let ⟨o,_,_,q,j,_⟩:=x; ⟨o,q,j.1⟩
theorem kB.lt{h:bu}{a:aq}{es:bf (a6×aj)}(x:kB prog w h a es):a<h.objs.size:=let ⟨_,_,_,j,_⟩:=x;dE j
theorem aaH{g:bb->Sem Unit}(u:∀(b:bb) (s₁:ar) (n:Unit->ar->Prop),n () s₁->wpAny (bc prog w) A (g b) n E s₁)
  {a:aq} {o:cj} {es:bf (a6×aj)} {ep:ay} {t:b6} (U:s.heap.get? a=ah o) (hex:o.ExactSet) (hd:o.data=.set es ep t)
  {j:bf (a6×aj)} {q:b6} (p:ElemsOf (cv prog w) j.toList) (GN:j.size<de) (e:q.fits j.size=au) (hT:pB (nS w) q) {y:bb} {R:av bb->ar->Prop}
  (h:∀h' eY,Heap.SameBut a s.heap h'->kB prog w h' a eY->eY.toList.Perm j.toList->R (ah au) {s with heap:=h' }) :
  wpAny (bc prog w) A (do
    storeSet a j q
    if(!y&&q.tooFull)=au then do
      g (relayAll q j (SetTable.grown j.size)).2.2
      storeSet a (relayAll q j (SetTable.grown j.size)).1 (relayAll q j (SetTable.grown j.size)).2.1
      pure (ah au)
     else pure (ah au)) R E s:=by
 have store:∀{h:bu} {o:cj} {es:bf (a6×aj)} {ep:ay} {t:b6} (eY:bf (a6×aj)) (z:b6),h.get? a=ah o->o.data=.set es ep t->(h.update a (Obj.putSet eY z)).get? a=ah {o with data:=.set eY (ep+1) z}:=λ{h o es ep t} eY z U hd=>by
  have:=OM (Obj.putSet eY z) U (by rw[putSet_of eY z hd];rfl);rw[putSet_of eY z hd]at this;exact this
 refine aJ (wpAny_storeSet_of U hd ?_ (Hk GN));have c:=store j q U hd;have m:=Heap.SameBut.update s.heap a (Obj.putSet j q);split
 ·have B:=relayAll_perm q j (SetTable.grown j.size);have i:=relayAll_fits q j (SetTable.grown j.size);have k:=ad0 hT j (SetTable.grown j.size);generalize v:relayAll q j (SetTable.grown j.size)=Rl at B i k ⊢;obtain⟨L,l,x⟩:=Rl;dsimp only at B i k ⊢;have f:ElemsOf (cv prog w) L.toList:=p.perm B;have d:L.size=j.size:=by rw[<-mU,B.length_eq,mU]
  have uH:L.size<de:=by rw[d];exact GN
  refine aJ (u _ _ _ ?_);refine aJ (wpAny_storeSet_of c rfl ?_ (Hk uH));have r:=store L l c rfl;exact bG (h _ L (m.trans (Heap.SameBut.update _ a _)) ⟨_,_,l,r,hex,rfl,f,uH,i,k⟩ B)
 ·exact bG (h _ j m ⟨_,_,q,c,hex,rfl,p,GN,e,hT⟩ (DN _))
theorem aB5{a:aq}{es:bf (a6×aj)}{k:a6}{x:aj}{Q:bb->ar->Prop}(v:(cv prog w).is k x=au)(p:x.scannable=au)(hS:kB prog w s.heap a es)(G:es.size+1<de)
  (h:∀b h' eY,Heap.SameBut a s.heap h'->kB prog w h' a eY->(((∃e∈es.toList,(cv prog w).is k e.2=au)/\eY=es)\/((∀e∈es.toList,(cv prog w).is k e.2≠au)/\eY.toList.Perm (es.toList++[((cv prog w).hash k,x)])))->Q b {s with heap:=h' }) :
  wpAny (bc prog w) A (setAddHashed a x ((cv prog w).hash k)) Q E s:=by
 obtain⟨o,D,t,U,hex,hd,g,hb,n,hT⟩:=hS;unfold setAddHashed setAddHashedIn;refine qQ (aJ (AS U hd n ?_));dsimp only;rw[byScan_of p hb g];simp only[↓reduceIte];unfold setAddByScan;refine aJ ?_;refine aJ (JM ?_);refine aJ (wpAny_setScan_of v U hd n g ?_);cases hr:List.findIdx? (λe=>(cv prog w).is k e.2) es.toList with
 |some j =>
  dsimp only;obtain⟨C,l,_⟩:=List.findIdx?_eq_some_iff_getElem.mp hr;refine bG (bG ?_);have e:s={s with heap:=s.heap}:=by cases s;rfl
  rw[e];exact h _ s.heap es (Heap.SameBut.refl a s.heap) ⟨o,D,t,U,hex,hd,g,hb,n,hT⟩ (.inl ⟨⟨es.toList[j],OF C,l⟩,rfl⟩)
 |none =>
  dsimp only;have H:∀e∈es.toList,(cv prog w).is k e.2≠au:=λe he q=>by
   have:=List.findIdx?_eq_none_iff.mp hr e he;rw[q]at this;exact Bool.noConfusion this
  have m:∀(b:bb) {s₁:ar} {c:Unit->ar->Prop},c () s₁->wpAny (bc prog w) A (match b with|true=>rule "set.scan.the-table-gave-way" | false=>pure ()) c E s₁ :=
   λb s₁ c hq=>by cases b <;> first|exact bG hq|exact JM hq
  have z:=layNew_perm t es ((cv prog w).hash k) x;have f:=layNew_fits t es ((cv prog w).hash k) x;have d:=ad2 hT es ((cv prog w).hash k) x;generalize K:layNew t es ((cv prog w).hash k) x=L at z f d ⊢;obtain⟨i,I,M,F⟩:=L;dsimp only at z f d ⊢;rw[Array.toList_push]at z;have y:ElemsOf (cv prog w) i.toList:=(g.push v p).perm z;have r:i.size<de:=by rw[<-mU,z.length_eq,uT,mU];simpa using G
  refine aJ (m _ ?_);have u:∀b h' eY,Heap.SameBut a s.heap h'->kB prog w h' a eY->eY.toList.Perm i.toList->Q b {s with heap:=h' }:=λb h' eY B kM q=>h b h' eY B kM (.inr ⟨H,q.trans z⟩);split
  ·refine aJ ?_;rw[hashByValue_scannable 8 p];refine bG ?_;refine aaH ?_ U hex hd y r ?_ ?_ ?_
   ·intro b s₁ c hq;cases b <;> first|exact bG hq|exact JM hq
   ·split
    ·exact f
    ·exact SetTable.fits_plain_off f
   ·split
    ·exact d
    ·exact ad1 d _
   ·intro h' eY B kM q;dsimp only;exact wpAny_pure (u _ h' eY B kM q)
  ·refine aJ (bG ?_);simp only[↓reduceIte];refine aaH ?_ U hex hd y r f d ?_
   ·intro b s₁ c hq;cases b <;> first|exact bG hq|exact JM hq
   ·intro h' eY B kM q;dsimp only;exact wpAny_pure (u _ h' eY B kM q)
end
def Nums(es:bf (a6×aj))(ms:ai a6):Prop:=cg (es.toList.map (·.2)) ms
theorem am8{es eY:bf (a6×aj)}{ms:ai a6}(h:Nums es ms){l:ai (a6×aj)}(hl:eY.toList.Perm l){mG:ai a6}(h2:cg (l.map (·.2)) mG):∃j,Nums eY j/\j.Perm mG:=by
 have q:∀v∈eY.toList.map (·.2),∃n t,v=.int n t:=λv hv=>by
  have:=(hl.map (·.2)).mem_iff.mp hv;exact IntsAre.all h2 v this
 refine⟨_,intsAre_map _ q,?_⟩;have:=(hl.map (·.2)).map numOf;rw[IntsAre.nums h2]at this;exact this
theorem ints_snoc:∀{vs:ai aj} {ns:ai a6},cg vs ns->∀(n:a6) (t:Tok),cg (vs++[.int n t]) (ns++[n])
 |_,_,.nil,n,t => .cons n t .nil
 |_,_,.cons m u h,n,t => .cons m u (ints_snoc h n t)
open PyProof.Rows PySem.Spec
set_option maxRecDepth 100000
set_option compiler.extract_closed false
set_option genSizeOf false
set_option bootstrap.genMatcherCode false
theorem Ue{prog:a9}{w:bh}:∀{l:ai (a6×aj)} {ms:ai a6},cg (l.map (·.2)) ms->∀k:a6,(∃e∈l,(cv prog w).is k e.2=au)<->k∈ms
 |[],_,h,k=>by
  cases h;constructor
  ·rintro⟨e,he,_⟩;cases he
  ·intro z;cases z
 |(hs,v)::l,_,h,k=>by
  cases h with
  |cons n t h =>
   have ih:=Ue (prog:=prog) (w:=w) h k;constructor
   ·rintro⟨e,he,j⟩
    rcases eB.mp he with z|z
    ·subst z;have:=(cv prog w).inj _ _ _ j (intKind_is prog w n t);rw[this];exact List.mem_cons_self ..
    ·exact gQ _ (ih.mp ⟨e,z,j⟩)
   ·intro z
    rcases eB.mp z with z|z
    ·subst z;exact⟨_,List.mem_cons_self ..,intKind_is prog w k t⟩
    ·obtain⟨e,he,j⟩:=ih.mpr z;exact⟨e,gQ _ he,j⟩
theorem awC(val:ay->a6){i n:ay}(h:i<=n):(c5 val i).length<=(c5 val n).length:=by
 induction h with
 |refl=>exact nY _
 |step _ ih =>
  rw[firstMet_succ];unfold step_dedup;split
  ·exact ih
  ·rw[uT];omega
section
variable{prog:a9}{w:bh}{A:bj}{R:Result->ar->Prop}{I:aq}{fp wr:ai aq}{G:bf GenState->bf GenState->Prop}{n:ay}{P:ay->aj->Prop}{St:ay->ar->Prop}
theorem azI(W:WalksS prog w A.in1 I fp wr G n P St)(S:aq)(vN:S∉fp)
  (val:ay->a6) (Ey:∀i v,P i v->∃t,v=.int (val i) t) (hb:(c5 val n).length+1<de) :
  ∀(k i:ay) (s:ar) (es:bf (a6×aj)) (ms:ai a6),n-i=k->i<=n->St i s ->
   kB prog w s.heap S es->Nums es ms->ms.Perm (c5 val i) ->
   (∀s' eY mG,Moved (S::wr) G s s'->kB prog w s'.heap S eY->Nums eY mG->mG.Perm (c5 val n)->R (.ok (.ret .none)) s') ->
   codeAny (bc prog w) A (.builtin "set.update.loop" ⟨[.ref S,.ref I],[]⟩) R s:=by
 have T:S∉wr:=λh=>vN (W.sub _ h);have sI:∀b∈wr,b∈S::wr:=λb hb=>gQ _ hb;intro k
 induction k with
 |zero =>
  intro i s es ms hk hi g hS q j hR;have L:i=n:=by omega
  subst L;refine zV aCJ ?_;rw[JF aa3 _];show wpAny _ A.in1 (df (.ref I) >>= _) _ _ s;refine aJ (W.done s _ _ g λs' hm=>?_);show wpAny _ A.in1 (ret Value.none) _ _ s';exact bG (hR s' es ms (hm.mono sI) (hS.at λo e=>hm.heap S _ T e) q j)
 |succ k ih =>
  intro i s es ms hk hi g hS q j hR;have dZ:i<n:=by omega
  refine zV aCJ ?_;rw[JF aa3 _];show wpAny _ A.in1 (df (.ref I) >>= _) _ _ s;refine aJ (W.item i s _ _ dZ g λv s' Gm Ff hm=>?_);obtain⟨t,rfl⟩:=Ey i v Gm;have kM:kB prog w s'.heap S es:=hS.at λo e=>hm.heap S _ T e;show wpAny _ A.in1 (c0 [Value.int (val i) t] (setAdd S (.int (val i) t)) >>= _) _ _ s';refine aJ (qQ ?_);unfold setAdd;refine qQ ?_;refine aJ ((cv prog w).pyHash (k:=val i) (intKind_is _ _ _ _) ?_);have X:es.size=(c5 val i).length:=by
   have h1:=IntsAre.length q;rw[fI,mU]at h1;rw[h1];exact j.length_eq
  have Fi:es.size+1<de:=by have:=awC val hi;omega
  refine aB5 (s:={s' with toks:=s'.toks+1}) (intKind_is _ _ _ _) rfl kM Fi λb h' eY F l c=>?_;have K:∀B,Nums eY B->B.Perm (c5 val (i+1))->_:=λB C D =>
   bG (M:=bc prog w) (A:=A.in1) (s:={s' with heap:=h',toks:=s'.toks+1}) (a:=PySem.Fin.again (.builtin "set.update.loop" ⟨[.ref S,.ref I],[]⟩)) (Q:=λfin s'=>match fin with | .done f=>R (.ok f) s' | .again H=>H.quiet=au/\codeAny (bc prog w) A H R s') (E:=λe s'=>R (.error e) s')
    ⟨FH aa3 _,ih (i+1) _ eY B (by omega) dZ (W.frame _ s' _ _ Ff (qI _) λb hb o e=>by
     rw[F.2 b (λh:b=S=>vN (by rw[<-h];exact hb))];exact e) l C D λV m x Fu r u p=>by
     refine hR V m x (Moved.trans W.gtrans ((hm.mono sI).then_heap (qI _) λb o hb e=>?_) Fu) r u p;rw[F.2 b (λh:b=S=>hb (by rw[h];exact List.mem_cons_self))];exact e⟩
  have N:=Ue (prog:=prog) (w:=w) q (val i)
  rcases c with⟨L,rfl⟩|⟨CB,hp⟩
  ·refine K ms q ?_;have CC:val i∈c5 val i:=j.mem_iff.mp (N.mp L);rw[firstMet_succ];unfold step_dedup;rw[ax (by rw[List.any_eq_true];exact⟨_,CC,by simp⟩)];exact j
  ·have d:val i∉c5 val i:=λz=>by
    obtain⟨e,he,U⟩:=N.mpr (j.mem_iff.mpr z);exact CB e he U
   have h2:cg ((es.toList++[((cv prog w).hash (val i),Value.int (val i) t)]).map (·.2)) (ms++[val i]):=by
    rw[IK];exact ints_snoc q (val i) t
   obtain⟨B,C,D⟩:=am8 q hp h2;refine K B C ?_;rw[firstMet_succ];unfold step_dedup;rw[a8 (by rw[List.any_eq_true];rintro⟨y,hy,e⟩;simp at e;subst e;exact d hy)];exact D.trans (j.append_right _)
end
section
variable{prog:a9}{w:bh}{A:bj}{E:aj->ar->Prop}{s:ar}
theorem agP(a:aj){Q₁:aj->ar->Prop}
  (h:Q₁ (.ref s.heap.objs.size) {s with heap:=s.heap.push {cls:=.type "set",dict:=ak,data:=.set #[] 0 (.fresh 0 0 (nS w))} }) :
  codeAny (bc prog w) A (.call (.builtin "set.__new__") ⟨[.type "set",a],[]⟩) (wants Q₁ E) s:=by
 refine codeAny_of_tree ?_;show wpAny _ A.in1 (do checkBuiltinCall "set.__new__" ⟨[.type "set",a],[]⟩;again (.builtin "set.__new__" ⟨[.type "set",a],[]⟩)) _ _ s;refine aJ (wpAny_of_eq (F.newCall_set_1 a) (bG ⟨FH F.plain_set_new _,zV F.entry_set_new ?_⟩));rw[JF F.plain_set_new _];unfold Builtin.«set.__new__» Builtin.Frozenset.newClass;have sI:=sub_set_self;obtain⟨j,g,d,tk,os⟩:=s;dsimp only
 wp_walk
 refine AU (bG ?_);dsimp only;simp only[newObj];refine aJ (wpAny_alloc (bG ?_));exact bG h
set_option maxHeartbeats 3200000 in
theorem aAC{l:aq}{items:bf aj}{ns:ai a6}{Q:aj->ar->Prop}
  (hh:A.handled=ak) (hl:s.heap.IsList l items) (hi:PyProof.Rows.IntsAre items.toList ns) (hb:(c5 (λi=>ns.getD i 0) items.size).length+1<de)
  (h:∀(h':bu) (tk:ay) es ms,kB prog w h' s.heap.objs.size es->Nums es ms->ms.Perm (c5 (λi=>ns.getD i 0) items.size) ->
   (∀b o,b<s.heap.objs.size->s.heap.get? b=ah o->h'.get? b=ah o)->Q (.ref s.heap.objs.size) {s with heap:=h',toks:=tk}) :
  wpAny (bc prog w) A (call (.type "set") [.ref l]) Q E s:=by
 obtain⟨c,tl,aFC⟩:=F.called_set.mro;have aFD:=F.called_set.made;have sI:=F.called_set.sub;refine JQ (codeAny_of_tree ?_);show wpAny _ _ (callAny (.type "set") _) _ _ _;refine bG ⟨Code.quiet_builtin _ (by decide +kernel),zV F.entry_type_call ?_⟩;rw[Around.under_plain (weight_type_call_type "set" [.ref l] []) rfl];have h1:=F.called_set.notType;have h2:=F.called_set.canCreate;have hct:=F.typeCall_set_1 (.ref l)
 repeat (any_goals (first|assumption|wp_step))
 refine uN (agP (.ref l) (E:=E) (Q₁:=λobj s₁=>obj=.ref s.heap.objs.size/\s₁={s with heap:=s.heap.push {cls:=.type "set",dict:=ak,data:=.set #[] 0 (.fresh 0 0 (nS w))} }) ⟨rfl,rfl⟩) λr s₁ hr=>?_;cases r with
 |error e=>exact hr
 |ok fl =>
  cases fl with
  |ret obj =>
   obtain⟨rfl,rfl⟩:=hr;have hS:(s.heap.push {cls:=.type "set",dict:=ak,data:=.set #[] 0 (.fresh 0 0 (nS w))}).get? s.heap.objs.size=ah {cls:=.type "set",dict:=ak,data:=.set #[] 0 (.fresh 0 0 (nS w))}:=fW _ rfl;have hT:Shared.TypeIs {s with heap:=s.heap.push {cls:=.type "set",dict:=ak,data:=.set #[] 0 (.fresh 0 0 (nS w))} } (.ref s.heap.objs.size) "set":=⟨_,hS,rfl⟩;have hli:=F.called_set.init.lookup;have hbi:=F.called_set.init.bind (.ref s.heap.objs.size)
   repeat (any_goals (first|assumption|wp_step))
   refine uN (Yv (R:=wants (λr s₂=>r=.none/\∃h' tk es ms,s₂={s with heap:=h',toks:=tk} /\
     kB prog w h' s.heap.objs.size es/\Nums es ms/\ms.Perm (c5 (λi=>ns.getD i 0) items.size) /\
     (∀b o,b<s.heap.objs.size->s.heap.get? b=ah o->h'.get? b=ah o)) E) F.called_set.init.plain F.entry_set_init (check_set_init_1 hT ?_)) λr₂ s₂ Fh=>?_
   ·obtain⟨ol,xD,iA,nl,GJ⟩:=hl;obtain⟨aEP,amT,aEO,alV⟩:=ol;simp only at iA GJ;subst iA;subst GJ;have TQ:(s.heap.push {cls:=.type "set",dict:=ak,data:=.set #[] 0 (.fresh 0 0 (nS w))}).get? l=ah {cls:=.type "list",dict:=amT,data:=.seq items nl,slots:=alV}:=dD _ xD;have aE8:=F.sub_list_set;have aE9:=F.sub_list_frozenset;have dB:(Value.type "list" == Value.type "dict")=ao:=by decide
    have ME:(s.heap.push {cls:=.type "set",dict:=ak,data:=.set #[] 0 (.fresh 0 0 (nS w))}).IsList l items:=⟨_,TQ,rfl,nl,rfl⟩;unfold Builtin.«set.__init__» noKeywords Builtin.Frozenset.updateFrom;generalize hPI:pyIter=PI
    wp_walk
    subst hPI;refine wpAny_pyIter_list ME ?_;refine aJ (wpAny_runValue ?_);have zJ:l<s.heap.objs.size:=dE xD;have Ga:A.in1.in1.in1.handled=ak:=by simp[hh]
    have asG:l≠(s.heap.push {cls:=.type "set",dict:=ak,data:=.set #[] 0 (.fresh 0 0 (nS w))}).objs.size:=by
     rw[IU];exact dX (IB zJ)
    have vN:s.heap.objs.size∉[(s.heap.push {cls:=.type "set",dict:=ak,data:=.set #[] 0 (.fresh 0 0 (nS w))}).objs.size,l]:=by
     rw[IU];simp only[eB,qK,uS,tP,not_or];exact⟨dX (Ld _),DH zJ⟩
    have Ey:∀(i:ay) (v:aj),items[i]?=ah v->∃t,v=.int ((λi=>ns.getD i 0) i) t:=λi v hv =>
     PyProof.Rows.IntsAre.int_at hi i v (by rw[PQ];exact hv)
    refine azI ((Walks.list Ga _ l asG items).toS) s.heap.objs.size
     vN (λi=>ns.getD i 0) Ey hb (items.size-0) 0 _ #[] [] (by omega) BQ
     ⟨⟨_,fW _ rfl,rfl,rfl⟩,(ME.push _)⟩ ?hS0 .nil (DN _) ?hR
    case hS0 =>
     have asV:((s.heap.push {cls:=.type "set",dict:=ak,data:=.set #[] 0 (.fresh 0 0 (nS w))}).push {cls:=.type "list_iterator",data:=.fields #[.ref l,.int 0 0]}).get? s.heap.objs.size
       = ah {cls:=.type "set",dict:=ak,data:=.set #[] 0 (.fresh 0 0 (nS w))}:=dD _ hS
     exact⟨_,0,_,asV,⟨rfl,rfl,rfl⟩,rfl,λe he=>by simp at he,by decide,rfl,ad3 _⟩
    case hR =>
     intro s' eY mG hm kM GP zN;obtain⟨h',g',d',EW,LH⟩:=s';have eg:g'=s.gens:=hm.gens;have ed:d'=s.drawn:=hm.drawn;have eo:LH=s.os:=hm.os;subst eg;subst ed;subst eo;show wpAny _ _ _ _ _ _;refine bG ?_;show wpAny _ _ (ret Value.none) _ _ _;refine bG ⟨rfl,h',EW,eY,mG,rfl,kM,GP,zN,λb o hb e=>?_⟩;have GN:b≠s.heap.objs.size:=dX hb;have uH:b≠(s.heap.push {cls:=.type "set",dict:=ak,data:=.set #[] 0 (.fresh 0 0 (nS w))}).objs.size:=by
      rw[IU];exact dX (IB hb)
     exact hm.heap b o (by simp only[eB,qK,uS,tP,not_or];exact⟨GN,uH⟩) (dD _ (dD _ e))
   ·cases r₂ with
    |error e=>exact Fh
    |ok fl₂ =>
     cases fl₂ with
     |ret r =>
      obtain⟨rfl,h',tk,es,ms,rfl,kM,GP,zN,pZ⟩:=Fh
      repeat (any_goals (first|assumption|wp_step))
      exact h _ _ es ms kM GP zN pZ
     |_=>exact Fh.elim
  |_=>exact hr.elim
end
set_option maxRecDepth 100000
set_option compiler.extract_closed false
set_option genSizeOf false
set_option bootstrap.genMatcherCode false
theorem oK:Slot "set_iterator" "__next__" "set_iterator.__next__" :=
 .of (owner := "set_iterator") (n := "__next__") (by rw[typeLookup_type,builtinLookup_eq_fast];kernel_rfl) (by decide +kernel) (by decide +kernel) (by decide +kernel)
  (by first|exact .inl (by decide +kernel)|exact .inr (by decide +kernel)) (by rw[isSubtype_type];kernel_rfl)
theorem Qp:Slot "set_iterator" "__iter__" "set_iterator.__iter__" :=
 .of (owner := "set_iterator") (n := "__iter__") (by rw[typeLookup_type,builtinLookup_eq_fast];kernel_rfl) (by decide +kernel) (by decide +kernel) (by decide +kernel)
  (by first|exact .inl (by decide +kernel)|exact .inr (by decide +kernel)) (by rw[isSubtype_type];kernel_rfl)
theorem HA:entryFor table "set_iterator.__next__" = ah Builtin.«set_iterator.__next__»:=entryFor_of_tree (by kernel_rfl)
theorem awR:entryFor table "set_iterator.__iter__" = ah Builtin.«dict_keyiterator.__iter__»:=entryFor_alias (id' := "dict_keyiterator.__iter__") (by kernel_rfl) rfl (by decide +kernel) (by kernel_rfl)
theorem awS:entryFor table "set.__iter__" = ah Builtin.«frozenset.__iter__»:=entryFor_alias (id' := "frozenset.__iter__") (by kernel_rfl) rfl (by decide +kernel) (by kernel_rfl)
theorem Tb:Manifest.owners.lookup (String.ofList ['r','o','t','a','r','e','t','i','_','t','e','s'].reverse)=ah Manifest.sig_set_iterator:=by kernel_rfl
theorem HU(a:aj):argsOk "set_iterator.__next__" ⟨[a],[]⟩:=by
 unfold argsOk;rw[signature?_of (id := "set_iterator.__next__") (n:=['_','_','t','x','e','n','_','_']) (o:=['r','o','t','a','r','e','t','i','_','t','e','s']) (by kernel_rfl) Tb];kernel_rfl
theorem aB1(a:aj):argsOk "set_iterator.__iter__" ⟨[a],[]⟩:=by
 unfold argsOk;rw[signature?_of (id := "set_iterator.__iter__") (n:=['_','_','r','e','t','i','_','_']) (o:=['r','o','t','a','r','e','t','i','_','t','e','s']) (by kernel_rfl) Tb];kernel_rfl
def kU(h:bu)(I a:aq)(first:aj)(i n ep:ay):Prop:=h.get? I=ah {cls:=.type "set_iterator",data:=.fields #[first,.int i 0,.ref a,.int n 0,.int ep 0]}
def qG(w:bh)(h:bu)(a:aq)(es:bf (a6×aj))(ep:ay)(t:b6):Prop:=∃o,h.get? a=ah o/\o.data=.set es ep t/\t.fits es.size=au/\pB (nS w) t
theorem kU.typeIs{s:ar}{I a:aq}{f:aj}{i n ep:ay}(x:kU s.heap I a f i n ep):s.TypeIs (.ref I) "set_iterator":=⟨_,x,rfl⟩
theorem kU.at{h h':bu}{I a:aq}{f:aj}{i n ep:ay}(x:kU h I a f i n ep)(e:∀o,h.get? I=ah o->h'.get? I=ah o):kU h' I a f i n ep:=e _ x
theorem qG.at{w:bh}{h h':bu}{a:aq}{es:bf (a6×aj)}{ep:ay}{t:b6}(x:qG w h a es ep t)(e:∀o,h.get? a=ah o->h'.get? a=ah o):qG w h' a es ep t:=let ⟨o,j,r⟩:=x; ⟨o,e _ j,r⟩
noncomputable def yU(t:b6)(i:ay):ay:=if i=0 then 0 else t.place.getD (i-1) 0+1
theorem Qr{t:b6}(h:vW t.place){i:ay}(hi:i<=t.place.size):SetTable.below t.place (yU t i)=i:=by
 unfold yU
 by_cases j:i=0
 ·rw[ax j,aBD h,j]
 ·rw[a8 j];have hl:i-1<t.place.size:=by omega
  have q:t.place[i-1]?=ah (t.place.getD (i-1) 0):=by simp[Array.getD,hl]
  rw[aBE h q];omega
section
variable{prog:a9}{w:bh}{A:bj}{E:aj->ar->Prop}{s:ar}
theorem anR{I a:aq}{es:bf (a6×aj)}{ep i:ay}{t:b6}{x:a6×aj}{Q:av aj->ar->Prop}(hit:kU s.heap I a (.int (yU t i) 0) i es.size ep)(hs:qG w s.heap a es ep t)
  (hb:w.params.followText "set-order" = ao) (hd:(!t.plain&&decide (es.size>1))=ao) (L:es[i]?=ah x)
  (b:∀h',kU h' I a (.int (yU t (i+1)) 0) (i+1) es.size ep->Heap.SameBut I s.heap h'->Q (ah x.2) {s with heap:=h' }):wpAny (bc prog w) A (df (.ref I)) Q E s:=by
 obtain⟨os,B,z,j,hT⟩:=id hs;have f:=j;simp only[SetTable.fits,lK,vU,CV]at f;have dZ:i<es.size:=(PR.mp L).1;have q:i<t.place.size:=by omega
 have c:t.place[i]?=ah (t.place.getD i 0):=by simp[Array.getD,q]
 have g:(!t.led && !es.isEmpty)=ao:=by rw[hT.led];simp[nS,hb]
 unfold df;refine aJ (JR (JP (name:=Str.ofString "__next__") hit.typeIs oK
  (rW oK hit.typeIs HA ?_ (HU _))))
 unfold Builtin.«set_iterator.__next__»;refine aJ (bG ?_);refine aJ (JO hit rfl ?_);dsimp only;refine aJ (EJ B z j ?_);rw[a8 (by simp)];refine aJ ?_;unfold setNext;refine aJ (AS B z j ?_);dsimp only;unfold setsByText;refine aJ (aJ (AU (bG ?_)));refine uX (lW (show ¬(w.params.followText "set-order" = au)by rw[hb];simp)) ?_;refine uX (lW (show ¬((!t.plain&&decide (es.size>1))=au)by rw[hd];simp)) ?_;refine aJ ?_;show wpAny (bc prog w) A.in1 (if(!t.led && !es.isEmpty)=au then unsupported "set:maker-not-led" else pure ()) _ _ _;refine uX (by simp[g]) (bG ?_);rw[DQ,Qr hT.rise (by omega),L,c];refine bG ?_;dsimp only;refine aJ (yN hit (by simp) λh1 e U=>?_);refine aJ (yN e (by simp) λh2 d h=>?_);refine bG ⟨_,rfl,bG (b h2 ?_ (U.trans h))⟩;unfold kU;rw[d];have:yU t (i+1)=t.place.getD i 0+1:=by unfold yU;simp
 rw[this];simp[dg]
theorem anS{I a:aq}{es:bf (a6×aj)}{ep:ay}{t:b6}{Q:av aj->ar->Prop}(hh:A.handled=ak)(hit:kU s.heap I a (.int (yU t es.size) 0) es.size es.size ep)(hs:qG w s.heap a es ep t)
  (hb:w.params.followText "set-order" = ao) (hd:(!t.plain&&decide (es.size>1))=ao)
  (L:∀h',Heap.ExtBut I s.heap h'->Q ak {s with heap:=h' }):wpAny (bc prog w) A (df (.ref I)) Q E s:=by
 obtain⟨os,z,q,j,hT⟩:=id hs;have U:=j;simp only[SetTable.fits,lK,vU,CV]at U;have c:(!t.led && !es.isEmpty)=ao:=by rw[hT.led];simp[nS,hb]
 unfold df;refine aJ (JR (JP (name:=Str.ofString "__next__") hit.typeIs oK
  (rW oK hit.typeIs HA ?_ (HU _))))
 unfold Builtin.«set_iterator.__next__»;refine aJ (bG ?_);refine aJ (JO hit rfl ?_);dsimp only;refine aJ (EJ z q j ?_);rw[a8 (by simp)];refine aJ ?_;unfold setNext;refine aJ (AS z q j ?_);dsimp only;unfold setsByText;refine aJ (aJ (AU (bG ?_)));refine uX (lW (show ¬(w.params.followText "set-order" = au)by rw[hb];simp)) ?_;refine uX (lW (show ¬((!t.plain&&decide (es.size>1))=au)by rw[hd];simp)) ?_;refine aJ ?_;show wpAny (bc prog w) A.in1 (if(!t.led && !es.isEmpty)=au then unsupported "set:maker-not-led" else pure ()) _ _ _;refine uX (by simp[c]) (bG ?_);rw[DQ,Qr hT.rise (by omega),Array.getElem?_eq_none cU];refine bG ?_;dsimp only;refine aJ (yN hit (by simp) λh1 d B=>?_);show wpAny _ _ (newExc (.type "StopIteration") [] >>= _) _ _ _;refine aJ ?_;simp only[newExc,newTuple];refine aJ (tE ?_ (by size_fits));refine aJ (m:=di _ _) (wpAny_of_eq (a:=Value.none) (by first|rfl|(simp only[di];rfl)) ?_);refine tE ?_ (by size_fits);simp only[raiseNew];refine aJ (wpAny_handled ?_);rw[show A.in1.handled=ak from hh];refine aJ (bG (wpAny_throw ?_));refine aJ (YL (T := "StopIteration") (b:=au) ⟨_,fW _ rfl,rfl⟩ isSubtype_stop ?_);exact bG (L _ ((B.extBut.push _).push _))
end
set_option maxRecDepth 100000
set_option compiler.extract_closed false
set_option genSizeOf false
set_option bootstrap.genMatcherCode false
theorem Hs{α:Type}:∀(l:ai α) (i:ay) (h:i<l.length),(l[i]::l.eraseIdx i).Perm l
 |[],i,h=>bz h (Nat.not_lt_zero _)
 |x::l,0,h=>DN _
 |x::l,i+1,h=>by
  have ih:=Hs l i (by simpa using h);simp only[List.getElem_cons_succ,List.eraseIdx_cons_succ];exact(List.Perm.swap _ _ _).trans (ih.cons x)
theorem Sr{α:Type}(f:ay->ay):∀(fuel k:ay) (left:ai α) (ae:bf α),left.length=fuel->(pickOrder.go f fuel k left ae).toList.Perm (ae.toList++left)
 |0,k,left,ae,h=>by
  have:left=[]:=List.length_eq_zero_iff.mp h;subst this;unfold pickOrder.go;simp
 |fuel+1,k,left,ae,h=>by
  have hi:f k%left.length<left.length:=Nat.mod_lt _ (by omega);unfold pickOrder.go;rw[lI hi];have ih:=Sr f fuel (k+1) (left.eraseIdx (f k%left.length)) (ae.push left[f k%left.length]) (by rw[List.length_eraseIdx_of_lt hi];omega);refine ih.trans ?_;rw[Array.toList_push,List.append_assoc];exact(Hs _ _ hi).append_left _
theorem Dg{α:Type}(f:ay->ay)(xs:bf α):(pickOrder f xs).toList.Perm xs.toList:=by
 have h:=Sr f xs.size 0 xs.toList #[] (by simp);simp only[List.nil_append]at h;exact h
section
variable{prog:a9}{w:bh}{A:bj}{E:aj->ar->Prop}{s:ar}
theorem Oh{a:aq}{es:bf (a6×aj)}{ep:ay}{t:b6}{Q:bf (a6×aj)->ar->Prop}(hs:qG w s.heap a es ep t)(hb:w.params.followText "set-order" = au)
  (h:Q (pickOrder (w.params.setOrder a ep) es) s):wpAny (bc prog w) A (setWalk a) Q E s:=by
 obtain⟨os,q,j,z,hT⟩:=id hs;unfold setWalk;refine aJ (AS q j z ?_);dsimp only;unfold setsByText;refine aJ (aJ (AU (bG ?_)));refine PX (xQ (show w.params.followText "set-order" = au from hb)) ?_;exact aJ (AU (bG h))
theorem anT{I a:aq}{es:bf (a6×aj)}{ep i:ay}{t:b6}{x:a6×aj}{Q:av aj->ar->Prop}(hit:kU s.heap I a (.int 0 0) i es.size ep)(hs:qG w s.heap a es ep t)
  (hb:w.params.followText "set-order" = au) (L:(pickOrder (w.params.setOrder a ep) es)[i]?=ah x)
  (U:∀h',kU h' I a (.int 0 0) (i+1) es.size ep->Heap.SameBut I s.heap h'->Q (ah x.2) {s with heap:=h' }):wpAny (bc prog w) A (df (.ref I)) Q E s:=by
 obtain⟨os,q,j,z,hT⟩:=id hs;unfold df;refine aJ (JR (JP (name:=Str.ofString "__next__") hit.typeIs oK
  (rW oK hit.typeIs HA ?_ (HU _))))
 unfold Builtin.«set_iterator.__next__»;refine aJ (bG ?_);refine aJ (JO hit rfl ?_);dsimp only;refine aJ (EJ q j z ?_);rw[a8 (by simp)];refine aJ ?_;unfold setNext;refine aJ (AS q j z ?_);dsimp only;unfold setsByText;refine aJ (aJ (AU (bG ?_)));refine PX (xQ (show w.params.followText "set-order" = au from hb)) ?_;refine uX (by simp) ?_;refine aJ (Oh hs hb ?_);rw[DQ,L];refine bG ?_;simp only[OB];refine aJ (yN hit (by simp) λh1 c B=>?_);refine aJ (yN c (by simp) λh2 b d=>?_);refine bG ⟨_,rfl,bG (U h2 ?_ (B.trans d))⟩;unfold kU;rw[b];simp[dg]
theorem anU{I a:aq}{es:bf (a6×aj)}{ep:ay}{t:b6}{Q:av aj->ar->Prop}(hh:A.handled=ak)(hit:kU s.heap I a (.int 0 0) es.size es.size ep)(hs:qG w s.heap a es ep t)
  (hb:w.params.followText "set-order" = au)
  (U:∀h',Heap.ExtBut I s.heap h'->Q ak {s with heap:=h' }):wpAny (bc prog w) A (df (.ref I)) Q E s:=by
 obtain⟨os,q,j,z,hT⟩:=id hs;have L:(pickOrder (w.params.setOrder a ep) es)[es.size]?=ak:=by
  rw[ab2];have:=(Dg (w.params.setOrder a ep) es).length_eq;simp only[mU]at this;omega
 unfold df;refine aJ (JR (JP (name:=Str.ofString "__next__") hit.typeIs oK
  (rW oK hit.typeIs HA ?_ (HU _))))
 unfold Builtin.«set_iterator.__next__»;refine aJ (bG ?_);refine aJ (JO hit rfl ?_);dsimp only;refine aJ (EJ q j z ?_);rw[a8 (by simp)];refine aJ ?_;unfold setNext;refine aJ (AS q j z ?_);dsimp only;unfold setsByText;refine aJ (aJ (AU (bG ?_)));refine PX (xQ (show w.params.followText "set-order" = au from hb)) ?_;refine uX (by simp) ?_;refine aJ (Oh hs hb ?_);rw[DQ,L];refine bG ?_;simp only[Option.map_none];refine aJ (yN hit (by simp) λh1 c B=>?_);show wpAny _ _ (newExc (.type "StopIteration") [] >>= _) _ _ _;refine aJ ?_;simp only[newExc,newTuple];refine aJ (tE ?_ (by size_fits));refine aJ (m:=di _ _) (wpAny_of_eq (a:=Value.none) (by first|rfl|(simp only[di];rfl)) ?_);refine tE ?_ (by size_fits);simp only[raiseNew];refine aJ (wpAny_handled ?_);rw[show A.in1.handled=ak from hh];refine aJ (bG (wpAny_throw ?_));refine aJ (YL (T := "StopIteration") (b:=au) ⟨_,fW _ rfl,rfl⟩ isSubtype_stop ?_);exact bG (U _ ((B.extBut.push _).push _))
theorem acB{src:Source}{n:ay}{Q:ay->ar->Prop}(hn:n≠0)(h:∀i,i<n->Q i {s with drawn:=s.drawn.bump src}):wpAny (bc prog w) A (choose src n) Q E s:=λj p _=>by
 unfold choose;rw[Sem.wp_choose];exact⟨hn,h _ (Nat.mod_lt _ (by omega))⟩
theorem Of{α:Type}:∀(n:ay) (xs:ai α) (s:ar) {Q:ai α->ar->Prop},xs.length=n->(∀ys d,ys.Perm xs->Q ys {s with drawn:=d})->wpAny (bc prog w) A (drawOrder n xs) Q E s
 |0,xs,s,Q,hl,h=>by
  have:xs=[]:=List.length_eq_zero_iff.mp hl;subst this;unfold drawOrder;have e:s={s with drawn:=s.drawn}:=by cases s;rfl
  rw[e];exact bG (h [] s.drawn (DN _))
 |n+1,[],s,Q,hl,h=>by simp at hl
 |n+1,x::xs,s,Q,hl,h=>by
  unfold drawOrder;refine aJ (acB (by simp) λi hi=>?_);rw[lI hi];dsimp only;refine aJ (Of n ((x::xs).eraseIdx i) _ (by rw[List.length_eraseIdx_of_lt hi];omega) λys d j=>?_);refine bG (h ((x::xs)[i]::ys) d ?_);exact(j.cons _).trans (Hs _ _ hi)
end
set_option maxRecDepth 100000
set_option compiler.extract_closed false
set_option genSizeOf false
set_option bootstrap.genMatcherCode false
def IT(h:bu)(T:aq)(ps:ai ay):Prop:=h.get? T=ah {cls:=.type "tuple",data:=.seq (ps.map λi:ay=>dg (i:a6)).toArray}
section
variable{prog:a9}{w:bh}{A:bj}{E:aj->ar->Prop}{s:ar}
theorem anP{I a T:aq}{es:bf (a6×aj)}{ep i j:ay}{t:b6}{ps:ai ay}{x:a6×aj}{Q:av aj->ar->Prop}(hit:kU s.heap I a (.ref T) i es.size ep)(hs:qG w s.heap a es ep t)(hT:IT s.heap T ps)
  (c:ps[i]?=ah j) (U:es[j]?=ah x)
  (d:∀h',kU h' I a (.ref T) (i+1) es.size ep->Heap.SameBut I s.heap h'->Q (ah x.2) {s with heap:=h' }):wpAny (bc prog w) A (df (.ref I)) Q E s:=by
 obtain⟨os,z,q,B,_⟩:=id hs;unfold df;refine aJ (JR (JP (name:=Str.ofString "__next__") hit.typeIs oK
  (rW oK hit.typeIs HA ?_ (HU _))))
 unfold Builtin.«set_iterator.__next__»;refine aJ (bG ?_);refine aJ (JO hit rfl ?_);dsimp only;refine aJ (EJ z q B ?_);rw[a8 (by simp)];refine aJ (wpAny_seqItems hT rfl ?_);have b:(ps.map λi:ay=>dg (i:a6)).toArray[i]?=ah (dg (j:a6)):=by simp[c]
 dsimp only;rw[DQ,b];show wpAny _ _ (setNextDrawn a (j:a6).toNat (ep:a6).toNat >>= _) _ _ _;refine aJ ?_;unfold setNextDrawn;refine aJ (AS z q B ?_);dsimp only;refine uX (by simp) ?_;rw[DQ,U];refine bG ?_;refine aJ (yN hit (by simp) λh1 e L=>?_);refine bG ⟨_,rfl,bG (d h1 ?_ L)⟩;unfold kU;rw[e];simp[dg]
theorem anQ{I a T:aq}{es:bf (a6×aj)}{ep:ay}{t:b6}{ps:ai ay}{Q:av aj->ar->Prop}(hh:A.handled=ak)(hit:kU s.heap I a (.ref T) es.size es.size ep)(hs:qG w s.heap a es ep t)(hT:IT s.heap T ps)
  (U:ps.length=es.size)
  (d:∀h',Heap.ExtBut I s.heap h'->Q ak {s with heap:=h' }):wpAny (bc prog w) A (df (.ref I)) Q E s:=by
 obtain⟨os,B,z,c,_⟩:=id hs;unfold df;refine aJ (JR (JP (name:=Str.ofString "__next__") hit.typeIs oK
  (rW oK hit.typeIs HA ?_ (HU _))))
 unfold Builtin.«set_iterator.__next__»;refine aJ (bG ?_);refine aJ (JO hit rfl ?_);dsimp only;refine aJ (EJ B z c ?_);rw[a8 (by simp)];refine aJ (wpAny_seqItems hT rfl ?_);have L:(ps.map λi:ay=>dg (i:a6)).toArray[es.size]?=ak:=by simp[<-U]
 dsimp only;rw[DQ,L];refine aJ (yN hit (by simp) λe e0 j=>?_);refine aJ (yN e0 (by simp) λh1 f q=>?_);show wpAny _ _ (newExc (.type "StopIteration") [] >>= _) _ _ _;refine aJ ?_;simp only[newExc,newTuple];refine aJ (tE ?_ (by size_fits));refine aJ (m:=di _ _) (wpAny_of_eq (a:=Value.none) (by first|rfl|(simp only[di];rfl)) ?_);refine tE ?_ (by size_fits);simp only[raiseNew];refine aJ (wpAny_handled ?_);rw[show A.in1.handled=ak from hh];refine aJ (bG (wpAny_throw ?_));refine aJ (YL (T := "StopIteration") (b:=au) ⟨_,fW _ rfl,rfl⟩ isSubtype_stop ?_);exact bG (d _ (((j.trans q).extBut.push _).push _))
theorem Cs{I a:aq}{f:aj}{i n ep:ay}{Q:aj->ar->Prop}(hit:kU s.heap I a f i n ep)(h:Q (.ref I) s):wpAny (bc prog w) A (pyIter (.ref I)) Q E s:=by
 refine wpAny_pyIter_slot hit.typeIs Qp (rW Qp hit.typeIs awR ?_ (aB1 _));show wpAny _ _ (ret (.ref I)) _ _ s;exact bG ⟨_,rfl, "set_iterator",_,hit.typeIs,oK.lookup,h⟩
theorem IT.at{h h':bu}{T:aq}{ps:ai ay}(x:IT h T ps)(e:∀o,h.get? T=ah o->h'.get? T=ah o):IT h' T ps:=e _ x
theorem acE(hh:A.handled=ak)(I a:aq)(dB:a≠I)(es:bf (a6×aj))(ep:ay)(t:b6)(hb:w.params.followText "set-order" = au) :
  Walks prog w A I [I,a] [I] es.size (λi v=>((pickOrder (w.params.setOrder a ep) es).toList.map (·.2))[i]?=ah v) (λi h=>kU h I a (.int 0 0) i es.size ep/\qG w h a es ep t)where
 sub:=λb hb=>by simp at hb;simp[hb]
 frame:=λ_ _ _ st z=>⟨st.1.at λo e=>z I (by simp) o e,st.2.at λo e=>z a (by simp) o e⟩
 item:=λi s Q E hi st j=>by
  have hl:i<(pickOrder (w.params.setOrder a ep) es).size:=by
   have:=(Dg (w.params.setOrder a ep) es).length_eq;simp only[mU]at this;omega
  have B:=Nr hl;refine anT st.1 st.2 hb B λh' U q=>?_;exact j _ h' s.toks (by simp[hl]) ⟨U,st.2.at λo e=>q.extBut a o dB e⟩ λb o hb e=>q.extBut b o (λh=>hb (by simp[h])) e
 done:=λs Q E st j=>anU hh st.1 st.2 hb λh' L=>j h' s.toks λb o hb e=>L b o (λh=>hb (by simp[h])) e
 self:=λ_ _ _ _ st j=>Cs st.1 j
theorem acD(hh:A.handled=ak)(I a:aq)(dB:a≠I)(es:bf (a6×aj))(ep:ay)(t:b6)(hb:w.params.followText "set-order" = ao)(hd:(!t.plain&&decide (es.size>1))=ao) :
  Walks prog w A I [I,a] [I] es.size (λi v=>(es.toList.map (·.2))[i]?=ah v) (λi h=>kU h I a (.int (yU t i) 0) i es.size ep/\qG w h a es ep t)where
 sub:=λb hb=>by simp at hb;simp[hb]
 frame:=λ_ _ _ st z=>⟨st.1.at λo e=>z I (by simp) o e,st.2.at λo e=>z a (by simp) o e⟩
 item:=λi s Q E hi st j=>by
  have B:=Nr hi;refine anR st.1 st.2 hb hd B λh' U q=>?_;exact j _ h' s.toks (by simp[hi]) ⟨U,st.2.at λo e=>q.extBut a o dB e⟩ λb o hb e=>q.extBut b o (λh=>hb (by simp[h])) e
 done:=λs Q E st j=>anS hh st.1 st.2 hb hd λh' L=>j h' s.toks λb o hb e=>L b o (λh=>hb (by simp[h])) e
 self:=λ_ _ _ _ st j=>Cs st.1 j
theorem acC(hh:A.handled=ak)(I a T:aq)(dB:a≠I)(U:T≠I)(es:bf (a6×aj))(ep:ay)(t:b6)(ps:ai ay)(B:ps.Perm (List.range es.size)) :
  Walks prog w A I [I,a,T] [I] es.size (λi v=>(ps.map λj=>(es.getD j (0,.none)).2)[i]?=ah v) (λi h=>kU h I a (.ref T) i es.size ep/\qG w h a es ep t/\IT h T ps)where
 sub:=λb hb=>by simp at hb;simp[hb]
 frame:=λ_ _ _ st L=>⟨st.1.at λo e=>L I (by simp) o e,st.2.1.at λo e=>L a (by simp) o e,st.2.2.at λo e=>L T (by simp) o e⟩
 item:=λi s Q E hi st q=>by
  have hl:i<ps.length:=by rw[B.length_eq];simpa using hi
  have hm:ps[i]<es.size:=by
   have:=B.mem_iff.mp (OF hl);simpa using this
  refine anP (j:=ps[i]) (x:=es[ps[i]]) st.1 st.2.1 st.2.2 (lI hl) (Nr hm) λh' d z=>?_;exact q _ h' s.toks (by simp[hl,Array.getD,hm]) ⟨d,st.2.1.at λo e=>z.extBut a o dB e,st.2.2.at λo e=>z.extBut T o U e⟩ λb o hb e=>z.extBut b o (λh=>hb (by simp[h])) e
 done:=λs Q E st q=>anQ hh st.1 st.2.1 st.2.2 (by rw[B.length_eq];simp) λh' c=>q h' s.toks λb o hb e=>c b o (λh=>hb (by simp[h])) e
 self:=λ_ _ _ _ st q=>Cs st.1 q
end
set_option maxRecDepth 100000
set_option compiler.extract_closed false
set_option genSizeOf false
set_option bootstrap.genMatcherCode false
theorem kB.agT{prog:a9}{w:bh}{h:bu}{a:aq}{es:bf (a6×aj)}(x:kB prog w h a es):∃ep t,qG w h a es ep t:=let ⟨o,ep,t,j,_,hd,_,_,hf,hT⟩:=x; ⟨ep,t,o,j,hd,hf,hT⟩
section
variable{prog:a9}{w:bh}{A:bj}{E:aj->ar->Prop}{s:ar}
theorem ajT{a:aq}{es:bf (a6×aj)}{Q:aj->ar->Prop}(hh:A.handled=ak)(hS:kB prog w s.heap a es)
  (m:∀(I:aq) (h':bu) (d:Drawn) (ord:ai aj) (fp:ai aq) (St:ay->bu->Prop),ord.Perm (es.toList.map (·.2))->(∀b o,s.heap.get? b=ah o->h'.get? b=ah o)->(∀b∈fp,b=a\/s.heap.objs.size<=b)->s.heap.objs.size<=I ->
   Walks prog w A I fp [I] es.size (λi v=>ord[i]?=ah v) St->St 0 h'->Q (.ref I) {s with heap:=h',drawn:=d}):wpAny (bc prog w) A (pyIter (.ref a)) Q E s:=by
 obtain⟨B,t,f⟩:=hS.agT;obtain⟨os,U,L,c,hT⟩:=id f;have p:=hS.typeIs;have dZ:a<s.heap.objs.size:=hS.lt;have h:es.size<de:=let ⟨_,_,_,_,_,_,_,hb,_,_⟩:=hS;hb;refine wpAny_pyIter_slot p F.slot_set_iter (rW F.slot_set_iter p awS ?_ (F.args_set_iter_1 _));unfold Builtin.«frozenset.__iter__»;refine aJ (bG ?_);refine aJ ?_;unfold Builtin.Frozenset.sizeOf;refine aJ (EJ U L c (bG ?_));refine aJ ?_;unfold setDrawn;refine aJ (AS U L c ?_);dsimp only;unfold setsByText;refine aJ (aJ (AU (bG (bG ?_))));cases hb:w.params.followText "set-order" with
 |true =>
  refine uX (lW (show ¬((!w.params.followText "set-order" && (!t.plain&&decide (es.size>1)))=au)by rw[hb];simp)) (aJ (bG ?_));refine aJ (wpAny_setEpoch_of U L c ?_);refine aJ (tE (bG ⟨_,rfl, "set_iterator",_,⟨_,fW _ rfl,rfl⟩,oK.lookup,?_⟩));have e:s={s with drawn:=s.drawn}:=by cases s;rfl
  have:=m s.heap.objs.size (s.heap.push {cls:=.type "set_iterator",data:=.fields #[.int 0 0,.int 0 0,.ref a,.int es.size 0,.int B 0]}) s.drawn _ _ _ ((Dg (w.params.setOrder a B) es).map (·.2)) (λb o e=>dD _ e) (λb hb=>by
   simp only[eB,uS,tP]at hb
   rcases hb with z|z
   ·exact .inr (by rw[z];exact nY _)
   ·exact .inl z) cU (acE hh _ a (dX dZ) es B t hb) ⟨fW _ rfl,f.at λo e=>dD _ e⟩
  simpa[dg]using this
 |false =>
  cases hd:(!t.plain&&decide (es.size>1))with
  |false =>
   refine uX (lW (show ¬((!w.params.followText "set-order" && (!t.plain&&decide (es.size>1)))=au)by rw[hd];simp)) (aJ (bG ?_));refine aJ (wpAny_setEpoch_of U L c ?_);refine aJ (tE (bG ⟨_,rfl, "set_iterator",_,⟨_,fW _ rfl,rfl⟩,oK.lookup,?_⟩));have:=m s.heap.objs.size (s.heap.push {cls:=.type "set_iterator",data:=.fields #[.int 0 0,.int 0 0,.ref a,.int es.size 0,.int B 0]}) s.drawn _ _ _ (DN _) (λb o e=>dD _ e) (λb hb=>by
    simp only[eB,uS,tP]at hb
    rcases hb with z|z
    ·exact .inr (by rw[z];exact nY _)
    ·exact .inl z) cU (acD hh _ a (dX dZ) es B t hb hd) ⟨fW _ rfl,f.at λo e=>dD _ e⟩
   simpa[dg]using this
  |true =>
   refine PX (xQ (show(!w.params.followText "set-order" && (!t.plain&&decide (es.size>1)))=au by rw[hb,hd];simp)) ?_;refine aJ (Of es.size (List.range es.size) s (by simp) λps d l=>?_);have u:ps.length=es.size:=by rw[l.length_eq];simp
   refine aJ (wpAny_newTuple ?_ (by rw[fI,u];exact Hk h));have g:∀b o,s.heap.get? b=ah o->(s.heap.push {cls:=.type "tuple",data:=.seq (ps.map λi:ay=>dg (i:a6)).toArray}).get? b=ah o:=λb o e=>dD _ e;refine aJ (wpAny_setEpoch_of (g a _ U) L c ?_);refine aJ (tE (bG ⟨_,rfl, "set_iterator",_,⟨_,fW _ rfl,rfl⟩,oK.lookup,?_⟩));have r:(s.heap.push {cls:=.type "tuple",data:=.seq (ps.map λi:ay=>dg (i:a6)).toArray}).objs.size=s.heap.objs.size+1:=IU _ _;have k:(ps.map λj=>(es.getD j (0,.none)).2).Perm (es.toList.map (·.2)):=by
    have h1:=l.map λj=>(es.getD j (0,.none)).2;have h2:(List.range es.size).map (λj=>(es.getD j (0,Value.none)).2)=es.toList.map (·.2):=by
     apply XQ;intro j;rw[iZ,iZ]
     by_cases n:j<es.size
     ·simp[n,Array.getD]
     ·simp[n]
    rw[h2]at h1;exact h1
   have:=m (s.heap.objs.size+1) ((s.heap.push {cls:=.type "tuple",data:=.seq (ps.map λi:ay=>dg (i:a6)).toArray}).push {cls:=.type "set_iterator",data:=.fields #[.ref s.heap.objs.size,.int 0 0,.ref a,.int es.size 0,.int B 0]}) d _ _ _ k (λb o e=>dD _ (g b o e)) (λb hb=>by
    simp only[eB,uS,tP]at hb
    rcases hb with z|z|z
    ·exact .inr (by rw[z];exact qI _)
    ·exact .inl z
    ·exact .inr (by rw[z];exact nY _)) (qI _) (acC hh _ a s.heap.objs.size (dX (IB dZ)) (dX (Ld _)) es B t ps l) ⟨by
     unfold kU;have q:=fW (s.heap.push {cls:=.type "tuple",data:=.seq (ps.map λi:ay=>dg (i:a6)).toArray}) (o:={cls:=.type "set_iterator",data:=.fields #[.ref s.heap.objs.size,.int 0 0,.ref a,.int es.size 0,.int B 0]}) rfl;rw[r]at q;exact q,f.at λo e=>dD _ (g a o e),dD _ (fW _ rfl)⟩
   rw[<-r]at this;simpa[dg]using this
end
set_option maxRecDepth 100000
set_option compiler.extract_closed false
set_option genSizeOf false
set_option bootstrap.genMatcherCode false
section
variable{prog:a9}{w:bh}{A:bj}{E:aj->ar->Prop}{s:ar}
theorem asQ{r:aq}{Q:bb->ar->Prop}(hT:s.TypeIs (.ref r) "set")(h:Q ao s):wpAny (bc prog w) A (Builtin.List.listLengthHint (.ref r)) Q E s:=by
 unfold Builtin.List.listLengthHint;refine aJ (wpAny_specialOf hT F.slot_set_len.lookup ?_);generalize z:("set.__len__" : cm)=j
 wp_delta
 rw[show splitId j=ah ("set", "__len__")from by subst z;decide +kernel];subst z;refine aJ (YL (T := "set") (b:=au) hT (by rw[isSubtype_type];kernel_rfl) ?_);refine wpAny_ite_split (λq=>bz q (by decide)) (λ_=>?_);refine wpAny_ite_split (λ_=>?_) (λq=>bz (by decide +kernel) q);refine aJ (wpAny_typeOf hT ?_);exact bG h
theorem aqY{ord:ai aj}{acc:bf aj}(h:ItemsOf (λi v=>ord[i]?=ah v) acc ord.length):acc.toList=ord:=by
 apply XQ;intro i;rw[PQ];cases e:acc[i]? with
 |some v=>exact(h.2 i v e).symm
 |none =>
  rw[eq_comm,List.getElem?_eq_none_iff];rw[ab2,h.1]at e;exact e
theorem awJ{R:Result->ar->Prop}{r:aq}{es:bf (a6×aj)}(hh:A.handled=ak)(hS0:kB prog w s.heap r es)(S:aq)(n:S≠r)(res:aj)(q:ay)(hS:s.heap.get? S=ah {cls:=.type "list",data:=.seq #[] q})
  (hR:∀h' tk d U c',(∀b o,b≠S->s.heap.get? b=ah o->h'.get? b=ah o)->h'.get? S=ah {cls:=.type "list",dict:=ak,data:=.seq U c',slots:=#[]}->U.toList.Perm (es.toList.map (·.2))->R (.ok (.ret res)) {s with heap:=h',toks:=tk,drawn:=d}) :
  wpAny (bc prog w) A.in1 (Builtin.List.listExtendWith (.ref S) (.ref r) res)
   (λfin s'=>match fin with | .done f=>R (.ok f) s' | .again c'=>c'.quiet=au/\codeAny (bc prog w) A c' R s') (λe s'=>R (.error e) s') s:=by
 have c:es.size<de:=let ⟨_,_,_,_,_,_,_,hb,_,_⟩:=hS0;hb;have zJ:S<s.heap.objs.size:=dE hS;unfold Builtin.List.listExtendWith;refine aJ (wpAny_typeOf (T := "set") hS0.typeIs ?_);have h1:Builtin.List.listSameRef (.ref S) (.ref r)=ao:=by simp[Builtin.List.listSameRef,n]
 have t:(Value.type "set" == Value.type "list")=ao:=by decide
 have p:(Value.type "set" == Value.type "tuple")=ao:=by decide
 simp only[h1,t,p,Bool.or_false,yL,lC];refine aJ (ajT (A:=A.in1) hh hS0 λI C d ord D St i a G k W st=>?_);have xD:ord.length=es.size:=by rw[i.length_eq];simp
 have vN:S∉D:=λhm=>by
  rcases G S hm with z|z
  ·exact n z
  ·exact bz zJ (Nat.not_lt.mpr z)
 have y:S≠I:=λz=>bz zJ (by rw[z];exact Nat.not_lt.mpr k);have key:∀(h:bu) (j tk:ay),St 0 h->(∀b o,b≠S->s.heap.get? b=ah o->h.get? b=ah o) ->
   h.get? S=ah {cls:=.type "list",data:=.seq #[] j}->codeAny (bc prog w) A (.builtin "list.extend.loop" ⟨[.ref S,.ref I,res],[]⟩) R {s with heap:=h,toks:=tk,drawn:=d}:=by
  intro h j tk x v L;refine codeAny_extend_loopS W.toS (Hk c) S vN res es.size 0 _ #[] j rfl BQ x L (ItemsOf.nil _) λs' U c' hm kM u=>?_;rw[Moved.eq_with hm];refine hR s'.heap s'.toks d U c' (λb o hb e=>hm.heap b o (λg=>?_) (v b o hb e)) kM (by rw[aqY (ord:=ord) (by rw[xD];exact u)];exact i)
  rcases eB.mp g with E|g
  ·exact hb E
  ·exact bz (dE e) (by rw[qK.mp g];exact Nat.not_lt.mpr k)
 have L:=a S _ hS;refine aJ (qQ (asQ (kB.typeIs (s:={s with heap:=C,drawn:=d}) (hS0.at λo e=>a r o e)) ?_));refine wpAny_ite_split (λ_=>?_) (λ_=>bG ⟨FH PySem.F.plain_extend_loop _,key _ q _ st (λb o _ e=>a b o e) L⟩);refine aJ (JM ?_);refine aJ ?_;show wpAny _ _ (updateSeq S (·.push .none) >>= λ_=>updateSeq S (·.pop)) _ _ _;refine aJ (wpAny_updateSeq L rfl ?_);have l:=OM (Obj.mapSeq (·.push Value.none)) L rfl;refine wpAny_updateSeq (hz:=by seq_fits) l rfl ?_;have B:=OM (Obj.mapSeq (·.pop)) l rfl;refine bG ⟨FH PySem.F.plain_extend_loop _,key _ _ _ ?_ (λb o hb e=>?_) B⟩
 ·refine W.frame 0 _ _ st λb hb o e=>?_;have m:b≠S:=λh=>vN (h ▸ hb);exact(pQ _ _ (cK m)).trans ((pQ _ _ (cK m)).trans e)
 ·exact(pQ _ _ (cK hb)).trans ((pQ _ _ (cK hb)).trans (a b o e))
theorem ay8{R:ai aj->ar->Prop}{r:aq}{es:bf (a6×aj)}(hh:A.handled=ak)(hS0:kB prog w s.heap r es)
  (h:∀(h':bu) (tk:ay) (d:Drawn) (acc:bf aj),(∀b o,s.heap.get? b=ah o->h'.get? b=ah o)->acc.toList.Perm (es.toList.map (·.2))->R acc.toList {s with heap:=h',toks:=tk,drawn:=d}) :
  wpAny (bc prog w) A (collect (.ref r)) R E s:=by
 have dZ:=hS0.lt;unfold collect;refine aJ (wpAny_runValue (zV entry_proto_collect' ?_));rw[JF PySem.F.plain_proto_collect _];show wpAny _ A.in1 (newList [] >>= λl=>again (.builtin "list.__iadd__" ⟨[l,.ref r],[]⟩)) _ _ s;refine aJ (tE ?_);refine bG ⟨FH PySem.F.plain_list_iadd _,zV entry_list_iadd' ?_⟩;rw[JF PySem.F.plain_list_iadd _];have c:(s.heap.push {cls:=.type "list",data:=.seq ([]:ai aj).toArray}).get? s.heap.objs.size=ah {cls:=.type "list",data:=.seq #[]}:=fW _ rfl;show wpAny _ A.in1 (Builtin.List.listExtendWith (.ref s.heap.objs.size) (.ref r) (.ref s.heap.objs.size)) _ _ _;have key:=awJ (A:=A) (s:={s with heap:=s.heap.push {cls:=.type "list",data:=.seq ([]:ai aj).toArray} }) (es:=es)
  (R:=λ(q:Result) (s':ar)=>∃(h':bu) (tk:ay) (d:Drawn) (j:bf aj) (L:ay),q=.ok (.ret (.ref s.heap.objs.size))/\s'={s with heap:=h',toks:=tk,drawn:=d} /\
   (∀b o,s.heap.get? b=ah o->h'.get? b=ah o)/\h'.get? s.heap.objs.size=ah {cls:=.type "list",dict:=ak,data:=.seq j L,slots:=#[]}/\j.toList.Perm (es.toList.map (·.2)))
  hh (hS0.at λo e=>dD _ e) s.heap.objs.size (DH dZ) (.ref s.heap.objs.size) 0 c
  (λh' tk d j L B kM z=>⟨h',tk,d,j,L,rfl,rfl,λb o e=>B b o (dX (dE e)) (dD _ e),kM,z⟩)
 refine lZ key (λfin s' x=>?_) λe s' x=>?_
 ·cases fin with
  |done f =>
   obtain⟨h',tk,d,j,L,e,rfl,B,kM,z⟩:=x;cases e;show wpAny _ A (load s.heap.objs.size >>= _) _ _ _;refine aJ (wpAny_load kM ?_);exact bG (h h' tk d j B z)
  |again U =>
   refine⟨x.1,uN x.2 λq s₂ y=>?_⟩;obtain⟨h',tk,d,j,L,rfl,rfl,B,kM,z⟩:=y;show wpAny _ A (load s.heap.objs.size >>= _) _ _ _;refine aJ (wpAny_load kM ?_);exact bG (h h' tk d j B z)
 ·obtain⟨_,_,_,_,_,a,_⟩:=x;cases a
end
end PySem
namespace L2
open PySem PySem.Spec PyProof.Rows
section
variable{X:Cx}
def zZ(P:a9)(w:bh)(a:aq)(ms:ai a6)(h:bu):Prop:=∃es mG,kB P w h a es/\Nums es mG/\mG.Perm ms
noncomputable def qC(ns:ai a6):ai a6:=ns.foldl step_dedup []
theorem Rm(ns:ai a6):(List.range ns.length).map (λi=>ns.getD i 0)=ns:=by
 apply XQ;intro i;rw[iZ]
 by_cases h:i<ns.length
 ·rw[List.getElem?_range h];simp[List.getD,h]
 ·rw[Md (by simp;omega),Md (by omega)];rfl
theorem agR{P:a9}{w:bh}{a:aq}{ms:ai a6}{H:Hp}{h:bu}(x:zZ P w a ms h):gP P w H h a (.ext (zZ P w a ms)):=by
 refine⟨x,?_,λh1 h2 y k=>?_⟩
 ·obtain⟨es,mG,hs,_⟩:=x;obtain⟨o,_,_,j,_⟩:=hs;exact⟨o,j⟩
 ·obtain⟨es,mG,hs,q⟩:=y;exact⟨es,mG,hs.at k,q⟩
theorem Zf(c:X.calm=au):mT X (.type "set") (λxs H Q=>∃(a:aq) (ns:ai a6),xs=[.ref a]/\fA X.K H a (ns.map V.int)/\(qC ns).length<4000 /\
  ∀l,H l=ak->Q (.ref l) (upd H l (.ext (zZ X.prog X.w l (qC ns))))):=by
 intro aa s J H xs us Q I r h;obtain⟨a,ns,rfl,hq,i,q⟩:=h;obtain⟨u,rfl,B⟩:=vals1 r;cases B;obtain⟨z,rv,L,g⟩:=I.list hq;have f:cg z ns:=intsAre_of rv;have hl:z.length=ns.length:=by rw[<-rv.length,fI]
 refine aAC (I.ok.hd c) L.isList f (by rw[List.size_toArray,hl];unfold c5;rw[Rm];show(qC ns).length+1<4096;omega) λh' tk es ms hT d j U=>?_;rw[kD,hl]at j;unfold c5 at j;rw[Rm]at j;exact⟨.ref s.heap.objs.size,_,I.laid (t':=tk) (o:=.ext (zZ X.prog X.w s.heap.objs.size (qC ns))) (λb o e=>U b o (dE e) e) cU (agR ⟨es,ms,hT,d,j⟩),rfl,q _ (I.aL.fresh cU)⟩
theorem Inv.drawn{aa:ai (aq×cj)}{J:St}{H:Hp}{s:ar}(I:Inv X aa J H s)(d:Drawn):Inv X aa J H {s with drawn:=d} :=
 ⟨I.ok,I.os,I.bare,I.base,I.loc,I.cell,I.free,I.jU,I.pin,I.aL,I.len⟩
theorem aq8:∀{l q:ai aj},q.Perm l->∀{ms:ai a6},cg l ms->∃mG,cg q mG/\mG.Perm ms:=by
 intro l q h
 induction h with
 |nil=>intro ms h;exact⟨ms,h,DN _⟩
 |cons x _ ih =>
  intro ms h;cases h with
  |cons n t r=>obtain⟨mG,a,b⟩:=ih r;exact⟨n::mG,.cons n t a,b.cons n⟩
 |swap x y l =>
  intro ms h;cases h with
  |cons n t r =>
   cases r with
   |cons j B r=>exact⟨j::n::_,.cons j B (.cons n t r),.swap n j _⟩
 |trans _ _ z f =>
  intro ms h;obtain⟨g,e,c⟩:=f h;obtain⟨L,d,U⟩:=z e;exact⟨L,d,U.trans c⟩
theorem az9(E:X.calm=au):mT X (.builtin "sorted") (λxs H Q=>∃(d:aq) (j:ai a6),xs=[.ref d]/\H d=ah (.ext (zZ X.prog X.w d j))/\j.length<64 /\
  ∀(ms:ai a6) (l:aq),ms.Perm j->ms.Pairwise (· <= ·)->H l=ak->Q (.ref l) (upd H l (.lst (ms.map V.int)))):=by
 intro aa s J H xs us Q I r h;obtain⟨d,j,rfl,hd,S,q⟩:=h;obtain⟨u,rfl,v⟩:=vals1 r;cases v;obtain⟨⟨es,x,hT,G,F⟩,_,_⟩:=I.aL _ _ hd;have C:(64:ay)<=a7:=by decide
 refine YG kind_sorted plain_sorted entry_sorted (args_sorted1 _) ?_;unfold Builtin.«sorted»;refine aJ (m:=checkCount "sorted" 1 1 _) (bG ?_);refine aJ (ay8 (A:=X.A.in1) (I.ok.hd E) hT λh' tk g acc P y=>?_);obtain⟨L,c,zN⟩:=aq8 y G;have a:L.Perm j:=zN.trans F;have hl:acc.toList.length=j.length:=by
  have:∀{vs:ai aj} {ns:ai a6},cg vs ns->vs.length=ns.length:=by
   intro vs ns h
   induction h with
   |nil=>rfl
   |cons n t _ ih=>simp[ih]
  rw[this c,a.length_eq]
 refine aJ (PV ?_ (by rw[hl];omega));have B:(h'.push (b0 "list" acc.toList.toArray 0)).get? h'.objs.size=ah (b0 "list" acc.toList.toArray 0):=fW _ rfl;refine aJ (qQ (rW slot_list_sort ⟨_,B,rfl⟩ entry_list_sort (list_sort_tree B c (by omega) λae z M i K=>⟨_,rfl,?_⟩) (args_list_sort _)));refine bG ⟨_,rfl,?_⟩;have k:Inv X aa J H {s with heap:=h',toks:=tk,drawn:=g}:=(I.kept (t':=tk) P).drawn g;have D:H h'.objs.size=ak:=k.aL.fresh cU;obtain⟨f,o⟩:∃f,((h'.push (b0 "list" acc.toList.toArray 0)).update h'.objs.size (Obj.mapSeq λ_=>#[])).get? h'.objs.size=ah (b0 "list" #[] f):=⟨_,GS B (λ_=>#[])⟩;have p:=dD (b0 "list" #[] 0) (dD (b0 "tuple" acc.toList.toArray 0) o);obtain⟨U,N⟩:∃U,(c8 (h'.push (b0 "list" acc.toList.toArray 0)) h'.objs.size acc.toList ae).get? h'.objs.size=ah (b0 "list" ae U):=⟨_,GS p (λ_=>ae)⟩;have kp:∀b u,h'.get? b=ah u->(c8 (h'.push (b0 "list" acc.toList.toArray 0)) h'.objs.size acc.toList ae).get? b=ah u:=λb u e=>by
  have hb:b≠h'.objs.size:=dX (dE e);unfold c8;exact(pQ _ _ (cK hb)).trans (dD _ (dD _ ((pQ _ _ (cK hb)).trans (dD _ e))))
 have hv:Vals (z.map V.int) ae.toList:=QE M;have R:z.length=j.length:=(i.trans a).length_eq;refine⟨.ref h'.objs.size,upd H h'.objs.size (.lst (z.map V.int)),k.laid (t':=tk) kp cU ?_,rfl,q z _ (i.trans a) K D⟩;exact⟨by rw[fI];omega,ae.toList,U,hv,N⟩
theorem aAG:mT X (.builtin "len") (λxs H Q=>∃(d:aq) (j:ai a6),xs=[.ref d]/\H d=ah (.ext (zZ X.prog X.w d j))/\Q (.int j.length) H):=by
 intro aa s J H xs us Q I r h;obtain⟨d,j,rfl,hd,q⟩:=h;obtain⟨u,rfl,z⟩:=vals1 r;cases z;obtain⟨⟨es,B,hT,e,c⟩,_,_⟩:=I.aL _ _ hd;have hl:es.size=j.length:=by
  have:∀{vs:ai aj} {ns:ai a6},cg vs ns->vs.length=ns.length:=by
   intro vs ns h
   induction h with
   |nil=>rfl
   |cons n t _ ih=>simp[ih]
  have:=this e;rw[fI,mU]at this;rw[this,c.length_eq]
 obtain⟨o,i,t,U,L,f,GN,uH,a,b⟩:=hT;have g:de=4096:=rfl;refine YG kind_len plain_len entry_len (args_len1 _) ?_;exact wpAny_len_body_set U L f a (by omega) ⟨.int j.length,H,I.tok _,⟨_,by rw[hl]⟩,q⟩
end
end L2
namespace PySem
open PyProof.Rows PySem.Spec
set_option maxRecDepth 100000
set_option compiler.extract_closed false
set_option genSizeOf false
set_option bootstrap.genMatcherCode false
theorem aw0:typeLookup (.type "list") "keys" = pure ak:=am_miss_of_fast (by kernel_rfl)
theorem aw1{prog:a9}{w:bh}{A:bj}{E:aj->ar->Prop}{s:ar}{a:aq}{o:cj}{xs:bf aj}{k:ay}{Q:av aj->ar->Prop}
  (L:s.heap.get? a=ah o) (U:o.cls=.type "list") (f:o.data=.seq xs k) (hd:o.dict=ak) (m:A.handled=ak)
  (h:∀h' tk,(∀b ob,s.heap.get? b=ah ob->h'.get? b=ah ob)->Q ak {s with heap:=h',toks:=tk}) :
  wpAny (bc prog w) A (getAttr? (.ref a) "keys") Q E s:=by
 have j:("keys" : a5).length+100<=a7:=by decide
 have q:=aw0;have z:(["__module__", "__name__", "__qualname__", "__doc__", "__annotations__"]:ai a5).contains "keys" = ao:=by decide +kernel
 obtain⟨c,aQ,dat,i⟩:=o;simp only at U f hd;subst U f hd;obtain⟨l,g,d,tk,os⟩:=s;have hT:∀EW,(⟨l,g,d,EW,os⟩:ar).TypeIs (.ref a) "list":=λ_=>⟨_,L,rfl⟩
 have v:=sub_AttributeError;have u:=F.slot_list_getattribute.lookup;have t:=F.slot_list_getattribute.bind (.ref a);have r:=am_list_getattr_none;unfold getAttr? getAttrBy? getAttrBy
 repeat (any_goals (first|assumption|exact hT _|((with_reducible show wpAny _ _ (call (Value.builtin "list.__getattribute__") _ _) _ _ _);refine call_meets F.slot_list_getattribute (hT _) am_entry_list_getattribute (F.args_list_getattribute_2 _ _) (meets_getattribute_miss_list a xs k i "keys" _ q z j) ⟨L,m,λh' EW e B=>?_⟩)|wp_step))
 obtain⟨p,n,he⟩:=B.there;show wpAny _ _ (getattributeRaised _ _ _ _ _ _ _) _ _ _;unfold getattributeRaised
 repeat (any_goals (first|assumption|wp_step))
 exact h _ _ B.keeps
theorem Yb:entryFor table "dict.update.loop" = ah Builtin.«dict.update.loop»:=entryFor_of_tree (by kernel_rfl)
theorem RX:plainId "dict.update.loop" = au:=by decide +kernel
section
variable{prog:a9}{w:bh}{K:Type} [DecidableEq K]{knd:KeyKind prog w K}{A:bj}{R:Result->ar->Prop}{I:aq}{fp wr:ai aq}{G:bf GenState->bf GenState->Prop}{n:ay}{P:ay->aj->Prop}{St:ay->ar->Prop}
def NY(knd:KeyKind prog w K)(h:bu)(S:aq)(wr:ai aq)(kvs:ai (K×aj))(i:ay)(v:aj):Prop :=
 ∃a key k x,v=.ref a/\a≠S/\a∉wr/\kvs[i]?=ah (k,x)/\knd.is k key=au/\IsTup h a #[key,x]
theorem NY.at{h h':bu}{S:aq}{wr:ai aq}{kvs:ai (K×aj)}{i:ay}{v:aj}(p:NY knd h S wr kvs i v)(z:∀b o,b∉S::wr->h.get? b=ah o->h'.get? b=ah o):NY knd h' S wr kvs i v:=by
 obtain⟨a,key,k,x,h1,h2,j,L,B,o,q,r⟩:=p;exact⟨a,key,k,x,h1,h2,j,L,B,o,z a o (by simp[h2,j]) q,r⟩
theorem azJ(W:WalksS prog w A.in1 I fp wr G n P St)(S:aq)(vN:S∉fp)(kvs:ai (K×aj))(hn:kvs.length=n)(hb:n<=a7) :
  ∀(k i:ay) (s:ar) (c:a6) (u:Tok),n-i=k->i<=n->St i s->(∀j v,P j v->NY knd s.heap S wr kvs j v) ->
   s.heap.DictOf knd S (merged [] (kvs.take i)) ->
   (∀s',Moved (S::wr) G s s'->s'.heap.DictOf knd S (merged [] kvs)->R (.ok (.ret .none)) s') ->
   codeAny (bc prog w) A (.builtin "dict.update.loop" ⟨[.ref S,.ref I,.int c u,.none],[]⟩) R s:=by
 have t:S∉wr:=λh=>vN (W.sub _ h);have sI:∀b∈wr,b∈S::wr:=λb hb=>gQ _ hb;intro k
 induction k with
 |zero =>
  intro i s c u F hi f m L hR;have D:i=n:=by omega
  subst D;refine zV Yb ?_;rw[JF RX _];show wpAny _ A.in1 (df (.ref I) >>= _) _ _ s;refine aJ (W.done s _ _ f λs' hm=>?_);show wpAny _ A.in1 (Builtin.Dict.addKeywords S [] >>= λ_=>ret Value.none) _ _ s';refine aJ (bG (bG (hR s' (hm.mono sI) ?_)));rw[<-hn,List.take_length]at L;obtain⟨o,es,g,B,r⟩:=L;exact⟨o,es,g,hm.heap S _ t B,r⟩
 |succ k ih =>
  intro i s c u F hi f m L hR;have dZ:i<n:=by omega
  refine zV Yb ?_;rw[JF RX _];show wpAny _ A.in1 (df (.ref I) >>= _) _ _ s;refine aJ (W.item i s _ _ dZ f λv s' V Ff hm=>?_);have zN:∀j v,P j v->NY knd s'.heap S wr kvs j v:=λj v q=>(m j v q).at λb o hb e=>hm.heap b o (λz=>hb (sI b z)) e;have N:s'.heap.DictOf knd S (merged [] (kvs.take i)):=by
   obtain⟨o,es,g,B,r⟩:=L;exact⟨o,es,g,hm.heap S _ t B,r⟩
  obtain⟨a,key,E,x,rfl,h2,h3,M,H,o,B,Q,nn,d⟩:=zN i v V;show wpAny _ A.in1 (c0 [Value.ref a] ((Builtin.Dict.pairItems (.ref a)).tryCatch _ >>= _) >>= _) _ _ s';refine aJ (qQ (aJ (wpAny_tryCatch ?_)));unfold Builtin.Dict.pairItems;refine aJ (wpAny_typeOf (T := "tuple") ⟨o,B,Q⟩ ?_);rw[ax (by decide)];refine aJ (wpAny_seqItems B d (bG ?_));show wpAny _ _ (c0 [key,x] (dictSet S key x)) _ _ _;refine qQ (wpAny_dictSet_pairs (hsz:=by
   have p:=merged_length_le [] (kvs.take i);rw[XN]at p;simp only[DL]at p;omega) H N λh' y U=>?_)
  rw[<-merged_take_succ [] kvs i (E,x) M]at y;refine bG ⟨FH RX _,ih (i+1) _ _ _ (by omega) dZ (W.frame _ s' _ _ Ff (qI _) λb hb o e=>?_) (λj v q=>(zN j v q).at λb o hb e=>?_) y λC X l=>?_⟩
  ·rw[U.2 b (λh:b=S=>vN (by rw[<-h];exact hb))];exact e
  ·rw[U.2 b (λh:b=S=>hb (by rw[h];exact List.mem_cons_self))];exact e
  ·refine hR C (Moved.trans W.gtrans ((hm.mono sI).then_heap (qI _) λb o hb e=>?_) X) l;rw[U.2 b (λh:b=S=>hb (by rw[h];exact List.mem_cons_self))];exact e
end
section
variable{prog:a9}{w:bh}{K:Type} [DecidableEq K]{knd:KeyKind prog w K}{A:bj}{E:aj->ar->Prop}{s:ar}
theorem aAM{l:aq}{items:bf aj}{kvs:ai (K×aj)}{o:cj}{nl:ay}{Q:aj->ar->Prop}
  (hh:A.handled=ak) (xD:s.heap.get? l=ah o) (iA:o.cls=.type "list") (GJ:o.data=.seq items nl) (D:o.dict=ak) (hlen:kvs.length=items.size) (hsz:items.size<=a7)
  (m:∀(i:ay) (v:aj),items[i]?=ah v->∃(a:aq) (key:aj) (k:K) (x:aj),v=Value.ref a/\kvs[i]?=ah (k,x)/\knd.is k key=au/\IsTup s.heap a #[key,x])
  (h:∀(h':bu) (tk:ay),h'.DictOf knd s.heap.objs.size (merged [] kvs)->(∀b o,s.heap.get? b=ah o->h'.get? b=ah o)->Q (.ref s.heap.objs.size) {s with heap:=h',toks:=tk}) :
  wpAny (bc prog w) A (call (.type "dict") [.ref l]) Q E s:=by
 refine callType_codes (Q₁:=λobj s₁=>obj=.ref s.heap.objs.size/\s₁={s with heap:=s.heap.push {cls:=.type "dict",data:=.dict #[]} }) F.kt_called_dict (F.kt_typeCall_dict_1 _) F.entry_dict_init (kt_code_dict_new _ ⟨rfl,rfl⟩) ?_;rintro obj s₁ ⟨rfl,rfl⟩;have c:(s.heap.push {cls:=.type "dict",data:=.dict #[]}).DictOf knd s.heap.objs.size []:=Heap.DictOf.new s.heap;refine⟨c.typeIs,F.args_dict_init_2 _ _,?_⟩;have zJ:l<s.heap.objs.size:=dE xD;have TQ:(s.heap.push {cls:=.type "dict",data:=.dict #[]}).get? l=ah o:=dD _ xD;unfold Builtin.«dict.__init__»;refine aJ ?_;unfold Builtin.Dict.selfAndRest;refine aJ (wpAny_notOrdered_dict c.typeIs ?_);show wpAny _ _ (pure (s.heap.objs.size,[Value.ref l])) _ _ _;refine bG ?_;show wpAny _ _ (Builtin.Dict.updateFrom "dict.__init__" s.heap.objs.size (.ref l) [] .none) _ _ _;unfold Builtin.Dict.updateFrom;refine aJ (wpAny_typeOf (T := "list") ⟨o,TQ,iA⟩ ?_);rw[ax (by decide)];refine aJ (aw1 TQ iA GJ D hh λh1 f L=>?_);have z:∀b ob,s.heap.get? b=ah ob->h1.get? b=ah ob:=λb ob e=>L b ob (dD _ e);have B:s.heap.objs.size<h1.objs.size:=dE (L _ _ (fW _ rfl));refine PX (by rfl) ?_;refine aJ (JM ?_);refine aJ (wpAny_pyIter_list (items:=items) ⟨o,z _ _ xD,iA,nl,GJ⟩ ?_);refine bG ⟨FH RX _,?_⟩;have dB:l≠h1.objs.size:=dX (Lc zJ B);have U:(h1.push {cls:=.type "list_iterator",data:=.fields #[.ref l,.int 0 0]}).DictOf knd s.heap.objs.size (merged [] (kvs.take 0)):=by
  obtain⟨o,es,u,n,r⟩:=c;exact⟨o,es,u,dD _ (L _ _ n),r⟩
 have Ga:A.in1.in1.handled=ak:=by simp[hh]
 refine azJ (knd:=knd) ((Walks.list (A:=A.in1.in1) Ga h1.objs.size l dB items).toS) s.heap.objs.size (by
   simp only[eB,uS,tP,not_or];exact⟨dX B,DH zJ⟩) kvs hlen hsz (items.size-0) 0 _ _ _ rfl BQ
  ⟨⟨_,fW _ rfl,rfl,rfl⟩,⟨o,dD _ (z _ _ xD),iA,nl,GJ⟩⟩ (λj v q=>?_) U λs' hm hd=>?_
 ·obtain⟨a,key,g,x,rfl,C,y,t⟩:=m j v q;have d:a<s.heap.objs.size:=by obtain⟨G,p,_⟩:=t;exact dE p
  refine⟨a,key,g,x,rfl,dX d,?_,C,y,t.keeps λb ob e=>dD _ (z b ob e)⟩;simp only[eB,uS,tP];exact dX (Lc d B)
 ·obtain⟨h',g',d',EW,LH⟩:=s';have eg:g'=s.gens:=hm.gens;have ed:d'=s.drawn:=hm.drawn;have eo:LH=s.os:=hm.os;subst eg;subst ed;subst eo;refine⟨rfl,h h' EW hd λb ob e=>hm.heap b ob ?_ (dD _ (z b ob e))⟩;have hb:=dE e;simp only[eB,uS,tP,not_or];exact⟨dX hb,dX (Lc hb B)⟩
end
end PySem
namespace V2
open PySem PySem.Spec PyProof.Rows L2
section
variable{X:Cx}{W:WX}
theorem YY{P:a9}{w:bh}:∀(j:ai Key) (us:ai aj),us.length=j.length->(∀(i:ay) (v:aj),us[i]?=ah v->∃k,j[i]?=ah k/\(gB P w).is k v=au)->Vals (j.map kV) us
 |[],[],_,_ => .nil
 |[],_::_,h,_=>by simp at h
 |_::_,[],h,_=>by simp at h
 |k::j,u::us,h,q=>by
  obtain⟨L,B,z⟩:=q 0 u rfl;cases B;exact .cons (TF z) (YY (P:=P) (w:=w) j us (by simpa using h) λi v hv=>by simpa using q (i+1) v (by simpa using hv))
theorem alA{o:bp}{td:TE}{p1 ag U j:cq}(G:X.calm=au)(y:Gl X "list")(A:X.mg "list" = ak)(E:PE X o td)
  (hs:az [.Call (.Attribute o "keys" ag) [] [] j] X.env=[(ao,br (.Call (.Attribute o "keys" ag) [] [] j) X.env)]:=by rfl)
  (M:bw o "keys" X.env (br o X.env)=br o X.env:=by rfl) (K:(ag.endLine==j.line)=au:=by rfl) :
  PE X (.Call (.Name "list" p1) [.Call (.Attribute o "keys" ag) [] [] j] [] U) (λJ H Q=>td J H λx H1=>∃a kvs,x=.ref a/\H1 a=ah (.dK kvs) /\
   ∀(l:aq),H1 l=ak->Q (.ref l) (upd H1 l (.lst (kvs.map λB=>kV B.1)))):=by
 intro aa s J H Q I h;refine uY (tW I y A WZ ?_);refine HY ?_ hs rfl;rw[hs];show wpAny _ _ (spliced ((ao,br (.Call (.Attribute o "keys" ag) [] [] j) X.env)::[])) _ _ s;refine JD ?_;refine PZ M K (bN (E aa s J H _ I h) λv s1 ⟨x,H1,g,C,U⟩=>?_);obtain⟨a,kvs,rfl,p,q⟩:=U;cases C;obtain⟨h1,h2,D⟩:=BW g (.inl ⟨kvs,.inl p⟩);obtain⟨z,_,vs,rel,f⟩:=zU g.aL p;refine⟨"dict", "dict.keys",PySem.F.plainAttrs_dict,PySem.F.slot_dict_keys,PySem.F.type_dict_keys,h1,h2,JE rfl (PySem.evalArgs_none ?_)⟩;refine HM PySem.F.slot_dict_keys f.typeIs PySem.F.entry_dict_keys (PySem.F.args_dict_keys_1 _) (PySem.W.kdl_meets_keys (gB X.prog X.w) a D) ⟨⟨vs,f⟩,?_⟩;refine PO ?_;have L:Inv X aa J H1 {s1 with heap:=s1.heap.push {cls:=.type "dict_keys",data:=.fields #[.ref a]} }:=g.kept (t':=s1.toks) λb o e=>dD _ e;obtain⟨ep,t⟩:=f.dictAt;have LY:kvs.length=vs.length:=rel.length;refine kdl_call (s:={s1 with heap:=s1.heap.push {cls:=.type "dict_keys",data:=.fields #[.ref a]} }) (PySem.W.kdl_keys (knd:=gB X.prog X.w) (r:=s1.heap.objs.size) (d:=a) (kvs:=vs) (ep:=ep)) (L.ok.hd G) ⟨⟨_,fW _ rfl,rfl,rfl⟩,t.push _⟩ (by omega) λh' tk acc c n hS m=>?_;generalize lV:({s1 with heap:=s1.heap.push {cls:=.type "dict_keys",data:=.fields #[.ref a]} }:ar)=u at L n hS;have V:kvs.map (·.1)=vs.map (·.1):=rel.keys;have hv:Vals ((kvs.map (·.1)).map kV) acc.toList:=YY (P:=X.prog) (w:=X.w) _ _ (by rw[mU,m.1,fI];omega) λi v hv=>by
  obtain⟨k,x,R,N⟩:=m.2 i v (by rw[<-PQ];exact hv);exact⟨k,by rw[V,iZ,R];rfl,N⟩
 rw[sY]at hv;have S:Vals (kvs.map λB=>kV B.1) acc.toList:=hv;have T:=L.laid (t':=tk) (o:=.lst (kvs.map λB=>kV B.1)) n cU ⟨by rw[fI];omega,acc.toList,c,S,by simpa using hS⟩;exact⟨.ref u.heap.objs.size,_,T,rfl,q _ (L.aL.fresh cU)⟩
theorem Ib{K:ba}{G:Hp}{O:ai aq}:∀{ws:ai (Key×V)} {kvs:ai (Key×A)},ws.map (·.1)=kvs.map (·.1)->aX K G O (ws.map λj=>kV j.1) (kvs.map λj=>kA j.1)
 |[],[],_=>by rw[qL,qL,pM]
 |[],_::_,h=>by simp at h
 |_::_,[],h=>by simp at h
 |q::ws,j::kvs,h=>by
  rw[cW,cW]at h;obtain⟨h1,h2⟩:=OG h;rw[cW,cW];exact .cons (by rw[h1];exact Hy _) (Ib h2)
@[simp] def vC(c:bb)(f:Ev->Mo A):Ev->Mo A:=λY=>mb (f Y) λa Z=>match fL Z a with
 |some (_,kvs)=>jD c (kvs.map λj=>kA j.1) Z
 |none=>ak
theorem Om{o:bp}{f:Ev->Mo A}{p1 ag q j:cq}(c:bb)(y:X.calm=au)(m:Gl X "list")(n:X.mg "list" = ak)(x:VE X W o f)
  (hs:az [.Call (.Attribute o "keys" ag) [] [] j] X.env=[(ao,br (.Call (.Attribute o "keys" ag) [] [] j) X.env)]:=by rfl)
  (D:bw o "keys" X.env (br o X.env)=br o X.env:=by rfl) (C:(ag.endLine==j.line)=au:=by rfl) :
  VE X W (.Call (.Name "list" p1) [.Call (.Attribute o "keys" ag) [] [] j] [] q) (vC c f):=by
 obtain⟨t,p,s⟩:=x;refine⟨_,alA y m n p hs D C,λG U d H J B Q w r h=>?_⟩;refine s G U d H J B _ w r (bR.mb h λa b v M N L F z E h1=>?_);split at h1
 ·rename_i k u e;obtain⟨p,i,rfl,K,g,q,j,I⟩:=sT z E e;exact⟨p,i,rfl,q,λl hl=>pY z hl (Ib j) h1⟩
 ·exact False.elim h1
end
end V2
namespace L2
open PySem PySem.Spec PyProof.Rows
section
variable{X:Cx}
theorem Yd{aa:ai (aq×cj)}{J:St}{H:Hp}{s:ar}(I:Inv X aa J H s):∀(kvs:ai (Key×V)) (ys:ai V) (q:ai aj),ys.length=kvs.length->Vals ys q->(∀(i:ay) (j:Key×V),kvs[i]?=ah j->∃b,ys[i]?=ah (.ref b)/\H b=ah (.tup [kV j.1,j.2])) ->
  ∃vs:ai (Key×aj),KV kvs vs/\q.length=kvs.length/\∀(i:ay) (v:aj),q[i]?=ah v->∃(b:aq) (key:aj) (k:Key) (x:aj),v=Value.ref b/\vs[i]?=ah (k,x)/\(gB X.prog X.w).is k key=au/\IsTup s.heap b #[key,x]
 |[],[],_,_,.nil,_=>⟨[],.nil,rfl,λi v h=>by simp at h⟩
 |[],_::_,_,h,_,_=>by simp at h
 |_::_,[],_,h,_,_=>by simp at h
 |j::kvs,y::ys,u::q,hl,.cons r f,U=>by
  obtain⟨b,G,F⟩:=U 0 j rfl;have E:y=.ref b:=by simpa using G
  subst E;cases r;obtain⟨vs,o,n,m⟩:=Yd I kvs ys _ (by simpa using hl) f λi z hi=>by simpa using U (i+1) z (by simpa using hi)
  obtain⟨_,M,rv,c⟩:=I.aL b _ F;cases rv with
  |cons l e =>
   cases e with
   |cons g d =>
    cases d;rename_i key L;refine⟨(j.1,L)::vs,.cons ⟨rfl,g⟩ o,by simp[n],λi v hi=>?_⟩;cases i with
    |zero =>
     simp at hi;subst hi;exact⟨b,key,j.1,L,rfl,rfl,FY l,c⟩
    |succ i =>
     obtain⟨K,B,p,a,D,C,A,t⟩:=m i v (by simpa using hi);exact⟨K,B,p,a,D,by simpa using C,A,t⟩
theorem aAN(f:X.calm=au):mT X (.type "dict") (λxs H Q=>∃(a:aq) (ys:ai V) (kvs:ai (Key×V)),xs=[.ref a]/\fA X.K H a ys/\ys.length=kvs.length/\(kvs.map (·.1)).Nodup /\
  (∀(i:ay) (z:Key×V),kvs[i]?=ah z->∃b,ys[i]?=ah (.ref b)/\H b=ah (.tup [kV z.1,z.2]))/\∀l,H l=ak->Q (.ref l) (upd H l (.dK kvs))):=by
 intro aa s J H xs us Q I r h;obtain⟨a,ys,kvs,rfl,hq,hl,hn,c,q⟩:=h;obtain⟨u,rfl,L⟩:=vals1 r;cases L;obtain⟨g,rv,⟨o,n,e,iA,m,k⟩,t⟩:=I.list hq;obtain⟨vs,j,p,U⟩:=Yd I kvs ys g hl rv c;have x:kvs.length=vs.length:=j.length;refine aAM (knd:=gB X.prog X.w) (kvs:=vs) (I.ok.hd f) e iA k m (by rw[kD];omega) (by rw[kD];omega) (λi v hi=>U i v (by simpa using hi)) λh' tk B d=>?_;rw[merged_nil_of_nodup vs (by rw[<-j.keys];exact hn)]at B;exact⟨.ref s.heap.objs.size,_,I.laid (t':=tk) (o:=.dK kvs) d cU (Ye (by omega) (vV.mpr (DH I.big)) j B),rfl,q _ (I.aL.fresh cU)⟩
theorem aAE(g:X.calm=au):mT X (.type "list") (λxs H Q=>∃(a:aq) (kvs:ai (Key×V)),xs=[.ref a]/\H a=ah (.dK kvs)/\∀l,H l=ak->Q (.ref l) (upd H l (.lst (kvs.map λj=>kV j.1)))):=by
 intro aa s J H xs us Q I r h;obtain⟨a,kvs,rfl,L,q⟩:=h;obtain⟨u,rfl,b⟩:=vals1 r;cases b;obtain⟨h1,h2,e⟩:=BW I (.inl ⟨kvs,.inl L⟩);obtain⟨z,_,vs,rel,p⟩:=zU I.aL L;obtain⟨ep,U⟩:=p.dictAt;have C:kvs.length=vs.length:=rel.length;refine kdl_call (PySem.W.kdl_dict (knd:=gB X.prog X.w) (d:=a) (kvs:=vs) (ep:=ep) e) (I.ok.hd g) U (by omega) λh' tk acc c f hS B=>?_;have A:kvs.map (·.1)=vs.map (·.1):=rel.keys;have hv:Vals ((kvs.map (·.1)).map kV) acc.toList:=V2.YY (P:=X.prog) (w:=X.w) _ _ (by rw[mU,B.1,fI];omega) λi v hv=>by
  obtain⟨k,x,n,m⟩:=B.2 i v (by rw[<-PQ];exact hv);exact⟨k,by rw[A,iZ,n];rfl,m⟩
 rw[sY]at hv;have t:Vals (kvs.map λj=>kV j.1) acc.toList:=hv;have y:=I.laid (t':=tk) (o:=.lst (kvs.map λj=>kV j.1)) f cU ⟨by rw[fI];omega,acc.toList,c,t,by simpa using hS⟩;exact⟨.ref s.heap.objs.size,_,y,rfl,q _ (I.aL.fresh cU)⟩
theorem Inv.QT{aa:ai (aq×cj)}{J:St}{H:Hp}{s:ar}{a:aq}{kvs:ai (Key×V)}{o:cj}(I:Inv X aa J H s)(h:H a=ah (.dW o (.dK kvs)))(hb:∀ob u,X.H₀ a≠ah (.dW ob u)):Inv X aa J (upd H a (.dK kvs)) s where
 ok:=I.ok
 os:=I.os
 bare:=I.bare
 base:={
  keep:=I.base.keep
  slot:=I.base.slot
  free:=λb ob q n B=>by
   have z:=I.base.free b ob q n B;rw[bH (cK (iW h z))];exact z
  there:=I.base.there
  lO:=λb xs q=>by have z:=I.base.lO b xs q;rw[bH (zF z h (by intro w;cases w))];exact z
  kN:=λb ob u q=>by
   have z:=I.base.kN b ob u q;have dB:b≠a:=λe=>hb ob u (by rw[<-e];exact q);rw[bH dB];exact z
  lP:=λb ps q=>by obtain⟨more,z⟩:=I.base.lP b ps q;exact⟨more,by rw[bH (zF z h (by intro w;cases w))];exact z⟩}
 loc:=I.loc
 cell:=I.cell
 free:=by rw[bH (cK (iW h I.free))];exact I.free
 jU:=λx c q=>by rw[bH (cK (iW h (I.jU x c q)))];exact I.jU x c q
 pin:=λq hq=>by
  obtain⟨x,y,c⟩:=I.pin q hq;exact⟨x,by rw[bH (cK (iW h y))];exact y,c⟩
 aL:=λb u q=>by
  have st:∀c v,H c=ah v->v≠.dW o (.dK kvs)->upd H a (.dK kvs) c=ah v:=λc v z hv=>by rw[bH (zF z h hv)];exact z
  by_cases j:b=a
  ·subst j;rw[eA]at q;cases q;obtain⟨_,ok⟩:=I.aL b _ h;exact gP.nR ok (λc v _ z=>z) (λc z=>st c _ z (by intro w;cases w)) λc xs z=>st c _ z (by intro w;cases w)
  ·rw[bH j]at q;exact(I.aL b u q).nR (λc v _ z=>z) (λc z=>st c _ z (by intro w;cases w)) λc xs z=>st c _ z (by intro w;cases w)
 len:=I.len
def Pu(a:aq)(D:Ends):Ends where
 nx:=λJ H=>∃o kvs,H a=ah (.dW o (.dK kvs))/\D.nx J (upd H a (.dK kvs))
 rt:=λv H=>∃o kvs,H a=ah (.dW o (.dK kvs))/\D.rt v (upd H a (.dK kvs))
 bk:=λJ H=>∃o kvs,H a=ah (.dW o (.dK kvs))/\D.bk J (upd H a (.dK kvs))
 ct:=λJ H=>∃o kvs,H a=ah (.dW o (.dK kvs))/\D.ct J (upd H a (.dK kvs))
theorem aj8{st:bo}{t:TS}(h:PS X st t):PS X st (λD J H=>∃a kvs,H a=ah (.dK kvs)/\t (Pu a D) J H):=by
 intro aa s J H D I ⟨a,kvs,ha,q⟩;have hb:∀ob u,X.H₀ a≠ah (.dW ob u):=λob u e=>by
  have:=I.base.kN a ob u e;rw[ha]at this;cases this
 refine bN (h aa s J H _ I q) λf s' z=>?_;cases f with
 |next=>obtain⟨J',H',j,o,B,h1,h2⟩:=z;exact⟨J',_,j.QT h1 hb,h2⟩
 |brk=>obtain⟨J',H',j,o,B,h1,h2⟩:=z;exact⟨J',_,j.QT h1 hb,h2⟩
 |cont=>obtain⟨J',H',j,o,B,h1,h2⟩:=z;exact⟨J',_,j.QT h1 hb,h2⟩
 |ret u=>obtain⟨v,J',H',j,r,o,B,h1,h2⟩:=z;exact⟨v,J',_,j.QT h1 hb,r,h2⟩
theorem aiF{k:ay}{f:aq}{fd:ck}{ps:ai a5}{sp:Sp}{dvs:ai V}{ds:ai aj}{aa:ai (aq×cj)}{J:St}{H:Hp}{s:ar}{Q:VK}{us:ai aj}{vs:ai V}(F:gR X.prog X.w X.K X.mg X.base (oB X.prog X.w) k f fd ps sp)(hr:cE k X.A)(hb:Binds X.K fd ps ds)(hd:Vals dvs ds)
  (I:Inv X aa J H s) (r:Vals vs us) (h:sp (vs++dvs) H Q λ_ _ _=>b5):wpAny (bc X.prog X.w) X.A (call (.ref f) us) (EP X aa J Q) X.xe s:=by
 have j:Vals (vs++dvs) (us++ds):=r.append hd;have hl:(us++ds).length=ps.length:=by rw[<-j.length];exact F.len _ _ _ _ h
 refine JQ (uN (F.run X.A X.stack s H ⟨us,[]⟩ (us++ds) (vs++dvs) Q _ hr I.NN (hb s us I.fB hl) j h) λr s' hq=>?_);cases r with
 |error z =>
  obtain⟨a,cls,B,H',rfl,os,bare,un,aL,ex,q⟩:=hq;exact q.elim
 |ok fl =>
  cases fl with
  |ret u=>exact I.after hq
  |next=>exact False.elim hq
  |brk=>exact False.elim hq
  |cont=>exact False.elim hq
theorem ak7{o e:bp}{es:ai bp}{m:a5}{ta:TE}{t:TA}{pos ag:cq}{pl:Sem bb}(he:PE X o ta)(ha:PA X (e::es) t)
  (b:az (e::es) X.env=(ao,br e X.env)::az es X.env:=by rfl) (g:(b8 pos (az es X.env)).any (·.1)=ao:=by rfl)
  (ht:br (.Call (.Attribute o m ag) (e::es) [] pos) X.env=(do
   let j<-br o X.env
   standAt ag.atName
   let (f,first)<-c0 [j] (dj j m pl)
   callWith pos f first (b8 pos (az (e::es) X.env)) (dr pos (cx [] X.env))):=by rfl) :
  PE X (.Call (.Attribute o m ag) (e::es) [] pos) (QW X V2.kH m ta t):=by
 intro aa s J H Q I h;refine methodCall_KW (pl:=pl) (bN (he aa s J H _ I h) λu s1 zz=>?_) ht;obtain⟨x,n,B,L,a,C,w,fs,k,f,v,ps,ds,i,sp,ex,d,l,c,hm,F,hr,hb,hd,q⟩:=zz;subst ex;obtain rfl:u=Value.ref a:=L;refine Gu B d c hm l ?_;refine callWith_K (first:=[.ref a]) (h₀:=X.base) I.ok.mod.tX hm.kp (bN (ha pos aa s1 J n _ B q) λus p ⟨vs,y,z,r,U⟩=>⟨z.fB,?_⟩) b g;exact aiF (us:=.ref a::us) (vs:=.ref a::vs) F hr hb hd z (.cons rfl r) U
end
end L2
namespace V2
open PySem PySem.Spec PyProof.Rows L2 KS
section
variable{X:Cx}{W:WX}{e o:bp}
@[simp] def QH(c:bb)(f:Ev->Mo A):Ev->Mo A:=λY=>mb (f Y) λa Z=>match (dY Z a).bind intsOf with
 |some ns=>if(qC ns).length<64 then jD c ((sortI (qC ns)).map A.int) Z else ak
 |none=>ak
theorem ac0{f:Ev->Mo A}{p1 p2 m q:cq}(c:bb)(B:X.calm=au)(D:Gl X "sorted")(I:X.mg "sorted" = ak)(E:Gl X "set")(K:X.mg "set" = ak)(he:VE X W e f)
  (hs:az [.Call (.Name "set" p2) [e] [] q] X.env=(ao,br (.Call (.Name "set" p2) [e] [] q) X.env)::az [] X.env:=by rfl)
  (U:az [e] X.env=(ao,br e X.env)::az [] X.env:=by rfl) :
  VE X W (.Call (.Name "sorted" p1) [.Call (.Name "set" p2) [e] [] q] [] m) (QH c f):=by
 obtain⟨t,p,s⟩:=he;refine⟨_,RZ (az9 B) D I HP (wV (RY (Zf B) E K PyProof.Rows.boot_set (wV p wU U) (by decide) (by decide) U rfl) wU hs) (by decide) (by decide) hs rfl,λG g k H J b Q w r h=>?_⟩;show t J H _;refine s G g k H J b _ w r (bR.mb h λa i v R S d N j C h1=>?_);split at h1
 ·rename_i ns L;split at h1
  ·rename_i hl;rw[sW]at L;obtain⟨ds,y,x⟩:=L;obtain⟨p,M,rfl,h2,u⟩:=qY j C y;rw[BX x u]at h2;refine⟨p,ns,rfl,h2,by omega,λl z=>?_⟩;refine⟨l,qC ns,rfl,eA,hl,λms P o n F=>?_⟩;rw[BC o n];exact pY (j.new z (.ext (zZ X.prog X.w l (qC ns)))) F (HC _) (h1.ext (Ext.new (j.oY z) _))
  ·exact False.elim h1
 ·exact False.elim h1
@[simp] def KA(f:Ev->Mo A):Ev->Mo A:=λY=>mb (f Y) λa Z=>match (dY Z a).bind intsOf with
 |some ns=>if(qC ns).length<64 then ah (.ok (.int (qC ns).length),Z)else ak
 |none=>ak
theorem ac4{f:Ev->Mo A}{p1 p2 i q:cq}(k:X.calm=au)(x:Gl X "len")(C:X.mg "len" = ak)(y:Gl X "set")(D:X.mg "set" = ak)(he:VE X W e f)
  (hs:az [.Call (.Name "set" p2) [e] [] q] X.env=(ao,br (.Call (.Name "set" p2) [e] [] q) X.env)::az [] X.env:=by rfl)
  (L:az [e] X.env=(ao,br e X.env)::az [] X.env:=by rfl) :
  VE X W (.Call (.Name "len" p1) [.Call (.Name "set" p2) [e] [] q] [] i) (KA f):=by
 obtain⟨t,p,s⟩:=he;refine⟨_,RZ aAG x C PySem.boot_len (wV (RY (Zf k) y D PyProof.Rows.boot_set (wV p wU L) (by decide) (by decide) L rfl) wU hs) (by decide) (by decide) hs rfl,λG c g H J U Q w r h=>?_⟩;show t J H _;refine s G c g H J U _ w r (bR.mb h λa d v I K b F j u h1=>?_);split at h1
 ·rename_i ns B;split at h1
  ·rename_i hl;rw[sW]at B;obtain⟨ds,o,n⟩:=B;obtain⟨p,E,rfl,h2,m⟩:=qY j u o;rw[BX n m]at h2;refine⟨p,ns,rfl,h2,by omega,λl z=>?_⟩;refine⟨l,qC ns,rfl,eA,?_⟩;exact h1 _ _ _ _ (Ext.new (j.oY z) _) (j.new z (.ext (zZ X.prog X.w l (qC ns)))) (by simp only[Den])
  ·exact False.elim h1
 ·exact False.elim h1
def zB:ai A->av (ai (Key×A))
 |[]=>ah []
 |.tup [k,v]::r=>match jS k,zB r with
  |some x,ah kvs=>ah ((x,v)::kvs)
  |_,_=>ak
 |_=>ak
theorem alS{K:ba}{G:Hp}{O:ai aq}:∀(ds:ai A) {kvs:ai (Key×A)} {ys:ai V},zB ds=ah kvs->aX K G O ys ds->∃ws:ai (Key×V),ws.map (·.1)=kvs.map (·.1)/\aX K G O (ws.map (·.2)) (kvs.map (·.2))/\ys.length=ws.length /\
  ∀(i:ay) (j:Key×V),ws[i]?=ah j->∃b,ys[i]?=ah (.ref b)/\G b=ah (.tup [kV j.1,j.2]):=by
 intro ds
 induction ds with
 |nil =>
  intro kvs ys h d;simp only[zB,jJ]at h;subst h;rw[pM]at d;subst d;exact⟨[],rfl,.nil,rfl,λi j hi=>by simp at hi⟩
 |cons a r ih =>
  intro kvs ys h d;obtain⟨y,B,rfl,z,s⟩:=d.kZ;unfold zB at h;split at h
  ·rename_i heq;cases heq
  ·rename_i k v C heq;cases heq;split at h
   ·rename_i x D n m;cases h;obtain⟨ws,f,e,c,U⟩:=ih m s;simp only[Den]at z;obtain⟨b,u,rfl,q,dl⟩:=z;obtain⟨w,L,rfl,p,o⟩:=HE dl;rw[LX p n]at q;refine⟨(x,L)::ws,by simp[f],.cons o e,by simp[c],λi j hi=>?_⟩;cases i with
    |zero=>simp at hi;subst hi;exact⟨b,rfl,q⟩
    |succ i=>obtain⟨t,l,g⟩:=U i j (by simpa using hi);exact⟨t,by simpa using l,g⟩
   ·cases h
  ·cases h
@[simp] def xK(as:ai A):Mo A:=λZ=>match as with
 | [a]=>(match (dY Z a).bind zB with
  |some kvs=>if(kvs.map (·.1)).Nodup then ah (.ok (.aB Z.length),Z++[.aQ kvs])else ak
  | none=>ak)
 |_=>ak
theorem Zi(k:X.calm=au):qP X W (.type "dict") xK:=by
 refine⟨_,aAN k,?_⟩;intro G z u H J v y Q w d h;unfold xK at h;split at h
 ·rename_i a;split at h
  ·rename_i f e;split at h
   ·rename_i hn;obtain⟨x,rfl,t⟩:=vR d;rw[sW]at e;obtain⟨ds,s,r⟩:=e;obtain⟨p,B,rfl,h2,m⟩:=qY w t s;obtain⟨j,q,c,U,L⟩:=alS ds r m;refine⟨p,B,j,rfl,h2,U,by rw[q];exact hn,λi g hi=>?_,λl hl=>?_⟩
    ·obtain⟨b,o,n⟩:=L i g hi;exact⟨b,o,w.sub _ _ n⟩
    ·refine h _ _ G (z++[l]) (Ext.cell l) (w.cell hl ⟨w.oY hl,j,eA,q,c.ext (Ext.cell l)⟩) ?_;simp only[Den];exact⟨l,rfl,by rw[<-w.len];simp⟩
   ·exact False.elim h
  ·exact False.elim h
 ·exact False.elim h
theorem Oy:∀{kvs:ai (Key×V)} {vs:ai (Key×aj)},KV kvs vs->Vals (kvs.map (·.2)) (vs.map (·.2))
 |_,_,.nil => .nil
 |_,_,.cons r t => .cons r.2 (Oy t)
theorem Sy{td:TE}{p1 ag L j:cq}(E:X.calm=au)(u:Gl X "list")(y:X.mg "list" = ak)(D:PE X o td)
  (hs:az [.Call (.Attribute o "values" ag) [] [] j] X.env=[(ao,br (.Call (.Attribute o "values" ag) [] [] j) X.env)]:=by rfl)
  (K:bw o "values" X.env (br o X.env)=br o X.env:=by rfl) (G:(ag.endLine==j.line)=au:=by rfl) :
  PE X (.Call (.Name "list" p1) [.Call (.Attribute o "values" ag) [] [] j] [] L) (λJ H Q=>td J H λx H1=>∃a kvs,x=.ref a/\H1 a=ah (.dK kvs) /\
   ∀(l:aq),H1 l=ak->Q (.ref l) (upd H1 l (.lst (kvs.map (·.2))))):=by
 intro aa s J H Q I h;refine uY (tW I u y WZ ?_);refine HY ?_ hs rfl;rw[hs];show wpAny _ _ (spliced ((ao,br (.Call (.Attribute o "values" ag) [] [] j) X.env)::[])) _ _ s;refine JD ?_;refine PZ K G (bN (D aa s J H _ I h) λv s1 ⟨x,H1,f,A,L⟩=>?_);obtain⟨a,kvs,rfl,n,q⟩:=L;cases A;obtain⟨h1,h2,C⟩:=BW f (.inl ⟨kvs,.inl n⟩);obtain⟨z,_,vs,rel,U⟩:=zU f.aL n;refine⟨"dict", "dict.values",PySem.F.plainAttrs_dict,PySem.F.slot_dict_values,PySem.F.type_dict_values,h1,h2,JE rfl (PySem.evalArgs_none ?_)⟩;refine HM PySem.F.slot_dict_values U.typeIs PySem.F.entry_dict_values (PySem.F.args_dict_values_1 _) (meets_dict_values (gB X.prog X.w) a C) ⟨⟨vs,U⟩,?_⟩;refine PO ?_;have B:Inv X aa J H1 {s1 with heap:=s1.heap.push {cls:=.type "dict_values",data:=.fields #[.ref a]} }:=f.kept (t':=s1.toks) λb o e=>dD _ e;obtain⟨ep,p⟩:=U.dictAt;have S:kvs.length=vs.length:=rel.length;refine kdl_call (s:={s1 with heap:=s1.heap.push {cls:=.type "dict_values",data:=.fields #[.ref a]} }) (PySem.W.kdl_values (knd:=gB X.prog X.w) (r:=s1.heap.objs.size) (d:=a) (kvs:=vs) (ep:=ep)) (B.ok.hd E) ⟨⟨_,fW _ rfl,rfl,rfl⟩,p.push _⟩ (by omega) λh' tk acc c m hS g=>?_;generalize R:({s1 with heap:=s1.heap.push {cls:=.type "dict_values",data:=.fields #[.ref a]} }:ar)=t at B m hS;have M:acc.toList=vs.map (·.2):=by
  apply XQ;intro i
  by_cases hi:i<acc.toList.length
  ·obtain⟨k,N⟩:=g.2 i _ (by rw[<-PQ];exact lI hi);rw[lI hi,iZ,N];rfl
  ·have:=g.1;rw[mU]at hi;rw[Md (by rw[mU];omega),Md (by rw[fI];omega)]
 have hv:Vals (kvs.map (·.2)) acc.toList:=by rw[M];exact Oy rel
 have P:=B.laid (t':=tk) (o:=.lst (kvs.map (·.2))) m cU ⟨by rw[fI];omega,acc.toList,c,hv,by simpa using hS⟩;exact⟨.ref t.heap.objs.size,_,P,rfl,q _ (B.aL.fresh cU)⟩
@[simp] def pG(c:bb)(f:Ev->Mo A):Ev->Mo A:=λY=>mb (f Y) λa Z=>match fL Z a with
 |some (_,kvs)=>jD c (kvs.map (·.2)) Z
 |none=>ak
theorem JZ{f:Ev->Mo A}{p1 ag q j:cq}(c:bb)(C:X.calm=au)(m:Gl X "list")(n:X.mg "list" = ak)(y:VE X W o f)
  (hs:az [.Call (.Attribute o "values" ag) [] [] j] X.env=[(ao,br (.Call (.Attribute o "values" ag) [] [] j) X.env)]:=by rfl)
  (E:bw o "values" X.env (br o X.env)=br o X.env:=by rfl) (D:(ag.endLine==j.line)=au:=by rfl) :
  VE X W (.Call (.Name "list" p1) [.Call (.Attribute o "values" ag) [] [] j] [] q) (pG c f):=by
 obtain⟨t,p,s⟩:=y;refine⟨_,Sy C m n p hs E D,λG U d H J B Q w r h=>?_⟩;refine s G U d H J B _ w r (bR.mb h λa b v M N L I z F h1=>?_);split at h1
 ·rename_i k x e;obtain⟨p,i,rfl,K,g,q,j,u⟩:=sT z F e;exact⟨p,i,rfl,q,λl hl=>pY z hl u h1⟩
 ·exact False.elim h1
theorem KD{l:aq}:∀(as:ai aq) (ts:ai (ai V)) (H:Hp),l∉as->kY H as ts l=H l
 |[],ts,H,_=>by cases ts <;> rfl
 |_::_,[],H,_=>rfl
 |b::as,t::ts,H,h=>by
  show kY (upd H b (.tup t)) as ts l=H l;rw[KD as ts _ λz=>h (gQ _ z),bH λz=>h (by rw[z];exact List.mem_cons_self ..)]
theorem Pj:∀(as:ai aq) (ts:ai (ai a6)) (H:Hp),as.length=ts.length->as.Nodup->xW (kY H as (ts.map λt=>t.map V.int)) (as.map V.ref) ts
 |[],[],H,_,_=>trivial
 |[],_::_,_,h,_=>by simp at h
 |_::_,[],_,h,_=>by simp at h
 |a::as,t::ts,H,hl,hn=>by
  rw[nZ]at hn;refine⟨⟨a,rfl,?_⟩,Pj as ts (upd H a (.tup (t.map V.int))) (by simpa using hl) hn.2⟩;show kY (upd H a (.tup (t.map V.int))) as _ a=_;rw[KD as _ _ hn.1,eA]
theorem ak0{td:TE}{p1 ag r c:cq}(hc:X.calm=au)(rB:Gl X "sorted")(rA:X.mg "sorted" = ak)(ho:PE X o td)
  (hs:az [.Call (.Attribute o "items" ag) [] [] c] X.env=[(ao,br (.Call (.Attribute o "items" ag) [] [] c) X.env)]:=by rfl)
  (gG:bw o "items" X.env (br o X.env)=br o X.env:=by rfl) (hZ:(ag.endLine==c.line)=au:=by rfl) :
  PE X (.Call (.Name "sorted" p1) [.Call (.Attribute o "items" ag) [] [] c] [] r) (λJ H Q=>td J H λx H1=>∃a kvs ts,x=.ref a/\H1 a=ah (.dK kvs)/\(kvs.map λB=>[kV B.1,B.2])=ts.map (λt=>t.map V.int)/\(∀t∈ts,t≠[])/\kvs.length<64 /\
   ∀(p:ai ay),DD ts p->∀(as:ai aq) (l:aq),as.length=kvs.length->as.Nodup->l∉as->(∀b∈as,H1 b=ak)->H1 l=ak->Q (.ref l) (upd (kY H1 as (kvs.map λB=>[kV B.1,B.2])) l (.lst (p.map λi=>(as.map V.ref).getD i .bQ)))):=by
 intro aa s J H Q I h;refine uY (tW I rB rA HP ?_);refine PyProof.Rows.callWith_builtin1 ?_ hs rfl;rw[hs];show wpAny _ _ (spliced ((ao,br (.Call (.Attribute o "items" ag) [] [] c) X.env)::[])) _ _ s;refine JD ?_;refine PZ gG hZ (bN (ho aa s J H _ I h) λv s1 ⟨x,H1,M,r1,r⟩=>?_);obtain⟨a,kvs,ts,rfl,S,Vp,dB,nU,q⟩:=r;cases r1;obtain⟨h1,h2,qZ⟩:=BW M (.inl ⟨kvs,.inl S⟩);obtain⟨z,_,vs,rel,G⟩:=zU M.aL S;refine⟨"dict", "dict.items",PySem.F.plainAttrs_dict,PySem.F.slot_dict_items,PySem.F.type_dict_items,h1,h2,JE rfl (PySem.evalArgs_none ?_)⟩;refine HM PySem.F.slot_dict_items G.typeIs PySem.F.entry_dict_items (PySem.F.args_dict_items_1 _) (meets_dict_items (gB X.prog X.w) a qZ) ⟨⟨vs,G⟩,?_⟩;refine PO ?_;have U:Inv X aa J H1 {s1 with heap:=s1.heap.push {cls:=.type "dict_items",data:=.fields #[.ref a]} }:=M.kept (t':=s1.toks) λb o e=>dD _ e;obtain⟨ep,uI⟩:=G.dictAt;have LY:kvs.length=vs.length:=rel.length;have hsz:(64:ay)<=a7:=by decide
 refine YG kind_sorted plain_sorted entry_sorted (args_sorted1 _) ?_;unfold Builtin.«sorted»;refine aJ (m:=checkCount "sorted" 1 1 _) (bG ?_);refine aJ (PySem.W.kdx_collect (knd:=gB X.prog X.w) (kvs:=vs) (ep:=ep) (A:=X.A.in1) (s:={s1 with heap:=s1.heap.push {cls:=.type "dict_items",data:=.fields #[.ref a]} }) (U.ok.hd hc) ⟨_,fW _ rfl,rfl,rfl⟩ (uI.push _) (by omega) λh' tk as R hl d=>?_);generalize lV:({s1 with heap:=s1.heap.push {cls:=.type "dict_items",data:=.fields #[.ref a]} }:ar)=n at U R d;have N:as.Nodup:=d.rise.imp λh=>dX h;have g:∀b∈as,n.heap.objs.size<=b:=λb hb=>XD (d.above b hb);have K:Inv X aa J H1 {n with heap:=h',toks:=tk}:=U.kept (t':=tk) R;have Vr:ts.length=kvs.length:=by have:=b7 List.length Vp;simpa using this.symm
 have I4:=ZL U as (kvs.map λB=>[kV B.1,B.2]) H1 K (by simp;omega) N (λb hb=>⟨g b hb,U.aL.fresh (g b hb)⟩) (λj b t f L=>by
  obtain⟨key,k,x,g1,g2,E⟩:=d.pairs j b f;rw[iZ]at L;cases D:kvs[j]? with
  |none=>rw[D]at L;cases L
  |some B =>
   rw[D]at L;cases L;obtain⟨wZ,T,g6,g7⟩:=SA rel D;rw[g1]at T;cases T;refine⟨by show 2<=a7;decide,[key,x],0,.cons (by rw[g6];exact TF g2) (.cons g7 .nil),E⟩)
 have hT:xW (kY H1 as (kvs.map λB=>[kV B.1,B.2])) (as.map V.ref) ts:=by rw[Vp];exact Pj as ts H1 (by omega) N
 have dZ:∀b∈as,b<h'.objs.size:=λb hb=>by
  obtain⟨j,hj⟩:=List.getElem?_of_mem hb;obtain⟨key,k,x,g1,g2,E⟩:=d.pairs j b hj;exact dE E
 have P:h'.objs.size∉as:=λw=>bz (dZ _ w) (Nat.lt_irrefl _);refine aJ (PV ?_ (by rw[fI];omega));have y:(h'.push (b0 "list" (as.map Value.ref).toArray 0)).get? h'.objs.size=ah (b0 "list" (as.map Value.ref).toArray 0):=fW _ rfl;have I5:Inv X aa J (kY H1 as (kvs.map λB=>[kV B.1,B.2])) {n with heap:=h'.push (b0 "list" (as.map Value.ref).toArray 0),toks:=tk}:=I4.kept (t':=tk) λb o e=>dD _ e;refine aJ (qQ (rW slot_list_sort ⟨_,y,rfl⟩ entry_list_sort (Ul y (Pl I5 (AZ as) hT) dB (by rw[fI];omega) λp C=>⟨_,rfl,?_⟩) (args_list_sort _)));refine bG ⟨_,rfl,?_⟩;have oV:∀i∈p,i<(as.map V.ref).length:=λi hi=>by
  have:=C.1.mem_iff.mp hi;rw[fI];have:=List.mem_range.mp this;omega
 have eE:p.length=as.length:=by rw[C.1.length_eq,abM];omega
 have hf:kY H1 as (kvs.map λB=>[kV B.1,B.2]) h'.objs.size=ak:=by rw[KD as _ _ P];exact K.aL.fresh cU
 obtain⟨f,sL⟩:∃f,((h'.push (b0 "list" (as.map Value.ref).toArray 0)).update h'.objs.size (Obj.mapSeq λ_=>#[])).get? h'.objs.size=ah (b0 "list" #[] f):=⟨_,GS y (λ_=>#[])⟩;have sJ:=dD (b0 "list" #[] 0) (dD (b0 "tuple" (as.map Value.ref).toArray 0) sL);obtain⟨L,MC⟩:∃L,(c8 (h'.push (b0 "list" (as.map Value.ref).toArray 0)) h'.objs.size (as.map Value.ref) (List.toArray (p.map λi=>(as.map Value.ref).getD i Value.none))).get? h'.objs.size=ah (b0 "list" (List.toArray (p.map λi=>(as.map Value.ref).getD i Value.none)) L):=⟨_,GS sJ (λ_=>List.toArray (p.map λi=>(as.map Value.ref).getD i Value.none))⟩;have kp:∀b u,h'.get? b=ah u->(c8 (h'.push (b0 "list" (as.map Value.ref).toArray 0)) h'.objs.size (as.map Value.ref) (List.toArray (p.map λi=>(as.map Value.ref).getD i Value.none))).get? b=ah u:=λb u e=>by
  have hb:b≠h'.objs.size:=dX (dE e);unfold c8;exact(pQ _ _ (cK hb)).trans (dD _ (dD _ ((pQ _ _ (cK hb)).trans (dD _ e))))
 refine⟨.ref h'.objs.size,_,I4.laid (t':=tk) (o:=.lst (p.map λi=>(as.map V.ref).getD i .bQ)) kp cU ?_,rfl,q p C as _ (by omega) N P (λb hb=>U.aL.fresh (g b hb)) (K.aL.fresh cU)⟩;exact⟨by rw[fI];omega,p.map (λi=>(as.map Value.ref).getD i Value.none),L,YW (AZ as) oV,MC⟩
theorem Vi{K:ba}{G:Hp}{O:ai aq}:∀{ws:ai (Key×V)} {kvs:ai (Key×A)} {ts:ai (ai a6)},ws.map (·.1)=kvs.map (·.1)->aX K G O (ws.map (·.2)) (kvs.map (·.2))->kvs.map lT=ts.map rD->(ws.map λz=>[kV z.1,z.2])=ts.map (λt=>t.map V.int)
 |[],[],[],_,_,_=>rfl
 |[],[],_::_,_,_,h=>by simp at h
 |[],_::_,_,h,_,_=>by simp at h
 |_::_,[],_,h,_,_=>by simp at h
 |_::_,_::_,[],_,_,h=>by simp at h
 |g::ws,z::kvs,t::ts,L,d,h=>by
  rw[cW,cW]at L d h;obtain⟨x,r,c,B,f⟩:=d.kZ;obtain⟨rfl,rfl⟩:=OG c;obtain⟨a,b⟩:=OG L;obtain⟨h1,h2⟩:=OG h;rw[cW,cW,Vi b f h2];congr 1;simp only[lT,rD,A.tup.injEq]at h1
  match t,h1 with
  |[],h1=>simp at h1
  |[_],h1=>simp at h1
  |[i,j],h1 =>
   simp only[cW,qL,IP,and_true]at h1 ⊢;obtain⟨q,e⟩:=h1;rw[e]at B;simp only[Den]at B;refine⟨?_,B⟩;rw[a];cases U:z.1 with
   |inl n=>rw[U]at q;simp only[kA,A.int.injEq]at q;rw[<-q];rfl
   |inr n=>rw[U]at q;simp[kA]at q
  |_::_::_::_,h1=>simp at h1
theorem ac2{es:ai bp}{m:a5}{tab:ai (a5×(ai A->Mo A))}{fo:Ev->Mo A}{fs:Ev->Mo (ai A)}{pos ag:cq}{pl:Sem bb}(U:bB X m tab)(z:VE X kH o fo)(ha:VA X kH (e::es) fs)
  (B:az (e::es) X.env=(ao,br e X.env)::az es X.env:=by rfl) (L:(b8 pos (az es X.env)).any (·.1)=ao:=by rfl)
  (ht:br (.Call (.Attribute o m ag) (e::es) [] pos) X.env=(do
   let j<-br o X.env
   standAt ag.atName
   let (f,first)<-c0 [j] (dj j m pl)
   callWith pos f first (b8 pos (az (e::es) X.env)) (dr pos (cx [] X.env))):=by rfl) :
  VE X kH (.Call (.Attribute o m ag) (e::es) [] pos) (bP m tab fo fs):=by
 obtain⟨a,p1,s1⟩:=z;obtain⟨t,p2,q⟩:=ha;exact⟨_,ak7 p1 p2 B L ht,Ag U s1 q⟩
end
noncomputable def del(G:Hp)(p:aq):Hp:=λb=>if b=p then ak else G b
section
variable{K:ba}{G H:Hp}{O:ai aq}{Z:aH}{p:aq}{ob:cj}{ws:ai (Key×V)}
theorem Ie{b:aq}(h:b≠p):del G p b=G b:=by unfold del;rw[a8 h]
theorem Yk:del G p p=ak:=by unfold del;rw[ax rfl]
theorem HH{b:aq}{o:HO}(j:G p=ah (.dW ob (.dK ws)))(h:G b=ah o)(q:o≠.dW ob (.dK ws)):del G p b=ah o:=by
 rw[Ie];exact h;intro e;subst e;rw[j]at h;cases h;exact q rfl
theorem HG{b:aq}(h:G b=ak):del G p b=ak:=by
 unfold del;split
 ·rfl
 ·exact h
mutual
theorem Den.del(j:G p=ah (.dW ob (.dK ws))):∀{v:V} {d:A},Den K G O v d->Den K (del G p) O v d
 |_,.int _,h=>by simpa only[Den]using h
 |_,.bl _,h=>by simpa only[Den]using h
 |_,.str _,h=>by simpa only[Den]using h
 |_,.bQ,h=>by simpa only[Den]using h
 |_,.ty _,h=>by simpa only[Den]using h
 |_,.adr _,h=>by simpa only[Den]using h
 |_,.xN _ _ _ _,h=>by
  simp only[Den]at h ⊢;exact⟨h.1,HH j h.2 (by intro w;cases w)⟩
 |_,.gl _,h=>by simpa only[Den]using h
 |_,.iU _,h=>by
  simp only[Den]at h ⊢;obtain⟨a,h1,h2⟩:=h;refine⟨a,h1,?_⟩
  rcases h2 with(q|⟨o,q⟩)|q
  ·exact .inl (.inl (HH j q (by intro w;cases w)))
  ·exact .inl (.inr ⟨o,HH j q (by intro w;cases w)⟩)
  ·exact .inr q
 |_,.tup ds,h=>by
  simp only[Den]at h ⊢;obtain⟨a,xs,h1,h2,z⟩:=h;exact⟨a,xs,h1,HH j h2 (by intro w;cases w),aX.del j z⟩
 |_,.lst ds,h=>by
  simp only[Den]at h ⊢;obtain⟨a,xs,h1,h2,z⟩:=h;exact⟨a,xs,h1,HH j h2 (by intro w;cases w),aX.del j z⟩
 |_,.aB k,h=>by simpa only[Den]using h
theorem aX.del(j:G p=ah (.dW ob (.dK ws))):∀{xs:ai V} {ds:ai A},aX K G O xs ds->aX K (del G p) O xs ds
 |_,[],h=>by simpa only[aX]using h
 |_,d::ds,h=>by
  simp only[aX]at h ⊢;obtain⟨x,r,h1,h2,q⟩:=h;exact⟨x,r,h1,Den.del j h2,aX.del j q⟩
end
theorem iM.del(j:G p=ah (.dW ob (.dK ws))){u:HO}{v:V}{fd:Fd}(h:iM K G O H v fd):iM K (del G p) O (upd H p u) v fd:=by
 have nb:∀b,G b=ak->b≠p:=λb z e=>by subst e;rw[j]at z;cases z
 cases fd with
 |val a=>exact Den.del j h
 |lst ds =>
  obtain⟨b,xs,h1,h2,L,B,q⟩:=h;exact⟨b,xs,h1,HG h2,L,by rw[bH (nb b h2)];exact B,aX.del j q⟩
 |aQ U =>
  obtain⟨b,c,h1,h2,L,B,q,d⟩:=h;exact⟨b,c,h1,HG h2,L,by rw[bH (nb b h2)];exact B,q,aX.del j d⟩
theorem pC.del(j:G p=ah (.dW ob (.dK ws))){u:HO}{a:aq}{c:Cell}(h:pC K G O H a c)(ha:a≠p):pC K (del G p) O (upd H p u) a c:=by
 cases c with
 |lst ds=>obtain⟨g,xs,h1,h2⟩:=h;exact⟨HG g,xs,by rw[bH ha];exact h1,aX.del j h2⟩
 |aQ d=>obtain⟨g,z,h1,h2,B⟩:=h;exact⟨HG g,z,by rw[bH ha];exact h1,h2,aX.del j B⟩
 |ins cls fs=>obtain⟨g,C,f,z,h0,h1,h2⟩:=h;exact⟨HG g,C,f,z,h0,by rw[bH ha];exact h1,h2.map λ_ _ q=>q.del j⟩
 |tab x pos af =>
  obtain⟨g,e,ps,h1,h2,B⟩:=h;exact⟨HG g,e,ps,by rw[bH ha];exact h1,h2,B.imp id λ⟨i,oc,vs,t,b,U,L⟩=>⟨i,oc,vs,t,b,HH j U (by intro w;cases w),L⟩⟩
 |dead=>trivial
theorem Wd.ad7{k:ay}{kvs:ai (Key×A)}(w:Wd K G O Z H)(f:G p=ah (.dW ob (.dK ws)))(L:O[k]?=ah p)(hd:Z[k]?=ah .dead)(h1:ws.map (·.1)=kvs.map (·.1))(h2:aX K G O (ws.map (·.2)) (kvs.map (·.2))):Wd K (del G p) O (Z.set k (.aQ kvs)) (upd H p (.dK ws))where
 sub:=λb u h=>by
  have hb:b≠p:=λe=>by subst e;rw[Yk]at h;cases h
  rw[Ie hb]at h;rw[bH hb];exact w.sub _ _ h
 inj:=w.inj
 len:=by rw[vZ];exact w.len
 live:=λb hb=>by
  by_cases e:b=p
  ·subst e;exact⟨_,eA⟩
  ·rw[bH e];exact w.live b hb
 aB:=λj c b B z=>by
  by_cases q:j=k
  ·subst q;rw[L]at z;cases z;rw[fJ (cX.mp hd).1]at B;cases B;exact⟨Yk,ws,eA,h1,aX.del f h2⟩
  ·rw[eW (cK q)]at B;exact(w.aB j c b B z).del f λe=>by subst e;exact q (zE w.inj z L)
 sep:=λb j i r s B z=>by
  have back:∀{j i},iJ (upd H p (.dK ws)) O (Z.set k (.aQ kvs)) j i b->iJ H O Z j i b:=λ{j i} h=>by
   have h0:=h;obtain⟨v,cls,fs,C,t,o,g,h',fd,d,a,U,n,m,l⟩:=h
   by_cases q:j=k
   ·subst q;exact(h0.no (fJ (cX.mp hd).1) rfl).elim
   ·rw[eW (cK q)]at a;rw[bH (λe=>by subst e;exact q (zE w.inj d L))]at U;exact⟨v,cls,fs,C,t,o,g,h',fd,d,a,U,n,m,l⟩
  exact w.sep b j i r s (back B) (back z)
end
theorem agK{K:ba}{W:WX}{tg:TG}{tb:TS}{g:A->MS}{b:MS}(hg:HX K W tg g)(hb:rP K W tb b){C:Hp}{U:ai aq}{Z1:aH}{H1:Hp}{J:L2.St}{Y:Ev}{D:Ends}{σ:It}{S:Src}
  (w1:Wd K C U Z1 H1) (r1:fT K C U J Y) (Q:DP K C U σ S) (h1:eL K W C U D (eO S.ok g b S.ds Y Z1)):ZT (λ_ _ R=>R σ H1) tg tb D J H1:=by
 refine⟨λi m J' H'=>m=S.ds.length-i/\i<=S.ds.length/\∃s B L f,Ext C U s B/\Wd K s B L H'/\fT K s B J' f/\eL K W s B D (eO S.ok g b (S.ds.drop i) f L),
  ⟨_,rfl,IA _,C,U,Z1,Y,Ext.refl _ _,w1,r1,by simpa using h1⟩,?_⟩
 rintro i m J' H' ⟨rfl,Wg,s,B,L,f,I,N,V,h'⟩;have aL:=Xq h'
 by_cases dZ:i<S.ds.length
 ·right
  refine⟨Q.go s B L H' I N aL i dZ,λF M=>∃E o H G,Ext C U E o/\Wd K E o H M/\fT K E o F G/\eL K W E o D (eO S.ok g b (S.ds.drop (i+1)) G H),λF M n=>?_,λx M y=>?_⟩
  ·exact⟨S.ds.length-(i+1),by omega,rfl,dZ,n⟩
  ·obtain⟨E,p,w2,d2⟩:=Q.yM s B L H' I N aL i x M S.ds[i] (lI dZ) y;rw[abN dZ]at h';unfold eO at h';rw[ax aL]at h';refine hg E B L M J' f x S.ds[i] {D with nx:=λt T=>tb _ t T} w2 (V.ext p) d2 ?_
   revert h'
   generalize g S.ds[i] f L=q;intro h'
   match q,h' with
   |some (.nx,u,v),h' =>
    intro t T G3 P w X r3;refine hb G3 P v T t u _ X r3 ?_;simp only at h'
    revert h'
    generalize b u v=q2;intro h'
    match q2,h' with
    |some (.nx,c,d),h'=>exact λz r l j e h k=>⟨l,j,d,c,(I.trans (p.trans w)).trans e,h,k,eL.ext h' ((p.trans w).trans e)⟩
    |some (.ct,c,d),h'=>exact λz r l j e h k=>⟨l,j,d,c,(I.trans (p.trans w)).trans e,h,k,eL.ext h' ((p.trans w).trans e)⟩
    |some (.bk,c,d),h'=>exact λz r l j e h k=>h' z r l j ((p.trans w).trans e) h k
    |some (.ret a,c,d),h'=>exact λz r l j e h k=>h' z r l j ((p.trans w).trans e) h k
    |some (.exc a,c,d),h'=>exact λz r l j e h k=>h' z r l j ((p.trans w).trans e) h k
   |some (.exc a,u,v),h'=>exact λz r l j e h k=>h' z r l j (p.trans e) h k
 ·have MI:i=S.ds.length:=by omega
  subst MI
  left
  rw[List.drop_length]at h';unfold eO at h';rw[ax aL]at h';exact⟨Q.stop s B L H' I N aL _ cU,tQ N V h'⟩
noncomputable def ZP(k:ay)(kvs:ai (Key×A)):OS->OS
 |some (.exc _,_,_)=>ak
 | some (o,Y',Z')=>(match Z'[k]? with
  |some .dead=>ah (o,Y',Z'.set k (.aQ kvs))
  | _=>ak)
 |none=>ak
@[simp] noncomputable def KY(i:ay)(g:A->MS)(b:MS):MS:=λY Z=>match (Y[i]?).join with
 | some a=>(match fL Z a with
  |some (k,kvs)=>ZP k kvs (eO (λ_=>True) g b (kvs.map lT) Y (Z.set k .dead))
  | none=>ak)
 |none=>ak
theorem ad6{K:ba}{W:WX}{G m:Hp}{O q:ai aq}{D:Ends}{k:ay}{kvs:ai (Key×A)}{r:OS}{p:aq}{ob:cj}{ws:ai (Key×V)}(h:eL K W G O D (ZP k kvs r))(e:Ext G O m q)(I:G p=ak)(n:m p=ah (.dW ob (.dK ws)))(H:q[k]?=ah p)(F:ws.map (·.1)=kvs.map (·.1))(E:aX K m q (ws.map (·.2)) (kvs.map (·.2))):eL K W m q (Pu p D) r:=by
 match r,h with
 |some (o,L,U),h =>
  intro J' H' s B c t w;have g:=c.same _ _ n;have pZ:=c.pre _ _ H;have l:H' p=ah (.dW ob (.dK ws)):=t.sub _ _ g;have ex:Ext G O (del s p) B:=⟨λb u z=>by
   have hb:b≠p:=λy=>by subst y;rw[I]at z;cases z
   rw[Ie hb];exact c.same _ _ (e.same _ _ z),λj x z=>c.pre _ _ (e.pre _ _ z)⟩
  have C:fT K (del s p) B J' L:=⟨w.1,λi d z=>let ⟨v,P,N⟩:=w.2 i d z; ⟨v,P,N.del g⟩⟩;have main:∀f:Out,(∀x,f≠.exc x)->eL K W G O D (match U[k]? with|some .dead=>ah (f,L,U.set k (.aQ kvs))|_=>ak)->aa8 K W (del s p) B D J' (upd H' p (.dK ws)) f:=λf _ h2=>by
   split at h2
   ·rename_i hd;exact h2 J' _ _ B ex (t.ad7 g pZ hd F (E.ext c)) C
   ·exact h2.elim
  cases o with
  |nx=>exact⟨ob,ws,l,main .nx (λ_ z=>by cases z) h⟩
  |bk=>exact⟨ob,ws,l,main .bk (λ_ z=>by cases z) h⟩
  |ct=>exact⟨ob,ws,l,main .ct (λ_ z=>by cases z) h⟩
  |ret a=>exact λv M=>⟨ob,ws,l,main (.ret a) (λ_ z=>by cases z) h v (M.del g)⟩
  |exc x=>exact h.elim
theorem acS{X:Cx}{W:WX}{o:bp}{i:ay}{elts:ai bp}{j:ay}{E ag q pos:cq}{body:ai bo}{g:A->MS}{b:MS}(n:PassesOwn (bc X.prog X.w) X.A X.env X.xe)(hc:X.calm=au)(ho:VE X W o (dO i))(hg:VG X W (.Tuple elts j E) g)(hb:fN X W body b)
  (gG:bw o "items" X.env (br o X.env)=br o X.env:=by rfl) (hZ:(ag.endLine==q.line)=au:=by rfl)
  (hs:∀x,cb (.Call (.Attribute o "items" ag) [] [] q) X.env x=pure x:=by intro _;rfl):VS X W (.For (.Tuple elts j E) (.Call (.Attribute o "items" ag) [] [] q) body [] pos) (KY i g b):=by
 obtain⟨N,p1,s1⟩:=ho;obtain⟨t2,p2,Q⟩:=hg;obtain⟨t3,p3,P⟩:=hb;refine⟨_,aj8 (Sn n hc (Ss p1 gG hZ) p2 p3 hs),λG u d H J U D w r h=>?_⟩;unfold KY at h;cases L:(U[i]?).join with
 |none=>rw[L]at h;exact h.elim
 |some a =>
  rw[L]at h;simp only at h;cases ed:fL d a with
  |none=>rw[ed]at h;exact h.elim
  |some T =>
   obtain⟨k,m⟩:=T;rw[ed]at h;simp only at h;obtain⟨v0,V,t⟩:=r.2 i a (join_some L);obtain⟨p,e,_,hk,hG,hH,_,_⟩:=sT w t ed;refine⟨p,e,hH,?_⟩;show N J H _;refine s1 G u d H J U _ w r ?_;show bR X.K (Den X.K) W G u J _ (need (U[i]?).join d);rw[L];intro v H1 I z j C d1;obtain⟨l,f,rfl,B,s,R,q,F⟩:=sT C d1 ed;have ep:l=p:=by have:=j.pre _ _ hk;rw[B]at this;cases this;rfl
   subst ep;refine⟨l,f,rfl,R,λob=>?_⟩;have M:=C.put (k:=k) (c:=.dead) (o:=.dW ob (.dK f)) B s trivial;have y:=M.freeze B s eA;rw[qJ]at y;have e0:Ext I z (upd I l (.dW ob (.dK f))) z:=Ext.new s _;exact agK (S:=FZ m) Q P y ((r.ext j).ext e0) (Vh eA q (F.ext e0)) (ad6 h (j.trans e0) hG eA B q (F.ext e0))
end V2
namespace V2
open PySem PySem.Spec PyProof.Rows L2 KS
@[simp] def iG(cs:ai a5)(i:ay)(f:a5)(k:ai (Key×A)->Mo A):Ev->Mo A:=λY Z=>match pV cs i f Y Z with
 |some (_,_,_,.aQ kvs)=>k kvs Z
 |_=>ak
section
variable{X:Cx}{W:WX}{e:bp}{i:ay}{f:a5}{cs:ai a5}{iY:cq}
theorem JW{te:TE}{k:ai (Key×A)->Mo A}{R:V->Hp->VK->Prop}(s:fR X.K (Den X.K) W te (dO i))(g:bY X.K cs f)
  (e:∀G O Z H J b vs kvs Q,Wd X.K G O Z H->H b=ah (.dK vs)->vs.map (·.1)=kvs.map (·.1)->aX X.K G O (vs.map (·.2)) (kvs.map (·.2))->bR X.K (Den X.K) W G O J Q (k kvs Z)->R (.ref b) H Q) :
  fR X.K (Den X.K) W (λJ H Q=>Qb X.K te f J H λx H1=>R x H1 Q) (iG cs i f k):=by
 intro G O Z H J q Q w r h;unfold iG at h;split at h
 ·rename_i N cls fs kvs eo;obtain⟨h1,h2,p,o⟩:=Td eo;show te J H _;refine s G O Z H J q _ w r ?_;show bR X.K (Den X.K) W G O J _ (need (q[i]?).join Z);rw[h1];intro v H1 M j L z I;obtain⟨a,C,F,U,rfl,ha,P,t,m,n⟩:=z.ins h2 I;obtain⟨C',B,d,c⟩:=g cls p;rw[t]at B;cases B;obtain⟨u,l,b,vs,rfl,T,S,E,D,y⟩:=n.look o;exact⟨a,C,F,U,.ref b,rfl,m,d,c,l,e M j Z H1 J b vs kvs Q z E D y (h.ext L)⟩
 ·exact h.elim
theorem Ot{p1 q:cq}(he:VE X W e (dO i))(L:bY X.K cs f)(B:Gl X "len")(hm:X.mg "len" = ak)
  (hb:bw e f X.env (br e X.env)=br e X.env:=by rfl)
  (hs:az [.Attribute e f iY] X.env=(ao,br (.Attribute e f iY) X.env)::az [] X.env:=by rfl) :
  VE X W (.Call (.Name "len" p1) [.Attribute e f iY] [] q) (iG cs i f λkvs=>ret (.int kvs.length)):=by
 obtain⟨t,p,s⟩:=he;refine⟨_,RZ aAH B hm PySem.boot_len (wV (FI p hb) wU hs) (by decide) (by decide) hs rfl,?_⟩;refine JW (R:=λx H Q=>∃a kvs,[x]=[V.ref a]/\H a=ah (.dK kvs)/\Q (.int kvs.length) H) s L λG j U H J b vs kvs Q w hb z c h=>?_;have hl:vs.length=kvs.length:=by have:=b7 List.length z;simpa using this
 exact⟨b,vs,rfl,hb,h _ H G j (Ext.refl _ _) w (by simp only[Den];rw[hl])⟩
theorem ac8(c:bb){p1 q:cq}(U:X.calm=au)(he:VE X W e (dO i))(L:bY X.K cs f)(B:Gl X "list")(hm:X.mg "list" = ak)
  (hb:bw e f X.env (br e X.env)=br e X.env:=by rfl)
  (hs:az [.Attribute e f iY] X.env=(ao,br (.Attribute e f iY) X.env)::az [] X.env:=by rfl) :
  VE X W (.Call (.Name "list" p1) [.Attribute e f iY] [] q) (iG cs i f λkvs=>jD c (kvs.map λj=>kA j.1)):=by
 obtain⟨t,p,s⟩:=he;refine⟨_,RY (aAE U) B hm WZ (wV (FI p hb) wU hs) (by decide) (by decide) hs rfl,?_⟩;refine JW (R:=λx H Q=>∃(a:aq) (kvs:ai (Key×V)),[x]=[V.ref a]/\H a=ah (.dK kvs)/\∀l,H l=ak->Q (.ref l) (upd H l (.lst (kvs.map λj=>kV j.1)))) s L λG d g H J b vs kvs Q w hb z k h=>?_;exact⟨b,vs,rfl,hb,λl hl=>pY w hl (Ib z) h⟩
theorem Ou(c:bb){p1 ag g q:cq}(C:X.calm=au)(he:VE X W e (dO i))(r:bY X.K cs f)(o:Gl X "list")(hm:X.mg "list" = ak)
  (hb:bw e f X.env (br e X.env)=br e X.env:=by rfl)
  (hs:az [.Call (.Attribute (.Attribute e f iY) "items" ag) [] [] q] X.env=[(ao,br (.Call (.Attribute (.Attribute e f iY) "items" ag) [] [] q) X.env)]:=by rfl)
  (v:bw (.Attribute e f iY) "items" X.env (br (.Attribute e f iY) X.env)=br (.Attribute e f iY) X.env:=by rfl) (u:(ag.endLine==q.line)=au:=by rfl) :
  VE X W (.Call (.Name "list" p1) [.Call (.Attribute (.Attribute e f iY) "items" ag) [] [] q] [] g) (iG cs i f λkvs=>jD c (kvs.map lT)):=by
 obtain⟨t,p,s⟩:=he;refine⟨_,Sz C o hm (FI p hb) hs v u,?_⟩;refine JW (R:=λx z Q=>∃a kvs,x=.ref a/\z a=ah (.dK kvs) /\
   ∀(j:ai aq) (l:aq),j.length=kvs.length->j.Nodup->l∉j->(∀b∈j,z b=ak)->z l=ak->Q (.ref l) (upd (kY z j (kvs.map λB=>[kV B.1,B.2])) l (.lst (j.map V.ref)))) s r λG L D H J b vs kvs Q w hb n m h=>?_
 refine⟨b,vs,rfl,hb,λj l hl hn k hb d=>?_⟩;obtain⟨E,y,U,A⟩:=QN j vs kvs G H L w hl hn hb n m;exact pY U (by rw[KD j _ _ k];exact d) A (h.ext y)
@[simp] def MZ(c:bb)(kvs:ai (Key×A)):Mo A:=λZ=>match yT (kvs.map lT)with
 |some ts=>if ts.length<64 then jD c ((pH ts).map rD) Z else ak
 |none=>ak
theorem ac7(c:bb){p1 ag v L:cq}(N:X.calm=au)(he:VE X W e (dO i))(D:bY X.K cs f)(C:Gl X "sorted")(hm:X.mg "sorted" = ak)
  (hb:bw e f X.env (br e X.env)=br e X.env:=by rfl)
  (hs:az [.Call (.Attribute (.Attribute e f iY) "items" ag) [] [] L] X.env=[(ao,br (.Call (.Attribute (.Attribute e f iY) "items" ag) [] [] L) X.env)]:=by rfl)
  (F:bw (.Attribute e f iY) "items" X.env (br (.Attribute e f iY) X.env)=br (.Attribute e f iY) X.env:=by rfl) (E:(ag.endLine==L.line)=au:=by rfl) :
  VE X W (.Call (.Name "sorted" p1) [.Call (.Attribute (.Attribute e f iY) "items" ag) [] [] L] [] v) (iG cs i f (MZ c)):=by
 obtain⟨t,p,s⟩:=he;refine⟨_,ak0 N C hm (FI p hb) hs F E,?_⟩;refine JW (R:=λx U Q=>∃a j z,x=.ref a/\U a=ah (.dK j)/\(j.map λB=>[kV B.1,B.2])=z.map (λt=>t.map V.int)/\(∀t∈z,t≠[])/\j.length<64 /\
   ∀(p:ai ay),DD z p->∀(q:ai aq) (l:aq),q.length=j.length->q.Nodup->l∉q->(∀b∈q,U b=ak)->U l=ak->Q (.ref l) (upd (kY U q (j.map λB=>[kV B.1,B.2])) l (.lst (p.map λi=>(q.map V.ref).getD i .bQ)))) s D λG o P H J b vs j Q w hb d k h=>?_
 unfold MZ at h;split at h
 ·rename_i z I;split at h
  ·rename_i S;obtain⟨g,dB⟩:=ZH I;have BY:vs.length=j.length:=by have:=b7 List.length d;simpa using this
   have T:z.length=j.length:=by have:=b7 List.length g;simpa using this.symm
   refine⟨b,vs,z,rfl,hb,Vi d k g,dB,by omega,λy m q l hl hn A hb u=>?_⟩;obtain⟨G',M,r,n⟩:=QN q vs j G H o w hl hn hb d k;rw[g]at n;have dp:=Hz n (p:=y) λi hi=>by have:=m.1.mem_iff.mp hi;simpa using this
   rw[Ql m]at dp;exact pY r (by rw[KD q _ _ A];exact u) dp (h.ext M)
  ·exact False.elim h
 ·exact False.elim h
end
theorem Zr{K:ba}{mg:a5->av aj}{h:bu}{j m q:a5}{st:bo}{R f:aq}{oc:aj}{od an:av aq}{gY:bf (av aj)}{kV doc pm aS ct:aj}(X:K.In h)(G:h.Ns aw mg)(n:cc K aw j=ah (ah (.ref R)))
  (r:PySem.W.readsIn K R (.type "type")=au) (fi:PySem.W.findCls K (.ref R) (.type "type") m=ah (.val (.ref f))) (ga:specialIn K (.ref R) "__getattribute__" = ah (ah (.builtin "type.__getattribute__")))
  (l:K.lookup f=ah ⟨oc,od,.func (fnOf m q (kO st) (eZ st) (aY st) .none kV doc pm an aS ct),gY⟩) (c:codeIn K aS q=au) (k:keepIn K (.ref f)=au):OO K mg j m q st :=
 ⟨R,f,_,mg_of X G n,⟨r,fi,ga,k⟩,ND l c k⟩
theorem aaG(a:A)(ha:cO 7 a=au):∀(ds:ai A),ds.all (cO 7)=au->((ds.map (toPy 7)).any λy=>PyData.eqv y (toPy 7 a))=ds.any λd=>gH 7 d a
 |[],_=>rfl
 |d::ds,h=>by
  simp only[Mg,lK]at h;simp only[cW,OH];rw[ZN 7 d a h.1 ha,aaG a ha ds h.2]
def Rt(K:ba)(neg:bb):R2:=λx y H Q=>∃O a ds,cO 7 a=au/\cO 8 (.lst ds)=au/\Den K H O x a/\Den K H O y (.lst ds)/\Q (.bl (if neg then !(ds.any λd=>gH 7 d a)else ds.any λd=>gH 7 d a)) H
theorem al0{X:Cx}(f:X.A.units+64<dw):iE X (b1 .NotIn) (Rt X.K au):=by
 intro aa s J H x y v u Q I B z h;obtain⟨e,a,ds,h1,h2,c,b,q⟩:=h;obtain⟨i,U⟩:=FF I 7 x v a h1 c B;obtain⟨bs,L⟩:=FF I 8 y u (.lst ds) h2 b z;have g:=ZO 7 a;have j:ds.all (cO 7)=au:=h2;refine SeqAt.notIn_list_reads (xs:=ds.map (toPy 7)) L U (VO ds 7 (λd _=>EV 7 d) j) (EV 7 a h1) (by omega) ?_;rw[aaG a h1 ds j];exact⟨.bl (!(ds.any λd=>gH 7 d a)),H,I,rfl,q⟩
def GU(neg:bb)(a b:A):Mo A:=λZ=>match res Z 6 a,res Z 6 b with
 |some x,ah (.lst ds)=>if(cO 7 x&&cO 8 (.lst ds))=au then ah (.ok (.bl (if neg then !(ds.any λd=>gH 7 d x)else ds.any λd=>gH 7 d x)),Z)else ak
 |_,_=>ak
theorem alW{K:ba}{W:WX}{neg:bb}:xX K W (Rt K neg) (GU neg):=by
 intro G q d H J x y a b Q w c U h;unfold GU at h;split at h
 ·rename_i z ds L B;split at h
  ·rename_i j;simp only[lK]at j;exact⟨q,z,ds,j.1,j.2,RS w 6 x a z c L,RS w 6 y b _ U B,h _ H G q (Ext.refl _ _) w (by simp only[Den])⟩
  ·exact False.elim h
 ·exact False.elim h
theorem amV{X:Cx}{W:WX}(j:X.A.units+64<dw):mO X W (b1 .NotIn) (GU au):=⟨_,al0 j,alW⟩
end V2
namespace M
open PySem V2
noncomputable section
def Jv:MS :=
 (bO (dF ["Often"] "many" aM))
def yH:ai A->Mo A:=cF 1 Jv
def Jr:MS :=
 (bO (dF ["Often"] "taken" aM))
def yG:ai A->Mo A:=cF 1 Jr
def Zx:Ev->Mo A :=
 (mD ao 1 [] (fY aM) (gN 0) uW (aD bM aM cJ))
def Zw:Ev->Mo A :=
 (mD ao 1 [2] (fY aM) (gN 0) (bK (aD lF (aD bM aM cJ) aW)) (mY (aC (aD bM aM cM) (aC (aD (qA) (aD bM aM cJ) aW) a0))))
def VX:MS :=
 (aT (bZ cM (gN 2))
  (aT (dQ (bK (aD lF (aR qB (aC aM a0)) aW))
   (bZ (aD bM (Pe ao Zx) aW) (gN 2))
   eG)
  (bO (mY (aC (aR (UP ao) (aC Zw a0)) (aC bX a0))))))
def OR:ai A->Mo A:=cF 3 VX
def WL:MS :=
 (wO 0 "tally" (pT (aD bV (iO (dF ["Often"] "tally" aM) aW cM) bX) (dF ["Often"] "tally" aM) aW))
def PB:ai A->Mo A:=cF 3 WL
def WK:MS :=
 (bO (iG ["Often"] 0 "tally" (MZ au)))
def DY:ai A->Mo A:=cF 1 WK
def Kd:MS :=
 (bO (iG ["Often"] 0 "tally" λkvs=>jD ao (kvs.map λj=>kA j.1)))
def wD:ai A->Mo A:=cF 1 Kd
def Kc:MS :=
 (bO (dF ["Often"] "lost" aM))
def mR:ai A->Mo A:=cF 1 Kc
def Ke:MS :=
 (aT (wO 0 "tally" (bZ (iO (dF ["Often"] "tally" aM) aW cM) (gN 2)))
  (bO (mY (aC bX (aC (aD bV bX (dF ["Often"] "lost" aM)) a0)))))
def DZ:ai A->Mo A:=cF 3 Ke
def DA:MS :=
 (bO (aD bM (fZ ao (aC cJ (aC cJ (aC cJ (aC (aD bV cJ (aD (fH) (aD (lG) aM QA) pE)) (aC (aD bV cJ (aD (fH) (aD (lG) aM QA) oI)) (aC (aD bV cJ (aD (fH) (aD (lG) aM QA) (cI 1000000))) a0))))))) (aD (fH) aM QA)))
def yE:ai A->Mo A:=cF 1 DA
def HQ:MS :=
 (aT (dQ (bK (aD iC aW cM))
   (bO (aD (fH) aM YN))
   eG)
  (aT (dQ (bK (aD iC aW cJ))
   (bO (aD (sO) (aD (fH) aM pE) (aD (fH) (aD (lG) aM pE) (cI 14))))
   eG)
  (aT (dQ (bK (aD iC aW yO))
   (bO (aD (qA) (aD (fH) aM (cI 60)) (cI 30)))
   eG)
  (bO (aD bM (fZ ao (aC (aD (fH) aM pE) (aC (aD (sO) (aD (qA) (aD (fH) (aD (lG) aM JT) (cI 1999)) (cI 999)) (aD (xJ) yP (cI 15))) a0))) (aR Gz (aC (aD iC (aD (fH) aM JT) cM) a0)))))))
def AI:ai A->Mo A:=cF 2 HQ
def Jx:MS :=
 (bO (aR qB (aC (bP "kept" [("Often",bI 1 [] wD)] aM a0) a0)))
def OY:ai A->Mo A:=cF 1 Jx
def WG:MS :=
 (bO (QH au (bP "kept" [("Often",bI 1 [] wD)] aM a0)))
def IY:ai A->Mo A:=cF 1 WG
def NU:MS :=
 (dQ (bK (aD lF (iG ["Often"] 0 "tally" λkvs=>ret (.int kvs.length)) (dF ["Often"] "keep" aM)))
   (aT (bZ (aR (cA 2 OR) (aC (iG ["Often"] 0 "tally" λkvs=>jD ao (kvs.map lT)) (aC (dF ["Often"] "keep" aM) a0))) (gN 1))
   (aT (vE ["Often"] 0 "tally" (aR xK (aC (aD bM aW cM) a0)))
   (jQ ["Often"] "lost" aM (aD bV (dF ["Often"] "lost" aM) (aD bM aW cJ)))))
   eG)
def OZ:ai A->Mo A:=cF 2 NU
def WD:MS :=
 (aT (bZ (bP "counted" [("Often",bI 2 [] DZ)] aM (aC cH a0)) (gN 5))
  (aT (dQ (gV (jK (bK (aR CM (aC fP (aC (cT "tuple") a0))))) (gV (bK (aD gA (aR qB (aC fP a0)) yO)) (gV (jK (bK (aR (cA 1 yD) (aC (aD bM fP cM) a0)))) (jK (bK (aR (cA 1 yD) (aC (aD bM fP cJ) a0)))))))
   (bO (cB ao))
   eG)
  (aT (bZ (iO aW cH cM) (gN 6))
  (aT (dQ (bK (aD gA fP (mY (aC eR (aC (aR sP (aC dG (aC (aD bV eR (bP "off" [("Often",bI 1 [] mR)] aM a0)) a0))) a0)))))
   (bO (cB ao))
   eG)
  (bO (KC NB NB (aD bM fP cM) (iO bX cH cM) (aD bM fP cJ)))))))
def OU:ai A->Mo A:=cF 7 WD
def Jz:MS :=
 (aT (gW (bP "count_in" [("Often",bI 3 [] PB)] aM (aC aW (aC bX a0))))
  (gW (bP "cut_down" [("Often",bI 1 [] OZ)] aM a0)))
def YB:ai A->Mo A:=cF 3 Jz
def Kb:Ev->Mo A :=
 (mD ao 1 [0,1] (fY (bP "numbers" [("Often",bI 1 [] IY)] aM a0)) (gN 0) (bK (aD GW (aD bM (bP "counted" [("Often",bI 2 [] DZ)] aW (aC aM a0)) cJ) bX)) aM)
def WJ:MS :=
 (bO Kb)
def YC:ai A->Mo A:=cF 2 WJ
def Jm:MS :=
 (aT (dQ (gV (jK (bK (aR CM (aC dG (aC (cT "tuple") a0))))) (gV (bK (aD gA (aR qB (aC dG a0)) yO)) (gV (jK (bK (aR (cA 1 yD) (aC (aD bM dG cM) a0)))) (jK (bK (aR (cA 1 yD) (aC (aD bM dG cJ) a0)))))))
    (bO cN)
    eG)
   (dQ (bK (aD uK (aD bM dG cJ) cJ))
    (bO cN)
    eG))
def aaC:Ev->Mo A :=
 (mD ao 2 [] (fY cH) (nE 2 (fV (gN 0) (fV (gN 1) nV))) uW aM)
def WB:Ev->Mo A :=
 (mD ao 2 [] (fY cH) (nE 2 (fV (gN 0) (fV (gN 1) nV))) uW aW)
def WC:MS :=
 (aT (bZ (bP "counts" [("Often",bI 1 [] DY)] aM a0) (gN 3))
  (aT (dQ (gV (jK (bK (aR CM (aC cH (aC (cT "list") a0))))) (gV (bK (aD gA cH (aR (UP ao) (aC cH a0)))) (bK (aD lF (aR qB (aC cH a0)) aW))))
   (bO cN)
   eG)
  (aT (pI (fY cH) (gN 4) Jm)
  (aT (bZ aaC (gN 5))
  (aT (bZ (bP "off" [("Often",bI 1 [] mR)] aM a0) (gN 6))
  (aT (dQ (gV (bK (aD gA (KA fP) (aR qB (aC fP a0)))) (gV (jK (bK (aR (cA 1 yD) (aC eR a0)))) (bK (aD uK eR cM))))
   (bO cN)
   eG)
  (aT (dQ (bK (aD lF (aD bV (aD (sO) eR (aD bV aW cJ)) (aR nF (aC WB a0))) bX))
   (bO cN)
   eG)
  (aT (dQ (gV (bK (aD gA (bP "held" [("Often",bI 1 [] OY)] aM a0) (aR qB (aC cH a0)))) (gV (bK (aD gA (bP "numbers" [("Often",bI 1 [] IY)] aM a0) fP)) (bK (aD gA (bP "length" [("Often",bI 1 [] yH)] aM a0) bX))))
   (bO cN)
   eG)
  (bO (aR xK (aC cH a0)))))))))))
def Mr:ai A->Mo A:=cF 7 WC
def Jh:Ev->Mo A :=
 (mD ao 1 [1,3,4,6] (fY (aR (NA ao) (aC (vC ao aW) a0))) (gN 0) (bK (aD GW (aR sP (aC cH (aC (aD bV (aD xM aW aM) dG) a0))) bX)) aM)
def VZ:MS :=
 (dQ (tK (bK (aD GW rZ cH)) (tK (bK (aD lF rZ eR)) (bK (aD (GU au) tF fP))))
    (bO (cB ao))
    eG)
def WA:MS :=
 (aT (bZ (bP "often" [("Often",bI 2 [] YC)] aM (aC cH a0)) (gN 5))
  (aT (bZ (bP "off" [("Often",bI 1 [] mR)] aM a0) (gN 6))
  (aT (dQ (bK (aD gA fP Jh))
   (bO (cB ao))
   eG)
  (aT (KY 2 (nE 2 (fV (gN 7) (fV (gN 8) nV))) VZ)
  (bO (cB au))))))
def XY:ai A->Mo A:=cF 9 WA
def Jd:MS :=
 (aT (dQ (jK (bK (aR (cA 5 OU) (aC aM (aC fP (aC bX (aC eR (aC dG a0))))))))
    (bO (cB ao))
    eG)
   (dQ (tK (bK (aD lF (aD (sO) (iO bX eR cM) (aD bV aW cJ)) dG)) (bK (aD (GX au) eR fP)))
    (bO (cB ao))
    eG))
def Jc:MS :=
 (dQ (jK (bK (aR (cA 5 XY) (aC aM (aC fP (aC bX (aC tF (aC dG a0))))))))
    (bO (cB ao))
    eG)
def VY:MS :=
 (aT (bZ (aR nF (aC (pG ao bX) a0)) (gN 4))
  (aT (bZ (aR (cA 3 Mr) (aC aM (aC aW (aC dG a0)))) (gN 5))
  (aT (dQ (bK (aD (Xe ao) fP cN))
   (bO (cB ao))
   eG)
  (aT (pI (fY (aD bV (vC ao bX) (fZ ao (aC (aD (qA) (aD (fH) cH (cI 99)) (cI 50)) a0)))) (gN 6) Jd)
  (aT (pI (fY (fZ ao (aC cJ (aC (aD bV cJ (aD (fH) cH oI)) (aC (aD bV (bP "off" [("Often",bI 1 [] mR)] aM a0) cJ) (aC (aD bV cJ (aD (lG) dG (aD bV aW cJ))) a0)))))) (gN 7) Jc)
  (bO (cB au)))))))
def OT:ai A->Mo A:=cF 8 VY
end
open PySem L2 V2
noncomputable def aZ:ai Rn->a6->a6
 |[],_=>0
 |r::rs,n=>if r.1=n then r.2 else aZ rs n
noncomputable def bW:ai Rn->a6->a6->ai Rn
 |[],n,t=>[(n,t)]
 |r::rs,n,t=>if r.1=n then(r.1,r.2+t)::rs else r::bW rs n t
noncomputable def bS:ai Rn->a6
 |[]=>0
 |r::rs=>r.2+bS rs
theorem HI:∀{rs:ai Rn} {n:a6},n∉rs.map (·.1)->aZ rs n=0
 |[],_,_=>rfl
 |r::rs,n,h=>by
  simp only[cW,eB,not_or]at h;simp only[aZ,a8 (cK h.1)];exact HI h.2
theorem VN:∀{rs:ai Rn} {r:Rn},(rs.map (·.1)).Nodup->r∈rs->aZ rs r.1=r.2
 |[],r,_,h=>by simp at h
 |s::rs,r,nd,h=>by
  rw[cW,nZ]at nd
  rcases eB.mp h with e|e
  ·subst e;simp[aZ]
  ·have:s.1≠r.1:=λz=>nd.1 (by rw[z];exact List.mem_map_of_mem e);simp only[aZ,a8 this];exact VN nd.2 e
theorem VM:∀{rs:ai Rn} {n:a6},(∀r∈rs,1<=r.2)->0<=aZ rs n
 |[],_,_=>by simp[aZ]
 |r::rs,n,h=>by
  simp only[aZ];split
  ·have:=h r (by simp);omega
  ·exact VM λr hr=>h r (by simp[hr])
theorem Yw:∀{rs:ai Rn} {n:a6},1<=aZ rs n->n∈rs.map (·.1)
 |[],_,h=>by simp[aZ]at h
 |r::rs,n,h=>by
  simp only[aZ]at h;split at h
  ·rename_i e;simp[e]
  ·simp only[cW,eB];exact Or.inr (Yw h)
theorem Yx:∀{rs:ai Rn} {n:a6},(∀r∈rs,1<=r.2)->aZ rs n<=bS rs
 |[],_,_=>by simp[aZ,bS]
 |r::rs,n,h=>by
  have ih:=Yx (rs:=rs) (n:=n) λr hr=>h r (by simp[hr]);have j:=VM (rs:=rs) (n:=n) λr hr=>h r (by simp[hr]);have h1:=h r (by simp);simp only[aZ,bS];split <;> omega
theorem Qh:∀{rs:ai Rn},(∀r∈rs,1<=r.2)->0<=bS rs
 |[],_=>by simp[bS]
 |r::rs,h=>by
  have ih:=Qh (rs:=rs) λr hr=>h r (by simp[hr]);have h1:=h r (by simp);simp only[bS];omega
theorem RE:∀(rs:ai Rn) (n t:a6),bS (bW rs n t)=bS rs+t
 |[],n,t=>by simp[bW,bS]
 |r::rs,n,t=>by
  simp only[bW];split
  ·simp only[bS];omega
  ·simp only[bS,RE rs n t];omega
theorem HJ:∀(rs:ai Rn) (n t m:a6),aZ (bW rs n t) m=aZ rs m+if m=n then t else 0
 |[],n,t,m=>by
  simp only[bW,aZ]
  by_cases h:n=m
  ·rw[ax h,ax h.symm];omega
  ·rw[a8 h,a8 (cK h)];omega
 |r::rs,n,t,m=>by
  simp only[bW];split
  ·rename_i e;simp only[aZ]
   by_cases h:r.1=m
   ·rw[ax h,ax h,ax (by omega)]
   ·rw[a8 h,a8 h,a8 (by omega)];omega
  ·rename_i e;simp only[aZ]
   by_cases h:r.1=m
   ·rw[ax h,ax h,a8 (by omega)];omega
   ·rw[a8 h,a8 h,HJ rs n t m]
theorem Vb:∀(rs:ai Rn) (n t m:a6),m∈(bW rs n t).map (·.1)->m∈rs.map (·.1)\/m=n
 |[],n,t,m,h=>by simp only[bW,cW,qL,qK]at h;exact .inr h
 |r::rs,n,t,m,h=>by
  simp only[bW]at h;split at h
  ·exact .inl (by simpa using h)
  ·simp only[cW,eB]at h ⊢
   rcases h with h|h
   ·exact .inl (.inl h)
   ·rcases Vb rs n t m h with q|q
    ·exact .inl (.inr q)
    ·exact .inr q
theorem BP:∀(rs:ai Rn) (n t:a6),(rs.map (·.1)).Nodup->((bW rs n t).map (·.1)).Nodup
 |[],n,t,_=>by simp[bW]
 |r::rs,n,t,nd=>by
  simp only[bW];split
  ·simpa using nd
  ·rename_i e;rw[cW,nZ]at nd ⊢;refine⟨λh=>?_,BP rs n t nd.2⟩
   rcases Vb rs n t r.1 h with q|q
   ·exact nd.1 q
   ·exact e q
theorem RW:∀(rs:ai Rn) (n t:a6),1<=t->(∀r∈rs,1<=r.2)->∀r∈bW rs n t,1<=r.2
 |[],n,t,ht,_,r,hr=>by simp only[bW,qK]at hr;subst hr;exact ht
 |s::rs,n,t,ht,h,r,hr=>by
  simp only[bW]at hr;split at hr
  ·rcases eB.mp hr with e|e
   ·subst e;have:=h s (by simp);show 1<=s.2+t;omega
   ·exact h r (by simp[e])
  ·rcases eB.mp hr with e|e
   ·subst e;exact h _ (by simp)
   ·exact RW rs n t ht (λr hr=>h r (by simp[hr])) r e
theorem LU:∀(rs:ai Rn) (n t:a6),(bW rs n t).length<=rs.length+1
 |[],n,t=>by simp[bW]
 |r::rs,n,t=>by
  simp only[bW];split
  ·simp
  ·have:=LU rs n t;simp only[lH];omega
theorem UZ(t:a6)(r:Rn)(rs:ai Rn):eK t (r::rs)=if t<r.2 then(r.1,r.2-t)::eK t rs else eK t rs:=by
 by_cases h:t<r.2 <;> simp[eK,h]
theorem UY:∀(t:a6) (rs:ai Rn) (m:a6),m∈(eK t rs).map (·.1)->m∈rs.map (·.1)
 |t,[],m,h=>by simp[eK]at h
 |t,r::rs,m,h=>by
  rw[UZ]at h;split at h
  ·simp only[cW,eB]at h ⊢;exact h.imp id (UY t rs m)
  ·simp only[cW,eB];exact .inr (UY t rs m h)
theorem NI:∀(t:a6) (rs:ai Rn),(rs.map (·.1)).Nodup->((eK t rs).map (·.1)).Nodup
 |t,[],_=>by simp[eK]
 |t,r::rs,nd=>by
  rw[cW,nZ]at nd;rw[UZ];split
  ·rw[cW,nZ];exact⟨λh=>nd.1 (UY t rs r.1 h),NI t rs nd.2⟩
  ·exact NI t rs nd.2
theorem Xn(t:a6)(rs:ai Rn):∀r∈eK t rs,1<=r.2:=by
 intro r hr;unfold eK at hr;obtain⟨s,hs,rfl⟩:=mQ.mp hr;have:=(List.mem_filter.mp hs).2;simp only[CV]at this;show 1<=s.2-t;omega
theorem Hn:∀(t:a6) (rs:ai Rn) (m:a6),(rs.map (·.1)).Nodup->(∀r∈rs,1<=r.2)->0<=t->aZ (eK t rs) m=if t<aZ rs m then aZ rs m-t else 0
 |t,[],m,_,_,h=>by simp[eK,aZ,Int.not_lt.mpr h]
 |t,r::rs,m,nd,j,h=>by
  rw[cW,nZ]at nd;have ih:=Hn t rs m nd.2 (λr hr=>j r (by simp[hr])) h;rw[UZ]
  by_cases e:r.1=m
  ·have hn:aZ (eK t rs) m=0:=HI λz=>nd.1 (by rw[e];exact UY t rs m z);split
   ·simp only[aZ,ax e];rw[ax (by assumption)]
   ·rw[hn];simp only[aZ,ax e];rw[a8 (by assumption)]
  ·split
   ·simp only[aZ,a8 e];exact ih
   ·simp only[aZ,a8 e];exact ih
theorem Hm:∀(t:a6) (rs:ai Rn),(∀r∈rs,1<=r.2)->0<=t->t*((rs.filter λr=>decide (t<=r.2)).length:a6)+bS (eK t rs)<=bS rs
 |t,[],_,h=>by simp[eK,bS]
 |t,r::rs,j,h=>by
  have ih:=Hm t rs (λr hr=>j r (by simp[hr])) h;have h1:=j r (by simp);rw[UZ]
  by_cases h2:t<=r.2
  ·rw[List.filter_cons_of_pos (by simpa using h2),lH];have e:t*(((rs.filter λr=>decide (t<=r.2)).length+1:ay):a6)=t*((rs.filter λr=>decide (t<=r.2)).length:a6)+t:=by
    rw[Int.natCast_add,Int.mul_add];simp
   rw[e];split
   ·simp only[bS];omega
   ·simp only[bS];omega
  ·rw[List.filter_cons_of_neg (by simpa using h2),a8 (by omega)];simp only[bS];omega
theorem Xo(t:a6)(rs:ai Rn):(eK t rs).length=(rs.filter λr=>decide (t<r.2)).length:=by unfold eK;rw[List.length_map]
theorem sC(rs:ai Rn):(dI rs).Perm rs:=by
 have h:=(RI (rs.map lB)).map ES;rw[sY]at h;have e:rs.map (ES ∘ lB)=rs:=by
  have:∀r∈rs,(ES ∘ lB) r=id r:=λr _=>rfl;rw[IJ this,List.map_id]
 rw[e]at h;exact h
theorem RB{rs j:ai Rn}(h:rs.Perm j):bS rs=bS j:=by
 induction h with
 |nil=>rfl
 |cons x _ ih=>simp only[bS,ih]
 |swap x y l=>simp only[bS];omega
 |trans _ _ a b=>exact a.trans b
theorem NO{rs j:ai Rn}(h:rs.Perm j)(nd:(rs.map (·.1)).Nodup)(m:a6):aZ rs m=aZ j m:=by
 have q:(j.map (·.1)).Nodup:=(h.map (·.1)).nodup_iff.mp nd
 by_cases hm:m∈rs.map (·.1)
 ·obtain⟨r,hr,rfl⟩:=mQ.mp hm;rw[VN nd hr,VN q (h.mem_iff.mp hr)]
 ·rw[HI hm,HI λz=>hm ((h.map (·.1)).mem_iff.mpr z)]
def hJ(keep:ay)(rs:ai Rn):ai Rn:=if keep<rs.length then dI (eK (taken rs keep) rs)else rs
structure nI(keep:ay)(rs:ai Rn)(lost:a6)(ws:ai Rn)(many:a6):Prop where
 nd:(rs.map (·.1)).Nodup
 pos:∀r∈rs,1<=r.2
 len:rs.length<=keep
 lo:0<=lost
 sum:lost*((keep:a6)+1)+bS rs<=many
 le:∀n,aZ rs n<=aZ ws n
 ge:∀n,aZ ws n<=aZ rs n+lost
 uZ:(ws.map (·.1)).Nodup
 YK:∀r∈ws,1<=r.2
 wsum:bS ws=many
theorem af0(keep:ay):nI keep [] 0 [] 0:=⟨by simp,by simp,by simp,by omega,by simp[bS],λ_=>by simp[aZ],λ_=>by simp[aZ],by simp,by simp,rfl⟩
theorem QU(rs:ai Rn)(keep:ay)(h:¬keep<rs.length):taken rs keep=0:=by unfold taken;rw[a8 h]
theorem nI.next{keep:ay}{rs ws:ai Rn}{lost many:a6}(s:nI keep rs lost ws many)(n t:a6)(ht:1<=t):nI keep (hJ keep (bW rs n t)) (lost+taken (bW rs n t) keep) (bW ws n t) (many+t):=by
 have B:=BP rs n t s.nd;have q:=RW rs n t ht s.pos;have a:lost*((keep:a6)+1)+bS (bW rs n t)<=many+t:=by rw[RE];have:=s.sum;omega
 have L:∀m,aZ (bW rs n t) m<=aZ (bW ws n t) m:=λm=>by rw[HJ,HJ];have:=s.le m;omega
 have ge1:∀m,aZ (bW ws n t) m<=aZ (bW rs n t) m+lost:=λm=>by rw[HJ,HJ];have:=s.ge m;omega
 have b:=BP ws n t s.uZ;have d:=RW ws n t ht s.YK;have f:bS (bW ws n t)=many+t:=by rw[RE,s.wsum]
 generalize bW rs n t=j at B q a L ge1
 by_cases z:keep<j.length
 ·have g1:=Yr j keep z;have g2:=Ys j keep z;have g3:=Yq j q keep z;rw[show hJ keep j=dI (eK (taken j keep) j)by unfold hJ;rw[ax z]];generalize taken j keep=u at g1 g2 g3 ⊢;have hS:=sC (eK u j);have h:=NI u j B;have U:((dI (eK u j)).map (·.1)).Nodup:=(hS.map (·.1)).nodup_iff.mpr h;have c:=λm=>(NO hS U m).trans (Hn u j m B q (by omega));have g:=Hm u j q (by omega);refine⟨U,λr hr=>Xn u j r (hS.mem_iff.mp hr),?_,?_,?_,λm=>?_,λm=>?_,b,d,f⟩
  ·rw[hS.length_eq,Xo];exact g1
  ·have:=s.lo;omega
  ·rw[RB hS];have hm:u*((keep:a6)+1)<=u*((j.filter λr=>decide (u<=r.2)).length:a6):=abP (by omega) (by omega);rw[Int.add_mul];omega
  ·rw[c m];have:=L m;have h0:=VM (n:=m) q;split <;> omega
  ·rw[c m];have:=ge1 m;split <;> omega
 ·have e:hJ keep j=j:=by unfold hJ;rw[a8 z]
  rw[e,QU j keep z,Int.add_zero];exact⟨B,q,by omega,s.lo,a,L,ge1,b,d,f⟩
open PyProof.Rows (step_dedup)
noncomputable def encD(rs:ai Rn):ai (Key×A):=rs.map λr=>(.inl r.1,.int r.2)
theorem Pd{q:Key×A}{kvs:ai (Key×A)}{k:Key}(h:q.1=k):iN (q::kvs) k=ah q.2:=by simp[iN,h]
theorem Pc{q:Key×A}{kvs:ai (Key×A)}{k:Key}(h:q.1≠k):iN (q::kvs) k=iN kvs k:=by simp[iN,h]
theorem QG:∀(rs:ai Rn) (n:a6),(iN (encD rs) (.inl n)).getD (.int 0)=.int (aZ rs n)
 |[],n=>rfl
 |r::rs,n=>by
  have ih:=QG rs n;show(iN ((.inl r.1,.int r.2)::encD rs) (.inl n)).getD (.int 0)=.int (aZ (r::rs) n)
  by_cases h:r.1=n
  ·rw[Pd (by rw[h])];simp[aZ,h]
  ·rw[Pc (by intro z;exact h (by simpa using z)),ih];simp[aZ,h]
theorem ZD:∀(rs:ai Rn) (n:a6),iN (encD rs) (.inl n)=if n∈rs.map (·.1)then(aA (aZ rs n))else ak
 |[],n=>rfl
 |r::rs,n=>by
  have ih:=ZD rs n;show iN ((.inl r.1,.int r.2)::encD rs) (.inl n)=_
  by_cases h:r.1=n
  ·rw[Pd (by rw[h])];simp[aZ,h]
  ·have h':¬n=r.1:=λz=>h z.symm;rw[Pc (by intro z;exact h (by simpa using z)),ih];simp only[aZ,a8 h,cW,eB,h',false_or]
theorem ajX{q:Key×A}{kvs:ai (Key×A)}{k:Key}{a:A}(h:q.1≠k):nB (q::kvs) k a=q::nB kvs k a:=by
 unfold nB;have e:((q::kvs).any λj=>decide (j.1=k))=kvs.any λj=>decide (j.1=k):=by simp[h]
 rw[e];split
 ·simp[h]
 ·simp
theorem Cv:∀(rs:ai Rn) (n t:a6),(rs.map (·.1)).Nodup->nB (encD rs) (.inl n) (.int (aZ rs n+t))=encD (bW rs n t)
 |[],n,t,_=>by simp[encD,nB,bW,aZ]
 |r::rs,n,t,nd=>by
  rw[cW,nZ]at nd;have ih:=Cv rs n t nd.2;show nB ((.inl r.1,.int r.2)::encD rs) (.inl n) _=_
  by_cases h:r.1=n
  ·subst h;have em:∀(l:ai Rn),r.1∉l.map (·.1)->(encD l).map (λj=>if j.1=(.inl r.1:Key)then(j.1,A.int (r.2+t))else j)=encD l:=by
    intro l
    induction l with
    |nil=>intro _;rfl
    |cons s l B =>
     intro hn;simp only[cW,eB,not_or]at hn;have hs:¬s.1=r.1:=λz=>hn.1 z.symm;have:=B hn.2;simp only[encD,cW]at this ⊢;rw[this];simp[hs]
   have q:=em rs nd.1;simp only[nB,aZ,ax,bW];simp[encD]at q ⊢;exact q
  ·rw[ajX (by intro z;exact h (by simpa using z))];simp only[aZ,bW,a8 h,ih];rfl
theorem En(rs:ai Rn):(encD rs).map (λj=>kA j.1)=(rs.map (·.1)).map A.int:=by simp[encD,kA]
theorem TC(rs:ai Rn):(encD rs).map lT=aI rs:=by simp[encD,lT,kA,aI,dR]
theorem YZ(rs:ai Rn):(encD rs).map (·.2)=(rs.map (·.2)).map A.int:=by simp[encD]
theorem RC:∀rs:ai Rn,(rs.map (·.2)).sum=bS rs
 |[]=>rfl
 |r::rs=>by simp[bS,RC rs]
theorem Di:∀rs:ai Rn,zB (aI rs)=ah (encD rs)
 |[]=>rfl
 |r::rs=>by
  have ih:=Di rs;show zB (.tup [.int r.1,.int r.2]::aI rs)=_;simp[zB,jS,ih,encD]
theorem keys_nodup(rs:ai Rn)(nd:(rs.map (·.1)).Nodup):((encD rs).map (·.1)).Nodup:=by
 have e:(encD rs).map (·.1)=(rs.map (·.1)).map (Sum.inl:a6->Key):=by simp[encD]
 rw[e];exact List.pairwise_map.mpr (nd.imp λh z=>h (by simpa using z))
theorem Ym:∀(ns acc:ai a6),(acc++ns).Nodup->ns.foldl step_dedup acc=acc++ns
 |[],acc,_=>by simp
 |n::ns,acc,h=>by
  have hn:n∉acc:=λz=>by
   have:=(Mb.mp h).2.2 n z n (by simp);exact this rfl
  have e:step_dedup acc n=acc++[n]:=by
   unfold step_dedup;rw[a8];simp only[List.any_eq_true,vU,not_exists,not_and];intro x j e;subst e;exact hn j
  rw[List.foldl_cons,e,Ym ns (acc++[n]) (by simpa using h)];simp
theorem Yl{ns:ai a6}(h:ns.Nodup):qC ns=ns:=by
 unfold qC;rw[Ym ns [] (by simpa using h)];rfl
theorem nO{Z Z':aH}{a:A}(h:Z'.length=Z.length):trim Z (ah (.ok a,Z'))=aG a Z':=by
 simp only[trim];split
 ·rename_i j;rw[<-h,List.take_length]at j;rw[j.1]
 ·rfl
theorem ZK{Z:aH}{c:Cell}:trim Z (ah (.ok (.aB Z.length),Z++[c]))=aG (.aB Z.length) (Z++[c]):=by
 simp[trim,Cl]
abbrev eI(keep:ay)(many tk:a6)(rs:ai Rn)(lost:a6):ai (a5×Fd):=[("keep",.val (.int keep)),("many",.val (.int many)),("taken",.val (.int tk)),("tally",.aQ (encD rs)),("lost",.val (.int lost))]
abbrev aV(keep:ay)(many tk:a6)(rs:ai Rn)(lost:a6):Cell:=.ins "Often" (eI keep many tk rs lost)
section
variable{Z Z':aH}{p keep:ay}{many tk lost:a6}{rs:ai Rn}
theorem gD{m:a5}{F:ai A->Mo A}{n i:ay}{das as:ai A}{fs:Ev->Mo (ai A)}{Y:Ev}{a:A}(h:Z[p]?=ah (aV keep many tk rs lost))(hl:(eI keep many tk rs lost).lookup m=ak)(q:(Y[i]?).join=(aE p))(ha:fs Y Z=aG as Z)(hn:as.length+1+das.length=n)
  (j:F (.aB p::(as++das)) Z=aG a Z'):bP m [("Often",bI n das F)] (dO i) fs Y Z=aG a Z':=by
 unfold bP;rw[bU (x:=A.aB p) (Z':=Z) (by simp[q])];have lk:List.lookup ("Often" : a5) [(("Often" : a5),bI n das F)]=ah (bI n das F):=by simp[List.lookup]
 simp only[US,h,lk,hl];rw[bU ha];simp only[bI];rw[ax (by simp only[lH];omega)];exact j
theorem LG(h:Z[p]?=ah (aV keep many tk rs lost)){Y:Ev}(j:(Y[0]?).join=(aE p)):pV ["Often"] 0 "tally" Y Z=ah (p,("Often" : a5),eI keep many tk rs lost,Fd.aQ (encD rs)):=by
 unfold pV;rw[j];simp only[h];rfl
theorem ID(h:Z[p]?=ah (aV keep many tk rs lost)):mR [.aB p] Z=aG (.int lost) Z:=by
 have l:(eI keep many tk rs lost).lookup ("lost" : a5)=ah (.val (.int lost)):=rfl;show trim Z (bT (Kc [aE p] Z))=_;simp[Kc,h,l]
theorem Ll(h:Z[p]?=ah (aV keep many tk rs lost)):yH [.aB p] Z=aG (.int many) Z:=by
 have l:(eI keep many tk rs lost).lookup ("many" : a5)=ah (.val (.int many)):=rfl;show trim Z (bT (Jv [aE p] Z))=_;simp[Jv,h,l]
theorem XF(h:Z[p]?=ah (aV keep many tk rs lost)):yG [.aB p] Z=aG (.int tk) Z:=by
 have l:(eI keep many tk rs lost).lookup ("taken" : a5)=ah (.val (.int tk)):=rfl;show trim Z (bT (Jr [aE p] Z))=_;simp[Jr,h,l]
theorem abF(h:Z[p]?=ah (aV keep many tk rs lost)):wD [.aB p] Z=aG (.lst ((rs.map (·.1)).map A.int)) Z:=by
 have o:=LG h (Y:=[aE p]) rfl;show trim Z (bT (Kd [aE p] Z))=_;unfold Kd;rw[<-En];simp[o]
theorem aDJ(h:Z[p]?=ah (aV keep many tk rs lost)):OY [.aB p] Z=aG (.int rs.length) Z:=by
 have q:(bP "kept" [("Often",bI 1 [] wD)] aM a0) [aE p] Z=aG (.lst ((rs.map (·.1)).map A.int)) Z:=gD h rfl rfl (as:=[]) (das:=[]) (by simp) rfl (by simpa using abF h);show trim Z (bT (Jx [aE p] Z))=_;unfold Jx bO;have e:(aR qB (aC (bP "kept" [("Often",bI 1 [] wD)] aM a0) a0)) [aE p] Z=aG (.int rs.length) Z:=by
  unfold aR;rw[bU (x:=[A.lst ((rs.map (·.1)).map A.int)]) (Z':=Z) (by unfold aC;rw[bU q];simp)];simp
 rw[dP e];simp
theorem abC(h:Z[p]?=ah (aV keep many tk rs lost))(nd:(rs.map (·.1)).Nodup)(hl:rs.length<64):IY [.aB p] Z=aG (.aB Z.length) (Z++[.lst ((sortI (rs.map (·.1))).map A.int)]):=by
 have q:(bP "kept" [("Often",bI 1 [] wD)] aM a0) [aE p] Z=aG (.lst ((rs.map (·.1)).map A.int)) Z:=gD h rfl rfl (as:=[]) (das:=[]) (by simp) rfl (by simpa using abF h);show trim Z (bT (WG [aE p] Z))=_;have e:WG [aE p] Z=ah (.ret (.aB Z.length),[aE p],Z++[.lst ((sortI (rs.map (·.1))).map A.int)]):=by
  unfold WG bO;have z:QH au (bP "kept" [("Often",bI 1 [] wD)] aM a0) [aE p] Z=aG (.aB Z.length) (Z++[.lst ((sortI (rs.map (·.1))).map A.int)]):=by
   unfold QH;rw[bU q];have j:(dY Z (.lst ((rs.map (·.1)).map A.int))).bind intsOf=ah (rs.map (·.1)):=by
    show intsOf ((rs.map (·.1)).map A.int)=_;exact zI _
   simp only[j,Yl nd];rw[ax (by simp;omega)];rfl
  rw[dP z]
 rw[e];simp only[SD];exact ZK
theorem Ln(h:Z[p]?=ah (aV keep many tk rs lost))(hl:rs.length<64):DY [.aB p] Z=aG (.aB Z.length) (Z++[.lst (aI (dI rs))]):=by
 have o:=LG h (Y:=[aE p]) rfl;show trim Z (bT (WK [aE p] Z))=_;have e:WK [aE p] Z=ah (.ret (.aB Z.length),[aE p],Z++[.lst (aI (dI rs))]):=by
  unfold WK bO;have j:iG ["Often"] 0 "tally" (MZ au) [aE p] Z=aG (.aB Z.length) (Z++[.lst (aI (dI rs))]):=by
   unfold iG;rw[o];simp only[MZ,TC,QO];rw[ax (by simp;omega),Hw];rfl
  rw[dP j]
 rw[e];simp only[SD];exact ZK
end
theorem EZ{Z:aH}{p:ay}{c:Cell}(h:Z[p]?=ah c):Z.set p c=Z:=by
 apply XQ;intro j
 by_cases q:p=j
 ·subst q;rw[fJ (cX.mp h).1,h]
 ·rw[eW q]
theorem Ec{i:ay}{f:a5}{g:MS}{Y Y':Ev}{Z:aH}{s:ay}{cls:a5}{fs:ai (a5×Fd)}{fd fd':Fd}{c c':Cell}(h1:Y[i]?=ah (aE s))(h2:Z[s]?=ah (.ins cls fs))(e:fs.lookup f=ah fd)(b:fd.cell=ah c)
  (a:g Y (kI Z s cls f fs c)=fU Y' (kI Z s cls f fs c')) (U:fd'.cell=ah c') (L:fd'=fd\/rU Z.length fd') (B:∀(j:ay) (d:A),Y'[j]?=ah (ah d)->Y[j]?=ah (ah d)\/Cl Z.length d):wO i f g Y Z=fU Y' (Z.set s (.ins cls (putD f fd' fs))):=by
 have hs:s<Z.length:=(cX.mp h2).1;refine ah8 (r:=(.nx,Y',Z.set s (.ins cls (putD f fd' fs)))) ⟨s,cls,fs,fd,c,Z.set s (.ins cls (putD f (.val (.aB Z.length)) fs)),fd',c',h1,h2,e,b,a,by simp,fJ hs,U,λk x z q => .inl (by rw[eW (cK z)]at q;exact q),L,B,rfl,by rw[qJ]⟩
theorem Yy(n:ay)(rs:ai Rn):rU n (.aQ (encD rs)):=by
 show fX n ((encD rs).map (·.2));rw[YZ];exact CW λa ha=>by obtain⟨x,_,rfl⟩:=mQ.mp ha;simp only[Cl]
section
variable{Z:aH}{p keep:ay}{many tk lost:a6}{rs:ai Rn}
theorem Cu(j:ai Rn):putD "tally" (.aQ (encD j)) (eI keep many tk rs lost)=eI keep many tk j lost:=rfl
theorem Sf(j:a6):putD "lost" (.val (.int j)) (eI keep many tk rs lost)=eI keep many tk rs j:=rfl
theorem Se(j:a6):putD "many" (.val (.int j)) (eI keep many tk rs lost)=eI keep j tk rs lost:=rfl
theorem Sd(t':a6):putD "taken" (.val (.int t')) (eI keep many tk rs lost)=eI keep many t' rs lost:=rfl
theorem Uj:(eI keep many tk rs lost).lookup ("tally" : a5)=ah (.aQ (encD rs)):=rfl
theorem Xu{Y:Ev}(h:Z[p]?=ah (aV keep many tk rs lost))(z:(Y[0]?).join=(aE p)){n:a6}(h1:(Y[1]?).join=(aA n)):iO (dF ["Often"] "tally" aM) aW cM Y (kI Z p "Often" "tally" (eI keep many tk rs lost) (.aQ (encD rs)))=aG (.int (aZ rs n)) (kI Z p "Often" "tally" (eI keep many tk rs lost) (.aQ (encD rs))):=by
 have o:=LG h z;have q:=Ea (c:=.aQ (encD rs)) o;have j:fL (kI Z p "Often" "tally" (eI keep many tk rs lost) (.aQ (encD rs))) (.aB Z.length)=ah (Z.length,encD rs):=mK (Eb o);unfold iO;rw[bU q];rw[ax ⟨_,_,j⟩];rw[bU (x:=.int n) (Z':=kI Z p "Often" "tally" (eI keep many tk rs lost) (.aQ (encD rs))) (by simp[h1])];rw[bU (x:=.int 0) (Z':=kI Z p "Often" "tally" (eI keep many tk rs lost) (.aQ (encD rs))) (by simp)];simp only[GY,j,jS,QG]
theorem abH(h:Z[p]?=ah (aV keep many tk rs lost))(n:a6):DZ [.aB p,.int n] Z=aG (.tup [.int (aZ rs n),.int (aZ rs n+lost)]) Z:=by
 have h2:(2:ay)<=a7:=by decide
 show trim Z (bT (Ke [aE p,aA n,ak] Z))=_;have B:(wO 0 "tally" (bZ (iO (dF ["Often"] "tally" aM) aW cM) (gN 2))) [aE p,aA n,ak] Z=fU [aE p,aA n,aA (aZ rs n)] Z:=by
  have q:=Ec (i:=0) (f := "tally") (g:=bZ (iO (dF ["Often"] "tally" aM) aW cM) (gN 2)) (Y:=[aE p,aA n,ak]) (Y':=[aE p,aA n,aA (aZ rs n)]) rfl h Uj rfl (fd':=.aQ (encD rs)) (c':=.aQ (encD rs)) (by
   unfold bZ;rw[dP (Xu h rfl rfl)];rfl) rfl (.inl rfl) (λj d z=>by
   match j,z with
   |0,z=>exact .inl z
   |1,z=>exact .inl z
   |2,z=>right;simp at z;subst z;simp only[Cl]
   | j+3,z=>simp at z)
  rw[q,Cu,EZ h]
 have l:(eI keep many tk rs lost).lookup ("lost" : a5)=ah (.val (.int lost)):=rfl;unfold Ke;rw[bC B];simp[h,l,h2]
theorem abI(h:Z[p]?=ah (aV keep many tk rs lost))(nd:(rs.map (·.1)).Nodup)(hl:rs.length<1000)(n t:a6):PB [.aB p,.int n,.int t] Z=aG (.bQ) (Z.set p (aV keep many tk (bW rs n t) lost)):=by
 show trim Z (bT (WL [aE p,aA n,aA t] Z))=_;have z:rs.length<a7:=by rw[jP];omega
 have o:=LG h (Y:=[aE p,aA n,aA t]) rfl;have U:WL [aE p,aA n,aA t] Z=fU [aE p,aA n,aA t] (Z.set p (aV keep many tk (bW rs n t) lost)):=by
  unfold WL;rw[Ec (Y':=[aE p,aA n,aA t]) rfl h Uj rfl (fd':=.aQ (encD (bW rs n t))) (c':=.aQ (encD (bW rs n t))) (by
   have q:=Ea (c:=.aQ (encD rs)) o;have a:fL (kI Z p "Often" "tally" (eI keep many tk rs lost) (.aQ (encD rs))) (.aB Z.length)=ah (Z.length,encD rs):=mK (Eb o);have g:=Xu h (Y:=[aE p,aA n,aA t]) rfl (n:=n) rfl;have L:(aD bV (iO (dF ["Often"] "tally" aM) aW cM) bX) [aE p,aA n,aA t] (kI Z p "Often" "tally" (eI keep many tk rs lost) (.aQ (encD rs)))=aG (.int (aZ rs n+t)) (kI Z p "Often" "tally" (eI keep many tk rs lost) (.aQ (encD rs))):=by
    unfold aD;rw[bU g];simp
   unfold pT;rw[dP L,dP q];rw[dP (x:=.int n) (Z':=kI Z p "Often" "tally" (eI keep many tk rs lost) (.aQ (encD rs))) (by simp)];have b:(encD rs).length<a7:=by simpa[encD]using z
   simp only[FA,a,jS,ax b,Cv rs n t nd];rw[Uq]) rfl (.inr (Yy _ _)) (λj d B => .inl B)]
  rw[Cu]
 rw[U];simp only[zC];exact nO (by simp)
theorem aDL(rs:ai Rn)(hl:rs.length<64)(k:ay)(Z:aH):OR [.lst (aI rs),.int k] Z=aG (.tup [.lst (aI (dI (eK (taken rs k) rs))),.int (taken rs k)]) Z:=by
 have h2:(2:ay)<=a7:=by decide
 have hlen:(aI rs).length=rs.length:=by simp[aI]
 show trim Z (bT (VX [eV (aI rs),aA k,ak] Z))=_;have e:VX [eV (aI rs),aA k,ak] Z=ah (.ret (.tup [.lst (aI (dI (eK (taken rs k) rs))),.int (taken rs k)]),[eV (aI rs),aA k,aA (taken rs k)],Z):=by
  unfold VX;rw[bC (Y1:=[eV (aI rs),aA k,aA 0]) (Z':=Z) (by simp)];rw[bC (Y1:=[eV (aI rs),aA k,aA (taken rs k)]) (Z':=Z) (by
   by_cases z:k<rs.length
   ·have pZ:(k:a6)<(rs.length:a6):=by omega
    have q:Zx [eV (aI rs),aA k,aA 0] Z=_:=ay4 rs (by omega) [eV (aI rs),aA k,aA 0] Z rfl;have i:=aq7 rs;have a:=aeA rs k z;have d:(sortI (rs.map (·.2))).reverse=desc rs:=rfl;generalize (rs.map λr=>A.int r.2)=c at q i;have L:(rs.map (·.2)).length<64:=by rw[fI];exact hl
    generalize (rs.map (·.2))=ms at i d L;rw[<-d]at a;rw[List.map_reverse]at a;simp[hlen,pZ,q,i,L,a]
   ·have pZ:¬(k:a6)<(rs.length:a6):=by omega
    have U:taken rs k=0:=by unfold taken;rw[a8 z]
    simp[hlen,pZ,U])]
  have j:Zw [eV (aI rs),aA k,aA (taken rs k)] Z=_:=ay3 rs (by omega) (taken rs k) (aA k) Z;generalize taken rs k=t at j;have b:(eK t rs).length<64:=by have:=awE t rs;omega
  have ht:=QO (eK t rs);have hs:=Hw (eK t rs);generalize eK t rs=fs at j b ht hs;have B:(fs.map lB).length<64:=by rw[fI];omega
  generalize fs.map lB=f at ht hs B;simp[j,ht,B,hs,jD,h2]
 rw[e];simp
theorem abG(h:Z[p]?=ah (aV keep many tk rs lost))(nd:(rs.map (·.1)).Nodup)(hl:rs.length<64):OZ [.aB p] Z=aG (.bQ) (Z.set p (aV keep many tk (hJ keep rs) (lost+taken rs keep))):=by
 show trim Z (bT (NU [aE p,ak] Z))=_;have a:p<Z.length:=(cX.mp h).1;have lk:(eI keep many tk rs lost).lookup ("keep" : a5)=ah (.val (.int keep)):=rfl;have hlen:(encD rs).length=rs.length:=by simp[encD]
 have kp:∀q:av A,(dF ["Often"] "keep" aM) [aE p,q] Z=aG (.int keep) Z:=λq=>by simp[h,lk]
 have o:∀q:av A,pV ["Often"] 0 "tally" [aE p,q] Z=ah (p,("Often" : a5),eI keep many tk rs lost,Fd.aQ (encD rs)):=λq=>LG h (Y:=[aE p,q]) rfl
 suffices hs:∃Y,NU [aE p,ak] Z=fU Y (Z.set p (aV keep many tk (hJ keep rs) (lost+taken rs keep)))by
  obtain⟨Y,e⟩:=hs;rw[e];simp only[zC];exact nO (by simp)
 have ht:(bK (aD lF (iG ["Often"] 0 "tally" λj=>ret (.int j.length)) (dF ["Often"] "keep" aM))) [aE p,ak] Z=aG (decide ((keep:a6)<(rs.length:a6))) Z:=by
  have B:(iG ["Often"] 0 "tally" λj=>ret (.int j.length)) [aE p,ak] Z=aG (.int rs.length) Z:=by
   unfold iG;rw[o];simp[hlen]
  unfold bK aD;rw[bU (x:=.bl (decide ((keep:a6)<(rs.length:a6)))) (Z':=Z) (by rw[bU B,bU (kp _)];simp)];simp
 by_cases z:keep<rs.length
 ·have pZ:(keep:a6)<(rs.length:a6):=by omega
  have nx:hJ keep rs=dI (eK (taken rs keep) rs):=by unfold hJ;rw[ax z]
  have c:=aDL rs hl keep Z;have L:((dI (eK (taken rs keep) rs)).map (·.1)).Nodup:=((sC _).map (·.1)).nodup_iff.mpr (NI _ rs nd);rw[nx];generalize dI (eK (taken rs keep) rs)=S at c L;generalize taken rs keep=t at c;refine⟨[aE p,ah (.tup [.lst (aI S),.int t])],?_⟩;unfold NU dQ;rw[dP ht];simp only[pZ,decide_true,nC];have B:(aR (cA 2 OR) (aC (iG ["Often"] 0 "tally" λj=>jD ao (j.map lT)) (aC (dF ["Often"] "keep" aM) a0))) [aE p,ak] Z=aG (.tup [.lst (aI S),.int t]) Z:=by
   have k:(iG ["Often"] 0 "tally" λj=>jD ao (j.map lT)) [aE p,ak] Z=aG (.lst (aI rs)) Z:=by
    unfold iG;rw[o];simp[TC]
   have i:(aC (iG ["Often"] 0 "tally" λj=>jD ao (j.map lT)) (aC (dF ["Often"] "keep" aM) a0)) [aE p,ak] Z=aG [.lst (aI rs),.int keep] Z:=by
    unfold aC;rw[bU k,bU (x:=[A.int keep]) (Z':=Z) (by rw[bU (kp _)];simp)];simp
   unfold aR;rw[bU i];simp[cA,c]
  rw[bC (Y1:=[aE p,ah (.tup [.lst (aI S),.int t])]) (Z':=Z) (by unfold bZ;rw[dP B];rfl)];have g:(vE ["Often"] 0 "tally" (aR xK (aC (aD bM aW cM) a0))) [aE p,ah (.tup [.lst (aI S),.int t])] Z=fU [aE p,ah (.tup [.lst (aI S),.int t])] (Z.set p (aV keep many tk S lost)):=by
   have f:(aR xK (aC (aD bM aW cM) a0)) [aE p,ah (.tup [.lst (aI S),.int t])] Z=aG (.aB Z.length) (Z++[.aQ (encD S)]):=by
    have d:(aC (aD bM aW cM) a0) [aE p,ah (.tup [.lst (aI S),.int t])] Z=aG [.lst (aI S)] Z:=by simp
    unfold aR;rw[bU d];simp only[xK,aoI,Kz,Di,ax (keys_nodup S L)]
   have ob:BL ["Often"] 0 [aE p,ah (.tup [.lst (aI S),.int t])] Z=ah (p,("Often" : a5),eI keep many tk rs lost):=by
    unfold BL;simp[h]
   unfold vE;rw[ob];simp only[f,rC,Fd.FJ];rw[ax ⟨rfl,rfl,by simp,Yy _ _⟩,Cu]
  rw[bC g];have h2:(Z.set p (aV keep many tk S lost))[p]?=ah (aV keep many tk S lost):=fJ a;have U:(eI keep many tk S lost).lookup ("lost" : a5)=ah (.val (.int lost)):=rfl;have b:(aD bV (dF ["Often"] "lost" aM) (aD bM aW cJ)) [aE p,ah (.tup [.lst (aI S),.int t])] (Z.set p (aV keep many tk S lost))=aG (.int (lost+t)) (Z.set p (aV keep many tk S lost)):=by
   simp[h2,U]
  unfold jQ;rw[dP b];rw[dP (x:=A.aB p) (Z':=Z.set p (aV keep many tk S lost)) (by simp)];simp only[h2];rw[ax ⟨by simp,by simp⟩,Sf,qJ]
 ·have pZ:¬(keep:a6)<(rs.length:a6):=by omega
  have nx:hJ keep rs=rs:=by unfold hJ;rw[a8 z]
  refine⟨[aE p,ak],?_⟩;rw[nx,QU rs keep z,Int.add_zero,EZ h];unfold NU dQ;rw[dP ht];simp[pZ]
end
section
variable{Z Z':aH}{p keep:ay}{many tk lost:a6}{rs:ai Rn}
theorem FG{s:ay}{Y:Ev}{fs:ai (a5×Fd)}{f:a5}{fv:Ev->Mo A}{b:A}(j:(Y[0]?).join=(aE s))(h:Z[s]?=ah (.ins "Often" fs))(hl:fs.length<1000)(hv:fv Y Z=aG b Z):jQ ["Often"] f aM fv Y Z=fU Y (Z.set s (.ins "Often" (putD f (.val b) fs))):=by
 unfold jQ;rw[dP hv];rw[dP (x:=A.aB s) (Z':=Z) (by simp[j])];simp only[h];rw[ax ⟨by simp,hl⟩]
theorem nG{f:Ev->Mo A}{Y:Ev}{a:A}(h:f Y Z=aG a Z'):gW f Y Z=fU Y Z':=by
 unfold gW;rw[dP h]
theorem yW{c:Cell}(j:p<Z.length):(Z.set p c)[p]?=ah c:=fJ j
theorem aCX(h:Z[p]?=ah (aV keep many tk rs lost))(nd:(rs.map (·.1)).Nodup)(hl:rs.length<63)(n t:a6):YB [.aB p,.int n,.int t] Z=aG (.bQ) (Z.set p (aV keep many tk (hJ keep (bW rs n t)) (lost+taken (bW rs n t) keep))):=by
 have z:p<Z.length:=(cX.mp h).1;have q:=abI h nd (by omega) n t;have h1:(Z.set p (aV keep many tk (bW rs n t) lost))[p]?=ah (aV keep many tk (bW rs n t) lost):=yW z;have j:=abG h1 (BP rs n t nd) (by have:=LU rs n t;omega);show trim Z (bT (Jz [aE p,aA n,aA t] Z))=_;unfold Jz;rw[bC (nG (gD h (by rfl) (by rfl) (as:=[.int n,.int t]) (das:=[]) (by simp) (by rfl) (by simpa using q)))];rw[nG (gD h1 (by rfl) (by rfl) (as:=[]) (das:=[]) (by simp) (by rfl) (by simpa using j))];simp only[zC,qJ];exact nO (by simp)
end
section
variable{Z Z' wG:aH}{Y:Ev}
theorem zD{f g:Ev->Mo bb}(h:f Y Z=aG ao Z'):gV f g Y Z=g Y Z':=by
 unfold gV;rw[bU h];rfl
theorem vH{f:Ev->Mo bb}{b:bb}(h:f Y Z=aG b Z'):jK f Y Z=aG (!b) Z':=by
 unfold jK;rw[bU h];rfl
theorem eU{f:Ev->Mo A}{b:bb}(h:f Y Z=aG (.bl b) Z'):bK f Y Z=aG b Z':=by
 unfold bK;rw[bU h];rfl
theorem BJ{g:A->A->Mo A}{f1 f2:Ev->Mo A}{a b:A}{j:aH}{c:A}(h1:f1 Y Z=aG a Z')(h2:f2 Y Z'=aG b wG)(q:g a b wG=aG c j):aD g f1 f2 Y Z=aG c j:=by
 unfold aD;rw[bU h1,bU h2,q]
theorem cR{g:A->A->Mo A}{f1 f2:Ev->Mo A}{a b c:A}(h1:f1 Y Z=aG a Z)(h2:f2 Y Z=aG b Z)(j:g a b Z=aG c Z):aD g f1 f2 Y Z=aG c Z:=BJ h1 h2 j
theorem iH{t:Ev->Mo bb}{s:MS}(h:t Y Z=aG ao Z'):dQ t s eG Y Z=fU Y Z':=by
 unfold dQ;rw[dP h];rfl
theorem fD{f:Ev->Mo A}{i:ay}{a:A}(h:f Y Z=aG a Z'):bZ f (gN i) Y Z=fU (Y.set i (ah a)) Z':=by
 unfold bZ;rw[dP h];rfl
theorem aK{i:ay}{a:A}(h:(Y[i]?).join=ah a):dO i Y Z=aG a Z:=by simp[h]
theorem Lh(n:a6)(Z:aH):yD [.int n] Z=aG (.bl au) Z:=by simp[yD,Zz]
end
theorem af4(rs:ai Rn):(dI rs).map (·.1)=sortI (rs.map (·.1)):=by
 refine BC ((sC rs).map (·.1)) ?_;have h:=Ab (rs.map lB);rw[<-Ac,List.pairwise_map]at h;rw[List.pairwise_map];refine h.imp λ{a b} q=>?_;simp only[lB,KS.dM]at q;split at q
 ·rename_i e;omega
 ·simp only[decide_eq_false_iff_not]at q;omega
theorem LD(L:ai a6):cO 8 (.lst (L.map A.int))=au:=by simp[cO]
theorem aiL{Z:aH}{k:ay}{L:ai a6}(h:Z[k]?=ah (.lst (L.map A.int))):res Z 6 (.aB k)=ah (.lst (L.map A.int)):=by
 have j:(L.map A.int).all (cO 8)=au:=by simp[cO]
 rw[Cj h,SR _ j];rfl
theorem aoO(q:Ev->Mo A)(hq:q=mD ao 2 [] (fY cH) (nE 2 (fV (gN 0) (fV (gN 1) nV))) uW aM)(S:ai Rn)(hl:S.length<=1000)(Y:Ev)(Z:aH)(k:ay)(U:(Y[3]?).join=(aE k))(g:Z[k]?=ah (.lst (aI S))):q Y Z=aG (.lst ((S.map (·.1)).map A.int)) Z:=by
 have b:dY Z (.aB k)=ah (aI S):=oS g;have L:k<Z.length:=(cX.mp g).1;have z:(aI S).filterMap (λa=>match a with | .tup [x,_]=>ah x|_=>ak)=(S.map (·.1)).map A.int:=by
  simp only[aI,Me,sY];rw[<-Mf];rfl
 rw[<-z,hq];refine yS (S:=srcOf (.aB k) (aI S)) _ (λY=>∃u v,Y=[u,v]) (by simp[U,b]) (λj=>by
  show iP (Z++[.lst j]) (.aB k)=ah (aI S);exact oS (by rw[eQ L];exact g)) ⟨ak,ak,rfl⟩ (by simp[aI];omega) ?_ (by
  show fX _ (List.filterMap _ (aI S));rw[z];exact CW λa h=>by obtain⟨r,_,rfl⟩:=mQ.mp h;simp only[Cl])
 rintro x B Y ⟨u,v,rfl⟩ j;obtain⟨r,_,rfl⟩:=mQ.mp B;exact⟨[aA r.1,aA r.2],⟨_,_,rfl⟩,by simp[dR],.inl ⟨_,rfl,rfl,by simp[dR]⟩⟩
theorem aoM(q:Ev->Mo A)(hq:q=mD ao 2 [] (fY cH) (nE 2 (fV (gN 0) (fV (gN 1) nV))) uW aW)(S:ai Rn)(hl:S.length<=1000)(Y:Ev)(Z:aH)(k:ay)(U:(Y[3]?).join=(aE k))(g:Z[k]?=ah (.lst (aI S))):q Y Z=aG (.lst ((S.map (·.2)).map A.int)) Z:=by
 have b:dY Z (.aB k)=ah (aI S):=oS g;have L:k<Z.length:=(cX.mp g).1;have z:(aI S).filterMap (λa=>match a with | .tup [_,x]=>ah x|_=>ak)=(S.map (·.2)).map A.int:=by
  simp only[aI,Me,sY];rw[<-Mf];rfl
 rw[<-z,hq];refine yS (S:=srcOf (.aB k) (aI S)) _ (λY=>∃u v,Y=[u,v]) (by simp[U,b]) (λj=>by
  show iP (Z++[.lst j]) (.aB k)=ah (aI S);exact oS (by rw[eQ L];exact g)) ⟨ak,ak,rfl⟩ (by simp[aI];omega) ?_ (by
  show fX _ (List.filterMap _ (aI S));rw[z];exact CW λa h=>by obtain⟨r,_,rfl⟩:=mQ.mp h;simp only[Cl])
 rintro x B Y ⟨u,v,rfl⟩ j;obtain⟨r,_,rfl⟩:=mQ.mp B;exact⟨[aA r.1,aA r.2],⟨_,_,rfl⟩,by simp[dR],.inl ⟨_,rfl,rfl,by simp[dR]⟩⟩
theorem Yt(ok:aH->Prop)(Z:aH)(aL:ok Z)(a U L B z j:av A):∀(S:ai Rn) (y:av A),(∀r∈S,1<=r.2)->∃b,eO ok (gN 4) Jm (aI S) [a,U,L,B,y,z,j] Z=fU [a,U,L,B,b,z,j] Z
 |[],y,_=>⟨y,by simp[aI,eO,aL]⟩
 |r::S,y,c=>by
  obtain⟨b,q⟩:=Yt ok Z aL a U L B z j S (ah (dR r)) λr hr=>c r (by simp[hr]);refine⟨b,?_⟩;rw[<-q];have h1:¬r.2<1:=by have:=c r (by simp);omega
  refine uM (Y0:=[a,U,L,B,ah (dR r),z,j]) (Z0:=Z) aL (by simp) ?_;simp[Jm,dR,cA,Lh,h1]
theorem aDM{Z:aH}{p keep:ay}{many tk lost:a6}{rs:ai Rn}(h:Z[p]?=ah (aV keep many tk rs lost))(nd:(rs.map (·.1)).Nodup)(M:∀r∈rs,1<=r.2)(hl:rs.length<64)(hk:rs.length<=keep)(jM:keep<=1000)(h0:0<=lost)(hs:lost*((keep:a6)+1)+bS rs<=many) :
  Mr [.aB p,.int keep,.int many] Z=aG (.aB (Z.length+2)) (Z++[.lst (aI (dI rs)),.lst ((sortI (rs.map (·.1))).map A.int),.aQ (encD (dI rs))]):=by
 have i:=Ln h hl;have t:=af5 rs;have B:=Qo rs;have l:=af4 rs;have m:∀r∈dI rs,1<=r.2:=λr hr=>M r ((sC rs).mem_iff.mp hr);have c:((dI rs).map (·.1)).Nodup:=((sC rs).map (·.1)).nodup_iff.mpr nd;have o:bS (dI rs)=bS rs:=RB (sC rs);generalize dI rs=S at i t B l m c o;have n:p<Z.length:=(cX.mp h).1;have z:(Z++[Cell.lst (aI S)])[Z.length]?=ah (.lst (aI S)):=by simp
 have h1:(Z++[Cell.lst (aI S)])[p]?=ah (aV keep many tk rs lost):=by rw[eQ n];exact h
 have I:(Z++[Cell.lst (aI S)]).length=Z.length+1:=by simp
 have E:=ID h1;have D:=aDJ h1;have g:=abC h1 nd hl;rw[I,List.append_assoc,List.singleton_append]at g;have h2:(Z++[Cell.lst (aI S),.lst ((sortI (rs.map (·.1))).map A.int)])[p]?=ah (aV keep many tk rs lost):=by rw[eQ n];exact h
 have C:=Ll h2;have P:(Z++[Cell.lst (aI S),.lst ((sortI (rs.map (·.1))).map A.int)])[Z.length]?=ah (.lst (aI S)):=by simp
 have N:(Z++[Cell.lst (aI S),.lst ((sortI (rs.map (·.1))).map A.int)])[Z.length+1]?=ah (.lst ((sortI (rs.map (·.1))).map A.int)):=by
  rw[sZ (by omega)];simp
 have L:dY (Z++[Cell.lst (aI S)]) (.aB Z.length)=ah (aI S):=oS z;have ty:=adO z;have hlen:(aI S).length=rs.length:=by simp[aI,B]
 have u:=QO S;have U:=Hw S;rw[t]at U;have s:(S.map lB).length<64:=by rw[fI];omega
 have G:gA (.aB Z.length) (.lst (aI S)) (Z++[Cell.lst (aI S)])=aG (.bl ao) (Z++[Cell.lst (aI S)]):=UR (aiM z) (vF (Sj S)) (Sj S);generalize S.map lB=us at u U s;show trim Z (bT (WC [aE p,aA keep,aA many,ak,ak,ak,ak] Z))=_;obtain⟨j,H⟩:=Yt (λZ'=>iP Z' (.aB Z.length)=ah (aI S)) (Z++[Cell.lst (aI S)]) (by simpa using L) (aE p) (aA keep) (aA many) (aE Z.length) ak ak S ak m;have X:¬(keep:a6)<(rs.length:a6):=by omega
 suffices hh:∃q,WC [aE p,aA keep,aA many,ak,ak,ak,ak] Z=ah (.ret (.aB (Z.length+2)),q,Z++[.lst (aI S),.lst ((sortI (rs.map (·.1))).map A.int),.aQ (encD S)])by
  obtain⟨q,e⟩:=hh;rw[e];simp[trim,Cl]
 refine⟨[aE p,aA keep,aA many,aE Z.length,j,eV ((S.map (·.1)).map A.int),aA lost],?_⟩;unfold WC;rw[bC (fD (gD h (by rfl) (by rfl) (as:=[]) (das:=[]) (by simp) (by rfl) (by simpa using i)))];simp only[AF,AE];rw[bC (Y1:=[aE p,aA keep,aA many,aE Z.length,ak,ak,ak]) (Z':=Z++[Cell.lst (aI S)]) (by simp[ty,L,u,s,U,G,hlen,X])];rw[bC (Y1:=[aE p,aA keep,aA many,aE Z.length,j,ak,ak]) (Z':=Z++[Cell.lst (aI S)]) (by
  rw[uL (S:=srcOf (.aB Z.length) (aI S)) (Z':=Z++[Cell.lst (aI S)]) (by simp[L])];exact H)]
 rw[bC (fD (aoO aaC rfl S (by omega) _ _ Z.length rfl z))];simp only[AF,AE];rw[bC (fD (gD h1 (by rfl) (by rfl) (as:=[]) (das:=[]) (by simp) (by rfl) (by simpa using E)))];simp only[AF,AE];have y:(gV (bK (aD gA (KA fP) (aR qB (aC fP a0)))) (gV (jK (bK (aR (cA 1 yD) (aC eR a0)))) (bK (aD uK eR cM)))) [aE p,aA keep,aA many,aE Z.length,j,eV ((S.map (·.1)).map A.int),aA lost] (Z++[Cell.lst (aI S)])=aG ao (Z++[Cell.lst (aI S)]):=by
  have V:KA fP [aE p,aA keep,aA many,aE Z.length,j,eV ((S.map (·.1)).map A.int),aA lost] (Z++[Cell.lst (aI S)])=aG (.int rs.length) (Z++[Cell.lst (aI S)]):=by
   unfold KA;rw[bU (aK (a:=.lst ((S.map (·.1)).map A.int)) rfl)];have f:(dY (Z++[Cell.lst (aI S)]) (.lst ((S.map (·.1)).map A.int))).bind intsOf=ah (S.map (·.1)):=by
    show intsOf ((S.map (·.1)).map A.int)=_;exact zI _
   simp only[f,Yl c];rw[ax (by simp;omega)];simp[B]
  rw[zD (eU (b:=ao) (cR V (b:=.int rs.length) (by simp[B]) (by simp)))];have d:¬lost<0:=by omega
  simp[cA,Lh,d]
 rw[bC (iH y)];have w:(bK (aD lF (aD bV (aD (sO) eR (aD bV aW cJ)) (aR nF (aC WB a0))) bX)) [aE p,aA keep,aA many,aE Z.length,j,eV ((S.map (·.1)).map A.int),aA lost] (Z++[Cell.lst (aI S)])=aG ao (Z++[Cell.lst (aI S)]):=by
  have W:oE lost ((keep:a6)+1):=Ig (by omega) (by omega);have T:=aoM WB rfl S (by omega) [aE p,aA keep,aA many,aE Z.length,j,eV ((S.map (·.1)).map A.int),aA lost] (Z++[Cell.lst (aI S)]) Z.length rfl z;have f:(aR nF (aC WB a0)) [aE p,aA keep,aA many,aE Z.length,j,eV ((S.map (·.1)).map A.int),aA lost] (Z++[Cell.lst (aI S)])=aG (.int (bS rs)) (Z++[Cell.lst (aI S)]):=by
   unfold aR;rw[bU (x:=[A.lst ((S.map (·.2)).map A.int)]) (Z':=Z++[Cell.lst (aI S)]) (by unfold aC;rw[bU T];simp)];have R:(dY (Z++[Cell.lst (aI S)]) (.lst ((S.map (·.2)).map A.int))).bind intsOf=ah (S.map (·.2)):=by
    show intsOf ((S.map (·.2)).map A.int)=_;exact zI _
   simp only[nF,R,RC,o]
  have k:¬many<lost*((keep:a6)+1)+bS rs:=by omega
  generalize K:lost*((keep:a6)+1)=x at k;refine eU (cR (a:=.int (x+bS rs)) (b:=.int many) (cR (a:=.int x) (b:=.int (bS rs)) ?_ f (by simp)) (by simp) (by simp[k]));refine cR (a:=.int lost) (b:=.int ((keep:a6)+1)) (by simp) (by simp) ?_;simp[gI,W,K]
 rw[bC (iH w)];have v:(gV (bK (aD gA (bP "held" [("Often",bI 1 [] OY)] aM a0) (aR qB (aC cH a0)))) (gV (bK (aD gA (bP "numbers" [("Often",bI 1 [] IY)] aM a0) fP)) (bK (aD gA (bP "length" [("Often",bI 1 [] yH)] aM a0) bX)))) [aE p,aA keep,aA many,aE Z.length,j,eV ((S.map (·.1)).map A.int),aA lost] (Z++[Cell.lst (aI S)])=aG ao (Z++[Cell.lst (aI S),.lst ((sortI (rs.map (·.1))).map A.int)]):=by
  rw[zD (eU (b:=ao) (cR (gD h1 (by rfl) (by rfl) (as:=[]) (das:=[]) (by simp) (by rfl) (by simpa using D)) (b:=.int rs.length) (by simp[L,hlen]) (by simp)))];have F:gA (.aB (Z.length+1)) (.lst ((S.map (·.1)).map A.int)) (Z++[Cell.lst (aI S),.lst ((sortI (rs.map (·.1))).map A.int)])=aG (.bl ao) (Z++[Cell.lst (aI S),.lst ((sortI (rs.map (·.1))).map A.int)]):=by
   rw[l];exact UR (aiL N) (vF (LD _)) (LD _)
  rw[zD (eU (b:=ao) (BJ (gD h1 (by rfl) (by rfl) (as:=[]) (das:=[]) (by simp) (by rfl) (by simpa using g)) (aK (a:=.lst ((S.map (·.1)).map A.int)) rfl) F))];exact eU (cR (gD h2 (by rfl) (by rfl) (as:=[]) (das:=[]) (by simp) (by rfl) (by simpa using C)) (aK (a:=.int many) rfl) (by simp))
 rw[bC (iH v)];have Q:(aR xK (aC cH a0)) [aE p,aA keep,aA many,aE Z.length,j,eV ((S.map (·.1)).map A.int),aA lost] (Z++[Cell.lst (aI S),.lst ((sortI (rs.map (·.1))).map A.int)])=aG (.aB (Z.length+2)) (Z++[.lst (aI S),.lst ((sortI (rs.map (·.1))).map A.int),.aQ (encD S)]):=by
  unfold aR;rw[bU (x:=[A.aB Z.length]) (Z':=Z++[Cell.lst (aI S),.lst ((sortI (rs.map (·.1))).map A.int)]) (by simp)];simp only[xK,oS P,Kz,Di,ax (keys_nodup S c)];simp
 unfold bO;rw[dP Q]
section
variable{Z:aH}{Y:Ev}
theorem Hr{i j k:ay}{rs:ai Rn}{n:a6}(z:(Y[i]?).join=(aE k))(h:Z[k]?=ah (.aQ (encD rs)))(h1:(Y[j]?).join=(aA n)):iO (dO i) (dO j) cM Y Z=aG (.int (aZ rs n)) Z:=by
 have q:fL Z (.aB k)=ah (k,encD rs):=mK h;unfold iO;rw[bU (aK z)];rw[ax ⟨_,_,q⟩];rw[bU (aK h1)];rw[bU (x:=.int 0) (Z':=Z) (by simp)];simp only[GY,q,jS,QG]
theorem aO{f:Ev->Mo A}{fs:Ev->Mo (ai A)}{a:A}{as:ai A}(h:f Y Z=aG a Z)(hs:fs Y Z=aG as Z):aC f fs Y Z=aG (a::as) Z:=by
 unfold aC;rw[bU h,bU hs];rfl
theorem bJ:a0 Y Z=aG [] Z:=rfl
theorem af7{a b:ai a6}(h:a.Perm b):sortI a=sortI b:=BC ((sortI_perm a).trans h) (Ad a)
theorem aDN{p keep kd q:ay}{many tk lost:a6}{rs S ws:ai Rn}(h:Z[p]?=ah (aV keep many tk rs lost))(hS:Z[kd]?=ah (.aQ (encD S)))(s:Z[q]?=ah (.aQ (encD ws)))(n:a6)
  (t:aZ S n=aZ rs n) (U:aZ rs n<=aZ ws n) (L:aZ ws n<=aZ rs n+lost) (f:aZ rs n+lost<=many):OU [.aB p,.aB kd,.aB q,.int n,.int many] Z=aG (.bl au) Z:=by
 have h2:(2:ay)<=a7:=by decide
 have b:=abH h n;have i:=ID h;have d:∀B z:av A,iO aW cH cM [aE p,aE kd,aE q,aA n,aA many,B,z] Z=aG (.int (aZ rs n)) Z:=λB z=>by
  rw[Hr (k:=kd) (rs:=S) (n:=n) rfl hS rfl,t]
 have c:∀B z:av A,iO bX cH cM [aE p,aE kd,aE q,aA n,aA many,B,z] Z=aG (.int (aZ ws n)) Z:=λB z=>Hr rfl s rfl;generalize aZ rs n=low at b d U L f;generalize aZ ws n=here at c U L;show trim Z (bT (WD [aE p,aE kd,aE q,aA n,aA many,ak,ak] Z))=_
 suffices hh:∃j,WD [aE p,aE kd,aE q,aA n,aA many,ak,ak] Z=ah (.ret (.bl au),j,Z)by
  obtain⟨j,e⟩:=hh;rw[e];simp
 refine⟨[aE p,aE kd,aE q,aA n,aA many,ah (.tup [.int low,.int (low+lost)]),aA low],?_⟩;unfold WD;rw[bC (fD (gD h (by rfl) (by rfl) (as:=[.int n]) (das:=[]) (by simp) (by rfl) (by simpa using b)))];simp only[AF,AE];rw[bC (Y1:=[aE p,aE kd,aE q,aA n,aA many,ah (.tup [.int low,.int (low+lost)]),ak]) (Z':=Z) (by simp[cA,Lh])];rw[bC (fD (d _ _))];simp only[AF,AE];have g:(bK (aD gA fP (mY (aC eR (aC (aR sP (aC dG (aC (aD bV eR (bP "off" [("Often",bI 1 [] mR)] aM a0)) a0))) a0))))) [aE p,aE kd,aE q,aA n,aA many,ah (.tup [.int low,.int (low+lost)]),aA low] Z=aG ao Z:=by
  have r:(bP "off" [("Often",bI 1 [] mR)] aM a0) [aE p,aE kd,aE q,aA n,aA many,ah (.tup [.int low,.int (low+lost)]),aA low] Z=aG (.int lost) Z:=gD h (by rfl) (by rfl) (as:=[]) (das:=[]) (by simp) (by rfl) (by simpa using i);have o:(aR sP (aC dG (aC (aD bV eR (bP "off" [("Often",bI 1 [] mR)] aM a0)) a0))) [aE p,aE kd,aE q,aA n,aA many,ah (.tup [.int low,.int (low+lost)]),aA low] Z=aG (.int (low+lost)) Z:=by
   have m:(aD bV eR (bP "off" [("Often",bI 1 [] mR)] aM a0)) [aE p,aE kd,aE q,aA n,aA many,ah (.tup [.int low,.int (low+lost)]),aA low] Z=aG (.int (low+lost)) Z:=cR (aK (a:=.int low) rfl) r (by simp);unfold aR;rw[bU (aO (aK (a:=.int many) rfl) (aO m bJ))];simp only[sP,Rg];rw[Int.min_eq_right f]
  have l:(mY (aC eR (aC (aR sP (aC dG (aC (aD bV eR (bP "off" [("Often",bI 1 [] mR)] aM a0)) a0))) a0))) [aE p,aE kd,aE q,aA n,aA many,ah (.tup [.int low,.int (low+lost)]),aA low] Z=aG (.tup [.int low,.int (low+lost)]) Z:=by
   unfold mY;rw[bU (aO (aK (a:=.int low) rfl) (aO o bJ))];simp[h2]
  exact eU (cR (aK (a:=.tup [.int low,.int (low+lost)]) rfl) l (UQ (by simp[cO])))
 rw[bC (iH g)];unfold bO;have u:(KC NB NB (aD bM fP cM) (iO bX cH cM) (aD bM fP cJ)) [aE p,aE kd,aE q,aA n,aA many,ah (.tup [.int low,.int (low+lost)]),aA low] Z=aG (.bl au) Z:=by
  unfold KC;rw[bU (x:=.int low) (Z':=Z) (by simp),bU (c _ _)];simp[U,L]
 rw[dP u]
theorem Hi(p:a6->bb)(F:A->av A)(j:∀n,F (.int n)=if p n=au then(aA n)else ak):∀L:ai a6,(L.map A.int).filterMap F=(L.filter p).map A.int
 |[]=>rfl
 |n::L=>by
  have ih:=Hi p F j L;rw[cW,XO,j n]
  by_cases h:p n=au
  ·rw[ax h,List.filter_cons_of_pos h];simp only[ih,cW]
  ·rw[a8 h,List.filter_cons_of_neg h];simp only[ih]
theorem Ij(n:ay)(L:ai a6):fX n (L.map A.int):=CW λa h=>by obtain⟨r,_,rfl⟩:=mQ.mp h;simp only[Cl]
theorem aC6{p keep:ay}{many tk lost:a6}{rs:ai Rn}(h:Z[p]?=ah (aV keep many tk rs lost))(nd:(rs.map (·.1)).Nodup)(hl:rs.length<64)(least:a6) :
  YC [.aB p,.int least] Z=aG (.lst (((sortI (rs.map (·.1))).filter λn=>decide (least<=aZ rs n+lost)).map A.int)) Z:=by
 have m:p<Z.length:=(cX.mp h).1;have d:=abC h nd hl;generalize r:sortI (rs.map (·.1))=L at d;have o:L.length<64:=by rw[<-r,EY,fI];exact hl
 show trim Z (bT (WJ [aE p,aA least] Z))=_;have i:=Hi (λn=>decide (least<=aZ rs n+lost)) (λa=>match a with | .int n=>if decide (least<=aZ rs n+lost)=au then(aA n)else ak|_=>ak) (λn=>rfl) L;have e:Kb [aE p,aA least] Z=aG (.lst ((L.filter λn=>decide (least<=aZ rs n+lost)).map A.int)) (Z++[.lst (L.map A.int)]):=by
  rw[<-i];unfold Kb;have g:(Z++[Cell.lst (L.map A.int)])[Z.length]?=ah (.lst (L.map A.int)):=by simp
  refine yS (S:=srcOf (.aB Z.length) (L.map A.int)) (Z0:=Z++[.lst (L.map A.int)]) _ (λB=>∃u,B=[u,aE p,aA least]) ?_ (λq=>?_) ?_ (by simp;omega) ?_ ?_
  ·unfold fY;rw[bU (gD h (by rfl) (by rfl) (as:=[]) (das:=[]) (by simp) (by rfl) (by simpa using d))];simp[oS g]
  ·show iP (Z++[.lst (L.map A.int)]++[.lst q]) (.aB Z.length)=ah (L.map A.int);exact oS (by rw[eQ (by simp)];exact g)
  ·exact⟨ak,rfl⟩
  ·rintro x l B ⟨u,rfl⟩ q;obtain⟨n,_,rfl⟩:=mQ.mp l;have h2:(Z++[Cell.lst (L.map A.int)]++[.lst q])[p]?=ah (aV keep many tk rs lost):=by
    rw[eQ (by simp;omega),eQ m];exact h
   have U:=abH h2 n;generalize Z++[Cell.lst (L.map A.int)]++[.lst q]=j at h2 U;have k:(bP "counted" [("Often",bI 2 [] DZ)] aW (aC aM a0)) [aA n,aE p,aA least] j=aG (.tup [.int (aZ rs n),.int (aZ rs n+lost)]) j:=gD h2 (by rfl) (by rfl) (as:=[.int n]) (das:=[]) (by simp) (by rfl) (by simpa using U);have f:(bK (aD GW (aD bM (bP "counted" [("Often",bI 2 [] DZ)] aW (aC aM a0)) cJ) bX)) [aA n,aE p,aA least] j=aG (decide (least<=aZ rs n+lost)) j :=
    eU (cR (cR k (b:=.int 1) (by simp) (c:=.int (aZ rs n+lost)) (by simp)) (aK (a:=.int least) rfl) (by simp))
   refine⟨[aA n,aE p,aA least],⟨_,rfl⟩,by simp,?_⟩
   by_cases z:least<=aZ rs n+lost
   ·exact .inl ⟨.int n,by simp[z],by rw[f];simp[z],by simp⟩
   ·exact .inr ⟨by simp[z],by rw[f];simp[z]⟩
  ·show fX _ (List.filterMap _ (L.map A.int));rw[i];exact Ij _ _
 have s:WJ [aE p,aA least] Z=ah (.ret (.lst ((L.filter λn=>decide (least<=aZ rs n+lost)).map A.int)),[aE p,aA least],Z++[.lst (L.map A.int)]):=by
  unfold WJ bO;rw[dP e]
 rw[s];simp only[SD];exact KH (by simp only[Cl];exact Ij _ _)
theorem av2(n:a6)(L:ai a6):GU au (.int n) (.lst (L.map A.int)) Z=aG (.bl (!decide (n∈L))) Z:=by
 have B:res Z 6 (.int n)=(aA n):=vF (by simp[cO]);have j:res Z 6 (.lst (L.map A.int))=ah (.lst (L.map A.int)):=vF (LD L);have p1:cO 7 (.int n)=au:=by simp[cO]
 have U:((L.map A.int).any λd=>gH 7 d (.int n))=decide (n∈L):=by
  rw[List.any_map];have e0:∀m:a6,((λd=>gH 7 d (.int n)) ∘ A.int) m=decide (m=n):=λm=>by
   simp only[Function.comp,gH]
   by_cases q:m=n
   ·simp[q]
   ·simp[q]
  rw[show((λd=>gH 7 d (.int n)) ∘ A.int)=λm=>decide (m=n)from funext e0];clear j
  induction L with
  |nil=>rfl
  |cons m L ih =>
   rw[OH,ih]
   by_cases hm:m=n
   ·simp[hm]
   ·have:¬n=m:=λz=>hm z.symm;simp[hm,this]
 unfold GU;rw[B,j];simp only[p1,LD L,Bool.and_self,nC,U]
theorem amP{kd:ay}{S:ai Rn}(hS:Z[kd]?=ah (.aQ (encD S)))(hl:S.length<64)(least many lost:a6)(hm:∀n,aZ S n+lost<=many)(c b U L B:av A) :
  Jh [c,aE kd,b,aA least,aA many,U,aA lost,L,B] Z=aG (.lst (((sortI (S.map (·.1))).filter λn=>decide (least<=aZ S n+lost)).map A.int)) Z:=by
 have m:kd<Z.length:=(cX.mp hS).1;have t:fL Z (.aB kd)=ah (kd,encD S):=mK hS;have g:=Hi (λn=>decide (least<=aZ S n+lost)) (λa=>match a with | .int n=>if decide (least<=aZ S n+lost)=au then(aA n)else ak|_=>ak) (λn=>rfl) (sortI (S.map (·.1)));have v:∀n∈sortI (S.map (·.1)),n∈S.map (·.1):=λn hn=>(sortI_perm _).mem_iff.mp hn;rw[<-g];unfold Jh;refine yS (S:=srcOf (.lst ((sortI (S.map (·.1))).map A.int)) ((sortI (S.map (·.1))).map A.int)) (Z0:=Z) _ (λe=>∃u,e=[u,aE kd,aA least,aA many,aA lost]) ?_ (λz=>by simp) ?_ (by simp[EY];omega) ?_ ?_
 ·have k:(vC ao aW) [c,aE kd,b,aA least,aA many,U,aA lost,L,B] Z=aG (.lst ((S.map (·.1)).map A.int)) Z:=by
   unfold vC;rw[bU (aK (a:=.aB kd) rfl)];simp only[t,En];rfl
  have i:(aR (NA ao) (aC (vC ao aW) a0)) [c,aE kd,b,aA least,aA many,U,aA lost,L,B] Z=aG (.lst ((sortI (S.map (·.1))).map A.int)) Z:=by
   unfold aR;rw[bU (x:=[A.lst ((S.map (·.1)).map A.int)]) (Z':=Z) (by unfold aC;rw[bU k];simp)];have o:(dY Z (.lst ((S.map (·.1)).map A.int))).bind intsOf=ah (S.map (·.1)):=by
    show intsOf ((S.map (·.1)).map A.int)=_;exact zI _
   simp only[NA,o];rw[ax (by simp;omega)];rfl
  unfold fY;rw[bU i];simp
 ·exact⟨ak,rfl⟩
 ·rintro x l e ⟨u,rfl⟩ z;obtain⟨n,hn,rfl⟩:=mQ.mp l;have h:=v n hn;have h2:(Z++[Cell.lst z])[kd]?=ah (.aQ (encD S)):=by rw[eQ m];exact hS
  generalize Z++[Cell.lst z]=j at h2;have d:fL j (.aB kd)=ah (kd,encD S):=mK h2;have s:(aD xM aW aM) [aA n,aE kd,aA least,aA many,aA lost] j=aG (.int (aZ S n)) j :=
   cR (aK (a:=.aB kd) rfl) (aK (a:=.int n) rfl) (by simp only[xM,d,jS,ZD,ax h])
  have r:(aR sP (aC cH (aC (aD bV (aD xM aW aM) dG) a0))) [aA n,aE kd,aA least,aA many,aA lost] j=aG (.int (aZ S n+lost)) j:=by
   have p:(aD bV (aD xM aW aM) dG) [aA n,aE kd,aA least,aA many,aA lost] j=aG (.int (aZ S n+lost)) j:=cR s (aK (a:=.int lost) rfl) (by simp);unfold aR;rw[bU (aO (aK (a:=.int many) rfl) (aO p bJ))];simp only[sP,Rg];rw[Int.min_eq_right (hm n)]
  have f:(bK (aD GW (aR sP (aC cH (aC (aD bV (aD xM aW aM) dG) a0))) bX)) [aA n,aE kd,aA least,aA many,aA lost] j=aG (decide (least<=aZ S n+lost)) j :=
   eU (cR r (aK (a:=.int least) rfl) (by simp))
  refine⟨[aA n,aE kd,aA least,aA many,aA lost],⟨_,rfl⟩,by simp,?_⟩
  by_cases q:least<=aZ S n+lost
  ·exact .inl ⟨.int n,by simp[q],by rw[f];simp[q],by simp⟩
  ·exact .inr ⟨by simp[q],by rw[f];simp[q]⟩
 ·show fX _ (List.filterMap _ ((sortI (S.map (·.1))).map A.int));rw[g];exact Ij _ _
theorem Ti(found:ai a6)(least lost:a6)(U L B j:av A)(Z:aH):∀(ws:ai Rn) (y z:av A),(∀r∈ws,least<=r.2->lost<r.2->r.1∈found)->∃c b,eO (λ_=>True) (nE 2 (fV (gN 7) (fV (gN 8) nV))) VZ (aI ws) [U,L,B,aA least,j,eV (found.map A.int),aA lost,y,z] Z=fU [U,L,B,aA least,j,eV (found.map A.int),aA lost,c,b] Z
 |[],y,z,_=>⟨y,z,by simp[aI,eO]⟩
 |r::ws,y,z,e=>by
  obtain⟨c,b,q⟩:=Ti found least lost U L B j Z ws (aA r.1) (aA r.2) λr hr=>e r (by simp[hr]);refine⟨c,b,?_⟩;rw[<-q];have h1:=e r (by simp);refine uM (Y0:=[U,L,B,aA least,j,eV (found.map A.int),aA lost,aA r.1,aA r.2]) (Z0:=Z) trivial (by simp[dR]) ?_;have f:=av2 (Z:=Z) r.1 found;unfold VZ;refine iH ?_
  by_cases a:least<=r.2
  ·by_cases d:lost<r.2
   ·have g:=h1 a d;simp[a,d,f,g]
   ·simp[a,d]
  ·simp[a]
theorem aC5{p keep kd q:ay}{many tk lost:a6}{rs S ws:ai Rn}(h:Z[p]?=ah (aV keep many tk rs lost))(hS:Z[kd]?=ah (.aQ (encD S)))(L:Z[q]?=ah (.aQ (encD ws)))(nd:(rs.map (·.1)).Nodup)(hl:rs.length<64)(z:S.Perm rs)(hm:∀n,aZ rs n+lost<=many)
  (uZ:(ws.map (·.1)).Nodup) (g:∀n,aZ ws n<=aZ rs n+lost) (least:a6):XY [.aB p,.aB kd,.aB q,.int least,.int many] Z=aG (.bl au) Z:=by
 have c:=aC6 h nd hl least;have s:=ID h;have u:(S.map (·.1)).Nodup:=(z.map (·.1)).nodup_iff.mpr nd;have f:∀n,aZ S n=aZ rs n:=λn=>NO z u n;have B:=λo m l k i=>amP hS (by rw[z.length_eq];exact hl) least many lost (λn=>by rw[f n];exact hm n) o m l k i;have v:sortI (S.map (·.1))=sortI (rs.map (·.1)):=af7 (z.map (·.1));have w:(λn=>decide (least<=aZ S n+lost))=λn=>decide (least<=aZ rs n+lost):=funext λn=>by rw[f n]
 rw[v,w]at B;have d:∀r∈ws,least<=r.2->lost<r.2->r.1∈(sortI (rs.map (·.1))).filter λn=>decide (least<=aZ rs n+lost):=λr hr F E=>by
  have D:=VN uZ hr;have C:=g r.1;refine List.mem_filter.mpr ⟨(sortI_perm _).mem_iff.mpr (Yw (by omega)),?_⟩;simp only[CV];omega
 generalize ((sortI (rs.map (·.1))).filter λn=>decide (least<=aZ rs n+lost))=found at c B d;have hq:q<Z.length:=(cX.mp L).1;show trim Z (bT (WA [aE p,aE kd,aE q,aA least,aA many,ak,ak,ak,ak] Z))=_
 suffices hh:∃j,WA [aE p,aE kd,aE q,aA least,aA many,ak,ak,ak,ak] Z=ah (.ret (.bl au),j,Z)by
  obtain⟨j,e⟩:=hh;rw[e];simp
 obtain⟨b,U,t⟩:=Ti found least lost (aE p) (aE kd) (aE q) (aA many) (Z.set q .dead) ws ak ak d;refine⟨[aE p,aE kd,aE q,aA least,aA many,eV (found.map A.int),aA lost,b,U],?_⟩;unfold WA;rw[bC (fD (gD h (by rfl) (by rfl) (as:=[.int least]) (das:=[]) (by simp) (by rfl) (by simpa using c)))];simp only[AF,AE];rw[bC (fD (gD h (by rfl) (by rfl) (as:=[]) (das:=[]) (by simp) (by rfl) (by simpa using s)))];simp only[AF,AE];rw[bC (iH (eU (cR (aK (a:=.lst (found.map A.int)) rfl) (B _ _ _ _ _) (UQ (LD _)))))];have x:(KY 2 (nE 2 (fV (gN 7) (fV (gN 8) nV))) VZ) [aE p,aE kd,aE q,aA least,aA many,eV (found.map A.int),aA lost,ak,ak] Z=fU [aE p,aE kd,aE q,aA least,aA many,eV (found.map A.int),aA lost,b,U] Z:=by
  have y:fL Z (.aB q)=ah (q,encD ws):=mK L;unfold KY;simp only[List.getElem?_cons_succ,List.getElem?_cons_zero,Option.join_some,y,TC];rw[t];simp only[ZP,fJ hq,qJ];rw[EZ L]
 rw[bC x];simp
end
section
variable{Z Z':aH}{Y:Ev}
theorem Km{f g:Ev->Mo bb}(h:f Y Z=aG ao Z'):tK f g Y Z=aG ao Z':=by
 unfold tK;rw[bU h];rfl
theorem Kl{f g:Ev->Mo bb}(h:f Y Z=aG au Z'):tK f g Y Z=g Y Z':=by
 unfold tK;rw[bU h];rfl
theorem fM{F:ai A->Mo A}{fs:Ev->Mo (ai A)}{n:ay}{as:ai A}{a:A}(h:fs Y Z=aG as Z)(hn:as.length=n)(j:F as Z=aG a Z'):aR (cA n F) fs Y Z=aG a Z':=by
 unfold aR;rw[bU h];unfold cA;rw[ax hn];exact j
theorem nI.high{keep:ay}{rs ws:ai Rn}{lost many:a6}(s:nI keep rs lost ws many)(n:a6):aZ rs n+lost<=many:=by
 have h1:=Yx (n:=n) s.pos;have h2:=s.sum;have j:lost*1<=lost*((keep:a6)+1):=abP (by omega) s.lo;omega
theorem nI.kept{keep:ay}{rs ws:ai Rn}{lost many:a6}(s:nI keep rs lost ws many)(n:a6)(h:many<aZ ws n*((keep:a6)+1)):n∈rs.map (·.1):=by
 by_cases hn:n∈rs.map (·.1)
 ·exact hn
 ·exfalso;have h0:=HI hn;have h1:=s.ge n;have h2:=s.sum;have q:=Qh s.pos;have j:aZ ws n*((keep:a6)+1)<=lost*((keep:a6)+1):=Int.mul_le_mul_of_nonneg_right (by omega) (by omega);omega
theorem Pr{keep:ay}{many c:a6}{p q kd:ay}{S ws:ai Rn}(i:keep<=1000)(hS:Z[kd]?=ah (.aQ (encD S)))(d:Z[q]?=ah (.aQ (encD ws)))
  (f:∀n,OU [.aB p,.aB kd,.aB q,.int n,.int many] Z=aG (.bl au) Z) (U:∀n,many<aZ ws n*((keep:a6)+1)->n∈S.map (·.1)) (ok:aH->Prop) (aL:ok Z) (j:av A):∀(L:ai a6) (y:av A),
  ∃z,eO ok (gN 6) Jd (L.map A.int) [aE p,aA keep,aE q,aA c,aA many,aE kd,y,j] Z=fU [aE p,aA keep,aE q,aA c,aA many,aE kd,z,j] Z
 |[],y=>⟨y,by simp[eO,aL]⟩
 |n::L,y=>by
  obtain⟨z,e⟩:=Pr i hS d f U ok aL j L (aA n);refine⟨z,?_⟩;rw[<-e];refine uM (Y0:=[aE p,aA keep,aE q,aA c,aA many,aE kd,aA n,j]) (Z0:=Z) aL (by simp) ?_;unfold Jd;have h:(jK (bK (aR (cA 5 OU) (aC aM (aC fP (aC bX (aC eR (aC dG a0)))))))) [aE p,aA keep,aE q,aA c,aA many,aE kd,aA n,j] Z=aG ao Z :=
   vH (eU (b:=au) (fM (as:=[.aB p,.aB kd,.aB q,.int n,.int many]) (aO (aK rfl) (aO (aK rfl) (aO (aK rfl) (aO (aK rfl) (aO (aK rfl) bJ))))) rfl (f n)))
  rw[bC (iH h)];refine iH ?_;have g:(iO bX eR cM) [aE p,aA keep,aE q,aA c,aA many,aE kd,aA n,j] Z=aG (.int (aZ ws n)) Z:=Hr rfl d rfl;have l:oE (aZ ws n) ((keep:a6)+1):=Ig (by omega) (by omega);have hi:=U n;generalize k:aZ ws n*((keep:a6)+1)=x at hi;have B:(bK (aD lF (aD (sO) (iO bX eR cM) (aD bV aW cJ)) dG)) [aE p,aA keep,aE q,aA c,aA many,aE kd,aA n,j] Z=aG (decide (many<x)) Z:=by
   refine eU (cR (a:=.int x) (cR g (b:=.int ((keep:a6)+1)) (by simp) ?_) (aK (a:=.int many) rfl) (by simp));simp[gI,l,k]
  by_cases dZ:many<x
  ·rw[Kl (Z':=Z) (by rw[B];simp[dZ])];have m:fL Z (.aB kd)=ah (kd,encD S):=mK hS;refine eU (cR (aK (a:=.int n) rfl) (aK (a:=.aB kd) rfl) ?_);simp only[GX,m,jS,ZD,ax (hi dZ)];rfl
  ·exact Km (by rw[B];simp[dZ])
theorem Pq{many:a6}{p q kd:ay}(a:∀n,XY [.aB p,.aB kd,.aB q,.int n,.int many] Z=aG (.bl au) Z)(ok:aH->Prop)(aL:ok Z)(B z j:av A):∀(L:ai a6) (y:av A),
  ∃U,eO ok (gN 7) Jc (L.map A.int) [aE p,B,aE q,z,aA many,aE kd,j,y] Z=fU [aE p,B,aE q,z,aA many,aE kd,j,U] Z
 |[],y=>⟨y,by simp[eO,aL]⟩
 |n::L,y=>by
  obtain⟨U,e⟩:=Pq a ok aL B z j L (aA n);refine⟨U,?_⟩;rw[<-e];refine uM (Y0:=[aE p,B,aE q,z,aA many,aE kd,j,aA n]) (Z0:=Z) aL (by simp) ?_;unfold Jc;exact iH (vH (eU (b:=au) (fM (as:=[.aB p,.aB kd,.aB q,.int n,.int many]) (aO (aK rfl) (aO (aK rfl) (aO (aK rfl) (aO (aK rfl) (aO (aK rfl) bJ))))) rfl (a n))))
theorem aCU{p q keep:ay}{many tk lost:a6}{rs ws:ai Rn}(h:Z[p]?=ah (aV keep many tk rs lost))(g:Z[q]?=ah (.aQ (encD ws)))(s:nI keep rs lost ws many)(hl:rs.length<64)(S:ws.length<=100000)(u:keep<=1000)(c:a6) :
  OT [.aB p,.int keep,.aB q,.int c] Z=aG (.bl au) Z:=by
 have K:p<Z.length:=(cX.mp h).1;have hq:q<Z.length:=(cX.mp g).1;have t:=aDM h s.nd s.pos hl s.len u s.lo s.sum;generalize f:[Cell.lst (aI (dI rs)),.lst ((sortI (rs.map (·.1))).map A.int),.aQ (encD (dI rs))]=j at t;have h1:(Z++j)[p]?=ah (aV keep many tk rs lost):=by rw[eQ K];exact h
 have L:(Z++j)[q]?=ah (.aQ (encD ws)):=by rw[eQ hq];exact g
 have hS:(Z++j)[Z.length+2]?=ah (.aQ (encD (dI rs))):=by rw[<-f,sZ (by omega)];simp
 have F:((dI rs).map (·.1)).Nodup:=((sC rs).map (·.1)).nodup_iff.mpr s.nd;have k:=λn=>aDN h1 hS L n (NO (sC rs) F n) (s.le n) (s.ge n) (s.high n);have i:=λn=>aC5 h1 hS L s.nd hl (sC rs) s.high s.uZ s.ge n;have C:∀n,many<aZ ws n*((keep:a6)+1)->n∈(dI rs).map (·.1):=λn hn=>((sC rs).map (·.1)).mem_iff.mpr (s.kept n hn);have y:=ID h1;have aS:oF many ((keep:a6)+1):=⟨by omega,by omega⟩;have m:(1:ay)<=a7:=by decide
 have l:(4:ay)<=a7:=by decide
 show trim Z (bT (VY [aE p,aA keep,aE q,aA c,ak,ak,ak,ak] Z))=_;obtain⟨z,d⟩:=Pr (c:=c) u hS L k C (λZ'=>iP Z' (.lst ((ws.map (·.1)++[c%99-50]).map A.int))=ah ((ws.map (·.1)++[c%99-50]).map A.int)) (by simp) ak (ws.map (·.1)++[c%99-50]) ak;obtain⟨r,U⟩:=Pq (p:=p) (q:=q) (kd:=Z.length+2) i (λZ'=>iP Z' (.lst ([1,1+c%9,lost+1,1+many/((keep:a6)+1)].map A.int))=ah ([1,1+c%9,lost+1,1+many/((keep:a6)+1)].map A.int)) (by simp) (aA keep) (aA c) z [1,1+c%9,lost+1,1+many/((keep:a6)+1)] ak
 suffices hh:∃B,VY [aE p,aA keep,aE q,aA c,ak,ak,ak,ak] Z=ah (.ret (.bl au),B,Z++j)by
  obtain⟨B,e⟩:=hh;rw[e];simp only[SD];exact KH (by simp only[Cl])
 refine⟨[aE p,aA keep,aE q,aA c,aA many,aE (Z.length+2),z,r],?_⟩;have R:fL Z (.aB q)=ah (q,encD ws):=mK g;have o:fL (Z++j) (.aB q)=ah (q,encD ws):=mK L;unfold VY;have Q:(aR nF (aC (pG ao bX) a0)) [aE p,aA keep,aE q,aA c,ak,ak,ak,ak] Z=aG (.int many) Z:=by
  have w:(pG ao bX) [aE p,aA keep,aE q,aA c,ak,ak,ak,ak] Z=aG (.lst ((ws.map (·.2)).map A.int)) Z:=by
   unfold pG;rw[bU (aK (a:=.aB q) rfl)];simp only[R,YZ];rfl
  unfold aR;rw[bU (aO w bJ)];have M:(dY Z (.lst ((ws.map (·.2)).map A.int))).bind intsOf=ah (ws.map (·.2)):=by
   show intsOf ((ws.map (·.2)).map A.int)=_;exact zI _
  simp only[nF,M,RC,s.wsum]
 rw[bC (fD Q)];simp only[AF,AE];rw[bC (fD (fM (as:=[.aB p,.int keep,.int many]) (aO (aK (by rfl)) (aO (aK (by rfl)) (aO (aK (by rfl)) bJ))) (by rfl) t))];simp only[AF,AE];rw[bC (iH (eU (cR (aK (a:=.aB (Z.length+2)) (by rfl)) (b:=.bQ) (by rfl) (by rfl))))];have P:(fY (aD bV (vC ao bX) (fZ ao (aC (aD (qA) (aD (fH) cH (cI 99)) (cI 50)) a0)))) [aE p,aA keep,aE q,aA c,aA many,aE (Z.length+2),ak,ak] (Z++j)=aG (srcOf (.lst ((ws.map (·.1)++[c%99-50]).map A.int)) ((ws.map (·.1)++[c%99-50]).map A.int)) (Z++j):=by
  have I:(vC ao bX) [aE p,aA keep,aE q,aA c,aA many,aE (Z.length+2),ak,ak] (Z++j)=aG (.lst ((ws.map (·.1)).map A.int)) (Z++j):=by
   unfold vC;rw[bU (aK (a:=.aB q) rfl)];simp only[o,En];rfl
  have v:¬a7<((ws.map (·.1)).map A.int).length+1:=by rw[jP];simp;omega
  have H:(aD bV (vC ao bX) (fZ ao (aC (aD (qA) (aD (fH) cH (cI 99)) (cI 50)) a0))) [aE p,aA keep,aE q,aA c,aA many,aE (Z.length+2),ak,ak] (Z++j)=aG (.lst ((ws.map (·.1)++[c%99-50]).map A.int)) (Z++j):=by
   refine cR I (b:=.lst [.int (c%99-50)]) (by simp[m]) ?_;rw[IK];generalize (ws.map (·.1)).map A.int=X at v;simp[NC,dY,BU,v]
  unfold fY;rw[bU H];simp
 rw[bC (Y1:=[aE p,aA keep,aE q,aA c,aA many,aE (Z.length+2),z,ak]) (Z':=Z++j) (by rw[uL P];exact d)];have N:(fY (fZ ao (aC cJ (aC (aD bV cJ (aD (fH) cH oI)) (aC (aD bV (bP "off" [("Often",bI 1 [] mR)] aM a0) cJ) (aC (aD bV cJ (aD (lG) dG (aD bV aW cJ))) a0)))))) [aE p,aA keep,aE q,aA c,aA many,aE (Z.length+2),z,ak] (Z++j)=aG (srcOf (.lst ([1,1+c%9,lost+1,1+many/((keep:a6)+1)].map A.int)) ([1,1+c%9,lost+1,1+many/((keep:a6)+1)].map A.int)) (Z++j):=by
  have E:(bP "off" [("Often",bI 1 [] mR)] aM a0) [aE p,aA keep,aE q,aA c,aA many,aE (Z.length+2),z,ak] (Z++j)=aG (.int lost) (Z++j):=gD h1 (by rfl) (by rfl) (as:=[]) (das:=[]) (by simp) (by rfl) (by simpa using y);have D:(aD (lG) dG (aD bV aW cJ)) [aE p,aA keep,aE q,aA c,aA many,aE (Z.length+2),z,ak] (Z++j)=aG (.int (many/((keep:a6)+1))) (Z++j):=by
   refine cR (aK (a:=.int many) rfl) (b:=.int ((keep:a6)+1)) (by simp) ?_;simp[gI,aS]
  have G:(aC cJ (aC (aD bV cJ (aD (fH) cH oI)) (aC (aD bV (bP "off" [("Often",bI 1 [] mR)] aM a0) cJ) (aC (aD bV cJ (aD (lG) dG (aD bV aW cJ))) a0)))) [aE p,aA keep,aE q,aA c,aA many,aE (Z.length+2),z,ak] (Z++j)=aG [.int 1,.int (1+c%9),.int (lost+1),.int (1+many/((keep:a6)+1))] (Z++j) :=
   aO (by simp) (aO (by simp) (aO (cR E (b:=.int 1) (by simp) (by simp)) (aO (cR (a:=.int 1) (by simp) D (by simp)) bJ)))
  unfold fY;rw[bU (x:=.lst ([1,1+c%9,lost+1,1+many/((keep:a6)+1)].map A.int)) (Z':=Z++j) (by unfold fZ;rw[bU G];simp[l])];simp
 rw[bC (Y1:=[aE p,aA keep,aE q,aA c,aA many,aE (Z.length+2),z,r]) (Z':=Z++j) (by rw[uL N];exact U)];rfl
end
@[simp] theorem aF2{α:Type}(x y z u v w:α)(l:ai α):jV (x::y::z::u::v::w::l) 5=ah w:=WO _ 5
theorem aCV(c:a6)(z:0<=c):∃t,1<=t/\t<=1000000/\∀Z,yE [.int c] Z=aG (.int t) Z:=by
 have q:oF c 6:=⟨by decide,by decide⟩;have j:(6:ay)<=a7:=by decide
 have hm:c%6=0\/c%6=1\/c%6=2\/c%6=3\/c%6=4\/c%6=5:=by omega
 rcases hm with e|e|e|e|e|e
 ·exact⟨1,by omega,by omega,λZ=>by simp[yE,DA,e,q,j]⟩
 ·exact⟨1,by omega,by omega,λZ=>by simp[yE,DA,e,q,j]⟩
 ·exact⟨1,by omega,by omega,λZ=>by simp[yE,DA,e,q,j]⟩
 ·exact⟨1+c/6%3,by omega,by omega,λZ=>by simp[yE,DA,e,q,j]⟩
 ·exact⟨1+c/6%9,by omega,by omega,λZ=>by simp[yE,DA,e,q,j]⟩
 ·exact⟨1+c/6%1000000,by omega,by omega,λZ=>by simp[yE,DA,e,q,j]⟩
theorem aC9(c way:a6)(f:0<=c)(g:c<2147483587):∃v,∀Z,AI [.int c,.int way] Z=aG (.int v) Z:=by
 have d:oF c 3:=⟨by decide,by decide⟩;have U:oF c 4:=⟨by decide,by decide⟩;have a:AO 10 15:=⟨by decide,by decide,by decide⟩;have b:oE (c%3) (c/3%14):=HK (by omega) (by omega);have L:∀j,oE (c/4%1999-999) j:=λj=>HK (by omega) (by omega);have h2:(2:ay)<=a7:=by decide
 by_cases B:way=0
 ·exact⟨c%7,λZ=>by simp[AI,HQ,B]⟩
 by_cases z:way=1
 ·exact⟨c%3*(c/3%14),λZ=>by simp[AI,HQ,z,d,b]⟩
 by_cases q:way=2
 ·exact⟨c%60-30,λZ=>by simp[AI,HQ,q]⟩
 by_cases e:c%4=0
 ·exact⟨(c/4%1999-999)*10 ^ 15,λZ=>by simp[AI,HQ,B,z,q,U,L,a,h2,e]⟩
 ·exact⟨c%3,λZ=>by simp[AI,HQ,B,z,q,U,L,a,h2,e]⟩
theorem xC{t:Ev->Mo bb}{f g:MS}{Y:Ev}{Z Z':aH}{b:bb}(h:t Y Z=aG b Z'):dQ t f g Y Z=if b then f Y Z' else g Y Z':=by
 unfold dQ;rw[dP h]
theorem vT{g:ai A->Mo A}{fs:Ev->Mo (ai A)}{Y:Ev}{Z Z':aH}{as:ai A}{a:A}(h:fs Y Z=aG as Z)(j:g as Z=aG a Z'):aR g fs Y Z=aG a Z':=by
 unfold aR;rw[bU h];exact j
end M
namespace L2
open PySem PySem.Spec PyProof.Rows
structure XT(K:ba)(C:aq):Prop where
 cls:mS K C
 ha:bx K (.ref C) "__class__" = ah (ah (.builtin "object.__class__"))
 hn:specialIn K (.builtin "object.__class__") "__get__" = ah (ah (.builtin "getset_descriptor.__get__"))
 tk:takesIn K (.builtin "object.__class__")=ah au
 mro:mroIn K C (.type "object")=ah au
section
variable{X:Cx}
theorem aAK:mT X (.builtin "isinstance") (λxs H Q=>∃(a C D dx:aq) (fs:ai (a5×V)) (b:bb),xs=[.ref a,.ref D]/\H a=ah (.ins C dx fs)/\XT X.K C/\c7 X.K (.ref C) (.ref D)=ah b/\Q (.bl b) H):=by
 intro aa s J H xs us Q I r h;obtain⟨a,C,D,dx,fs,b,rfl,L,iso,e,q⟩:=h;obtain⟨u,v,rfl,j,rv⟩:=vals2 r;obtain rfl:u=.ref a:=j;obtain rfl:v=.ref D:=rv;obtain⟨d,z,ne,ob,f,n,U,c⟩:=I.aL a _ L;obtain⟨od,hd⟩:∃od,s.heap.get? dx=ah od:=by
  obtain⟨o,_,_,B,_⟩:=n;exact⟨o,B⟩
 have Ω:=PySem.W.kitx_own (x:=a) (D:=C) (ox:=instObj C dx) (od:=od) (iso.cls.get _) iso.cls.hd iso.ha iso.hn iso.tk iso.mro;exact dk Ω I.fB ⟨ob,rfl,rfl,hd⟩ e (by intro z;cases z) λtk=>⟨.bl b,H,I.tok tk,rfl,q⟩
end
end L2
namespace V2
open PySem PySem.Spec PyProof.Rows L2
def XS(K:ba)(cs:ai a5):Prop:=∀c∈cs,∀d∈cs,∃C D,cc K aw c=ah (ah (.ref C))/\cc K aw d=ah (ah (.ref D))/\XT K C/\c7 K (.ref C) (.ref D)=ah (decide (c=d))
theorem Uz{K:ba}{C:aq}:c7 K (.ref C) (.ref C)=ah au:=by
 unfold c7;rw[ax (by simp)]
structure OP(K:ba)(mg:a5->av aj)(x:a5):Prop where
 ex:∃C,mg x=ah (.ref C)/\cc K aw x=ah (ah (.ref C))
section
variable{X:Cx}{W:WX}{x:a5}{pos:cq}
theorem Oq(h:OP X.K X.mg x)(j:Gl X x)(hd:(x==("__debug__" : a5))=ao:=by decide):VE X W (.Name x pos) (cG x):=by
 obtain⟨C,h1,h2⟩:=h.ex;exact Oo j h1 h2 hd
@[simp] noncomputable def UT(cs:ai a5)(as:ai A):Mo A:=λZ=>match as with
 | [.aB s,.gl d]=>(match Z[s]? with
  |some (.ins c _)=>if c∈cs/\d∈cs then ah (.ok (.bl (decide (c=d))),Z)else ak
  | _=>ak)
 |_=>ak
theorem Zh{cs:ai a5}(T:XS X.K cs):qP X W (.builtin "isinstance") (UT cs):=by
 refine⟨_,aAK,?_⟩;intro G L m H J n r Q w d h;unfold UT at h;split at h
 ·rename_i s k;split at h
  ·rename_i c fs eo;split at h
   ·rename_i z;obtain⟨x,y,rfl,l,B⟩:=HE d;obtain⟨a,C,i,U,rfl,ha,o,g,b,p⟩:=w.ins eo l;simp only[Den]at B;obtain⟨D,f,rfl⟩:=B;obtain⟨u,t,q,j,iso,e⟩:=T c z.1 k z.2;rw[g]at q;cases q;rw[f]at j;cases j;exact⟨a,C,D,i,U,_,rfl,b,iso,e,h _ H G L (Ext.refl _ _) w (by simp only[Den])⟩
   ·exact False.elim h
  ·exact False.elim h
 ·exact False.elim h
end
section
variable{X:Cx}{W:WX}{a b c d:bp}{ta tb tc td:TE}{fa fb fc fd:Ev->Mo A}{pos:cq}
def ab0(_ j:a6):Prop:=0<j/\j<1152921504606846976
instance (i j:a6):dm (ab0 i j):=by unfold ab0;infer_instance
end
end V2
namespace M
open PySem V2
noncomputable section
def Jy:MS :=
 (gW (bP "count_in" [("Often",bI 3 [] PB)] aM (aC bX (aC cH a0))))
def WI:MS :=
 (aT (pI (fY (bP "counts" [("Often",bI 1 [] DY)] aW a0)) (nE 2 (fV (gN 2) (fV (gN 3) nV))) Jy)
  (aT (jQ ["Often"] "lost" aM (aD bV (dF ["Often"] "lost" aM) (dF ["Often"] "lost" aW)))
  (gW (bP "cut_down" [("Often",bI 1 [] OZ)] aM a0))))
def YA:ai A->Mo A:=cF 4 WI
end
open PySem L2 V2
def gC(rs l:ai Rn):ai Rn:=l.foldl (λacc r=>bW acc r.1 r.2) rs
theorem RD:∀(l rs:ai Rn),bS (gC rs l)=bS rs+bS l
 |[],rs=>by simp[gC,bS]
 |r::l,rs=>by
  show bS (gC (bW rs r.1 r.2) l)=_;rw[RD l,RE];simp only[bS];omega
theorem NP:∀(l rs:ai Rn) (m:a6),(l.map (·.1)).Nodup->aZ (gC rs l) m=aZ rs m+aZ l m
 |[],rs,m,_=>by simp[gC,aZ]
 |r::l,rs,m,nd=>by
  rw[cW,nZ]at nd;show aZ (gC (bW rs r.1 r.2) l) m=_;rw[NP l _ m nd.2,HJ];simp only[aZ]
  by_cases h:r.1=m
  ·have j:aZ l m=0:=HI (by rw[<-h];exact nd.1);rw[ax h,ax h.symm];omega
  ·rw[a8 h,a8 (cK h)];omega
theorem SK:∀(l rs:ai Rn),(rs.map (·.1)).Nodup->((gC rs l).map (·.1)).Nodup
 |[],rs,h=>h
 |r::l,rs,h=>SK l _ (BP rs r.1 r.2 h)
theorem Dd:∀(l rs:ai Rn),(∀r∈l,1<=r.2)->(∀r∈rs,1<=r.2)->∀r∈gC rs l,1<=r.2
 |[],rs,_,h=>h
 |r::l,rs,hl,h=>Dd l _ (λq hq=>hl q (by simp[hq])) (RW rs r.1 r.2 (hl r (by simp)) h)
theorem Uu:∀(l rs:ai Rn),(gC rs l).length<=rs.length+l.length
 |[],rs=>by simp[gC]
 |r::l,rs=>by
  have h1:=Uu l (bW rs r.1 r.2);have h2:=LU rs r.1 r.2;show(gC (bW rs r.1 r.2) l).length<=_;simp only[lH];omega
theorem ay5{keep:ay}{j z:ai Rn}{lost many1:a6}(L:(j.map (·.1)).Nodup)(B:∀r∈j,1<=r.2)(lo:0<=lost)(l:lost*((keep:a6)+1)+bS j<=many1)(g:∀m,aZ j m<=aZ z m)(ge1:∀m,aZ z m<=aZ j m+lost)
  (b:(z.map (·.1)).Nodup) (d:∀r∈z,1<=r.2) (f:bS z=many1):nI keep (hJ keep j) (lost+taken j keep) z many1:=by
 by_cases q:keep<j.length
 ·have a:=Yr j keep q;have i:=Ys j keep q;have h:=Yq j B keep q;rw[show hJ keep j=dI (eK (taken j keep) j)by unfold hJ;rw[ax q]];generalize taken j keep=u at a i h ⊢;have hS:=sC (eK u j);have o:=NI u j L;have U:((dI (eK u j)).map (·.1)).Nodup:=(hS.map (·.1)).nodup_iff.mpr o;have c:=λm=>(NO hS U m).trans (Hn u j m L B (by omega));have k:=Hm u j B (by omega);refine⟨U,λr hr=>Xn u j r (hS.mem_iff.mp hr),?_,?_,?_,λm=>?_,λm=>?_,b,d,f⟩
  ·rw[hS.length_eq,Xo];exact a
  ·omega
  ·rw[RB hS];have hm:u*((keep:a6)+1)<=u*((j.filter λr=>decide (u<=r.2)).length:a6):=abP (by omega) (by omega);rw[Int.add_mul];omega
  ·rw[c m];have:=g m;have p:=VM (n:=m) B;split <;> omega
  ·rw[c m];have:=ge1 m;split <;> omega
 ·have e:hJ keep j=j:=by unfold hJ;rw[a8 q]
  rw[e,QU j keep q,Int.add_zero];exact⟨L,B,by omega,lo,l,g,ge1,b,d,f⟩
theorem nI.join{keep:ay}{rs ws gX z:ai Rn}{lost many jE gE:a6}(s:nI keep rs lost ws many)(t:nI keep gX jE z gE) :
  nI keep (hJ keep (gC rs (dI gX))) (lost+jE+taken (gC rs (dI gX)) keep) (gC ws z) (many+gE):=by
 have hS:=sC gX;have j:((dI gX).map (·.1)).Nodup:=(hS.map (·.1)).nodup_iff.mpr t.nd;have q:=λm=>NO hS j m;have L:∀r∈dI gX,1<=r.2:=λr hr=>t.pos r (hS.mem_iff.mp hr);have B:=RB hS;refine ay5 (SK _ _ s.nd) (Dd _ _ L s.pos) (by have:=s.lo;have:=t.lo;omega) ?_ (λm=>?_) (λm=>?_) (SK _ _ s.uZ) (Dd _ _ t.YK s.YK) ?_
 ·rw[RD,B,Int.add_mul];have:=s.sum;have:=t.sum;omega
 ·rw[NP _ _ m j,NP _ _ m t.uZ,q m];have:=s.le m;have:=t.le m;omega
 ·rw[NP _ _ m j,NP _ _ m t.uZ,q m];have:=s.ge m;have:=t.ge m;omega
 ·rw[RD,s.wsum,t.wsum]
section
variable{Z:aH}{p o keep:ay}{many tk lost gE nQ jE:a6}{rs gX:ai Rn}
theorem Pp{X:Cell}{E:aH}{a:A}(h:p<Z.length):∃q,trim Z (ah (.ok a,Z.set p X++E))=aG a (Z.set p X++q):=by
 simp only[trim];split
 ·rename_i j;have hl:(Z.set p X++E).take Z.length=Z.set p X:=by
   rw[List.take_append_of_le_length (by simp),abJ (by simp)]
  rw[hl]at j;exact⟨[],by rw[j.1];simp⟩
 ·exact⟨E,rfl⟩
theorem Xd{X:Cell}{E:aH}{k:ay}(j:k<Z.length)(dB:k≠p):(Z.set p X++E)[k]?=Z[k]?:=by
 rw[eQ (by simpa using j),eW (cK dB)]
theorem GR{X:Cell}{E:aH}(j:p<Z.length):(Z.set p X++E)[p]?=ah X:=by
 rw[eQ (by simpa using j),fJ j]
theorem RL{X ρ:Cell}{E:aH}(j:p<Z.length):(Z.set p X++E).set p ρ=Z.set p ρ++E:=by
 rw[abL _ _ (by simpa using j),qJ]
end
end M
namespace L2
open PySem PySem.Spec PyProof.Rows
def aa5(p:aq)(oe:cj)(outer:ai Env)(s:ar)(H:Hp):Prop:=s.heap.get? p=ah oe/\H p=ak/\p∉iD outer/\∀v,oe.data≠.cell v
def aa2(P:a9)(w:bh)(K:ba)(mg:a5->av aj)(base:bu)(k:ay)(f:aq)(fd:ck)(ps:ai a5)(p:aq)(oe:cj)(sp:Sp):Prop :=
 ∀(A:bj) (outer:ai Env) (s:ar) (H:Hp) (args:Args) (us:ai aj) (vs:ai V) (Q:VK) (E:XK),cE k A->yJ P w K mg base A outer s H->BindsTo s fd args (ps.zip us)->Vals vs us->aa5 p oe outer s H->sp vs H Q E ->
  codeAny (bc P w) (A.mark (ah (.ref p))) (.call (.ref f) args) (CR pS outer P w H s Q E) s
section
variable{P:a9}{w:bh}{K:ba}{mg:a5->av aj}{base:bu}{p:aq}{oe:cj}
set_option maxRecDepth 100000 in
theorem av9{k:ay}{f:aq}{name af:a5}{params:Arguments}{body:ai bo}{scope:cp}{dV kV doc pm aS ct oc:aj}{an od:av aq}
  {gY:bf (av aj)} {N ps:ai a5} {sp:Sp} (lk:K.lookup f=ah ⟨oc,od,.func (fnOf name af params body scope dV kV doc pm an aS ct),gY⟩) (jG:codeIn K aS af=au) (S:cL N ps scope)
  (len:∀vs H Q E,sp vs H Q E->vs.length=ps.length)
  (iB:∀(A:bj) (outer:ai Env) (s:ar) (H:Hp) (vs:ai V) (Q:VK) (E:XK),cE k (A.deeper (cn af scope s.heap.objs.size f aS))->sp vs H Q E ->
   ∃t,nX ((kP pS P w K mg base N af scope f aS A outer s H E).kQ p oe) body t/\t {nx:=λ_ H'=>Q .bQ H',rt:=Q} (start N vs) H) :
  aa2 P w K mg base (k+1) f (fnOf name af params body scope dV kV doc pm an aS ct) ps p oe sp:=by
 intro A outer s H args us vs Q E hr e0 hb r pin gF;have hl:=len _ _ _ _ gF;have KX:K.In s.heap:=e0.mod.tX.keeps λb o e=>(e0.bs b o e).1;have lim:s.heap.NoLimit:=e0.mod.nolimit.keeps λb o e=>(e0.bs b o e).1;have MF:∀y∈ps.zip us,scope.names.lookup y.1=ah .local\/(scope.names.lookup y.1=ah .cell/\((cellsFrom (s.heap.objs.size+1) scope.names []).lookup y.1).isSome=au):=λ⟨n,v⟩ hy=>by
  rcases S.par n (XJ hy).1 with q|q
  ·exact .inl q
  ·exact .inr ⟨q,cellsFrom_some _ _ _ (.inl q)⟩
 refine Yu (A:=A.mark (ah (.ref p))) hr.depth (KX _ _ lk) rfl S.co S.gen rfl (codeRec_of KX jG) (hb _ _ _ _ ?_);refine Oe S.kind MF λenv he s1 x=>?_;subst he;refine⟨lim.keeps x.toInCall.keep,codeAny_func ?_⟩;obtain⟨t,ht,hq⟩:=iB A outer s H vs Q E (hr.deeper _) gF;have I0:Inv (kP pS P w K mg base N af scope f aS A outer s H E) [] (start N vs) H s1:=Eu S hr.hd e0 hl r x;obtain⟨p1,p2,p3,p4⟩:=pin;have dZ:p<s.heap.objs.size:=by
  rcases XB p s.heap.objs.size with h|h
  ·exact h
  ·exfalso
   first|(rw[Heap.aFP h]at p1;cases p1)|(simp[Heap.get?,h]at p1)|(unfold Heap.get? at p1;simp[h]at p1)
 have I:Inv ((kP pS P w K mg base N af scope f aS A outer s H E).kQ p oe) [] (start N vs) H s1:=I0.kQ ⟨x.toInCall.keep _ _ p1,p2,λz=>bz dZ (by rw[z];exact Nat.lt_irrefl _),p3,p4⟩;refine lZ (ht [] s1 (start N vs) H _ I hq) (λfl s' hs=>?_) λe s' hs=>hs.elim;have fin:∀{J':St} {H':Hp} {v:V} {u:aj},Inv ((kP pS P w K mg base N af scope f aS A outer s H E).kQ p oe) [] J' H' s'->RelV v u->Q v H'->CE outer P w H s Q u s' :=
  λ{J' H' v u} σ rv q=>⟨v,H',σ.os,σ.bare,σ.base,σ.aL,rv,q⟩
 cases fl with
 |ret u =>
  obtain⟨v,J',H',σ,rv,q⟩:=hs;exact fin σ rv q
 |next =>
  obtain⟨J',H',σ,q⟩:=hs;exact fin (v:=V.bQ) (u:=Value.none) σ rfl q
 |brk =>
  obtain⟨_,_,_,q⟩:=hs;exact False.elim q
 |cont =>
  obtain⟨_,_,_,q⟩:=hs;exact False.elim q
end
end L2
namespace V2
open PySem PySem.Spec PyProof.Rows L2
def AN(P:a9)(w:bh)(K:ba)(mg:a5->av aj)(base:bu)(x:a5)(k:ay)(ps:ai a5)(p:aq)(oe:cj)(F:ai A->Mo A):Prop :=
 ∃f fd,aa2 P w K mg base k f fd ps p oe (λvs H Q _=>qT K ps.length F vs H Q λ_ _ _=>b5)/\mg x=ah (.ref f)/\keepIn K (.ref f)=au/\Binds K fd ps []
theorem AN.of{P:a9}{w:bh}{K:ba}{mg:a5->av aj}{base:bu}{p:aq}{oe:cj}{x:a5}{st:bo}{N ps:ai a5}{k:ay}{b:MS}(h:HasFn K mg x st)(S:cL N ps (aY st))
  (bind:∀(kV doc pm:aj) (an:av aq) (aS ct:aj) (us:ai aj),us.length=ps.length->dh (fnOf x x (kO st) (eZ st) (aY st) .none kV doc pm an aS ct) ⟨us,[]⟩=pure (ps.zip us))
  (iB:∀(f:aq) (aS:aj) (A:bj) (outer:ai Env) (s:ar) (H:Hp) (E:XK),cE k (A.deeper (cn x (aY st) s.heap.objs.size f aS)) ->
   fN ((kP pS P w K mg base N x (aY st) f aS A outer s H E).kQ p oe) kH (eZ st) b):AN P w K mg base x (k+1) ps p oe (cF N.length b):=by
 obtain⟨f,fd,hm,F⟩:=h.ex;refine⟨f,fd,?_,hm,F.kp,F.binds bind⟩;obtain⟨oc,od,kV,doc,pm,an,aS,ct,gY,rfl,lk,jG⟩:=F.ex;refine av9 lk jG S (λvs H Q E h=>h.1) λA outer s H vs Q E hr gF=>?_;obtain⟨t,p,q⟩:=iB f aS A outer s H E hr;exact⟨t,p,NR (E:=λ_ _ _=>b5) q gF⟩
section
variable{X:Cx}{W:WX}{x:a5}{e:bp}{es:ai bp}{np pos:cq}{fs:Ev->Mo (ai A)}{p:aq}{oe:cj}
theorem YU{k:ay}{ps:ai a5}{F:ai A->Mo A}(D:AN X.prog X.w X.K X.mg X.base x k ps p oe F)(hr:cE k X.A)(C:Gl (X.kQ p oe) x)(ha:VA (X.kQ p oe) W (e::es) fs)
  (E:(x==("__debug__" : a5))=ao:=by decide) (he:az (e::es) X.env=(ao,br e X.env)::az es X.env:=by rfl) (M:(b8 pos (az es X.env)).any (·.1)=ao:=by rfl):VE (X.kQ p oe) W (.Call (.Name x np) (e::es) [] pos) (aR (lR (cA ps.length F)) fs):=by
 obtain⟨f,T,R,hm,v,hb⟩:=D;obtain⟨t,p1,s1⟩:=ha;refine⟨aeT (λvs H Q _=>qT X.K ps.length F vs H Q λ_ _ _=>b5) [] E0 t,?_,λG l n H J i Q w r h=>?_⟩
 ·intro aa s J H Q I h;refine uY (BR I C hm ?_ E);refine callWith_K (h₀:=X.base) I.ok.mod.tX v (bN (p1 pos aa s J H _ I h) λus s1 ⟨vs,U,j,r,q⟩=>⟨j.fB,?_⟩) he M;have q:qT X.K ps.length F vs U Q λ_ _ _=>b5:=by
   have q:=q;simp only[wC]at q;exact q
  have hl:us.length=ps.length:=by rw[<-r.length];exact q.1
  have d:=hb s1 us j.fB (by rw[wC];exact hl);rw[wC]at d;have pin:=j.pin (p,oe) (AH _ (nL _ (AG _)));have e0:=j.NN;have N:yJ X.prog X.w X.K X.mg X.base X.A X.stack s1 U:=⟨e0.frames,e0.mod,e0.bs,e0.qE,e0.nW,e0.sS,e0.aL,e0.bare⟩;have pn:aa5 p oe X.stack s1 U:=by
   refine⟨pin.1,pin.2.1,λz=>?_,pin.2.2.2.2⟩
   rcases j.ok.qR with q|⟨q,L⟩
   ·rw[show X.stack=X.outer from q]at z;exact pin.2.2.2.1 z
   ·rw[show X.stack=X.env::X.outer from q]at z;have L:X.env.frame=ah X.env.locals:=L;unfold iD at z;rw[XO,L]at z
    rcases eB.mp z with y|y
    ·exact pin.2.2.1 y
    ·exact pin.2.2.2.1 y
  refine JQ (uN (R X.A X.stack s1 U ⟨us,[]⟩ us vs Q E0 hr N d r pn q) λr s' hq=>?_);cases r with
  |error V=>exact False.elim hq
  |ok fl =>
   cases fl with
   |ret u=>exact j.after hq
   |next=>exact False.elim hq
   |brk=>exact False.elim hq
   |cont=>exact False.elim hq
 ·refine s1 G l n H J i _ w r (bR.mb h λc B vs U P b S o g h1=>?_);unfold lR cA at h1;rw[wC]
  by_cases hl:c.length=ps.length
  ·rw[ax hl]at h1;refine⟨by rw[g.length];exact hl,P,b,B,c,o,g,?_⟩
   revert h1
   generalize F c B=L;intro h1
   match L,h1 with
   |some (.ok a,m),h1=>exact h1
  ·rw[a8 hl]at h1;exact False.elim h1
end
abbrev HF:=aq->aq->Exc->MS
noncomputable def UM:a5->av HF:=λ_=>ak
def zO(rs ns:ai a5)(y:a5)(j:HF)(g:a5->av HF):a5->av HF:=λz=>match jO rs ns z y with
 |some au=>ah j
 |some ao=>g z
 |none=>ak
def VH(X:Cx)(i:ay)(hs:ai cz)(g:a5->av HF):Prop:=∃th,PH X hs th/\∀(e:Exc) (j:HF),g e.cls=ah j->∀(x:aq) (cls:aj) (dx:av aq) (D:Ends) (J:L2.St) (H:Hp),
 (∃E,cc X.K aw e.cls=ah (ah (.ref E))/\cls=.ref E)->(∃d,EA e d dx/\wL X.K kH (j x d e) (D.drop i) (J.set i (ah (.ref x))) H)->th x cls dx D J H
theorem acY{X:Cx}{i:ay}:VH X i [] UM:=⟨ZS,Su,λ_ _ h=>by cases h⟩
theorem Oj{X:Cx}{i:ay}{n y:a5}{np GB:cq}{b₀:bo}{suite:ai bo}{rest:ai cz}{rs ns:ai a5}{L:HF}{g:a5->av HF}(t:kR X)(c:kE X.K X.mg y)(k:Gl X y)(hT:rO X.K rs ns)(o:X.N.Nodup)(hi:X.N[i]?=ah n)(hl:X.env.scope.names.lookup n=ah .local)
  (hh:∀(p:aq) (oe:cj) (d:aq) (e:Exc),EE X.K oe d e->fN (X.kQ p oe) kH (b₀::suite) (L p d e)) (hr:VH X i rest g)
  (s:(y==("__debug__" : a5))=ao:=by decide):VH X i (.ExceptHandler (ah (.Name y np)) (ah n) (b₀::suite) GB::rest) (zO rs ns y L g):=by
 obtain⟨C,r,h1,h2⟩:=c;obtain⟨u,p1,p2⟩:=hr;refine⟨_,Sv t r k h1 o hi hl (ts:=λx cls U D J H=>∃(e:Exc) (d:aq),(∃E,cc X.K aw e.cls=ah (ah (.ref E))/\cls=.ref E)/\EA e d U/\wL X.K kH (L x d e) D J H) (λx oe l=>?_) p1 s,?_⟩
 ·intro aa f J H D I ⟨e,d,he,hd,q⟩;exact(hh x oe d e ⟨l,he,hd⟩).qD aa f J H D I q
 ·intro e B hq x cls U D J H m hd;have sub:∀b E,jO rs ns e.cls y=ah b->cc X.K aw e.cls=ah (ah (.ref E))->b4 X.K (.ref E) (.ref C)=ah b:=λb E q h=>by
   unfold jO at q;split at q
   ·rename_i hm;rw[<-q];exact hT.sub _ hm.1 _ hm.2 _ _ h h2
   ·cases q
  obtain⟨E,j,rfl⟩:=m;unfold zO at hq;split at hq
  ·rename_i z;cases hq;obtain⟨d,a,hd2⟩:=hd;refine⟨E,au,rfl,sub _ _ z j,?_⟩;rw[ax rfl];exact⟨e,d,⟨E,j,rfl⟩,a,hd2⟩
  ·rename_i z;refine⟨E,ao,rfl,sub _ _ z j,?_⟩;rw[a8 (by simp)];exact p2 e B hq x _ U D J H ⟨E,j,rfl⟩ hd
  ·cases hq
open Classical in
noncomputable def BG(i:ay)(g:a5->av HF)(fb:MS):MS:=λY Z=>match fb Y Z with
 | some (.exc e,Y1,Z1)=>(match g e.cls with
  |some fh=>if hr:∃r,∀p d,xP i (fh p d e (Y1.set i (ah (mI p d e))) Z1)=ah r then ah (Classical.choose hr)else ak
  | none=>ak)
 |r=>r
theorem Po{i:ay}{g:a5->av HF}{fb:MS}{j:HF}{Y Y1:Ev}{Z Z1:aH}{e:Exc}{r:Out×Ev×aH}(h:fb Y Z=ah (.exc e,Y1,Z1))(hs:g e.cls=ah j)(hr:∀p d,xP i (j p d e (Y1.set i (ah (mI p d e))) Z1)=ah r):BG i g fb Y Z=ah r:=by
 have q:∃r,∀p d,xP i (j p d e (Y1.set i (ah (mI p d e))) Z1)=ah r:=⟨r,hr⟩;have z:=PN q 0 0;rw[hr 0 0]at z;simp only[BG,h,hs];rw[dif_pos q,<-z]
theorem adW{i:ay}{g:a5->av HF}{fb:MS}{Y Y1:Ev}{Z Z1:aH}(h:fb Y Z=ah (.nx,Y1,Z1)):BG i g fb Y Z=ah (.nx,Y1,Z1):=by simp only[BG,h]
theorem acK{X:Cx}{W:WX}{i:ay}{pos:cq}{body:ai bo}{y:cz}{hs:ai cz}{fb:MS}{g:a5->av HF}(t:kR X)(s:X.ex=[])
  (hb:∀W,xV (X.mB (XE X W)) W body fb) (hv:VH X i (y::hs) g):NX X W (.Try body (y::hs) [] [] pos) (BG i g fb):=by
 obtain⟨V,p1,p2⟩:=hv;refine⟨_,Sm t s (tb:=λW=>wL X.K W fb) (λW=>(hb W).qD) p1,?_⟩;intro G I v H J u D w r h;refine⟨G,I,v,u,w,r,?_⟩;unfold BG at h
 revert h
 generalize fb u v=q;intro h
 match q,h with
 |none,h=>exact h
 |some (.nx,B,L),h=>exact h
 |some (.bk,B,L),h=>exact h
 |some (.ct,B,L),h=>exact h
 |some (.ret a,B,L),h=>exact h
 |some (.exc e,B,L),h =>
  simp only at h;split at h
  ·rename_i A hs;split at h
   ·rename_i hr;intro J' H' F o p M P cls C s x R;obtain⟨⟨E,S,rfl⟩,T⟩:=s;refine p2 e A hs x _ C D J' H' ⟨E,S,rfl⟩ ?_;have hd:∃d,EA e d C/\Den X.K F o (.ref x) (mI x d e):=by
     rcases T with⟨h1,rfl⟩|⟨d,f,i',rfl,h1,h2⟩
     ·exact⟨0,.inl ⟨h1,rfl⟩,by unfold mI;rw[h1];simp only[Den]⟩
     ·exact⟨d,.inr ⟨by rw[h1];simp,rfl⟩,by unfold mI;rw[h1];simp only[Den];exact⟨trivial,h2⟩⟩
    obtain⟨d,N,hd2⟩:=hd;refine⟨d,N,F,o,L,B.set i (ah (mI x d e)),M,P.set i hd2,?_⟩;have hq:=PN hr x d
    revert hq h
    generalize Classical.choose hr=rr;generalize A x d e (B.set i (ah (mI x d e))) L=Q;intro h hq
    match Q,hq with
    |some (.nx,U,b),hq=>cases hq;exact λj m n z c k l=>h (j.set i ak) m n z (p.trans c) k (l.unset i ak)
    |some (.bk,U,b),hq=>cases hq;exact λj m n z c k l=>h (j.set i ak) m n z (p.trans c) k (l.unset i ak)
    |some (.ct,U,b),hq=>cases hq;exact λj m n z c k l=>h (j.set i ak) m n z (p.trans c) k (l.unset i ak)
    |some (.ret a,U,b),hq=>cases hq;exact λj m n z c k l=>h (j.set i ak) m n z (p.trans c) k (l.unset i ak)
   ·exact False.elim h
  ·exact False.elim h
open PySem PySem.Spec PyProof.Rows L2 KS
section
variable{X:Cx}{W:WX}{e:bp}{i:ay}{f:a5}{cs:ai a5}{iY:cq}
theorem ac6(c:bb){p1 ag z j:cq}(k:X.calm=au)(he:VE X W e (dO i))(U:bY X.K cs f)(L:Gl X "list")(hm:X.mg "list" = ak)
  (hb:bw e f X.env (br e X.env)=br e X.env:=by rfl)
  (hs:az [.Call (.Attribute (.Attribute e f iY) "values" ag) [] [] j] X.env=[(ao,br (.Call (.Attribute (.Attribute e f iY) "values" ag) [] [] j) X.env)]:=by rfl)
  (g:bw (.Attribute e f iY) "values" X.env (br (.Attribute e f iY) X.env)=br (.Attribute e f iY) X.env:=by rfl) (d:(ag.endLine==j.line)=au:=by rfl) :
  VE X W (.Call (.Name "list" p1) [.Call (.Attribute (.Attribute e f iY) "values" ag) [] [] j] [] z) (iG cs i f λkvs=>jD c (kvs.map (·.2))):=by
 obtain⟨t,p,s⟩:=he;refine⟨_,Sy k L hm (FI p hb) hs g d,?_⟩;refine JW (R:=λx q Q=>∃a kvs,x=.ref a/\q a=ah (.dK kvs)/\∀(l:aq),q l=ak->Q (.ref l) (upd q l (.lst (kvs.map (·.2))))) s U λG m n H J b vs kvs Q w hb o B h=>?_;exact⟨b,vs,rfl,hb,λl hl=>pY w hl B h⟩
end
section
variable{P:a9}{w:bh}{K:ba}{mg:a5->av aj}{base:bu}
theorem dH.o{x:a5}{st:bo}{N ps:ai a5}{k:ay}{b:MS}(h:HasFn K mg x st)(S:cL N ps (aY st))
  (iB:∀{f:aq} {aS:aj} {A:bj} {outer:ai Env} {s:ar} {H:Hp} {E:XK},cE k (A.deeper (cn x (aY st) s.heap.objs.size f aS)) ->
   fN (oZ P w K mg base N x (aY st) f aS A outer s H E) (λ_=>E) (eZ st) b)
  (bind:∀(kV doc pm:aj) (an:av aq) (aS ct:aj) (us:ai aj),us.length=ps.length->dh (fnOf x x (kO st) (eZ st) (aY st) .none kV doc pm an aS ct) ⟨us,[]⟩=pure (ps.zip us):=by exact λ_ _ _ _ _ _ us hl=>(by first|exact QM us hl λ_=>rfl|exact BA us hl λ_ _=>rfl|exact QL us hl λ_ _ _=>rfl|exact ZF us hl λ_ _ _ _=>rfl|exact Pg us hl λ_ _ _ _ _=>rfl)) :
  dH P w K mg base x (k+1) ps (cF N.length b):=dH.of h S bind λ_ _ _ _ _ _ _=>iB
theorem bL.o{cls m af:a5}{st:bo}{N ps:ai a5}{k:ay}{b:MS}(h:iL K mg cls m af st)(S:cL N ps (aY st))
  (iB:∀{f:aq} {aS:aj} {A:bj} {outer:ai Env} {s:ar} {H:Hp} {E:XK},cE k (A.deeper (cn af (aY st) s.heap.objs.size f aS)) ->
   fN (oZ P w K mg base N af (aY st) f aS A outer s H E) (λ_=>E) (eZ st) b)
  (bind:∀(kV doc pm:aj) (an:av aq) (aS ct:aj) (us:ai aj),us.length=ps.length->dh (fnOf m af (kO st) (eZ st) (aY st) .none kV doc pm an aS ct) ⟨us,[]⟩=pure (ps.zip us):=by exact λ_ _ _ _ _ _ us hl=>(by first|exact QM us hl λ_=>rfl|exact BA us hl λ_ _=>rfl|exact QL us hl λ_ _ _=>rfl|exact ZF us hl λ_ _ _ _=>rfl)) :
  bL P w K mg base cls m (k+1) ps.length [] (cF N.length b):=bL.of h S bind λ_ _ _ _ _ _ _=>iB
end
section
variable{X:Cx}{W:WX}
theorem gS(i:ay){x:a5}{pos:cq}(z:decide X.N.Nodup=au:=by kernel_rfl)(hi:X.N[i]?=ah x:=by rfl)(j:Loc X.env.scope x:=by first|exact .inl rfl|exact .inr rfl)(q:X.fn x=au\/X.env.scope.names.lookup x=ah .local:=by first|exact .inl rfl|exact .inr rfl|assumption):VG X W (.Name x pos) (gN i):=acZ (Tj z) hi j q
theorem dJ(i:ay){x:a5}{e:bp}{fe:Ev->Mo A}{pos pos':cq}(he:VE X W e fe)(z:decide X.N.Nodup=au:=by kernel_rfl)(hi:X.N[i]?=ah x:=by rfl)(j:Loc X.env.scope x:=by first|exact .inl rfl|exact .inr rfl)(hs:da e (ah (.Name x pos')) pos.line X.env=pure ao:=by rfl)(q:X.fn x=au\/X.env.scope.names.lookup x=ah .local:=by first|exact .inl rfl|exact .inr rfl|assumption) :
  VS X W (.Assign [.Name x pos'] e pos) (bZ fe (gN i)):=acO (Tj z) hi j he hs q
theorem AY{elt tg iter:bp}{ifs:ai bp}{scope:cp}{pos:cq}{fi:Ev->Mo Src}{g:A->MS}{c:Ev->Mo bb}{e:Ev->Mo A}(z:bb)(q:ai a5)(j:ai ay)(hi:VI X W tg iter fi)
  (hb:∀{cl C s H fp},VG (gL X scope q j cl C s H fp) kH tg g/\DC (gL X scope q j cl C s H fp) kH ifs c/\VE (gL X scope q j cl C s H fp) kH elt e)
  (B:X.calm=au:=by rfl) (ok:SX scope X.env.scope X.N j=au:=by kernel_rfl)
  (hs:∀x,cb iter X.env x=pure x:=by intro _;rfl):VE X W (.ListComp elt [⟨tg,iter,ifs,0⟩] scope pos) (mD z q.length j fi g c e):=ac5 z q j B (.of _ _ rfl rfl ok) hi (λ_ _ _ _ _=>hb) hs
theorem Ol{c c':ay}{a y z u:a5}{i:a6}{p1 p2 p3 p4 pos:cq}(U:Gl X a)(hm:∃t,X.mg a=ah (.int i t))(hl:i.natAbs.log2<1920)(L:Str.empty++y++Str.ofString (toString i)++z=u)(hd:(a==("__debug__" : a5))=ao:=by decide)(hy:y.length<=1000:=by decide)(hz:z.length<=1000:=by decide) :
  VE X W (.JoinedStr [.Constant (.str y) c p1,.FormattedValue (.Name a p2) (-1) ak p3,.Constant (.str z) c' p4] pos) (cS u):=by
 obtain⟨t,hm⟩:=hm;subst L;have B:PE X (.JoinedStr [.Constant (.str y) c p1,.FormattedValue (.Name a p2) (-1) ak p3,.Constant (.str z) c' p4] pos) (tC (.str (Str.empty++y++Str.ofString (toString i)++z))):=by
  intro aa s J H Q I q;refine JoinedStr_many (joinParts_cons (Calls.Constant_str ⟨?_,joinParts_cons (FormattedValue_plain (bN (Dh (v:=.int i) U hm ⟨t,rfl⟩ hd aa _ J H (λv H'=>v=.int i/\H'=H) (I.tok _) ⟨rfl,rfl⟩) λu s1 ⟨v,h,e,j,d,b⟩=>?_))⟩))
  ·rw[strLen_append,Yc,jP];omega
  ·subst d b;obtain⟨t,rfl⟩:=j;have g:=text_len hy hl;have f:(Str.empty++y++Str.ofString (toString i)++z).length<=4000:=by rw[strLen_append];omega
   exact formatField_int_small hl ⟨by rw[jP];omega,joinParts_cons (Calls.Constant_str ⟨by rw[jP];omega,joinParts_nil ⟨.str _,_,((e.tok _).tok _),⟨_,rfl⟩,q⟩ (by rw[jP];omega)⟩)⟩
 exact⟨_,B,yV λ_ _=>by simp only[Den]⟩
end
theorem aq1{K:ba}{c d:a5}{C D:aq}(n:cc K aw c=ah (ah (.ref C)))(m:cc K aw d=ah (ah (.ref D)))(k:XT K C)(l:XT K D)(dB:(c==d)=ao)
  (e:c7 K (.ref C) (.ref D)=ah ao) (f:c7 K (.ref D) (.ref C)=ah ao):XS K [c,d]:=λa ha b hb=>by
 have h1:¬c=d:=λz=>by simp[z]at dB
 have h2:¬d=c:=λz=>h1 z.symm;simp only[eB,uS,tP]at ha hb
 rcases ha with ha|ha <;> rcases hb with hb|hb <;> subst ha <;> subst hb
 ·exact⟨C,C,n,n,k,by rw[Uz];simp⟩
 ·exact⟨C,D,n,m,k,by rw[e];simp[h1]⟩
 ·exact⟨D,C,m,n,l,by rw[f];simp[h2]⟩
 ·exact⟨D,D,m,m,l,by rw[Uz];simp⟩
end V2
namespace M
open PySem V2
noncomputable section
def WH:MS :=
 (aT (jQ ["Often", "Gaps"] "keep" aM aW)
  (aT (jQ ["Often", "Gaps"] "many" aM cM)
  (jQ ["Often", "Gaps"] "taken" aM cM)))
def AM:ai A->Mo A:=cF 2 WH
def Jt:MS :=
 (dQ (bK (aD lF (aD bV (dF ["Often"] "many" aM) aW) (cI 1000000000)))
   (wN "NoTimes" (aC (cS "a pouch takes at most 1000000000 numbers") a0))
   eG)
def OW:ai A->Mo A:=cF 2 Jt
def Js:MS :=
 (dQ (bK (aD lF (aD bV (dF ["Gaps"] "many" aM) aW) (cI 1000000000)))
   (wN "NoTimes" (aC (cS "a pouch takes at most 1000000000 numbers") a0))
   eG)
def OV:ai A->Mo A:=cF 2 Js
def Ju:MS :=
 (bO (dF ["Gaps"] "many" aM))
def IZ:ai A->Mo A:=cF 1 Ju
def Jq:MS :=
 (bO (dF ["Gaps"] "taken" aM))
def DX:ai A->Mo A:=cF 1 Jq
def Ka:MS :=
 (bO (aR (UT ["Often", "Gaps"]) (aC aW (aC (cG "Often") a0))))
def JA:ai A->Mo A:=cF 2 Ka
def Kg:MS :=
 (bO (aR (UT ["Often", "Gaps"]) (aC aW (aC (cG "Gaps") a0))))
def YE:ai A->Mo A:=cF 2 Kg
def Kf:MS :=
 (aT (wO 0 "newest" (pT (aD bV (iO (dF ["Gaps"] "newest" aM) aW cM) bX) (dF ["Gaps"] "newest" aM) aW))
  (dQ (bK (aD lF (iG ["Gaps"] 0 "newest" λkvs=>ret (.int kvs.length)) (dF ["Gaps"] "keep" aM)))
   Rf
   eG))
def YD:ai A->Mo A:=cF 3 Kf
def Jp(p:aq)(e:Exc):MS :=
 (aT (dQ (gV (jK (bK (aR (zQ p (jO ["NoRow", "NoTimes", "Unlike"] ["RankError", "NoRow", "NoPlace", "NoPouch", "NoSize", "Wrong", "NoTimes", "Unlike", "NoText"] e.cls) (pD ["NoRow", "NoTimes", "Unlike"] e.cls)) (aC aM (aC (cG "RankError") a0))))) (jK (bK (aR (zQ p (jO ["NoRow", "NoTimes", "Unlike"] ["RankError", "NoRow", "NoPlace", "NoPouch", "NoSize", "Wrong", "NoTimes", "Unlike", "NoText"] e.cls) (pD ["NoRow", "NoTimes", "Unlike"] e.cls)) (aC aM (aC (cT "ValueError") a0))))))
   (bO (cB ao))
   eG)
  (bO (EN (aR (zQ p (jO ["NoRow", "NoTimes", "Unlike"] ["RankError", "NoRow", "NoPlace", "NoPouch", "NoSize", "Wrong", "NoTimes", "Unlike", "NoText"] e.cls) (pD ["NoRow", "NoTimes", "Unlike"] e.cls)) (aC aM (aC (mY (aC (cG "NoPlace") (aC (cG "NoPouch") (aC (cG "NoRow") (aC (cG "NoSize") (aC (cG "NoText") (aC (cG "Wrong") a0))))))) a0))))))
def AK(p:aq)(e:Exc):ai A->Mo A:=cF 1 (Jp p e)
def Zs:MS :=
 (aT (pT (mY (aC (aD bV bX cJ) (aC (aD bV bX dG) a0))) aW cH)
   (bZ (aD bV bX dG) (gN 2)))
def Iw:MS :=
 (aT (bZ tJ (gN 1))
  (aT (bZ cM (gN 2))
  (aT (pI (fY (aR (cA 1 OQ) (aC aM a0))) (nE 2 (fV (gN 3) (fV (gN 4) nV))) Zs)
  (bO aW))))
def DU:ai A->Mo A:=cF 5 Iw
def WE:MS :=
 (aT (dQ (bK (aD uK bX cJ))
   (wN "NoTimes" (aC (cS "times begin with 1") a0))
   eG)
  (aT (gW (bP "look_room" [("Gaps",bI 2 [] OV)] aM (aC bX a0)))
  (aT (gW (bP "take" [("Gaps",bI 3 [] YD)] aM (aC aW (aC bX a0))))
  (aT (jQ ["Gaps"] "many" aM (aD bV (dF ["Gaps"] "many" aM) bX))
  (jQ ["Gaps"] "taken" aM (aD bV (dF ["Gaps"] "taken" aM) cJ))))))
def rT:ai A->Mo A:=cF 3 WE
def Jw:MS :=
 (aT (dQ (gV (jK (bK (bP "same_kind" [("Gaps",bI 2 [] YE)] aM (aC aW a0)))) (bK (aD gA (dF ["Gaps"] "keep" aW) (dF ["Gaps"] "keep" aM))))
   (wN "Unlike" (aC (cS "only a pouch of the same class and with the same keep can be joined") a0))
   eG)
  (aT (gW (bP "look_room" [("Gaps",bI 2 [] OV)] aM (aC (dF ["Gaps"] "many" aW) a0)))
  (aT (gW (bP "take_in" [] aM (aC aW a0)))
  (aT (jQ ["Gaps"] "many" aM (aD bV (dF ["Gaps"] "many" aM) (dF ["Gaps"] "many" aW)))
  (jQ ["Gaps"] "taken" aM (aD bV (dF ["Gaps"] "taken" aM) (dF ["Gaps"] "taken" aW)))))))
def OX:ai A->Mo A:=cF 2 Jw
def Jf:MS :=
 (bO (fZ ao (aC (bP "counts" [("Often",bI 1 [] DY)] aM a0) (aC (bP "off" [("Often",bI 1 [] mR)] aM a0) (aC (bP "length" [("Often",bI 1 [] yH)] aM a0) (aC (bP "puts" [("Often",bI 1 [] yG)] aM a0) a0))))))
def rR:ai A->Mo A:=cF 1 Jf
def Zv:MS :=
 (aT (bZ (aD bM cH cJ) (gN 4))
   (aT (bZ (aD bV aW dG) (gN 1))
   (dQ (gV (bK (aD uK dG cJ)) (bK (aD lF aW (cI 1000000000))))
    (λ_ _=>ak)
    eG)))
def Iz:MS :=
 (aT (bZ cM (gN 1))
  (aT (pI (Pf aM) (nE 2 (fV (gN 2) (fV (gN 3) nV))) Zv)
  (bO aW)))
def IW:ai A->Mo A:=cF 5 Iz
def WM:MS :=
 (aT (gW (aR (cA 2 AM) (aC aM (aC aW a0))))
  (aT (vE ["Often"] 0 "tally" tJ)
  (jQ ["Often"] "lost" aM cM)))
def yI:ai A->Mo A:=cF 2 WM
def WN:MS :=
 (aT (gW (aR (cA 2 AM) (aC aM (aC aW a0))))
  (aT (vE ["Gaps"] 0 "newest" tJ)
  (vE ["Gaps"] 0 "laid" tJ)))
def PJ:ai A->Mo A:=cF 2 WN
def Zu:MS :=
 (aT (gW (ER CO aW (aC (mY (aC bX (aC (aD bM cH cM) (aC (aD bM cH cM) a0)))) a0)))
   (dQ (bK (aD gA (aD bM cH cM) (aD bM cH cJ)))
    (gW (ER CO aW (aC (mY (aC bX (aC (aD bM cH cJ) (aC (aD bM cH cJ) a0)))) a0)))
    eG))
def Iy:MS :=
 (aT (bZ (fZ au a0) (gN 1))
  (aT (pI (QK (aR (cA 1 DU) (aC aM a0))) (nE 2 (fV (gN 2) (fV (gN 3) nV))) Zu)
  (bO (mY (aC (aR (cA 1 IW) (aC aM a0)) (aC cM (aC cM (aC (EO 1) a0))))))))
def XX:ai A->Mo A:=cF 4 Iy
def HR:MS :=
 (aT (dQ (bK (aD uK bX cJ))
   (wN "NoTimes" (aC (cS "times begin with 1") a0))
   eG)
  (aT (gW (bP "look_room" [("Often",bI 2 [] OW)] aM (aC bX a0)))
  (aT (gW (bP "take" [("Often",bI 3 [] YB)] aM (aC aW (aC bX a0))))
  (aT (jQ ["Often"] "many" aM (aD bV (dF ["Often"] "many" aM) bX))
  (jQ ["Often"] "taken" aM (aD bV (dF ["Often"] "taken" aM) cJ))))))
def rS:ai A->Mo A:=cF 3 HR
def zX:MS :=
 (aT (dQ (gV (jK (bK (bP "same_kind" [("Often",bI 2 [] JA)] aM (aC aW a0)))) (bK (aD gA (dF ["Often"] "keep" aW) (dF ["Often"] "keep" aM))))
   (wN "Unlike" (aC (cS "only a pouch of the same class and with the same keep can be joined") a0))
   eG)
  (aT (gW (bP "look_room" [("Often",bI 2 [] OW)] aM (aC (dF ["Often"] "many" aW) a0)))
  (aT (gW (bP "take_in" [("Often",bI 2 [] YA)] aM (aC aW a0)))
  (aT (jQ ["Often"] "many" aM (aD bV (dF ["Often"] "many" aM) (dF ["Often"] "many" aW)))
  (jQ ["Often"] "taken" aM (aD bV (dF ["Often"] "taken" aM) (dF ["Often"] "taken" aW)))))))
def AL:ai A->Mo A:=cF 2 zX
def Kj:MS :=
 (bO (aR (cA 1 XX) (aC (iG ["Gaps"] 0 "newest" λkvs=>jD ao (kvs.map lT)) a0)))
def PF:ai A->Mo A:=cF 1 Kj
def aaA:aq->aq->Exc->MS :=
 λp d e=>(bZ (fZ ao (aC (cS "times") (aC (tL (aR (lR (cA 1 (AK p e))) (aC dG a0)) (EN (aR (zQ p (jO ["NoRow", "NoTimes", "Unlike"] ["RankError", "NoRow", "NoPlace", "NoPouch", "NoSize", "Wrong", "NoTimes", "Unlike", "NoText"] e.cls) (pD ["NoRow", "NoTimes", "Unlike"] e.cls)) (aC dG (aC (cG "Unlike") a0))))) a0))) (gN 3))
def Jg:MS :=
 (gW (bP "put" [("Often",bI 3 [] rS),("Gaps",bI 3 [] rT)] aM (aC aW (aC bX a0))))
def xT:MS :=
 (aT (bZ (cS "done") (gN 3))
  (aT (yX 4 (λz=>jO ["NoRow", "NoTimes", "Unlike"] ["RankError", "NoRow", "NoPlace", "NoPouch", "NoSize", "Wrong", "NoTimes", "Unlike", "NoText"] z "NoTimes" == ah au) Jg aaA)
  (bO cH)))
def IX:ai A->Mo A:=lR (cF 5 xT)
def NT:aq->aq->Exc->MS :=
 λp d e=>(bZ (fZ ao (aC (cS "unlike") (aC (tL (aR (lR (cA 1 (AK p e))) (aC cH a0)) (EN (aR (zQ p (jO ["NoRow", "NoTimes", "Unlike"] ["RankError", "NoRow", "NoPlace", "NoPouch", "NoSize", "Wrong", "NoTimes", "Unlike", "NoText"] e.cls) (pD ["NoRow", "NoTimes", "Unlike"] e.cls)) (aC cH (aC (cG "NoTimes") a0))))) a0))) (gN 2))
def NS:aq->aq->Exc->MS :=
 λp d e=>(bZ (fZ ao (aC (cS "times") (aC (tL (aR (lR (cA 1 (AK p e))) (aC cH a0)) (EN (aR (zQ p (jO ["NoRow", "NoTimes", "Unlike"] ["RankError", "NoRow", "NoPlace", "NoPouch", "NoSize", "Wrong", "NoTimes", "Unlike", "NoText"] e.cls) (pD ["NoRow", "NoTimes", "Unlike"] e.cls)) (aC cH (aC (cG "Unlike") a0))))) a0))) (gN 2))
def Jk:MS :=
 (gW (bP "join" [("Often",bI 2 [] AL),("Gaps",bI 2 [] OX)] aM (aC aW a0)))
def xU:MS :=
 (aT (bZ (cS "done") (gN 2))
  (aT (BG 3 (zO ["NoRow", "NoTimes", "Unlike"] ["RankError", "NoRow", "NoPlace", "NoPouch", "NoSize", "Wrong", "NoTimes", "Unlike", "NoText"] "Unlike" NT (zO ["NoRow", "NoTimes", "Unlike"] ["RankError", "NoRow", "NoPlace", "NoPouch", "NoSize", "Wrong", "NoTimes", "Unlike", "NoText"] "NoTimes" NS UM)) Jk)
  (bO bX)))
def AJ:ai A->Mo A:=lR (cF 4 xU)
def Kh:MS :=
 (bO (aD bV (fZ ao (aC (bP "newest_pouch" [("Gaps",bI 1 [] PF)] aM a0) a0)) (iG ["Gaps"] 0 "laid" λkvs=>jD ao (kvs.map (·.2)))))
def PD:ai A->Mo A:=cF 1 Kh
def Jo:MS :=
 (aT (bZ (aR (cA 1 rR) (aC aM a0)) (gN 3))
  (aT (bZ (aR nF (aC (pG ao aW) a0)) (gN 4))
  (aT (bZ (aD bM (fZ ao (aC cM (aC (aD (qA) (aD (qA) cM cJ) (aD (fH) (aD (lG) bX pE) oI)) (aC (aD (qA) (aD bV (aD (xJ) yP oI) cJ) dG) a0)))) (aD (fH) bX pE)) (gN 5))
  (bO (tL (aD iC (aR (cA 3 IX) (aC aM (aC (aD (fH) bX YN) (aC fP a0)))) (fZ ao (aC (cS "times") (aC (cB au) a0)))) (aD iC (aR (cA 1 rR) (aC aM a0)) cH))))))
def Ms:ai A->Mo A:=cF 6 Jo
def Ji:MS :=
 (pT (aD bV (iO (aD bM aW cH) rY cM) EK) (aD bM aW cH) rY)
def Jj:MS :=
 (aT (bZ (aR (cA 1 rR) (aC (aD bM aM dG) a0)) (gN 5))
  (aT (bZ (aR (cA 1 rR) (aC (aD bM aM cH) a0)) (gN 6))
  (aT (bZ (aD bV (aR nF (aC (pG ao (aD bM aW cH)) a0)) (aR nF (aC (pG ao (aD bM aW dG)) a0))) (gN 7))
  (aT (bZ (aR (cA 2 AJ) (aC (aD bM aM cH) (aC (aD bM aM dG) a0))) (gN 8))
  (aT (dQ (bK (aD lF tF (aD (xJ) yP oI)))
   (bO (tL (aD iC rZ (fZ ao (aC (cS "times") (aC (cB au) a0)))) (aD iC (aR (cA 1 rR) (aC (aD bM aM cH) a0)) eR)))
   eG)
  (aT (dQ (gV (bK (aD gA rZ (cS "done"))) (tK (bK (aD gA cH dG)) (bK (aD gA (aR (cA 1 rR) (aC (aD bM aM dG) a0)) fP))))
   (bO (cB ao))
   eG)
  (aT (pI (fY (ZE ao (aD bM aW dG))) (nE 2 (fV (gN 9) (fV (gN 10) nV))) Ji)
  (aT (bZ (aD bV (aD bM bX cH) (aD bM bX dG)) (CL bX cH))
  (bO (aD iC (bP "puts" [("Often",bI 1 [] yG)] (aD bM aM cH) a0) (aD bM bX cH)))))))))))
def XZ:ai A->Mo A:=cF 11 Jj
def aaD:Ev->Mo A :=
 (mD ao 1 [] (fY (bP "parts" [("Gaps",bI 1 [] PD)] aM a0)) (gN 0) uW (aD bM aM cJ))
def Ki:MS :=
 (bO (aR nF (aC aaD a0)))
def JB:ai A->Mo A:=cF 1 Ki
def Je:MS :=
 (aT (bZ (aR (cA 1 rR) (aC aM a0)) (gN 3))
  (aT (bZ (aD bM aW (aD (fH) bX yO)) (gN 4))
  (aT (bZ (fZ ao (aC (bP "length" [("Often",bI 1 [] yH),("Gaps",bI 1 [] IZ)] dG a0) (aC (bP "puts" [("Often",bI 1 [] yG),("Gaps",bI 1 [] DX)] dG a0) (aC (bP "off" [("Often",bI 1 [] mR),("Gaps",bI 1 [] JB)] dG a0) a0)))) (gN 5))
  (aT (dQ (bK (aD iC (aD (fH) (aD (lG) bX yO) yO) cM))
   (bZ (aD iC (aR (cA 2 AJ) (aC aM (aC dG a0))) (fZ ao (aC (cS "unlike") (aC (cB au) a0)))) (gN 6))
   (bZ (aD iC (aR (cA 2 AJ) (aC dG (aC aM a0))) (fZ ao (aC (cS "unlike") (aC (cB au) a0)))) (gN 6)))
  (bO (tL eR (tL (aD iC (aR (cA 1 rR) (aC aM a0)) cH) (aD iC (fZ ao (aC (bP "length" [("Often",bI 1 [] yH),("Gaps",bI 1 [] IZ)] dG a0) (aC (bP "puts" [("Often",bI 1 [] yG),("Gaps",bI 1 [] DX)] dG a0) (aC (bP "off" [("Often",bI 1 [] mR),("Gaps",bI 1 [] JB)] dG a0) a0)))) fP))))))))
def Mq:ai A->Mo A:=cF 7 Je
def Jl:MS :=
 (aT (bZ (aD (fH) dG pE) (gN 6))
  (aT (bZ (aD (fH) (aD (lG) dG pE) (cI 12)) (gN 7))
  (aT (bZ (aD (lG) dG (cI 36)) (gN 8))
  (aT (dQ (bK (aD iC tF cM))
   (bO (aR (cA 3 Mq) (aC (aD bM aM eR) (aC cH (aC rZ a0)))))
   eG)
  (aT (dQ (bK (aD iC tF cJ))
   (bO (aR (cA 3 Ms) (aC (aD bM aM eR) (aC (aD bM aW eR) (aC rZ a0)))))
   eG)
  (aT (dQ (bK (aD uK tF JT))
   (bO (aR (cA 5 XZ) (aC aM (aC aW (aC bX (aC eR (aC (aD (fH) rZ pE) a0)))))))
   eG)
  (aT (bZ (aR (cA 2 AI) (aC (aR (cA 2 DV) (aC rZ (aC cJ a0))) (aC fP a0))) (gN 9))
  (aT (bZ (aR (cA 1 yE) (aC (aR (cA 2 DV) (aC rZ (aC yO a0))) a0)) (gN 10))
  (aT (dQ (bK (aD lF (aD bV (aR nF (aC (pG ao (aD bM aW eR)) a0)) EK) (aD (xJ) yP oI)))
   (bO (aD iC (aR (cA 3 IX) (aC (aD bM aM eR) (aC rY (aC EK a0)))) (fZ ao (aC (cS "times") (aC (cB au) a0)))))
   eG)
  (aT (pT (aD bV (iO (aD bM aW eR) rY cM) EK) (aD bM aW eR) rY)
  (aT (bZ (aD bV (aD bM bX eR) cJ) (CL bX eR))
  (bO (aD iC (aR (cA 3 IX) (aC (aD bM aM eR) (aC rY (aC EK a0)))) (cS "done"))))))))))))))
def yF:ai A->Mo A:=cF 11 Jl
def Jb:MS :=
 (aT (bZ (aR (cA 2 DV) (aC (aR (cA 2 DW) (aC aM (aC tF a0))) (aC tF a0))) (gN 8))
   (aT (dQ (jK (bK (aR (cA 6 yF) (aC cH (aC fP (aC eR (aC dG (aC rZ (aC (aD (fH) (aD (lG) aW (cI 72)) JT) a0)))))))))
    (bO (cB ao))
    eG)
   (aT (bZ (aD (fH) (aD (lG) rZ (cI 432)) pE) (gN 9))
   (dQ (tK (bK (aD iC (aD (fH) tF oI) cM)) (jK (bK (aR (cA 4 OT) (aC (aD bM cH rY) (aC bX (aC (aD bM fP rY) (aC rZ a0))))))))
    (bO (cB ao))
    eG))))
def Ja:MS :=
 (dQ (gV (jK (bK (aR (cA 4 OT) (aC (aD bM cH rY) (aC bX (aC (aD bM fP rY) (aC (aR (cA 2 DW) (aC aM (aC cJ a0))) a0))))))) (bK (aD gA (bP "puts" [("Often",bI 1 [] yG),("Gaps",bI 1 [] DX)] (aD bM cH rY) a0) (aD bM eR rY))))
    (bO (cB ao))
    eG)
def VV:MS :=
 (aT (bZ (aR (cA 2 DW) (aC aM (aC cM a0))) (gN 1))
  (aT (bZ (aD bV cJ (aD (fH) aW oI)) (gN 2))
  (aT (bZ (fZ ao (aC (aR (sQ "Often" 2 yI) (aC bX a0)) (aC (aR (sQ "Often" 2 yI) (aC bX a0)) (aC (aR (sQ "Often" 2 yI) (aC bX a0)) a0)))) (gN 3))
  (aT (bZ (fZ ao (aC (aR (sQ "Often" 2 yI) (aC (aD bV bX cJ) a0)) (aC (aR (sQ "Gaps" 2 PJ) (aC bX a0)) a0))) (gN 4))
  (aT (bZ (fZ ao (aC tJ (aC tJ (aC tJ a0)))) (gN 5))
  (aT (bZ (fZ au (aC cM (aC cM (aC cM a0)))) (gN 6))
  (aT (dQ (bK (aD iC (aD (fH) (aD (lG) aW oI) Oi) cM))
   (aT (gW (bP "put" [("Often",bI 3 [] rS),("Gaps",bI 3 [] rT)] (aD bM cH cM) (aC pE (aC (cI 999999990) a0))))
   (aT (pT (cI 999999990) (aD bM fP cM) pE)
   (bZ cJ (CL eR cM))))
   eG)
  (aT (gW (bP "put" [("Often",bI 3 [.int 1] rS),("Gaps",bI 3 [.int 1] rT)] (aD bM dG cM) (aC cJ a0)))
  (aT (gW (bP "put" [("Often",bI 3 [] rS),("Gaps",bI 3 [] rT)] (aD bM dG cJ) (aC cJ (aC wC5 a0))))
  (aT (pI (QI (aC yO (aC (aR sP (aC (aR qB (aC aM a0)) (aC (cI 62) a0))) a0))) (gN 7) Jb)
  (aT (pI (QJ (aC pE a0)) (gN 9) Ja)
  (bO (cB au)))))))))))))
def abT:ai A->Mo A:=cF 10 VV
end
open PySem L2 V2
section
variable{Z Z':aH}{Y:Ev}
theorem kJ{f g:Ev->Mo A}{a:A}{ds:ai A}{k:ay}{d:A}(q:f Y Z=aG a Z)(j:g Y Z=aG (.int (k:a6)) Z)(hs:iP Z a=ah ds)(hd:ds[k]?=ah d):aD bM f g Y Z=aG d Z:=by
 refine cR q j ?_;have:jV ds (k:a6)=ah d:=by rw[HS];exact hd
 simp[bM,hs,this]
theorem aB2{f fe:Ev->Mo A}{k:ay}{ds:ai A}{a:A}(h:f Y Z=aG (.aB k) Z)(z:Z[k]?=ah (.lst ds))(he:fe Y Z=aG a Z')(j:Z'[k]?=ah (.lst ds))(hl:ds.length<1000):gW (ER CO f (aC fe a0)) Y Z=fU Y (Z'.set k (.lst (ds++[a]))):=by
 have q:ds.length<a7:=by rw[jP];omega
 refine nG (a:=.bQ) ?_;unfold ER;rw[bU h,ax (aq5 (oS z)),bU (x:=[a]) (Z':=Z') (by unfold aC;rw[bU he];rfl)];simp only[CO,az1 j,ax q]
theorem ZW{fe fi:Ev->Mo A}{i k j:ay}{ds:ai A}{a:A}(h:(Y[i]?).join=(aE k))(z:Z[k]?=ah (.lst ds))(hi:fi Y Z=aG (.int (j:a6)) Z)(q:j<ds.length)(he:fe Y Z=aG a Z):bZ fe (CL (dO i) fi) Y Z=fU Y (Z.set k (.lst (ds.set j a))):=by
 have e:tZ ds.length (j:a6)=ah j:=by unfold tZ;simp[q]
 unfold bZ;rw[dP he];unfold CL;rw[dP (aK h),dP hi];simp only[setCell,z,e]
theorem DB{f g:Ev->Mo A}{m n:a6}(q:f Y Z=aG (.int m) Z)(j:g Y Z=aG (.int n) Z):aD bV f g Y Z=aG (.int (m+n)) Z:=cR q j (by simp)
theorem ZX{f g:Ev->Mo A}{m n:a6}(q:f Y Z=aG (.int m) Z)(j:g Y Z=aG (.int n) Z):aD qA f g Y Z=aG (.int (m-n)) Z:=cR q j (by simp)
theorem qW{f g:Ev->Mo A}{m n:a6}(q:f Y Z=aG (.int m) Z)(j:g Y Z=aG (.int n) Z)(h:0<n):aD fH f g Y Z=aG (.int (m%n)) Z:=by
 refine cR q j ?_;simp only[fH,gI];rw[SQ _ h];rfl
theorem CU{f g:Ev->Mo A}{m n:a6}(q:f Y Z=aG (.int m) Z)(j:g Y Z=aG (.int n) Z)(h:oF m n):aD lG f g Y Z=aG (.int (m/n)) Z:=by
 refine cR q j ?_;simp only[lG,gI];rw[SQ _ h];rfl
theorem NM{f g:Ev->Mo A}{m n:a6}(q:f Y Z=aG (.int m) Z)(j:g Y Z=aG (.int n) Z):bK (aD iC f g) Y Z=aG (m==n) Z:=eU (cR q j (by simp))
end
theorem vI{fs:Ev->Mo (ai A)}{xs:ai A}{Y:Ev}{Z Z':aH}(h:fs Y Z=aG xs Z')(hl:xs.length<=1000):fZ ao fs Y Z=aG (.lst xs) Z':=by
 have j:xs.length<=a7:=by rw[jP];omega
 unfold fZ;rw[bU h];simp[j]
theorem Ci{f:Ev->Mo A}{Y:Ev}{Z:aH}{a:A}(h:f Y Z=aG a Z):trim Z (bT (bO f Y Z))=aG a Z:=by
 unfold bO;rw[dP h];simp only[bT];exact nO rfl
theorem vS{f:Ev->Mo A}{fs:Ev->Mo (ai A)}{a:A}{as:ai A}{Y:Ev}{Z Z' wG:aH}(h:f Y Z=aG a Z')(hs:fs Y Z'=aG as wG):aC f fs Y Z=aG (a::as) wG:=by
 unfold aC;rw[bU h,bU hs];rfl
theorem WQ{Z Z1 Z2:aH}{Y:Ev}{f g:Ev->Mo A}(h:f Y Z=aG (.bl au) Z1)(h2:g Y Z1=aG (.bl au) Z2):tL f g Y Z=aG (.bl au) Z2:=by
 unfold tL;rw[bU h,bU (x:=au) (Z':=Z1) (by rfl),ax rfl];exact h2
theorem EU{Z:aH}{x:Exc}:trim Z (ah (.exc x,Z))=ah (.exc x,Z):=by
 simp only[trim];split <;> rfl
theorem VB{f:Ev->Mo A}{Y:Ev}{Z Z':aH}{x:Exc}(h:f Y Z=ah (.exc x,Z')):gW f Y Z=ah (.exc x,Y,Z'):=by
 unfold gW;simp only[sM,h]
theorem KW{f g:MS}{Y Y1:Ev}{Z Z':aH}{x:Exc}(h:f Y Z=ah (.exc x,Y1,Z')):aT f g Y Z=ah (.exc x,Y1,Z'):=by unfold aT;rw[h]
theorem RT(c:a5)(t:a5)(Y:Ev)(Z:aH):wN c (aC (cS t) a0) Y Z=ah (.exc ⟨c,[]⟩,Y,Z):=by
 have h1:(1:ay)<=a7:=by decide
 simp[h1]
noncomputable abbrev NG(keep:ay):ai (a5×Fd):=[("keep",.val (.int keep)),("many",.val (.int 5)),("taken",.val (.int 1)),("newest",.aQ [(.inl 1,.int 5)]),("laid",.aQ [])]
abbrev uB(keep:ay):Cell:=.ins "Gaps" (NG keep)
section
variable{p o:ay}{keep FX:ay}{many tk lost gE nQ jE:a6}{rs ws gX:ai Rn}{Z:aH}
theorem iX{c m:a5}{fs0:ai (a5×Fd)}{T:ai (a5×(ai A->Mo A))}{F:ai A->Mo A}{n:ay}{das as:ai A}{fo:Ev->Mo A}{fs:Ev->Mo (ai A)}{Y:Ev}{r:Rs A×aH}(h:Z[p]?=ah (.ins c fs0))(hT:T.lookup c=ah (bI n das F))(hl:fs0.lookup m=ak)(q:fo Y Z=aG (.aB p) Z)(ha:fs Y Z=aG as Z)(hn:as.length+1+das.length=n)
  (j:F (.aB p::(as++das)) Z=ah r):bP m T fo fs Y Z=ah r:=by
 unfold bP;rw[bU q];simp only[US,h,hT,hl];rw[bU ha];simp only[bI];rw[ax (by simp only[lH];omega)];exact j
theorem XG(h:Z[p]?=ah (aV keep many tk rs lost))(t:a6):OW [.aB p,.int t] Z=if 1000000000<many+t then ah (.exc ⟨"NoTimes",[]⟩,Z)else ah (.ok .bQ,Z):=by
 have lk:(eI keep many tk rs lost).lookup ("many" : a5)=ah (.val (.int many)):=rfl;have j:(bK (aD lF (aD bV (dF ["Often"] "many" aM) aW) (cI 1000000000))) [aE p,aA t] Z=aG (decide (1000000000<many+t)) Z:=eU (cR (a:=.int (many+t)) (b:=.int 1000000000) (cR (a:=.int many) (b:=.int t) (by simp[h,lk]) (by simp) (by simp)) (by simp) (by simp));show trim Z (bT (Jt [aE p,aA t] Z))=_;unfold Jt
 by_cases hb:1000000000<many+t
 ·rw[xC j,ax (by simpa using hb),RT,ax hb];exact EU
 ·rw[iH (by rw[j,lW hb]),a8 hb];simp only[bT];exact nO rfl
theorem Lj(h:Z[p]?=ah (aV keep many tk rs lost))(nd:(rs.map (·.1)).Nodup)(hl:rs.length<63)(n t:a6)(ht:1<=t)(hm:many+t<=1000000000) :
  rS [.aB p,.int n,.int t] Z=aG (.bQ) (Z.set p (aV keep (many+t) (tk+1) (hJ keep (bW rs n t)) (lost+taken (bW rs n t) keep))):=by
 have L:p<Z.length:=(cX.mp h).1;have B:=XG h t;rw[a8 (by omega)]at B;have z:=aCX h nd hl n t;generalize hJ keep (bW rs n t)=q at z;generalize lost+taken (bW rs n t) keep=j at z;have c:(Z.set p (aV keep many tk q j))[p]?=ah (aV keep many tk q j):=yW L;have U:(Z.set p (aV keep (many+t) tk q j))[p]?=ah (aV keep (many+t) tk q j):=yW L;show trim Z (bT (HR [aE p,aA n,aA t] Z))=_;unfold HR;have f:¬t<1:=by omega
 rw[bC (iH (eU (b:=ao) (cR (a:=.int t) (b:=.int 1) (by simp) (by simp) (by simp[f]))))];rw[bC (nG (gD h (by rfl) (by rfl) (as:=[.int t]) (das:=[]) (aO (aK (by rfl)) bJ) (by rfl) (by exact B)))];rw[bC (nG (gD h (by rfl) (by rfl) (as:=[.int n,.int t]) (das:=[]) (aO (aK (by rfl)) (aO (aK (by rfl)) bJ)) (by rfl) (by exact z)))];have d:(eI keep many tk q j).lookup ("many" : a5)=ah (.val (.int many)):=rfl;rw[bC (FG (b:=.int (many+t)) (by rfl) c (by simp) (cR (a:=.int many) (b:=.int t) (by simp[c,d]) (by simp) (by simp)))];rw[Se,qJ];have e:(eI keep (many+t) tk q j).lookup ("taken" : a5)=ah (.val (.int tk)):=rfl;rw[FG (b:=.int (tk+1)) (by rfl) U (by simp) (cR (a:=.int tk) (b:=.int 1) (by simp[U,e]) (by simp) (by simp))];rw[Sd,qJ];simp only[bT];exact nO (by simp)
theorem abB(h:Z[p]?=ah (aV keep many tk rs lost))(n t:a6)(ht:t<1\/1000000000<many+t):rS [.aB p,.int n,.int t] Z=ah (.exc ⟨"NoTimes",[]⟩,Z):=by
 have j:(bK (aD uK bX cJ)) [aE p,aA n,aA t] Z=aG (decide (t<1)) Z:=eU (cR (a:=.int t) (b:=.int 1) (by simp) (by simp) (by simp));show trim Z (bT (HR [aE p,aA n,aA t] Z))=_;unfold HR
 by_cases hb:t<1
 ·rw[KW (Y1:=[aE p,aA n,aA t]) (Z':=Z) (x:=⟨"NoTimes",[]⟩) (by rw[xC j,ax (by simpa using hb),RT])];exact EU
 ·have q:=XG h t;rw[ax (by omega)]at q;rw[bC (iH (by rw[j,lW hb]))];rw[KW (VB (iX h (by rfl) (by rfl) (aK (by rfl)) (as:=[.int t]) (das:=[]) (aO (aK (by rfl)) bJ) (by rfl) (by exact q)))];exact EU
theorem Li{c:a5}{fs:ai (a5×Fd)}(h:Z[o]?=ah (.ins c fs))(j:c = "Often"\/c = "Gaps")(x:A):JA [x,.aB o] Z=aG (.bl (decide (c = "Often"))) Z:=by
 show trim Z (bT (Ka [ah x,aE o] Z))=_
 rcases j with rfl|rfl <;> simp[Ka,h]
theorem aCZ(h:Z[o]?=ah (aV keep many tk rs lost))(x:A):YE [x,.aB o] Z=aG (.bl ao) Z:=by
 show trim Z (bT (Kg [ah x,aE o] Z))=_;have dB:¬("Often" : a5) = "Gaps":=by decide
 simp[Kg,h,dB]
theorem Pt:∀(l rs:ai Rn) (Z:aH) (j:Cell) (y z B:av A),Z[p]?=ah (aV keep many tk rs lost)->(rs.map (·.1)).Nodup->rs.length+l.length<1000->∀(ok:aH->Prop),(∀c,ok (Z.set p c++[j])) ->
  ∃U L,eO ok (nE 2 (fV (gN 2) (fV (gN 3) nV))) Jy (aI l) [aE p,B,y,z] (Z++[j])=fU [aE p,B,U,L] (Z.set p (aV keep many tk (gC rs l) lost)++[j])
 | [],rs,Z,j,y,z,B,h,_,_,ok,aL=>⟨y,z,by
   have e:=EZ h;have:=aL (aV keep many tk rs lost);rw[e]at this;show eO _ _ _ [] _ _=_;rw[CQ this,gC,List.foldl_nil,e]⟩
 |r::l,rs,Z,j,y,z,B,h,nd,hl,ok,aL=>by
  have b:p<Z.length:=(cX.mp h).1;simp only[lH]at hl;have h1:(Z++[j])[p]?=ah (aV keep many tk rs lost):=by rw[eQ b];exact h
  have q:=abI h1 nd (by omega) r.1 r.2;rw[abL _ _ b]at q;obtain⟨U,L,e⟩:=Pt l (bW rs r.1 r.2) (Z.set p (aV keep many tk (bW rs r.1 r.2) lost)) j (aA r.1) (aA r.2) B (yW b) (BP rs r.1 r.2 nd) (by have:=LU rs r.1 r.2;omega) ok (λc=>by rw[qJ];exact aL c);refine⟨U,L,?_⟩;have a:ok (Z++[j]):=by have:=aL (aV keep many tk rs lost);rwa[EZ h]at this
  show eO ok _ _ (dR r::aI l) _ _=_;rw[uM a (Y0:=[aE p,B,aA r.1,aA r.2]) (Z0:=Z++[j]) (by simp[dR]) (Y1:=[aE p,B,aA r.1,aA r.2]) (Z1:=Z.set p (aV keep many tk (bW rs r.1 r.2) lost)++[j]) (by
   unfold Jy;exact nG (gD h1 rfl rfl (as:=[.int r.1,.int r.2]) (das:=[]) (aO (aK rfl) (aO (aK rfl) bJ)) rfl (by exact q))),e,qJ]
  rfl
theorem Hj{f:a5}{a:A}{X:ai (a5×Fd)}{E:aH}{Y:Ev}(h2:Z[o]?=ah (aV FX gE nQ gX jE))(j:p<Z.length)(h1:(Y[1]?).join=(aE o))(hl:(eI FX gE nQ gX jE).lookup f=ah (.val a))(hs:o=p->X.lookup f=ah (.val a)):dF ["Often"] f aW Y (Z.set p (.ins "Often" X)++E)=aG a (Z.set p (.ins "Often" X)++E):=by
 have q:o<Z.length:=(cX.mp h2).1
 by_cases e:o=p
 ·subst e;have g:(Z.set o (.ins "Often" X)++E)[o]?=ah (.ins "Often" X):=GR j;have l:=hs rfl;simp[h1,g,l]
 ·have g:(Z.set p (.ins "Often" X)++E)[o]?=ah (aV FX gE nQ gX jE):=by rw[Xd q e];exact h2
  simp[h1,g,hl]
theorem aCW(h:Z[p]?=ah (aV keep many tk rs lost))(h2:Z[o]?=ah (aV FX gE nQ gX jE))(hs:o=p->jE=lost)(nd:(rs.map (·.1)).Nodup)(hl:rs.length+gX.length<64) :
  ∃E,YA [.aB p,.aB o] Z=aG (.bQ) (Z.set p (aV keep many tk (hJ keep (gC rs (dI gX))) (lost+jE+taken (gC rs (dI gX)) keep))++E):=by
 have q:p<Z.length:=(cX.mp h).1;have f:=Ln h2 (by omega);have B:=Qo gX;generalize dI gX=S at f B;have L:∀c,iP (Z.set p c++[.lst (aI S)]) (.aB Z.length)=ah (aI S):=λc=>oS (by
  rw[sZ (by simp)];simp)
 obtain⟨y,z,i⟩:=Pt (many:=many) (tk:=tk) (lost:=lost) (keep:=keep) S rs Z (.lst (aI S)) ak ak (aE o) h nd (by omega) (λZ'=>iP Z' (.aB Z.length)=ah (aI S)) L;have U:=SK S rs nd;have ME:(gC rs S).length<64:=by have:=Uu S rs;omega
 generalize gC rs S=j at i U ME;have l:(Z.set p (aV keep many tk j lost)++[Cell.lst (aI S)])[p]?=ah (aV keep many tk j lost):=GR q;have k:(Z.set p (aV keep many tk j (lost+jE))++[Cell.lst (aI S)])[p]?=ah (aV keep many tk j (lost+jE)):=GR q;have d:=abG k U ME;rw[RL q]at d;show ∃E,trim Z (bT (WI [aE p,aE o,ak,ak] Z))=_;have e:WI [aE p,aE o,ak,ak] Z=fU [aE p,aE o,y,z] (Z.set p (aV keep many tk (hJ keep j) (lost+jE+taken j keep))++[.lst (aI S)]):=by
  unfold WI;have src:(fY (bP "counts" [("Often",bI 1 [] DY)] aW a0)) [aE p,aE o,ak,ak] Z=aG (srcOf (.aB Z.length) (aI S)) (Z++[.lst (aI S)]):=by
   unfold fY;rw[bU (gD h2 (by rfl) (by rfl) (as:=[]) (das:=[]) (by rfl) (by rfl) (by exact f))];have g:dY (Z++[Cell.lst (aI S)]) (.aB Z.length)=ah (aI S):=oS (rC _ _);simp[g]
  rw[bC (Y1:=[aE p,aE o,y,z]) (Z':=Z.set p (aV keep many tk j lost)++[.lst (aI S)]) (by rw[uL src];exact i)];have m:(eI keep many tk j lost).lookup ("lost" : a5)=ah (.val (.int lost)):=rfl;rw[bC (FG (b:=.int (lost+jE)) (by rfl) l (by simp) (cR (a:=.int lost) (b:=.int jE) (by simp[l,m]) (Hj h2 q (by rfl) (by rfl) (λz=>by rw[hs z];rfl)) (by simp)))];rw[Sf,RL q];exact nG (gD k rfl rfl (as:=[]) (das:=[]) rfl rfl d)
 rw[e];simp only[zC];exact Pp q
theorem aDI(h:Z[p]?=ah (aV keep many tk rs lost))(h2:Z[o]?=ah (aV keep gE nQ gX jE))(hs:o=p->jE=lost/\gE=many/\nQ=tk)(nd:(rs.map (·.1)).Nodup)(hl:rs.length+gX.length<64)(hm:many+gE<=1000000000) :
  ∃E,AL [.aB p,.aB o] Z=aG (.bQ) (Z.set p (aV keep (many+gE) (tk+nQ) (hJ keep (gC rs (dI gX))) (lost+jE+taken (gC rs (dI gX)) keep))++E):=by
 have q:p<Z.length:=(cX.mp h).1;obtain⟨E,L⟩:=aCW h h2 (λz=>(hs z).1) nd hl;have g:=Li h2 (.inl rfl) (.aB p);have U:=XG h gE;rw[a8 (by omega)]at U;generalize hJ keep (gC rs (dI gX))=B at L;generalize lost+jE+taken (gC rs (dI gX)) keep=j at L;have d:(Z.set p (aV keep many tk B j)++E)[p]?=ah (aV keep many tk B j):=GR q;have c:(Z.set p (aV keep (many+gE) tk B j)++E)[p]?=ah (aV keep (many+gE) tk B j):=GR q;show ∃E,trim Z (bT (zX [aE p,aE o] Z))=_;have e:zX [aE p,aE o] Z=fU [aE p,aE o] (Z.set p (aV keep (many+gE) (tk+nQ) B j)++E):=by
  unfold zX;have m:(eI keep many tk rs lost).lookup ("keep" : a5)=ah (.val (.int keep)):=rfl;have n:(eI keep gE nQ gX jE).lookup ("keep" : a5)=ah (.val (.int keep)):=rfl;have f:(gV (jK (bK (bP "same_kind" [("Often",bI 2 [] JA)] aM (aC aW a0)))) (bK (aD gA (dF ["Often"] "keep" aW) (dF ["Often"] "keep" aM)))) [aE p,aE o] Z=aG ao Z:=by
   rw[zD (vH (b:=au) (eU (gD h (by rfl) (by rfl) (as:=[.aB o]) (das:=[]) (aO (aK (by rfl)) bJ) (by rfl) (by simpa using g))))];exact eU (cR (a:=.int keep) (b:=.int keep) (by simp[h2,n]) (by simp[h,m]) (by simp))
  rw[bC (iH f)];have i:(eI keep gE nQ gX jE).lookup ("many" : a5)=ah (.val (.int gE)):=rfl;rw[bC (nG (gD h (by rfl) (by rfl) (as:=[.int gE]) (das:=[]) (aO (by simp[h2,i]) bJ) (by rfl) (by exact U)))];rw[bC (nG (gD h (by rfl) (by rfl) (as:=[.aB o]) (das:=[]) (aO (aK (by rfl)) bJ) (by rfl) (by exact L)))];have k:(eI keep many tk B j).lookup ("many" : a5)=ah (.val (.int many)):=rfl;rw[bC (FG (b:=.int (many+gE)) (by rfl) d (by simp) (cR (a:=.int many) (b:=.int gE) (by simp[d,k]) (Hj h2 q (by rfl) (by rfl) (λz=>by rw[(hs z).2.1];rfl)) (by simp)))];rw[Se,RL q];have l:(eI keep (many+gE) tk B j).lookup ("taken" : a5)=ah (.val (.int tk)):=rfl;rw[FG (b:=.int (tk+nQ)) (by rfl) c (by simp) (cR (a:=.int tk) (b:=.int nQ) (by simp[c,l]) (Hj h2 q (by rfl) (by rfl) (λz=>by rw[(hs z).2.2];rfl)) (by simp))];rw[Sd,RL q]
 rw[e];simp only[zC];exact Pp q
theorem aDH(h:Z[p]?=ah (aV keep many tk rs lost))(h2:Z[o]?=ah (aV keep gE nQ gX jE))(hm:1000000000<many+gE):AL [.aB p,.aB o] Z=ah (.exc ⟨"NoTimes",[]⟩,Z):=by
 have q:=Li h2 (.inl rfl) (.aB p);have j:=XG h gE;rw[ax (by omega)]at j;show trim Z (bT (zX [aE p,aE o] Z))=_;unfold zX;have B:(eI keep many tk rs lost).lookup ("keep" : a5)=ah (.val (.int keep)):=rfl;have L:(eI keep gE nQ gX jE).lookup ("keep" : a5)=ah (.val (.int keep)):=rfl;rw[bC (iH (by
  rw[zD (vH (b:=au) (eU (gD h (by rfl) (by rfl) (as:=[.aB o]) (das:=[]) (aO (aK (by rfl)) bJ) (by rfl) (by simpa using q))))];exact eU (cR (a:=.int keep) (b:=.int keep) (by simp[h2,L]) (by simp[h,B]) (by simp))))]
 have z:(eI keep gE nQ gX jE).lookup ("many" : a5)=ah (.val (.int gE)):=rfl;rw[KW (VB (iX h (by rfl) (by rfl) (aK (by rfl)) (as:=[.int gE]) (das:=[]) (aO (by simp[h2,z]) bJ) (by rfl) (by exact j)))];exact EU
theorem Tf{f g:Ev->Mo bb}{Y:Ev}{Z Z':aH}(h:f Y Z=aG au Z'):gV f g Y Z=aG au Z':=by
 unfold gV;rw[bU h];rfl
theorem Lm{c:a5}{fs:ai (a5×Fd)}(h:Z[p]?=ah (aV keep many tk rs lost))(h2:Z[o]?=ah (.ins c fs))(q:c = "Gaps"\/(c = "Often"/\∃k:ay,k≠keep/\fs.lookup ("keep" : a5)=ah (.val (.int k)))):AL [.aB p,.aB o] Z=ah (.exc ⟨"Unlike",[]⟩,Z):=by
 have j:=Li h2 (by rcases q with z|z;exact .inr z;exact .inl z.1) (.aB p);show trim Z (bT (zX [aE p,aE o] Z))=_;unfold zX;have L:(eI keep many tk rs lost).lookup ("keep" : a5)=ah (.val (.int keep)):=rfl;have B:(gV (jK (bK (bP "same_kind" [("Often",bI 2 [] JA)] aM (aC aW a0)))) (bK (aD gA (dF ["Often"] "keep" aW) (dF ["Often"] "keep" aM)))) [aE p,aE o] Z=aG au Z:=by
  rcases q with rfl|⟨rfl,k,U,lk⟩
  ·have dB:¬("Gaps" : a5) = "Often":=by decide
   exact Tf (vH (b:=ao) (eU (gD h rfl rfl (as:=[.aB o]) (das:=[]) (aO (aK rfl) bJ) rfl (by simpa[dB]using j))))
  ·rw[zD (vH (b:=au) (eU (gD h (by rfl) (by rfl) (as:=[.aB o]) (das:=[]) (aO (aK (by rfl)) bJ) (by rfl) (by simpa using j))))];have pZ:¬(k:a6)=keep:=by omega
   exact eU (cR (a:=.int k) (b:=.int keep) (by simp[h2,lk]) (by simp[h,L]) (by simp[pZ]))
 rw[KW (Y1:=[aE p,aE o]) (Z':=Z) (x:=⟨"Unlike",[]⟩) (by rw[xC B,ax rfl,RT])];exact EU
theorem aDG{q:ay}(h:Z[q]?=ah (uB FX))(h2:Z[o]?=ah (aV keep many tk rs lost)):OX [.aB q,.aB o] Z=ah (.exc ⟨"Unlike",[]⟩,Z):=by
 have j:=aCZ h2 (.aB q);show trim Z (bT (Jw [aE q,aE o] Z))=_;unfold Jw;rw[KW (Y1:=[aE q,aE o]) (Z':=Z) (x:=⟨"Unlike",[]⟩) (by rw[xC (Tf (vH (b:=ao) (eU (iX h (by rfl) (by rfl) (aK (by rfl)) (as:=[.aB o]) (das:=[]) (aO (aK (by rfl)) bJ) (by rfl) (by exact j))))),ax rfl,RT])];exact EU
end
theorem alT(ok:aH->Prop)(aL:∀Z,ok Z)(L:A)(Z:aH):∀(rs:ai Rn) (j:ai a6) (f:a6->a6) (x y:av A),j.length+rs.length<=100000->(∀n,n∉j->f n=0) ->
  ∃U B,eO ok (nE 2 (fV (gN 2) (fV (gN 3) nV))) VR (aI rs) [ah L,aE Z.length,x,y] (Z++[.aQ (gM j f)])
   = fU [ah L,aE Z.length,U,B] (Z++[.aQ (gM (xA j rs) λk=>f k+nP rs k)]):=by
 intro rs
 induction rs with
 |nil =>
  intro j f x y _ _;refine⟨x,y,?_⟩;have e:(λk=>f k+nP [] k)=f:=by funext k;simp[nP]
  simp only[aI,qL,CQ (aL _),xA,List.foldl_nil,e]
 |cons r rs ih =>
  intro j f x y hl a;simp only[lH]at hl;have l:=Uv j r.1
  let g:a6->a6:=λk=>if k=r.1 then f r.1+r.2 else f k
  obtain⟨U,B,q⟩:=ih (sV j r.1) g (aA r.1) (aA r.2) (by omega) (λn hn=>by
   rw[an7]at hn;have h1:n∉j:=λz=>hn (.inl z);have h2:¬n=r.1:=λz=>hn (.inr z);simp only[g,h2,lC,a n h1])
  refine⟨U,B,?_⟩;have b:fL (Z++[.aQ (gM j f)]) (.aB Z.length)=ah (Z.length,gM j f):=mK (by simp);have hd:Et (Z++[.aQ (gM j f)]) (.aB Z.length):=⟨_,_,b⟩;have hv:(iN (gM j f) (.inl r.1)).getD (.int 0)=.int (f r.1):=by
   rw[Pa]
   by_cases h:r.1∈j
   ·simp[h]
   ·simp[h,a _ h]
  have d:nB (gM j f) (.inl r.1) (.int (f r.1+r.2))=gM (sV j r.1) g:=by
   have:=ajW j f g r.1 λk _ i=>by simp[g,i]
   simpa[g]using this
  have c:(gM j f).length<a7:=by rw[jP];simp[gM];omega
  have st:VR [ah L,aE Z.length,aA r.1,aA r.2] (Z++[.aQ (gM j f)])=fU [ah L,aE Z.length,aA r.1,aA r.2] (Z++[.aQ (gM (sV j r.1) g)]):=by
   simp[VR,hd,b,jS,hv,c,d]
  show eO ok _ _ (dR r::aI rs) _ _=_;rw[uM (aL _) (Y0:=[ah L,aE Z.length,aA r.1,aA r.2]) (Z0:=Z++[.aQ (gM j f)]) (by simp[dR]) st,q];have e:(λk=>g k+nP rs k)=λk=>f k+nP (r::rs) k:=by
   funext k;simp only[g,nP,cW,List.sum_cons]
   by_cases h:k=r.1
   ·subst h;simp;omega
   ·have h':¬r.1=k:=λz=>h z.symm;simp[h,h']
  rw[e];rfl
def zA(rs:ai Rn):ai Rn:=(sortI (xA [] rs)).map λk=>(k,nP rs k)
theorem aq9(j:ai a6)(f:a6->a6):intKeys (gM j f)=ah j:=by
 induction j with
 |nil=>rfl
 |cons k j ih =>
  simp only[gM,cW,intKeys]at ih ⊢;rw[ih];rfl
theorem aC3(rs:ai Rn)(hl:rs.length<=90000)(i:(xA [] rs).length<64)(Z:aH):OQ [.lst (aI rs)] Z=aG (.lst (aI (zA rs))) Z:=by
 obtain⟨B,z,q⟩:=alT (λZ'=>iP Z' (.lst (aI rs))=ah (aI rs)) (λ_=>rfl) (.lst (aI rs)) Z rs [] (λ_=>0) ak ak (by simp;omega) (λ_ _=>rfl);simp only[Int.zero_add]at q;have d:=Ed rs [];simp only[DL,Nat.zero_add]at d;generalize m:xA [] rs=j at q d i;have g:∀c,fL (Z ++ .aQ (gM j λk=>nP rs k)::c) (.aB Z.length)=ah (Z.length,gM j λk=>nP rs k):=λc=>mK (by simp);have U:=g [];have f:=EY j;have n:j.length<64:=i;have p:j.length<=a7:=by rw[jP];omega
 have comp:Zt [eV (aI rs),aE Z.length,B,z] (Z++[.aQ (gM j λk=>nP rs k)])=aG (.lst (aI (zA rs))) (Z++[.aQ (gM j λk=>nP rs k)]):=by
  have h:((sortI j).map A.int).filterMap (λa=>match a with | .int k=>ah (dR (k,nP rs k))|_=>ak)=aI (zA rs):=by
   simp only[Me,aI,zA,m,sY];rw[<-Mf];rfl
  rw[<-h];refine yS (S:=srcOf (.lst ((sortI j).map A.int)) ((sortI j).map A.int)) _ (λb=>∃v,b=[v,aE Z.length]) (by simp[U,aq9,n,f]) (λ_=>rfl) ⟨ak,rfl⟩ (by simp[f];omega) ?_ (by
   show fX _ (List.filterMap _ ((sortI j).map A.int));rw[h];exact Ii _ _)
  rintro x o b ⟨v,rfl⟩ l;obtain⟨k,r,rfl⟩:=mQ.mp o;have L:k∈j:=(sortI_perm j).mem_iff.mp r;have h2:(2:ay)<=a7:=by decide
  have hv:iN (gM j λk=>nP rs k) (.inl k)=(aA (nP rs k)):=by rw[Pa,ax L]
  refine⟨[aA k,aE Z.length],⟨_,rfl⟩,by simp,.inl ⟨_,rfl,rfl,?_⟩⟩;have s:=g [.lst l];simp[s,jS,hv,h2,dR]
 show trim Z (bT (VU [eV (aI rs),ak,ak,ak] Z))=_;have e:VU [eV (aI rs),ak,ak,ak] Z=ah (.ret (.lst (aI (zA rs))),[eV (aI rs),aE Z.length,B,z],Z++[.aQ (gM j λk=>nP rs k)]):=by
  unfold VU;rw[bC (Y1:=[eV (aI rs),aE Z.length,ak,ak]) (Z':=Z++[.aQ []]) (by simp)];rw[bC (Y1:=[eV (aI rs),aE Z.length,B,z]) (Z':=Z++[.aQ (gM j λk=>nP rs k)]) (by rw[uL (S:=srcOf (.lst (aI rs)) (aI rs)) (Z':=Z++[.aQ []]) (by simp)];exact q)];simp[comp]
 rw[e];simp only[bT];exact KH (by simp only[Cl];exact Ii _ _)
theorem aC4(rs:ai Rn)(hl:rs.length<=63)(Z:aH):OQ [.lst (aI rs)] Z=aG (.lst (aI (zA rs))) Z:=aC3 rs (by omega) (by have:=Ed rs [];simp only[DL]at this;omega) Z
theorem akM:zA [(1,5)]=[(1,5)]:=by
 have e:sortI (xA [] [(1,5)])=[1]:=(BC (ms:=[1]) (DN _) (by simp)).symm;unfold zA;rw[e];simp[nP]
theorem aC2(Z:aH):DU [.lst (aI [(1,5)])] Z=aG (.aB Z.length) (Z++[.aQ [(.inl 1,.tup [.int 1,.int 5])]]):=by
 have j:=aC4 [(1,5)] (by decide) (Z++[.aQ []]);rw[akM]at j;have q:(2:ay)<=a7:=by decide
 have z:(0:ay)<a7:=by decide
 have B:fL (Z++[.aQ []]) (.aB Z.length)=ah (Z.length,[]):=mK (by simp);show trim Z (bT (Iw [eV (aI [(1,5)]),ak,ak,ak,ak] Z))=_;unfold Iw;rw[bC (Y1:=[eV (aI [(1,5)]),aE Z.length,ak,ak,ak]) (Z':=Z++[.aQ []]) (by simp)];rw[bC (Y1:=[eV (aI [(1,5)]),aE Z.length,aA 0,ak,ak]) (Z':=Z++[.aQ []]) (by simp)];rw[bC (Y1:=[eV (aI [(1,5)]),aE Z.length,aA 5,aA 1,aA 5]) (Z':=Z++[.aQ [(.inl 1,.tup [.int 1,.int 5])]]) (by
  rw[uL (S:=srcOf (.lst (aI [(1,5)])) (aI [(1,5)])) (Z':=Z++[.aQ []]) (by unfold fY;rw[bU (fM (aO (aK (a:=.lst (aI [(1,5)])) (by rfl)) bJ) (by rfl) j)];rfl)];show eO _ _ _ [dR (1,5)] _ _=_;rw[uM (by rfl) (Y0:=[eV (aI [(1,5)]),aE Z.length,aA 0,aA 1,aA 5]) (Z0:=Z++[.aQ []]) (by simp[dR]) (Y1:=[eV (aI [(1,5)]),aE Z.length,aA 5,aA 1,aA 5]) (Z1:=Z++[.aQ [(.inl 1,.tup [.int 1,.int 5])]]) (by
   simp[Zs,B,jS,q,z,nB])]
  exact CQ (by rfl))]
 unfold bO;rw[dP (aK (a:=.aB Z.length) (by rfl))];simp only[bT];exact ZK
theorem aDC(Z:aH):IW [.lst (aI [(1,5)])] Z=aG (.int 5) Z:=by
 show trim Z (bT (Iz [eV (aI [(1,5)]),ak,ak,ak,ak] Z))=_;unfold Iz;rw[bC (Y1:=[eV (aI [(1,5)]),aA 0,ak,ak,ak]) (Z':=Z) (by simp)];rw[bC (Y1:=[eV (aI [(1,5)]),aA 5,aA 0,ah (dR (1,5)),aA 5]) (Z':=Z) (by
  rw[uL (S:=enumSrc (.lst (aI [(1,5)])) (aI [(1,5)])) (Z':=Z) (by simp)];show eO _ _ _ [A.tup [.int ((0:ay):a6),dR (1,5)]] _ _=_;rw[uM (by rfl) (Y0:=[eV (aI [(1,5)]),aA 0,aA 0,ah (dR (1,5)),ak]) (Z0:=Z) (by simp) (Y1:=[eV (aI [(1,5)]),aA 5,aA 0,ah (dR (1,5)),aA 5]) (Z1:=Z) (by
   have e0:(aD bM cH cJ) [eV (aI [(1,5)]),aA 0,aA 0,ah (dR (1,5)),ak] Z=aG (.int 5) Z:=kJ (k:=1) (aK (a:=dR (1,5)) rfl) rfl (ds:=[.int 1,.int 5]) rfl rfl;unfold Zv;rw[bC (fD e0)];simp)]
  exact CQ (by rfl))]
 unfold bO;rw[dP (aK (a:=.int 5) (by rfl))];simp only[bT];exact nO rfl
noncomputable abbrev pU:A:=.tup [.int 5,.int 0,.int 0,.lst [.tup [.int 1,.int 1,.int 1],.tup [.int 1,.int 5,.int 5]]]
theorem aC8(Z:aH):XX [.lst (aI [(1,5)])] Z=aG pU Z:=by
 have m:(4:ay)<=a7:=by decide
 have o:(3:ay)<=a7:=by decide
 have v:(0:ay)<a7:=by decide
 have s1:(1:ay)<a7:=by decide
 have p:=aC2 (Z++[.lst []])
 let Y:=λ(l h:av A)=>[ah (A.lst (aI [(1,5)])),ah (A.aB Z.length),l,h]
 let q:A:=.tup [.int 1,.int 5]
 have src:(QK (aR (cA 1 DU) (aC aM a0))) (Y ak ak) (Z++[.lst []])=aG (FZ [(.inl 1,.tup [.int 1,.int 5])]) (Z++[.lst [],.dead]):=by
  have e:(aR (cA 1 DU) (aC aM a0)) (Y ak ak) (Z++[.lst []])=aG (.aB (Z.length+1)) (Z++[.lst [],.aQ [(.inl 1,.tup [.int 1,.int 5])]]):=by
   have:=fM (n:=1) (F:=DU) (fs:=aC aM a0) (Y:=Y ak ak) (aO (aK (i:=0) (a:=.lst (aI [(1,5)])) (by rfl)) bJ) (by rfl) p;simpa using this
  have u:fL (Z++[.lst [],.aQ [(.inl 1,.tup [.int 1,.int 5])]]) (.aB (Z.length+1))=ah (Z.length+1,[(.inl 1,.tup [.int 1,.int 5])]):=mK (by rw[sZ (by omega)];simp);unfold QK;rw[bU e];simp only[u];congr 3;rw[abK _ _ (by omega)];simp
 have U:∀(j:aH),(aD bM cH cM) (Y (aA 1) (ah q)) j=aG (.int 1) j:=λj=>kJ (k:=0) (aK (a:=q) rfl) rfl (ds:=[.int 1,.int 5]) rfl rfl;have L:∀(j:aH),(aD bM cH cJ) (Y (aA 1) (ah q)) j=aG (.int 5) j:=λj=>kJ (k:=1) (aK (a:=q) rfl) rfl (ds:=[.int 1,.int 5]) rfl rfl;have d:∀(ds:ai A) (z:Ev->Mo A) (a:A),ds.length<10->z (Y (aA 1) (ah q)) (Z++[.lst ds,.dead])=aG a (Z++[.lst ds,.dead])->gW (ER CO aW (aC z a0)) (Y (aA 1) (ah q)) (Z++[.lst ds,.dead])=fU (Y (aA 1) (ah q)) (Z++[.lst (ds++[a]),.dead]):=λds z a hd he=>by
  have g:(Z++[Cell.lst ds,.dead])[Z.length]?=ah (.lst ds):=by rw[sZ (by omega)];simp
  rw[aB2 (aK (a:=.aB Z.length) (by rfl)) g he g (by omega),abK _ _ (by omega)];simp
 show trim Z (bT (Iy (([ah (A.lst (aI [(1,5)])),ak,ak,ak])) Z))=_;unfold Iy;rw[bC (Y1:=Y ak ak) (Z':=Z++[.lst []]) (by simp[Y])];rw[bC (Y1:=Y (aA 1) (ah q)) (Z':=Z++[.lst [.tup [.int 1,.int 1,.int 1],.tup [.int 1,.int 5,.int 5]],.dead]) (by
  rw[uL src];show eO _ _ _ [A.tup [.int 1,q]] _ _=_;rw[uM (by trivial) (Y0:=Y (aA 1) (ah q)) (Z0:=Z++[.lst [],.dead]) (by simp[Y]) (Y1:=Y (aA 1) (ah q)) (Z1:=Z++[.lst [.tup [.int 1,.int 1,.int 1],.tup [.int 1,.int 5,.int 5]],.dead]) (by
   unfold Zu;have B:∀(j:aH) (f:Ev->Mo A) (n:a6),f (Y (aA 1) (ah q)) j=aG (.int n) j->(mY (aC bX (aC f (aC f a0)))) (Y (aA 1) (ah q)) j=aG (.tup [.int 1,.int n,.int n]) j:=λj f n c=>by
    unfold mY;rw[bU (aO (aK (a:=.int 1) (by rfl)) (aO c (aO c bJ)))];simp[o]
   rw[bC (d [] _ _ (by decide) (B _ _ 1 (U _)))];rw[xC (eU (b:=au) (cR (U _) (L _) (by simp))),ax rfl];exact d _ _ _ (by decide) (B _ _ 5 (L _)))]
  exact CQ (by trivial))]
 have g:(Z++[Cell.lst [.tup [.int 1,.int 1,.int 1],.tup [.int 1,.int 5,.int 5]],.dead])[Z.length]?=ah (.lst [.tup [.int 1,.int 1,.int 1],.tup [.int 1,.int 5,.int 5]]):=by rw[sZ (by omega)];simp
 unfold bO;rw[dP (x:=pU) (Z':=Z++[.dead,.dead]) (by
  have lk:=aDC (Z++[.lst [.tup [.int 1,.int 1,.int 1],.tup [.int 1,.int 5,.int 5]],.dead]);have t:(aR (cA 1 IW) (aC aM a0)) (Y (aA 1) (ah q)) (Z++[.lst [.tup [.int 1,.int 1,.int 1],.tup [.int 1,.int 5,.int 5]],.dead])=_:=fM (aO (aK (i:=0) (a:=.lst (aI [(1,5)])) (by rfl)) bJ) (by rfl) lk;have s:(EO 1) (Y (aA 1) (ah q)) (Z++[.lst [.tup [.int 1,.int 1,.int 1],.tup [.int 1,.int 5,.int 5]],.dead])=aG (.lst [.tup [.int 1,.int 1,.int 1],.tup [.int 1,.int 5,.int 5]]) (Z++[.dead,.dead]):=by
   simp[Y,g]
  unfold mY;have r:(aC (aR (cA 1 IW) (aC aM a0)) (aC cM (aC cM (aC (EO 1) a0)))) (Y (aA 1) (ah q)) (Z++[.lst [.tup [.int 1,.int 1,.int 1],.tup [.int 1,.int 5,.int 5]],.dead])=aG [.int 5,.int 0,.int 0,.lst [.tup [.int 1,.int 1,.int 1],.tup [.int 1,.int 5,.int 5]]] (Z++[.dead,.dead]):=by
   exact vS t (vS (f:=cI 0) (a:=.int 0) rfl (vS (f:=cI 0) (a:=.int 0) rfl (vS s bJ)))
  rw[bU r];simp[m])]
 simp only[bT];exact KH (by simp[Cl,fX])
section
variable{p keep:ay}{Z:aH}
theorem aC7(h:Z[p]?=ah (uB keep)):JB [.aB p] Z=aG (.int 0) Z:=by
 have U:∀{j:Ev},(j[0]?).join=(aE p)->pV ["Gaps"] 0 "newest" j Z=ah (p,("Gaps" : a5),NG keep,Fd.aQ [(.inl 1,.int 5)]):=λB=>by
  unfold pV;rw[B];simp only[h];rfl
 have b:∀{j:Ev},(j[0]?).join=(aE p)->pV ["Gaps"] 0 "laid" j Z=ah (p,("Gaps" : a5),NG keep,Fd.aQ []):=λB=>by
  unfold pV;rw[B];simp only[h];rfl
 have c:PF [.aB p] Z=aG pU Z:=by
  show trim Z (bT (Kj [aE p] Z))=_;unfold Kj bO;have e:(iG ["Gaps"] 0 "newest" λq=>jD ao (q.map lT)) [aE p] Z=aG (.lst (aI [(1,5)])) Z:=by
   unfold iG;rw[U rfl];simp[lT,kA,aI,dR]
  rw[dP (fM (aO e bJ) (by rfl) (aC8 Z))];simp only[bT];exact nO rfl
 have L:PD [.aB p] Z=aG (.lst [pU]) Z:=by
  have s1:(1:ay)<=a7:=by decide
  have z:¬a7<1:=by decide
  show trim Z (bT (Kh [aE p] Z))=_;unfold Kh bO;have l:(fZ ao (aC (bP "newest_pouch" [("Gaps",bI 1 [] PF)] aM a0) a0)) [aE p] Z=aG (.lst [pU]) Z:=by
   unfold fZ;rw[bU (aO (iX h (by rfl) (by rfl) (aK (by rfl)) (as:=[]) (das:=[]) bJ (by rfl) (by exact c)) bJ)];simp[s1]
  have i:(iG ["Gaps"] 0 "laid" λq=>jD ao (q.map (·.2))) [aE p] Z=aG (.lst []) Z:=by
   unfold iG;rw[b rfl];simp
  rw[dP (x:=.lst [pU]) (Z':=Z) (cR l i (by
   have:[pU].length+([]:ai A).length=1:=rfl;simp[NC,dY,BU,z]))]
  simp only[bT];exact nO rfl
 have g:aaD [aE p] Z=aG (.lst ([0].map A.int)) Z:=by
  have src:(fY (bP "parts" [("Gaps",bI 1 [] PD)] aM a0)) [aE p] Z=aG (srcOf (.lst [pU]) [pU]) Z:=by
   unfold fY;rw[bU (iX h (by rfl) (by rfl) (aK (by rfl)) (as:=[]) (das:=[]) bJ (by rfl) (by exact L))];rfl
  refine yS (S:=srcOf (.lst [pU]) [pU]) (λ_=>(aA 0)) (λj=>∃v,j=[v]) src (λ_=>rfl) ⟨ak,rfl⟩ (by decide) ?_ (by simp[fX,Cl,srcOf]);rintro x d j ⟨v,rfl⟩ m;obtain rfl:x=pU:=by simpa[srcOf]using d
  exact⟨[ah pU],⟨_,rfl⟩,by simp,.inl ⟨_,rfl,rfl,kJ (k:=1) (aK (a:=pU) rfl) rfl (ds:=[.int 5,.int 0,.int 0,.lst [.tup [.int 1,.int 1,.int 1],.tup [.int 1,.int 5,.int 5]]]) rfl rfl⟩⟩
 show trim Z (bT (Ki [aE p] Z))=_;unfold Ki bO;have f:intsOf [A.int 0]=ah [0]:=rfl;rw[dP (x:=.int 0) (Z':=Z) (vT (aO g bJ) (by simp[f]))];simp only[bT];exact nO rfl
theorem aDE(h:Z[p]?=ah (uB keep)):IZ [.aB p] Z=aG (.int 5) Z:=by
 have lk:(NG keep).lookup ("many" : a5)=ah (.val (.int 5)):=rfl;show trim Z (bT (Ju [aE p] Z))=_;simp[Ju,h,lk]
theorem aC0(h:Z[p]?=ah (uB keep)):DX [.aB p] Z=aG (.int 1) Z:=by
 have lk:(NG keep).lookup ("taken" : a5)=ah (.val (.int 1)):=rfl;show trim Z (bT (Jq [aE p] Z))=_;simp[Jq,h,lk]
end
noncomputable abbrev qU:ai a5:=["NoRow", "NoTimes", "Unlike"]
noncomputable abbrev xR:ai a5:=["RankError", "NoRow", "NoPlace", "NoPouch", "NoSize", "Wrong", "NoTimes", "Unlike", "NoText"]
theorem Lp(p:aq)(c:a5)(j:c = "NoTimes"\/c = "Unlike")(Z:aH):AK p ⟨c,[]⟩ [.adr p] Z=aG (.bl au) Z:=by
 have L:(6:ay)<=a7:=by decide
 have B:NW (jO qU xR c) ["NoPlace", "NoPouch", "NoRow", "NoSize", "NoText", "Wrong"]=ah ao:=by rcases j with rfl|rfl <;> decide
 have z:jO qU xR c "RankError" = ah au:=by rcases j with rfl|rfl <;> decide
 have q:pD qU c "ValueError" = ah au:=by rcases j with rfl|rfl <;> decide
 show trim Z (bT (Jp p ⟨c,[]⟩ [ah (.adr p)] Z))=_;simp[Jp,L,isA,zP,GQ,B,z,q,V2.NJ]
noncomputable abbrev vD:A:=.lst [.str "times",.bl au]
noncomputable abbrev BB:A:=.lst [.str "unlike",.bl au]
section
variable{Z Z':aH}
theorem aDB{a b c r:A}(h:(bP "put" [("Often",bI 3 [] rS),("Gaps",bI 3 [] rT)] aM (aC aW (aC bX a0))) [ah a,ah b,ah c,ah (.str "done"),ak] Z=aG r Z')(hl:Z'.length=Z.length):IX [a,b,c] Z=aG (.str "done") Z':=by
 have j:cF 5 xT [a,b,c] Z=aG (.str "done") Z':=by
  show trim Z (bT (xT [ah a,ah b,ah c,ak,ak] Z))=_;unfold xT;rw[bC (Y1:=[ah a,ah b,ah c,ah (.str "done"),ak]) (fD (f:=cS "done") (a:=.str "done") (by rfl))];rw[bC (Y1:=[ah a,ah b,ah c,ah (.str "done"),ak]) (Z':=Z') (by
   have e0:Jg [ah a,ah b,ah c,ah (.str "done"),ak] Z=fU [ah a,ah b,ah c,ah (.str "done"),ak] Z':=nG h;simp only[yX,e0])]
  unfold bO;rw[dP (aK (a:=.str "done") (by rfl))];simp only[bT];exact nO hl
 show lR (cF 5 xT) [a,b,c] Z=_;simp only[lR,j]
theorem abE{a b c:A}(h:(bP "put" [("Often",bI 3 [] rS),("Gaps",bI 3 [] rT)] aM (aC aW (aC bX a0))) [ah a,ah b,ah c,ah (.str "done"),ak] Z=ah (.exc ⟨"NoTimes",[]⟩,Z)):IX [a,b,c] Z=aG vD Z:=by
 have q:jO qU xR "NoTimes" "Unlike" = ah ao:=by decide
 have j:pD qU "NoTimes" "ValueError" = ah au:=by decide
 have h2:(2:ay)<=a7:=by decide
 have z:cF 5 xT [a,b,c] Z=aG vD Z:=by
  show trim Z (bT (xT [ah a,ah b,ah c,ak,ak] Z))=_;unfold xT;rw[bC (Y1:=[ah a,ah b,ah c,ah (.str "done"),ak]) (fD (f:=cS "done") (a:=.str "done") (by rfl))];have e0:Jg [ah a,ah b,ah c,ah (.str "done"),ak] Z=ah (.exc ⟨"NoTimes",[]⟩,[ah a,ah b,ah c,ah (.str "done"),ak],Z):=VB h;rw[bC (adX (r:=(.nx,[ah a,ah b,ah c,ah vD,ak],Z)) e0 (by decide) λp d=>?_)]
  ·exact Ci (aK rfl)
  ·have B:=Lp p "NoTimes" (.inl rfl) Z;simp[aaA,mI,xP,cA,lR,B,h2,isA,zP,GQ,q,j,V2.NJ]
 show lR (cF 5 xT) [a,b,c] Z=_;simp only[lR,z]
noncomputable abbrev Eo:ai (a5×(ai A->Mo A)):=[("Often",bI 2 [] AL),("Gaps",bI 2 [] OX)]
theorem aDD{a b r:A}(h:(bP "join" Eo aM (aC aW a0)) [ah a,ah b,ah (.str "done"),ak] Z=aG r Z'):AJ [a,b] Z=trim Z (ah (.ok (.str "done"),Z')):=by
 have j:cF 4 xU [a,b] Z=trim Z (ah (.ok (.str "done"),Z')):=by
  show trim Z (bT (xU [ah a,ah b,ak,ak] Z))=_;unfold xU;rw[bC (Y1:=[ah a,ah b,ah (.str "done"),ak]) (fD (f:=cS "done") (a:=.str "done") (by rfl))];have e0:Jk [ah a,ah b,ah (.str "done"),ak] Z=fU [ah a,ah b,ah (.str "done"),ak] Z':=nG h;rw[bC (Y1:=[ah a,ah b,ah (.str "done"),ak]) (Z':=Z') (adW e0)];unfold bO;rw[dP (aK (a:=.str "done") (by rfl))];rfl
 show lR (cF 4 xU) [a,b] Z=_;simp only[lR,j,trim];split <;> rename_i z <;> first|(cases z;done)|skip
 all_goals (revert z;split <;> simp)
theorem Lk{a b:A}(c:a5)(U:c = "NoTimes"\/c = "Unlike")(h:(bP "join" Eo aM (aC aW a0)) [ah a,ah b,ah (.str "done"),ak] Z=ah (.exc ⟨c,[]⟩,Z)):AJ [a,b] Z=aG (if c = "Unlike" then BB else vD) Z:=by
 have h2:(2:ay)<=a7:=by decide
 have L:jO qU xR "NoTimes" "Unlike" = ah ao:=by decide
 have z:pD qU "NoTimes" "ValueError" = ah au:=by decide
 have q:pD qU "Unlike" "ValueError" = ah au:=by decide
 have B:jO qU xR "Unlike" "NoTimes" = ah ao:=by decide
 have e:cF 4 xU [a,b] Z=aG (if c = "Unlike" then BB else vD) Z:=by
  show trim Z (bT (xU [ah a,ah b,ak,ak] Z))=_;unfold xU;rw[bC (Y1:=[ah a,ah b,ah (.str "done"),ak]) (fD (f:=cS "done") (a:=.str "done") (by rfl))];have e0:Jk [ah a,ah b,ah (.str "done"),ak] Z=ah (.exc ⟨c,[]⟩,[ah a,ah b,ah (.str "done"),ak],Z):=VB h
  rcases U with rfl|rfl
  ·have g:zO qU xR "Unlike" NT (zO qU xR "NoTimes" NS UM) "NoTimes" = ah NS:=by rfl
   rw[bC (Po (r:=(.nx,[ah a,ah b,ah vD,ak],Z)) e0 g λp d=>?_)]
   ·rw[a8 (by decide)];exact Ci (aK rfl)
   ·have j:=Lp p "NoTimes" (.inl rfl) Z;simp[NS,mI,xP,cA,lR,j,h2,isA,zP,GQ,L,z,V2.NJ]
  ·have g:zO qU xR "Unlike" NT (zO qU xR "NoTimes" NS UM) "Unlike" = ah NT:=by rfl
   rw[bC (Po (r:=(.nx,[ah a,ah b,ah BB,ak],Z)) e0 g λp d=>?_)]
   ·rw[ax rfl];exact Ci (aK rfl)
   ·have j:=Lp p "Unlike" (.inr rfl) Z;simp[NT,mI,xP,cA,lR,j,h2,isA,zP,GQ,B,q,V2.NJ]
 show lR (cF 4 xU) [a,b] Z=_;simp only[lR,e]
end
section
variable{p o:ay}{keep FX:ay}{many tk lost gE nQ jE:a6}{rs ws gX:ai Rn}{Z:aH}
theorem AA(h:Z[p]?=ah (aV keep many tk rs lost))(hl:rs.length<64):rR [.aB p] Z=aG (.lst [.aB Z.length,.int lost,.int many,.int tk]) (Z++[.lst (aI (dI rs))]):=by
 have j:=Ln h hl;have q:p<Z.length:=(cX.mp h).1;generalize dI rs=T at j;have h':(Z++[Cell.lst (aI T)])[p]?=ah (aV keep many tk rs lost):=by rw[eQ q];exact h
 show trim Z (bT (Jf [aE p] Z))=_;unfold Jf bO;rw[dP (vI (vS (gD h (by rfl) (by rfl) (as:=[]) (das:=[]) bJ (by rfl) (by exact j)) (aO (gD h' (by rfl) (by rfl) (as:=[]) (das:=[]) bJ (by rfl) (by exact ID h')) (aO (gD h' (by rfl) (by rfl) (as:=[]) (das:=[]) bJ (by rfl) (by exact Ll h')) (aO (gD h' (by rfl) (by rfl) (as:=[]) (das:=[]) bJ (by rfl) (by exact XF h')) bJ)))) (by simp))];simp[trim,Cl,fX]
theorem RR{k:ay}{T:ai Rn}{a b c:a6}(g:Z[k]?=ah (.lst (aI T))):res Z 6 (.lst [.aB k,.int a,.int b,.int c])=ah (.lst [.lst (aI T),.int a,.int b,.int c]):=by
 have h:(aI T).all (cO 8)=au:=by simp[aI,dR,cO]
 have e:res Z 5 (.aB k)=ah (.lst (aI T)):=by rw[Cj g,SR _ h];rfl
 have i:∀n:a6,res Z 5 (.int n)=(aA n):=λn=>vF (by simp[cO]);rw[res,a8 (by simp[cO])];simp only[tU,e,i];rfl
theorem Si(T:ai Rn)(a b c:a6):cO 8 (.lst [.lst (aI T),.int a,.int b,.int c])=au:=by simp[cO,aI,dR]
theorem Ht{k:ay}{T:ai Rn}{a b c:a6}(g:Z[k]?=ah (.lst (aI T))):iC (.lst [.aB Z.length,.int a,.int b,.int c]) (.lst [.aB k,.int a,.int b,.int c]) (Z++[.lst (aI T)])=aG (.bl au) (Z++[.lst (aI T)]) :=
 Xf (RR (rC _ _)) (RR (by rw[eQ (cX.mp g).1];exact g)) (Si T a b c)
theorem anV{k:ay}{T:ai Rn}{a b c:a6}(g:Z[k]?=ah (.lst (aI T))):gA (.lst [.aB Z.length,.int a,.int b,.int c]) (.lst [.aB k,.int a,.int b,.int c]) (Z++[.lst (aI T)])=aG (.bl ao) (Z++[.lst (aI T)]) :=
 UR (RR (rC _ _)) (RR (by rw[eQ (cX.mp g).1];exact g)) (Si T a b c)
end
theorem ET{Z Z':aH}{a:A}(hl:Z.length<=Z'.length):∃wG,trim Z (ah (.ok a,Z'))=aG a wG/\Z.length<=wG.length/\∀k,k<Z.length->wG[k]?=Z'[k]?:=by
 simp only[trim];split
 ·rename_i q;refine⟨Z,rfl,nY _,λk j=>?_⟩;have:=b7 (λl:aH=>l[k]?) q.1;simp only[IM,ax j]at this;exact this.symm
 ·exact⟨Z',rfl,hl,λ_ _=>rfl⟩
theorem Qi:∀{l m:ai a6},l.Nodup->(∀x∈l,x∈m)->l.length<=m.length
 |[],m,_,_=>by simp
 |x::l,m,nd,h=>by
  have q:=nZ.mp nd;have j:=h x (by simp);have:=Qi (l:=l) (m:=m.erase x) q.2 λy hy=>(List.mem_erase_of_ne (λe=>q.1 (by rw[<-e];exact hy))).mpr (h y (by simp[hy]));rw[List.length_erase_of_mem j]at this;have z:0<m.length:=List.length_pos_of_mem j;simp;omega
section
variable{Z:aH}{Y:Ev}
theorem RA{f:Ev->Mo A}{q:ay}{ws:ai Rn}(B:f Y Z=aG (.aB q) Z)(z:Z[q]?=ah (.aQ (encD ws))):(aR nF (aC (pG ao f) a0)) Y Z=aG (.int (bS ws)) Z:=by
 have L:fL Z (.aB q)=ah (q,encD ws):=mK z;have j:(pG ao f) Y Z=aG (.lst ((ws.map (·.2)).map A.int)) Z:=by
  unfold pG;rw[bU B];simp only[L,YZ];rfl
 refine vT (aO j bJ) ?_;rw[<-RC];have e:intsOf (ws.map (A.int ∘ λx=>x.2))=ah (ws.map (·.2)):=by rw[<-sY];exact zI _
 simp[e]
theorem avP{fo fi:Ev->Mo A}{k:ay}{ws:ai Rn}{n:a6}(q:fo Y Z=aG (.aB k) Z)(h:Z[k]?=ah (.aQ (encD ws)))(h1:fi Y Z=aG (.int n) Z):iO fo fi cM Y Z=aG (.int (aZ ws n)) Z:=by
 have j:fL Z (.aB k)=ah (k,encD ws):=mK h;have hd:Et Z (.aB k):=⟨_,_,j⟩;unfold iO;rw[bU q,ax hd,bU h1,bU (x:=A.int 0) (Z':=Z) (by simp)];simp only[GY,j,jS];rw[QG]
theorem Sh{fo fi fe:Ev->Mo A}{k:ay}{ws:ai Rn}{n t:a6}(j:fo Y Z=aG (.aB k) Z)(h:Z[k]?=ah (.aQ (encD ws)))(h1:fi Y Z=aG (.int n) Z)(h2:fe Y Z=aG (.int t) Z)(nd:(ws.map (·.1)).Nodup)(hl:ws.length<100000) :
  pT (aD bV (iO fo fi cM) fe) fo fi Y Z=fU Y (Z.set k (.aQ (encD (bW ws n t)))):=by
 have z:fL Z (.aB k)=ah (k,encD ws):=mK h;have q:(encD ws).length<a7:=by rw[jP];simp[encD];omega
 unfold pT;rw[dP (x:=A.int (aZ ws n+t)) (Z':=Z) (cR (avP j h h1) h2 (by simp)),dP j,dP h1];simp only[FA,z,jS,ax q,Cv ws n t nd]
end
theorem ajY:cO 8 BB=au:=by
 have e:(PyData.str (Str.ofString "unlike")).canLay0=au:=by decide +kernel
 simp[cO,e]
theorem Cw:cO 8 vD=au:=by
 have e:(PyData.str (Str.ofString "times")).canLay0=au:=by decide +kernel
 simp[cO,e]
abbrev uV:=ai Rn×a6×ai Rn×a6
noncomputable abbrev fS:A:=.lst [.aB 0,.aB 1,.aB 2]
noncomputable abbrev fO:A:=.lst [.aB 5,.aB 6,.aB 7]
noncomputable abbrev gJ:A:=.lst [.aB 3,.aB 4]
theorem Ct{i:ay}(hi:i<3):[A.aB 0,.aB 1,.aB 2][i]?=(aE i):=by
 match i,hi with
 |0,_=>rfl
 |1,_=>rfl
 |2,_=>rfl
theorem RN{i:ay}(hi:i<3):[A.aB 5,.aB 6,.aB 7][i]?=(aE (5+i)):=by
 match i,hi with
 |0,_=>rfl
 |1,_=>rfl
 |2,_=>rfl
structure iI(N:ai a6)(Z:aH)(keep:ay)(G:ai uV):Prop where
 n3:G.length=3
 ln:9<=Z.length
 pt:∀(i:ay) (g:uV),G[i]?=ah g->Z[i]?=ah (aV keep (bS g.2.2.1) g.2.2.2 g.1 g.2.1)/\Z[5+i]?=ah (.aQ (encD g.2.2.1))/\nI keep g.1 g.2.1 g.2.2.1 (bS g.2.2.1)
 bd:∀g∈G,bS g.2.2.1<=1000000000/\∀r∈g.2.2.1,r.1∈N
 ox:Z[3]?=ah (aV (keep+1) 1 1 [(1,1)] 0)
 gx:Z[4]?=ah (uB keep)
 pu:Z[8]?=ah (.lst (G.map λg => .int g.2.2.2))
section
variable{N N':ai a6}{Z Z':aH}{keep:ay}{G:ai uV}
theorem iI.mono(h:iI N Z keep G)(e:∀k,k<9->Z'[k]?=Z[k]?)(l:9<=Z'.length):iI N Z' keep G :=
 ⟨h.n3,l,λi g j=>by
  have hi:i<3:=by have:=(cX.mp j).1;have:=h.n3;omega
  rw[e i (by omega),e (5+i) (by omega)];exact h.pt i g j,h.bd,by rw[e 3 (by omega)];exact h.ox,by rw[e 4 (by omega)];exact h.gx,by rw[e 8 (by omega)];exact h.pu⟩
theorem iI.get(h:iI N Z keep G){i:ay}(hi:i<3):∃g,G[i]?=ah g/\g∈G:=by
 have:=h.n3;exact⟨G[i]'(by omega),lI (by omega),OF _⟩
theorem iI.len(h:iI N Z keep G){i:ay}{g:uV}(j:G[i]?=ah g):g.2.2.1.length<=N.length:=by
 have s:=(h.pt i g j).2.2;have:=Qi s.uZ (m:=N) λx q=>by
  obtain⟨r,hr,rfl⟩:=mQ.mp q;exact(h.bd g (sX j)).2 r hr
 simpa using this
theorem iI.more(h:iI N Z keep G)(n:a6):iI (n::N) Z keep G:=⟨h.n3,h.ln,h.pt,λg j=>⟨(h.bd g j).1,λr hr=>gQ _ ((h.bd g j).2 r hr)⟩,h.ox,h.gx,h.pu⟩
theorem iI.set(h:iI N Z keep G){i:ay}(hi:i<3){g:uV}(s:nI keep g.1 g.2.1 g.2.2.1 (bS g.2.2.1))(b:bS g.2.2.1<=1000000000)(fr:∀r∈g.2.2.1,r.1∈N){Z':aH}(l:9<=Z'.length)(e:∀k,k<9->k≠i->k≠5+i->k≠8->Z'[k]?=Z[k]?)(a:Z'[i]?=ah (aV keep (bS g.2.2.1) g.2.2.2 g.1 g.2.1))(U:Z'[5+i]?=ah (.aQ (encD g.2.2.1)))(L:Z'[8]?=ah (.lst ((G.map λg=>A.int g.2.2.2).set i (.int g.2.2.2)))):iI N Z' keep (G.set i g):=by
 have B:=h.n3;refine⟨by simpa using B,l,λj q hq=>?_,λq hq=>?_,by rw[e 3 (by omega) (by omega) (by omega) (by omega)];exact h.ox,by rw[e 4 (by omega) (by omega) (by omega) (by omega)];exact h.gx,by rw[L,List.map_set]⟩
 ·have c:j<3:=by
   have:=(cX.mp hq).1;simp at this;omega
  by_cases z:j=i
  ·subst z;rw[fJ (by omega)]at hq;cases hq;exact⟨a,U,s⟩
  ·rw[eW (cK z)]at hq;rw[e j (by omega) z (by omega) (by omega),e (5+j) (by omega) (by omega) (by omega) (by omega)];exact h.pt j q hq
 ·rcases List.mem_or_eq_of_mem_set hq with z|z
  ·exact h.bd q z
  ·subst z;exact⟨b,fr⟩
theorem Wi{o:ay}{a b c:a6}{Y:Ev}{v:ay}(hv:(Y[v]?).join=(aE o))(j:(∃rs kp,Z[o]?=ah (aV kp a b rs c))\/(∃kp,Z[o]?=ah (uB kp)/\a=5/\b=1/\c=0)) :
  (fZ ao (aC (bP "length" [("Often",bI 1 [] yH),("Gaps",bI 1 [] IZ)] (dO v) a0) (aC (bP "puts" [("Often",bI 1 [] yG),("Gaps",bI 1 [] DX)] (dO v) a0) (aC (bP "off" [("Often",bI 1 [] mR),("Gaps",bI 1 [] JB)] (dO v) a0) a0)))) Y Z=aG (.lst [.int a,.int b,.int c]) Z:=by
 rcases j with⟨rs,kp,j⟩|⟨kp,j,rfl,rfl,rfl⟩
 ·exact vI (aO (iX j rfl rfl (aK hv) (as:=[]) (das:=[]) bJ rfl (Ll j)) (aO (iX j rfl rfl (aK hv) (as:=[]) (das:=[]) bJ rfl (XF j)) (aO (iX j rfl rfl (aK hv) (as:=[]) (das:=[]) bJ rfl (ID j)) bJ))) (by simp)
 ·exact vI (aO (iX j rfl rfl (aK hv) (as:=[]) (das:=[]) bJ rfl (aDE j)) (aO (iX j rfl rfl (aK hv) (as:=[]) (das:=[]) bJ rfl (aC0 j)) (aO (iX j rfl rfl (aK hv) (as:=[]) (das:=[]) bJ rfl (aC7 j)) bJ))) (by simp)
theorem aCY(h:iI N Z keep G)(p:keep<=9){i:ay}(hi:i<3)(d:a6):∃Z',Mq [.aB i,gJ,.int d] Z=aG (.bl au) Z'/\iI N Z' keep G:=by
 obtain⟨g,Q,_⟩:=h.get hi;obtain⟨p1,p2,s⟩:=h.pt i g Q;have X:=h.ln;have lU:=s.len;have m:=AA p1 (by omega);obtain⟨T,hT⟩:∃T,T=dI g.1:=⟨_,rfl⟩;rw[<-hT]at m;obtain⟨q,U⟩:∃q,q=Z++[Cell.lst (aI T)]:=⟨_,rfl⟩;rw[<-U]at m;have B:∀k,k<9->q[k]?=Z[k]?:=λk p=>by rw[U,eQ (by omega)]
 have V:q[Z.length]?=ah (.lst (aI T)):=by rw[U];exact rC _ _
 have L:q[i]?=ah (aV keep (bS g.2.2.1) g.2.2.2 g.1 g.2.1):=by rw[B i (by omega)];exact p1
 obtain⟨j,P⟩:=DS (show 0<=d%2 by omega);obtain⟨a,b,c,y⟩:∃a b c:a6,(∃K kp,q[3+j]?=ah (aV kp a b K c))\/(∃kp,q[3+j]?=ah (uB kp)/\a=5/\b=1/\c=0):=by
  have:j=0\/j=1:=by omega
  rcases this with z|z <;> subst z
  ·exact⟨1,1,0,.inl ⟨_,_,by rw[B 3 (by omega)];exact h.ox⟩⟩
  ·exact⟨5,1,0,.inr ⟨_,by rw[B 4 (by omega)];exact h.gx,rfl,rfl,rfl⟩⟩
 have oj:[A.aB 3,.aB 4][j]?=(aE (3+j)):=by
  have:j=0\/j=1:=by omega
  rcases this with z|z <;> subst z <;> rfl
 let Y:=λ(F E D C:av A)=>[ah (A.aB i),ah gJ,ah (A.int d),F,E,D,C]
 let st:A:=.lst [.aB Z.length,.int g.2.1,.int (bS g.2.2.1),.int g.2.2.2]
 let hr:A:=.lst [.int a,.int b,.int c]
 have M:AJ [.aB i,.aB (3+j)] q=aG BB q:=by
  have e:AL [.aB i,.aB (3+j)] q=ah (.exc ⟨"Unlike",[]⟩,q):=by
   have:j=0\/j=1:=by omega
   rcases this with z|z <;> subst z
   ·exact Lm L (by rw[B 3 (by omega)];exact h.ox) (.inr ⟨rfl,keep+1,by omega,rfl⟩)
   ·exact Lm L (by rw[B 4 (by omega)];exact h.gx) (.inl rfl)
  have:=Lk (a:=.aB i) (b:=.aB (3+j)) "Unlike" (.inr rfl) (iX L rfl rfl (aK rfl) (as:=[.aB (3+j)]) (das:=[]) (aO (aK rfl) bJ) rfl e);rwa[ax rfl]at this
 have n:AJ [.aB (3+j),.aB i] q=aG BB q:=by
  have e:(bP "join" Eo aM (aC aW a0)) [aE (3+j),aE i,ah (.str "done"),ak] q=ah (.exc ⟨"Unlike",[]⟩,q):=by
   have:j=0\/j=1:=by omega
   rcases this with z|z <;> subst z
   ·have w:q[3]?=ah (aV (keep+1) 1 1 [(1,1)] 0):=by rw[B 3 (by omega)];exact h.ox
    exact iX w rfl rfl (aK rfl) (as:=[.aB i]) (das:=[]) (aO (aK rfl) bJ) rfl (Lm w L (.inr ⟨rfl,keep,by omega,rfl⟩))
   ·have u:q[4]?=ah (uB keep):=by rw[B 4 (by omega)];exact h.gx
    exact iX u rfl rfl (aK rfl) (as:=[.aB i]) (das:=[]) (aO (aK rfl) bJ) rfl (aDG u L)
  have:=Lk (a:=.aB (3+j)) (b:=.aB i) "Unlike" (.inr rfl) e;rwa[ax rfl]at this
 have x:=AA L (by omega);rw[<-hT]at x;have W:oF d 2:=⟨by omega,by omega⟩;have S:=NM (Y:=Y (ah st) (aE (3+j)) (ah hr) ak) (Z:=q) (g:=cI 0) (qW (g:=cI 2) (CU (f:=dO 2) (g:=cI 2) (aK (a:=.int d) rfl) rfl W) rfl (by decide)) rfl;have eq1:∀(f:Ev->Mo A) (r:Ev),f r q=aG BB q->(aD iC f (fZ ao (aC (cS "unlike") (aC (cB au) a0)))) r q=aG (.bl au) q:=λf r R=>cR R (vI (xs:=[.str "unlike",.bl au]) (aO (f:=cS "unlike") (a:=.str "unlike") rfl (aO (f:=cB au) (a:=.bl au) rfl bJ)) (by simp)) (CN ajY);obtain⟨l,I,t2,H⟩:=ET (Z:=Z) (Z':=q++[Cell.lst (aI T)]) (a:=.bl au) (by rw[U];simp);refine⟨l,?_,h.mono (λk p=>by rw[H k (by omega),eQ (by rw[U];simp;omega),B k p]) (by omega)⟩;show trim Z (bT (Je (Y ak ak ak ak) Z))=_;unfold Je;rw[bC (Y1:=Y (ah st) ak ak ak) (fD (fM (aO (aK (a:=.aB i) (by rfl)) bJ) (by rfl) m))];rw[bC (Y1:=Y (ah st) (aE (3+j)) ak ak) (fD (kJ (k:=j) (aK (a:=gJ) (by rfl)) (by rw[<-P];exact qW (g:=cI 2) (aK rfl) rfl (by decide)) (ds:=[.aB 3,.aB 4]) (by rfl) oj))];rw[bC (Y1:=Y (ah st) (aE (3+j)) (ah hr) ak) (fD (Wi (by rfl) y))];rw[bC (Y1:=Y (ah st) (aE (3+j)) (ah hr) (ah (.bl au))) (Z':=q) (by
  rw[xC S];split
  ·exact fD (eq1 _ _ (fM (aO (aK rfl) (aO (aK rfl) bJ)) rfl M))
  ·exact fD (eq1 _ _ (fM (aO (aK rfl) (aO (aK rfl) bJ)) rfl n)))]
 unfold bO;rw[dP (WQ (aK (a:=.bl au) (by rfl)) (WQ (BJ (fM (aO (aK (a:=.aB i) (by rfl)) bJ) (by rfl) x) (aK (a:=st) (by rfl)) (Ht V)) (cR (Wi (v:=4) (o:=3+j) (a:=a) (b:=b) (c:=c) (by rfl) (by
  have t:3+j<q.length:=by rw[U];simp;omega
  rw[eQ t];exact y)) (aK (a:=hr) (by rfl)) (CN (by simp[cO,hr])))))]
 exact I
theorem aDO(h:iI N Z keep G)(o:keep<=9){i:ay}(hi:i<3)(B:a6):∃Z',Ms [.aB i,.aB (5+i),.int B] Z=aG (.bl au) Z'/\iI N Z' keep G:=by
 obtain⟨g,E,K⟩:=h.get hi;obtain⟨p1,p2,s⟩:=h.pt i g E;have M:=h.ln;have Q:=s.len;have hb:=(h.bd g K).1;have n:=AA p1 (by omega);obtain⟨T,hT⟩:∃T,T=dI g.1:=⟨_,rfl⟩;rw[<-hT]at n;obtain⟨q,U⟩:∃q,q=Z++[Cell.lst (aI T)]:=⟨_,rfl⟩;rw[<-U]at n;have m:∀k,k<9->q[k]?=Z[k]?:=λk o=>by rw[U,eQ (by omega)]
 have H:q[Z.length]?=ah (.lst (aI T)):=by rw[U];exact rC _ _
 have l:q[i]?=ah (aV keep (bS g.2.2.1) g.2.2.2 g.1 g.2.1):=by rw[m i (by omega)];exact p1
 have C:q[5+i]?=ah (.aQ (encD g.2.2.1)):=by rw[m (5+i) (by omega)];exact p2
 have r:=AA l (by omega);rw[<-hT]at r
 let L:=bS g.2.2.1
 let d:=λ(w v u:av A)=>[ah (A.aB i),ah (A.aB (5+i)),ah (A.int B),w,v,u]
 let st:A:=.lst [.aB Z.length,.int g.2.1,.int (bS g.2.2.1),.int g.2.2.2]
 obtain⟨j,D⟩:=DS (show 0<=B%3 by omega);have I:oF B 3:=⟨by omega,by omega⟩;have F:AO 10 9:=⟨by decide,by decide,by decide⟩;obtain⟨t,ht,p⟩:∃t:a6,[A.int 0,.int (0-1-B/3%9),.int (10 ^ 9+1-L)][j]?=(aA t)/\(t<1\/1000000000<L+t):=by
  have:j=0\/j=1\/j=2:=by omega
  rcases this with z|z|z <;> subst z
  ·exact⟨_,rfl,.inl (by omega)⟩
  ·exact⟨_,rfl,.inl (by omega)⟩
  ·exact⟨_,rfl,.inr (by omega)⟩
 have pn:=abE (a:=.aB i) (b:=.int (B%7)) (c:=.int t) (iX l rfl rfl (aK rfl) (as:=[.int (B%7),.int t]) (das:=[]) (aO (aK rfl) (aO (aK rfl) bJ)) rfl (abB l (B%7) t p));obtain⟨e,y,P,x⟩:=ET (Z:=Z) (Z':=q++[Cell.lst (aI T)]) (a:=.bl au) (by rw[U];simp);refine⟨e,?_,h.mono (λk o=>by rw[x k (by omega),eQ (by rw[U];simp;omega),m k o]) (by omega)⟩;show trim Z (bT (Jo (d ak ak ak) Z))=_;unfold Jo;rw[bC (Y1:=d (ah st) ak ak) (fD (fM (aO (aK (a:=.aB i) (by rfl)) bJ) (by rfl) n))];rw[bC (Y1:=d (ah st) (aA L) ak) (fD (RA (aK (a:=.aB (5+i)) (by rfl)) C))];rw[bC (Y1:=d (ah st) (aA L) (aA t)) (fD (kJ (k:=j) (vI (aO (f:=cI 0) (a:=.int 0) (by rfl) (aO (ZX (ZX (f:=cI 0) (g:=cI 1) (by rfl) (by rfl)) (qW (g:=cI 9) (CU (g:=cI 3) (aK (a:=.int B) (by rfl)) (by rfl) I) (by rfl) (by decide))) (aO (ZX (DB (g:=cI 1) (cR (a:=.int 10) (b:=.int 9) (f1:=cI 10) (f2:=cI 9) (by rfl) (by rfl) (c:=.int (10 ^ 9)) (by simp[F])) (by rfl)) (aK (a:=.int L) (by rfl))) bJ))) (by simp)) (by rw[<-D];exact qW (g:=cI 3) (aK rfl) rfl (by decide)) (by rfl) ht))];unfold bO;rw[dP (WQ (cR (fM (aO (aK (a:=.aB i) (by rfl)) (aO (qW (g:=cI 7) (aK (a:=.int B) (by rfl)) (by rfl) (by decide)) (aO (aK (a:=.int t) (by rfl)) bJ))) (by rfl) pn) (vI (xs:=[.str "times",.bl au]) (aO (f:=cS "times") (a:=.str "times") (by rfl) (aO (f:=cB au) (a:=.bl au) (by rfl) bJ)) (by simp)) (CN Cw)) (BJ (fM (aO (aK (a:=.aB i) (by rfl)) bJ) (by rfl) r) (aK (a:=st) (by rfl)) (Ht H)))];exact y
end
theorem Sk:cO 8 (.str "done")=au:=by
 have e:(PyData.str (Str.ofString "done")).canLay0=au:=by decide +kernel
 simp[cO,e]
theorem Ek{N:ai a6}{s:Rn}:∀{acc:ai Rn},(∀r∈acc,r.1∈N)->s.1∈N->∀r∈bW acc s.1 s.2,r.1∈N
 |[],_,hs,r,hr=>by simp[bW]at hr;subst hr;exact hs
 |q::acc,h,hs,r,hr=>by
  simp only[bW]at hr;have hq:=h q (by simp);split at hr
  ·rcases eB.mp hr with e|e
   ·subst e;exact hq
   ·exact h r (by simp[e])
  ·rcases eB.mp hr with e|e
   ·subst e;exact hq
   ·exact Ek (λr hr=>h r (by simp[hr])) hs r e
theorem Va{N:ai a6}:∀{l acc:ai Rn},(∀r∈acc,r.1∈N)->(∀r∈l,r.1∈N)->∀r∈gC acc l,r.1∈N
 |[],acc,h,_=>h
 |s::l,acc,h,g=>Va (l:=l) (acc:=bW acc s.1 s.2) (Ek h (g s (by simp))) λr hr=>g r (by simp[hr])
theorem Vd{one q:ay}(hq:[A.aB 5,.aB 6,.aB 7][one]?=(aE q))(d c b U L B j:av A)(ok:aH->Prop)(aL:∀Z,ok Z):∀(l ws:ai Rn) (Z:aH) (y z:av A),Z[q]?=ah (.aQ (encD ws))->(ws.map (·.1)).Nodup->ws.length+l.length<90000 ->
  ∃g f,eO ok (nE 2 (fV (gN 9) (fV (gN 10) nV))) Ji (aI l) [d,ah fO,c,aA (one:a6),b,U,L,B,j,y,z] Z=fU [d,ah fO,c,aA (one:a6),b,U,L,B,j,g,f] (Z.set q (.aQ (encD (gC ws l))))
 | [],ws,Z,y,z,h,nd,hl=>⟨y,z,by
   show eO _ _ _ [] _ _=_;rw[CQ (aL _),show gC ws []=ws from rfl,EZ h]⟩
 |r::l,ws,Z,y,z,h,nd,hl=>by
  have dZ:q<Z.length:=(cX.mp h).1;simp only[lH]at hl;have h2:(Z.set q (.aQ (encD (bW ws r.1 r.2))))[q]?=ah (.aQ (encD (bW ws r.1 r.2))):=yW dZ;obtain⟨g,f,e⟩:=Vd hq d c b U L B j ok aL l (bW ws r.1 r.2) _ (aA r.1) (aA r.2) h2 (BP ws r.1 r.2 nd) (by have:=LU ws r.1 r.2;omega);rw[qJ]at e;refine⟨g,f,?_⟩;show eO _ _ _ (dR r::aI l) _ _=fU _ (Z.set q (.aQ (encD (gC (bW ws r.1 r.2) l))));rw[<-e];refine uM (Y0:=[d,ah fO,c,aA (one:a6),b,U,L,B,j,aA r.1,aA r.2]) (Z0:=Z) (aL _) (by simp[dR]) ?_;unfold Ji;exact Sh (kJ (k:=one) (aK (a:=fO) rfl) (aK rfl) rfl hq) h (aK rfl) (aK rfl) nd (by omega)
section
variable{N N':ai a6}{Z Z':aH}{keep:ay}{G:ai uV}
theorem aDF(h:iI N Z keep G)(u:keep<=9)(hN:N.length<=100){i j:ay}(hi:i<3)(H:j<3):∃Z' G',XZ [fS,fO,.aB 8,.int (i:a6),.int (j:a6)] Z=aG (.bl au) Z'/\iI N Z' keep G':=by
 obtain⟨g,hg,MK⟩:=h.get hi;obtain⟨q,hq,hqm⟩:=h.get H;obtain⟨p1,p2,s⟩:=h.pt i g hg;obtain⟨o1,o2,t⟩:=h.pt j q hq;have vL:=h.ln;have lU:=s.len;have Vr:=t.len;have lg:=h.len hg;have lq:=h.len hq;have bg:=h.bd g MK;have bq:=h.bd q hqm;have nA:=AA o1 (by omega);obtain⟨T,hT⟩:∃T,T=dI q.1:=⟨_,rfl⟩;rw[<-hT]at nA;obtain⟨n,jF⟩:∃n,n=Z++[Cell.lst (aI T)]:=⟨_,rfl⟩;rw[<-jF]at nA;have pO:∀k,k<9->n[k]?=Z[k]?:=λk u=>by rw[jF,eQ (by omega)]
 have mF:=AA (p:=i) (by rw[pO i (by omega)];exact p1) (by omega);obtain⟨U,hU⟩:∃U,U=dI g.1:=⟨_,rfl⟩;rw[<-hU]at mF;obtain⟨B,M⟩:∃B,B=n++[Cell.lst (aI U)]:=⟨_,rfl⟩;rw[<-M]at mF;have l1:n.length=Z.length+1:=by rw[jF];simp
 have l2:B.length=Z.length+2:=by rw[M];simp[l1]
 have at2:∀k,k<9->B[k]?=Z[k]?:=λk u=>by rw[M,eQ (by omega),pO k u]
 have gT:B[Z.length]?=ah (.lst (aI T)):=by rw[M,eQ (by omega),jF];exact rC _ _
 have gU:B[n.length]?=ah (.lst (aI U)):=by rw[M];exact rC _ _
 have Q:B[i]?=ah (aV keep (bS g.2.2.1) g.2.2.2 g.1 g.2.1):=by rw[at2 i (by omega)];exact p1
 have a2:B[j]?=ah (aV keep (bS q.2.2.1) q.2.2.2 q.1 q.2.1):=by rw[at2 j (by omega)];exact o1
 let w:=λ(x5 x6 x7 x8 x9 YI:av A)=>[ah fS,ah fO,ah (A.aB 8),ah (A.int (i:a6)),ah (A.int (j:a6)),x5,x6,x7,x8,x9,YI]
 let C:A:=.lst [.aB Z.length,.int q.2.1,.int (bS q.2.2.1),.int q.2.2.2]
 let D:A:=.lst [.aB n.length,.int g.2.1,.int (bS g.2.2.1),.int g.2.2.2]
 let m:a6:=bS g.2.2.1+bS q.2.2.1
 have F:∀(v k:ay) (r:Ev) (o:aH),(r[0]?).join=ah fS->(r[v]?).join=(aA (k:a6))->k<3->(aD bM aM (dO v)) r o=aG (.aB k) o:=λv k r o h0 h1 h2=>kJ (k:=k) (aK h0) (aK h1) (ds:=[.aB 0,.aB 1,.aB 2]) rfl (Ct h2);have rX:∀(v k:ay) (r:Ev) (o:aH),(r[1]?).join=ah fO->(r[v]?).join=(aA (k:a6))->k<3->(aD bM aW (dO v)) r o=aG (.aB (5+k)) o:=λv k r o h0 h1 h2=>kJ (k:=k) (aK h0) (aK h1) (ds:=[.aB 5,.aB 6,.aB 7]) rfl (RN h2);have h9:AO 10 9:=⟨by decide,by decide,by decide⟩;have p9:∀r o,(aD (xJ) yP oI) r o=aG (.int 1000000000) o:=λr o=>cR (a:=.int 10) (b:=.int 9) (f1:=cI 10) (f2:=cI 9) rfl rfl (by simp[h9]);have pre:∀(X:MS) (R:av (Out×Ev×aH)),X (w (ah C) (ah D) (aA m) ak ak ak) B=R->(aT (bZ (aR (cA 1 rR) (aC (aD bM aM dG) a0)) (gN 5))
  (aT (bZ (aR (cA 1 rR) (aC (aD bM aM cH) a0)) (gN 6))
  (aT (bZ (aD bV (aR nF (aC (pG ao (aD bM aW cH)) a0)) (aR nF (aC (pG ao (aD bM aW dG)) a0))) (gN 7)) X))) (w ak ak ak ak ak ak) Z=R:=λX R e=>by
  rw[bC (Y1:=w (ah C) ak ak ak ak ak) (fD (fM (aO (F 4 j _ _ (by rfl) (by rfl) H) bJ) (by rfl) nA))];rw[bC (Y1:=w (ah C) (ah D) ak ak ak ak) (fD (fM (aO (F 3 i _ _ (by rfl) (by rfl) hi) bJ) (by rfl) mF))];rw[bC (Y1:=w (ah C) (ah D) (aA m) ak ak ak) (fD (DB (RA (rX 3 i _ _ (by rfl) (by rfl) hi) (by rw[at2 (5+i) (by omega)];exact p2)) (RA (rX 4 j _ _ (by rfl) (by rfl) H) (by rw[at2 (5+j) (by omega)];exact o2)))),e]
 have Pn:∀x8 o,(bK (aD lF tF (aD (xJ) yP oI))) (w (ah C) (ah D) (aA m) x8 ak ak) o=aG (decide (1000000000<m)) o:=λx8 o=>eU (cR (aK (a:=.int m) rfl) (p9 _ _) (by simp));have fold:XZ [fS,fO,.aB 8,.int (i:a6),.int (j:a6)] Z=trim Z (bT (Jj (w ak ak ak ak ak ak) Z)):=rfl;unfold Jj at fold
 by_cases hm:1000000000<m
 ·have jn:=Lk (a:=.aB i) (b:=.aB j) "NoTimes" (.inl rfl) (iX Q rfl rfl (aK rfl) (as:=[.aB j]) (das:=[]) (aO (aK rfl) bJ) rfl (aDH Q a2 hm));rw[a8 (by decide)]at jn;have KO:=AA Q (by omega);rw[<-hU]at KO;obtain⟨c,t1,t2,t3⟩:=ET (Z:=Z) (Z':=B++[Cell.lst (aI U)]) (a:=.bl au) (by simp[l2];omega);refine⟨c,G,?_,h.mono (λk u=>by rw[t3 k (by omega),eQ (by omega),at2 k u]) (by omega)⟩;rw[fold,pre _ _ rfl];rw[bC (Y1:=w (ah C) (ah D) (aA m) (ah vD) ak ak) (Z':=B) (fD (fM (aO (F 3 i _ _ (by rfl) (by rfl) hi) (aO (F 4 j _ _ (by rfl) (by rfl) H) bJ)) (by rfl) jn))];rw[Qx (a:=A.bl au) (Y1:=w (ah C) (ah D) (aA m) (ah vD) ak ak) (Z':=B++[Cell.lst (aI U)]) (by
   rw[xC (Pn _ _),ax (by simpa using hm)];unfold bO;rw[dP (WQ (cR (aK (a:=vD) (by rfl)) (vI (xs:=[.str "times",.bl au]) (aO (f:=cS "times") (a:=.str "times") (by rfl) (aO (f:=cB au) (a:=.bl au) (by rfl) bJ)) (by simp)) (CN Cw)) (BJ (fM (aO (F 3 i _ _ (by rfl) (by rfl) hi) bJ) (by rfl) KO) (aK (a:=D) (by rfl)) (Ht gU)))])]
  exact t1
 ·have same:j=i->q.2.1=g.2.1/\bS q.2.2.1=bS g.2.2.1/\q.2.2.2=g.2.2.2:=λz=>by
   subst z;rw[hg]at hq;cases hq;exact⟨rfl,rfl,rfl⟩
  obtain⟨E,qj⟩:=aDI Q a2 same s.nd (by omega) (by show m<=_;omega);have s':=s.join t;generalize hJ keep (gC g.1 (dI q.1))=K at qj s';generalize g.2.1+q.2.1+taken (gC g.1 (dI q.1)) keep=I at qj s';have wsum:bS (gC g.2.2.1 q.2.2.1)=m:=RD _ _;have Ve:=aDD (a:=.aB i) (b:=.aB j) (iX Q rfl rfl (aK rfl) (as:=[.aB j]) (das:=[]) (aO (aK rfl) bJ) rfl qj);generalize hX:aV keep (bS g.2.2.1+bS q.2.2.1) (g.2.2.2+q.2.2.2) K I=X at Ve;obtain⟨c,jn1,l3,e3⟩:=ET (Z:=B) (Z':=B.set i X++E) (a:=.str "done") (by simp);have jn:=Ve.trans jn1;have V:∀k,k<B.length->k≠i->c[k]?=B[k]?:=λk u dB=>by rw[e3 k u,Xd u dB]
  have aBZ:c[i]?=ah X:=by rw[e3 i (by omega),GR (by omega)]
  obtain⟨L,nt,l4,e4⟩:∃L,(tK (bK (aD gA cH dG)) (bK (aD gA (aR (cA 1 rR) (aC (aD bM aM dG) a0)) fP))) (w (ah C) (ah D) (aA m) (ah (.str "done")) ak ak) c=aG ao L/\c.length<=L.length/\∀k,k<c.length->L[k]?=c[k]?:=by
   by_cases z:i=j
   ·exact⟨c,Km (eU (b:=ao) (cR (aK (a:=.int (i:a6)) rfl) (aK (a:=.int (j:a6)) rfl) (by simp[z]))),nY _,λ_ _=>rfl⟩
   ·have z':¬(i:a6)=j:=by omega
    have o3:c[j]?=ah (aV keep (bS q.2.2.1) q.2.2.2 q.1 q.2.1):=by rw[V j (by omega) (λy=>z y.symm)];exact a2
    have Qj:=AA o3 (by omega);rw[<-hT]at Qj;have gT3:c[Z.length]?=ah (.lst (aI T)):=by rw[V Z.length (by omega) (by omega)];exact gT
    refine⟨c++[Cell.lst (aI T)],?_,by simp,λk u=>eQ u⟩;rw[Kl (eU (b:=au) (cR (aK (a:=.int (i:a6)) (by rfl)) (aK (a:=.int (j:a6)) (by rfl)) (by simp[z'])))];exact eU (BJ (fM (aO (F 4 j _ _ rfl rfl H) bJ) rfl Qj) (aK (a:=C) rfl) (anV gT3))
  have w1:L[5+i]?=ah (.aQ (encD g.2.2.1)):=by rw[e4 _ (by omega),V _ (by omega) (by omega),at2 _ (by omega)];exact p2
  have w2:L[5+j]?=ah (.aQ (encD q.2.2.1)):=by rw[e4 _ (by omega),V _ (by omega) (by omega),at2 _ (by omega)];exact o2
  obtain⟨y,z,lp⟩:=Vd (RN hi) (ah fS) (aE 8) (aA (j:a6)) (ah C) (ah D) (aA m) (ah (.str "done")) (λZ'=>iP Z' (.lst (aI q.2.2.1))=ah (aI q.2.2.1)) (λ_=>rfl) q.2.2.1 g.2.2.1 L ak ak w1 s.uZ (by omega);generalize hW:gC g.2.2.1 q.2.2.1=W at lp s' wsum
  let d:=L.set (5+i) (.aQ (encD W))
  have P:∀k,k<9->k≠i->k≠5+i->d[k]?=Z[k]?:=λk u h1 h2=>by
   show(L.set (5+i) _)[k]?=_;rw[eW (cK h2),e4 k (by omega),V k (by omega) h1,at2 k u]
  have l5:d.length=L.length:=by simp[d]
  have Cy:d[8]?=ah (.lst (G.map λg=>A.int g.2.2.2)):=by rw[P 8 (by omega) (by omega) (by omega)];exact h.pu
  have ug:(G.map λg=>A.int g.2.2.2)[i]?=(aA g.2.2.2):=by rw[iZ,hg];rfl
  have uq:(G.map λg=>A.int g.2.2.2)[j]?=(aA q.2.2.2):=by rw[iZ,hq];rfl
  let l:=d.set 8 (.lst ((G.map λg=>A.int g.2.2.2).set i (.int (g.2.2.2+q.2.2.2))))
  have l6:l.length=L.length:=by simp[l,l5]
  have o6:l[i]?=ah X:=by
   show(d.set 8 _)[i]?=_;rw[eW (by omega)];show(L.set (5+i) _)[i]?=_;rw[eW (by omega),e4 i (by omega),aBZ]
  have u6:l[8]?=ah (.lst ((G.map λg=>A.int g.2.2.2).set i (.int (g.2.2.2+q.2.2.2)))):=fJ (by omega);obtain⟨Z7,t1,t2,t3⟩:=ET (Z:=Z) (Z':=l) (a:=.bl au) (by omega);have S6:iI N l keep (G.set i (K,I,W,g.2.2.2+q.2.2.2)):=h.set hi (g:=(K,I,W,g.2.2.2+q.2.2.2)) (by show nI keep K I W (bS W);rw[wsum];exact s') (by show bS W<=_;omega) (by
   show ∀r∈W,r.1∈N;rw[<-hW];exact Va bg.2 bq.2) (by omega) (λk u h1 h2 h3=>by
    show(d.set 8 _)[k]?=_;rw[eW (cK h3),P k u h1 h2]) (by rw[o6,<-hX];show _=ah (aV keep (bS W) (g.2.2.2+q.2.2.2) K I);rw[wsum]) (by
    show(d.set 8 _)[5+i]?=_;rw[eW (by omega)];exact fJ (by omega)) u6
  refine⟨Z7,_,?_,S6.mono (λk u=>t3 k (by omega)) (by omega)⟩;rw[fold,pre _ _ rfl];rw[bC (Y1:=w (ah C) (ah D) (aA m) (ah (.str "done")) ak ak) (Z':=c) (fD (fM (aO (F 3 i _ _ (by rfl) (by rfl) hi) (aO (F 4 j _ _ (by rfl) (by rfl) H) bJ)) (by rfl) jn))];rw[bC (iH (by rw[Pn,lW hm]))];rw[bC (iH (by
   rw[zD (eU (b:=ao) (cR (aK (a:=.str "done") (by rfl)) (f2:=cS "done") (b:=.str "done") (by rfl) (UQ Sk)))];exact nt))]
  rw[bC (Y1:=w (ah C) (ah D) (aA m) (ah (.str "done")) y z) (Z':=d) (by
   have cd:fL L (.aB (5+j))=ah (5+j,encD q.2.2.1):=mK w2;rw[uL (S:=srcOf (.lst (aI q.2.2.1)) (aI q.2.2.1)) (Z':=L) (by
    unfold fY;rw[bU (x:=.lst (aI q.2.2.1)) (Z':=L) (by
     unfold ZE;rw[bU (rX 4 j _ _ (by rfl) (by rfl) H)];simp only[cd,TC];rfl)]
    rfl)]
   exact lp)]
  rw[bC (ZW (k:=8) (ds:=G.map λg=>A.int g.2.2.2) (a:=.int (g.2.2.2+q.2.2.2)) (j:=i) (by rfl) Cy (aK (by rfl)) (by have:=h.n3;simp;omega) (DB (kJ (k:=i) (aK (a:=.aB 8) (by rfl)) (aK (by rfl)) (KR (oS Cy)) ug) (kJ (k:=j) (aK (a:=.aB 8) (by rfl)) (aK (by rfl)) (KR (oS Cy)) uq)))];unfold bO;rw[dP (x:=A.bl au) (Z':=l) (by
   have Tp:l[i]?=ah (aV keep (bS g.2.2.1+bS q.2.2.1) (g.2.2.2+q.2.2.2) K I):=by rw[o6,<-hX]
   exact cR (iX Tp rfl rfl (F 3 i _ _ rfl rfl hi) (as:=[]) (das:=[]) bJ rfl (XF Tp)) (kJ (k:=i) (aK (a:=.aB 8) rfl) (aK rfl) (KR (oS u6)) (fJ (by have:=h.n3;simp;omega))) (CN (by simp[cO])))]
  exact t1
end
theorem ZJ{Z Z':aH}{a:A}(h:Z'.length<Z.length):trim Z (ah (.ok a,Z'))=aG a Z':=by
 simp only[trim];split
 ·rename_i j;have:=b7 List.length j.1;simp at this;omega
 ·rfl
section
variable{N N':ai a6}{Z Z':aH}{keep:ay}{G:ai uV}
theorem aDK(h:iI N Z keep G)(y:keep<=9)(hN:N.length<=90)(c way:a6)(hc:0<=c)(GL:c<2147483587):∃Z' N' G',yF [fS,fO,.aB 8,gJ,.int c,.int way] Z=aG (.bl au) Z'/\iI N' Z' keep G'/\N'.length<=N.length+1:=by
 have vL:=h.ln;obtain⟨i,CD⟩:=DS (show 0<=c%3 by omega);have hi:i<3:=by omega
 obtain⟨U,H⟩:∃U,U=c/36:=⟨_,rfl⟩;have Qy:0<=U:=by omega
 have sd1:U<2147483587:=by omega
 obtain⟨j,I⟩:=DS (show 0<=U%3 by omega);have hj:j<3:=by omega
 obtain⟨o,M⟩:∃o,o=c/3%12:=⟨_,rfl⟩
 let Y:=λ(x9 YI:av A)=>[ah fS,ah fO,ah (A.aB 8),ah gJ,ah (A.int c),ah (A.int way),ah (A.int (i:a6)),ah (A.int o),ah (A.int U),x9,YI]
 have d3:oF c 3:=⟨by omega,by omega⟩;have Q:oF c 36:=⟨by omega,by omega⟩;have D:∀(r:Ev) (l:aH),(r[0]?).join=ah fS->(r[6]?).join=(aA (i:a6))->(aD bM aM eR) r l=aG (.aB i) l:=λr l P h1=>kJ (k:=i) (aK P) (aK h1) (ds:=[.aB 0,.aB 1,.aB 2]) rfl (Ct hi);have E:∀(r:Ev) (l:aH),(r[1]?).join=ah fO->(r[6]?).join=(aA (i:a6))->(aD bM aW eR) r l=aG (.aB (5+i)) l:=λr l P h1=>kJ (k:=i) (aK P) (aK h1) (ds:=[.aB 5,.aB 6,.aB 7]) rfl (RN hi);have V:=NM (Y:=Y ak ak) (Z:=Z) (f:=dO 7) (g:=cI 0) (m:=o) (n:=0) (aK rfl) rfl;have T:=NM (Y:=Y ak ak) (Z:=Z) (f:=dO 7) (g:=cI 1) (m:=o) (n:=1) (aK rfl) rfl;have S:(bK (aD uK tF JT)) (Y ak ak) Z=aG (decide (o<4)) Z:=eU (cR (aK (a:=.int o) rfl) (b:=.int 4) rfl (by simp));have fold:yF [fS,fO,.aB 8,gJ,.int c,.int way] Z=trim Z (bT (Jl [ah fS,ah fO,aE 8,ah gJ,aA c,aA way,ak,ak,ak,ak,ak] Z)):=rfl;unfold Jl at fold;rw[bC (Y1:=[ah fS,ah fO,aE 8,ah gJ,aA c,aA way,aA (i:a6),ak,ak,ak,ak]) (Z':=Z) (fD (by rw[<-CD];exact qW (g:=cI 3) (aK rfl) rfl (by decide)))]at fold;rw[bC (Y1:=[ah fS,ah fO,aE 8,ah gJ,aA c,aA way,aA (i:a6),aA o,ak,ak,ak]) (Z':=Z) (fD (by rw[M];exact qW (g:=cI 12) (CU (g:=cI 3) (aK rfl) rfl d3) rfl (by decide)))]at fold;rw[bC (Y1:=Y ak ak) (Z':=Z) (fD (by rw[H];exact CU (g:=cI 36) (aK rfl) rfl Q))]at fold;have ae:∀(f:Ev->Mo A) (B:aH) (r:Ev) (t:Ev->Mo bb) (X:MS),t r Z=aG au Z->f r Z=aG (.bl au) B->(aT (dQ t (bO f) eG) X) r Z=ah (.ret (.bl au),r,B):=λf B r t X ht hf=>Qx (by
  rw[xC ht,ax rfl];unfold bO;rw[dP hf])
 have fin:∀(B:aH) (N':ai a6) (G':ai uV) (r:Ev),iI N' B keep G'->N'.length<=N.length+1->Z.length<=B.length->yF [fS,fO,.aB 8,gJ,.int c,.int way] Z=trim Z (bT (ah (.ret (.bl au),r,B)))->∃Z' N' G',yF [fS,fO,.aB 8,gJ,.int c,.int way] Z=aG (.bl au) Z'/\iI N' Z' keep G'/\N'.length<=N.length+1:=λB N' G' r hS GP hl e=>by
  obtain⟨L,z1,z2,z3⟩:=ET (a:=.bl au) hl;exact⟨L,N',G',by rw[e];exact z1,hS.mono (λk y=>z3 k (by omega)) (by omega),GP⟩
 by_cases f0:(o==0)=au
 ·obtain⟨B,q,hS⟩:=aCY h y hi U;have e0:yF [fS,fO,.aB 8,gJ,.int c,.int way] Z=trim Z (bT (ah (.ret (.bl au),Y ak ak,B))):=by
   rw[fold];exact b7 (λz=>trim Z (bT z)) (ae _ B _ _ _ (by rw[V,f0]) (fM (aO (D _ _ rfl rfl) (aO (aK rfl) (aO (aK rfl) bJ))) rfl q))
  by_cases hl:Z.length<=B.length
  ·exact fin B N G _ hS (by omega) hl e0
  ·exact⟨_,N,G,by rw[e0];exact ZJ (by omega),hS,by omega⟩
 rw[bC (iH (by rw[V,YH.mpr f0]))]at fold
 by_cases f1:(o==1)=au
 ·obtain⟨B,q,hS⟩:=aDO h y hi U;have e:yF [fS,fO,.aB 8,gJ,.int c,.int way] Z=trim Z (bT (ah (.ret (.bl au),Y ak ak,B))):=by
   rw[fold];exact b7 (λz=>trim Z (bT z)) (ae _ B _ _ _ (by rw[T,f1]) (fM (aO (D _ _ rfl rfl) (aO (E _ _ rfl rfl) (aO (aK rfl) bJ))) rfl q))
  by_cases hl:Z.length<=B.length
  ·exact fin B N G _ hS (by omega) hl e
  ·exact⟨_,N,G,by rw[e];exact ZJ (by omega),hS,by omega⟩
 rw[bC (iH (by rw[T,YH.mpr f1]))]at fold
 by_cases f4:o<4
 ·obtain⟨B,G',q,hS⟩:=aDF h y (by omega) hi hj;have e:yF [fS,fO,.aB 8,gJ,.int c,.int way] Z=trim Z (bT (ah (.ret (.bl au),Y ak ak,B))):=by
   rw[fold];exact b7 (λz=>trim Z (bT z)) (ae _ B _ _ _ (by rw[S,xQ f4]) (fM (aO (aK rfl) (aO (aK rfl) (aO (aK rfl) (aO (aK rfl) (aO (by rw[<-I];exact qW (g:=cI 3) (aK rfl) rfl (by decide)) bJ))))) rfl q))
  by_cases hl:Z.length<=B.length
  ·exact fin B N G' _ hS (by omega) hl e
  ·exact⟨_,N,G',by rw[e];exact ZJ (by omega),hS,by omega⟩
 rw[bC (iH (by rw[S,lW f4]))]at fold;have m1:=λZ=>OE U 1 Z Qy (by omega) (by decide) (by decide);have m2:=λZ=>OE U 2 Z Qy (by omega) (by decide) (by decide);obtain⟨n,hn⟩:=aC9 (zG U 1) way (SO _ _) (Du _ _);obtain⟨t,Vt,Fc,ht⟩:=aCV (zG U 2) (SO _ _);rw[bC (Y1:=Y (aA n) ak) (Z':=Z) (fD (fM (aO (fM (aO (aK (a:=.int U) (by rfl)) (aO (f:=cI 1) (a:=.int 1) (by rfl) bJ)) (by rfl) (m1 Z)) (aO (aK (a:=.int way) (by rfl)) bJ)) (by rfl) (hn Z)))]at fold;rw[bC (Y1:=Y (aA n) (aA t)) (Z':=Z) (fD (fM (aO (fM (aO (aK (a:=.int U) (by rfl)) (aO (f:=cI 2) (a:=.int 2) (by rfl) bJ)) (by rfl) (m2 Z)) bJ) (by rfl) (ht Z)))]at fold;obtain⟨g,K,MK⟩:=h.get hi;obtain⟨p1,p2,s⟩:=h.pt i g K;have lU:=s.len;have lg:=h.len K;have bg:=h.bd g MK;have h9:AO 10 9:=⟨by decide,by decide,by decide⟩;have p9:∀r l,(aD (xJ) yP oI) r l=aG (.int 1000000000) l:=λr l=>cR (a:=.int 10) (b:=.int 9) (f1:=cI 10) (f2:=cI 9) rfl rfl (by simp[h9]);have R:(bK (aD lF (aD bV (aR nF (aC (pG ao (aD bM aW eR)) a0)) EK) (aD (xJ) yP oI))) (Y (aA n) (aA t)) Z=aG (decide (1000000000<bS g.2.2.1+t)) Z:=eU (cR (DB (RA (E _ _ rfl rfl) p2) (aK rfl)) (p9 _ _) (by simp))
 by_cases hb:1000000000<bS g.2.2.1+t
 ·have pn:=abE (a:=.aB i) (b:=.int n) (c:=.int t) (iX p1 rfl rfl (aK rfl) (as:=[.int n,.int t]) (das:=[]) (aO (aK rfl) (aO (aK rfl) bJ)) rfl (abB p1 n t (.inr hb)));exact fin Z N G (Y (aA n) (aA t)) h (by omega) cU (by
   rw[fold];exact b7 (λz=>trim Z (bT z)) (ae _ Z _ _ _ (by rw[R,xQ hb]) (cR (fM (aO (D _ _ rfl rfl) (aO (aK rfl) (aO (aK rfl) bJ))) rfl pn) (vI (xs:=[.str "times",.bl au]) (aO (f:=cS "times") (a:=.str "times") rfl (aO (f:=cB au) (a:=.bl au) rfl bJ)) (by simp)) (CN Cw))))
 rw[bC (iH (by rw[R,lW hb]))]at fold;have s':=s.next n t Vt
 have wsum:=s'.wsum;have ug:(G.map λg=>A.int g.2.2.2)[i]?=(aA g.2.2.2):=by rw[iZ,K];rfl
 obtain⟨B,p⟩:∃B,B=Z.set (5+i) (.aQ (encD (bW g.2.2.1 n t))):=⟨_,rfl⟩;have Sl:B[8]?=ah (.lst (G.map λg=>A.int g.2.2.2)):=by rw[p,eW (by omega)];exact h.pu
 obtain⟨L,u⟩:∃L,L=B.set 8 (.lst ((G.map λg=>A.int g.2.2.2).set i (.int (g.2.2.2+1)))):=⟨_,rfl⟩;have l2:L.length=Z.length:=by rw[u,p];simp
 have W:L[i]?=ah (aV keep (bS g.2.2.1) g.2.2.2 g.1 g.2.1):=by rw[u,eW (by omega),p,eW (by omega)];exact p1
 have F:=Lj W s.nd (by omega) n t Vt (by omega);generalize hJ keep (bW g.1 n t)=C at F s';generalize g.2.1+taken (bW g.1 n t) keep=w at F s';have lp:=aDB (a:=.aB i) (b:=.int n) (c:=.int t) (iX W rfl rfl (aK rfl) (as:=[.int n,.int t]) (das:=[]) (aO (aK rfl) (aO (aK rfl) bJ)) rfl F) (by simp);obtain⟨d,v⟩:∃d,d=L.set i (aV keep (bS g.2.2.1+t) (g.2.2.2+1) C w):=⟨_,rfl⟩;rw[<-v]at lp;have l3:d.length=Z.length:=by rw[v];simp[l2]
 have S3:iI (n::N) d keep (G.set i (C,w,bW g.2.2.1 n t,g.2.2.2+1)):=(h.more n).set hi (g:=(C,w,bW g.2.2.1 n t,g.2.2.2+1)) (by show nI keep C w (bW g.2.2.1 n t) (bS (bW g.2.2.1 n t));rw[wsum];exact s') (by show bS (bW g.2.2.1 n t)<=_;rw[wsum];omega) (Ek (s:=(n,t)) (λr hr=>gQ _ (bg.2 r hr)) (by simp)) (by omega) (λk y h1 h2 h3=>by
   rw[v,eW (cK h1),u,eW (cK h3),p,eW (cK h2)]) (by
   rw[v,fJ (by omega)];show _=ah (aV keep (bS (bW g.2.2.1 n t)) (g.2.2.2+1) C w);rw[wsum]) (by
   rw[v,eW (by omega),u,eW (by omega),p,fJ (by omega)]) (by
   rw[v,eW (by omega),u,fJ (by rw[p];simp;omega)])
 refine fin d (n::N) _ (Y (aA n) (aA t)) S3 (by simp) (by omega) ?_;rw[fold];rw[bC (Y1:=Y (aA n) (aA t)) (Z':=B) (by rw[p];exact Sh (E _ _ rfl rfl) p2 (aK rfl) (aK rfl) s.uZ (by omega))];rw[bC (Y1:=Y (aA n) (aA t)) (Z':=L) (by rw[u];exact ZW (k:=8) (ds:=G.map λg=>A.int g.2.2.2) (a:=.int (g.2.2.2+1)) (j:=i) rfl Sl (aK rfl) (by have:=h.n3;simp;omega) (DB (g:=cI 1) (kJ (k:=i) (aK (a:=.aB 8) rfl) (aK rfl) (KR (oS Sl)) ug) rfl))];unfold bO;rw[dP (x:=A.bl au) (Z':=d) (BJ (fM (aO (D _ _ (by rfl) (by rfl)) (aO (aK (a:=.int n) (by rfl)) (aO (aK (a:=.int t) (by rfl)) bJ))) (by rfl) lp) (f2:=cS "done") (b:=.str "done") (by rfl) (CN Sk))]
end
theorem LC{cs:ai a5}{c:a5}{Z:aH}{s:ay}{Y:Ev}{fs:ai (a5×Fd)}{f:a5}{fv:Ev->Mo A}{b:A}(j:c∈cs)(q:(Y[0]?).join=(aE s))(h:Z[s]?=ah (.ins c fs))(hl:fs.length<1000)(hv:fv Y Z=aG b Z):jQ cs f aM fv Y Z=fU Y (Z.set s (.ins c (putD f (.val b) fs))):=by
 unfold jQ;rw[dP hv];rw[dP (x:=A.aB s) (Z':=Z) (by simp[q])];simp only[h];rw[ax ⟨j,hl⟩]
theorem Hf{c:a5}{Z:aH}{keep:ay}{f:a5}{fs:ai (a5×Fd)}(hl:fs.length<1000):(vE [c] 0 f tJ) [aE Z.length,aA keep] (Z++[.ins c fs])=fU [aE Z.length,aA keep] (Z++[.ins c (putD f (.aQ []) fs)]):=by
 have ob:BL [c] 0 [aE Z.length,aA keep] (Z++[.ins c fs])=ah (Z.length,c,fs):=by
  unfold BL;simp
 have j:tJ [aE Z.length,aA keep] (Z++[.ins c fs])=aG (.aB (Z++[Cell.ins c fs]).length) ((Z++[.ins c fs])++[.aQ []]):=by simp
 unfold vE;rw[ob];simp only[j,rC,Fd.FJ];rw[ax ⟨rfl,rfl,hl,by simp[rU,fX]⟩,KU]
theorem Zq{c:a5}(j:c∈(["Often", "Gaps"]:ai a5))(keep:ay)(Z:aH):AM [.aB Z.length,.int keep] (Z++[.ins c []])=aG (.bQ) (Z++[.ins c [("keep",.val (.int keep)),("many",.val (.int 0)),("taken",.val (.int 0))]]):=by
 show trim _ (bT (WH [aE Z.length,aA keep] (Z++[.ins c []])))=_;unfold WH;rw[bC (LC (b:=.int keep) j (by rfl) (rC _ _) (by simp) (by simp)),KU];rw[bC (LC (b:=.int 0) j (by rfl) (rC _ _) (by exact(show(1:ay)<1000 by decide)) (by simp)),KU];rw[LC (b:=.int 0) j (by rfl) (rC _ _) (by exact(show(2:ay)<1000 by decide)) (by simp),KU];simp only[zC];rw[nO (by simp)];rfl
theorem abD(keep:ay)(Z:aH):sQ "Often" 2 yI [.int keep] Z=aG (.aB Z.length) (Z++[aV keep 0 0 [] 0]):=by
 have base:=Zq (c := "Often") (by simp) keep Z;have e:yI [.aB Z.length,.int keep] (Z++[.ins "Often" []])=aG (.bQ) (Z++[aV keep 0 0 [] 0]):=by
  show trim _ (bT (WM [aE Z.length,aA keep] (Z++[.ins "Often" []])))=_;unfold WM;rw[bC (nG (a:=.bQ) (Z':=Z++[.ins "Often" [("keep",.val (.int keep)),("many",.val (.int 0)),("taken",.val (.int 0))]]) (by simp[cA,base]))];rw[bC (Hf (by simp))];rw[FG (b:=.int 0) (by rfl) (rC _ _) (by exact(show(4:ay)<1000 by decide)) (by simp),KU];simp only[zC];rw[nO (by simp)];rfl
 unfold sQ;rw[ax (by rfl)];rw[e]
noncomputable abbrev NF(keep:ay):ai (a5×Fd):=[("keep",.val (.int keep)),("many",.val (.int 0)),("taken",.val (.int 0)),("newest",.aQ []),("laid",.aQ [])]
abbrev xB(keep:ay):Cell:=.ins "Gaps" (NF keep)
theorem aDA(keep:ay)(Z:aH):sQ "Gaps" 2 PJ [.int keep] Z=aG (.aB Z.length) (Z++[xB keep]):=by
 have base:=Zq (c := "Gaps") (by simp) keep Z;have e:PJ [.aB Z.length,.int keep] (Z++[.ins "Gaps" []])=aG (.bQ) (Z++[xB keep]):=by
  show trim _ (bT (WN [aE Z.length,aA keep] (Z++[.ins "Gaps" []])))=_;unfold WN;rw[bC (nG (a:=.bQ) (Z':=Z++[.ins "Gaps" [("keep",.val (.int keep)),("many",.val (.int 0)),("taken",.val (.int 0))]]) (by simp[cA,base]))];rw[bC (Hf (by simp))];rw[Hf (by exact(show(4:ay)<1000 by decide))];simp only[zC];rw[nO (by simp)];rfl
 unfold sQ;rw[ax (by rfl)];rw[e]
theorem aC1{keep p:ay}(v:1<=keep){Z:aH}(h:Z[p]?=ah (xB keep)):rT [.aB p,.int 1,.int 5] Z=aG (.bQ) (Z.set p (uB keep)):=by
 have L:p<Z.length:=(cX.mp h).1
 let z:ai (a5×Fd):=[("keep",.val (.int keep)),("many",.val (.int 0)),("taken",.val (.int 0)),("newest",.aQ [(.inl 1,.int 5)]),("laid",.aQ [])]
 have s:OV [.aB p,.int 5] Z=aG (.bQ) Z:=by
  have lk:(([("keep",.val (.int keep)),("many",.val (.int 0)),("taken",.val (.int 0)),("newest",.aQ []),("laid",.aQ [])]:ai (a5×Fd))).lookup ("many" : a5)=ah (.val (.int 0)):=rfl;show trim Z (bT (Js [aE p,aA 5] Z))=_;unfold Js;rw[iH (eU (b:=ao) (cR (a:=.int (0+5)) (b:=.int 1000000000) (cR (a:=.int 0) (b:=.int 5) (by simp[h,lk]) (by simp) (by simp)) (by simp) (by simp)))];simp only[bT];exact nO rfl
 have tk:YD [.aB p,.int 1,.int 5] Z=aG (.bQ) (Z.set p (.ins "Gaps" z)):=by
  have own:∀(B:aH) (fs:ai (a5×Fd)) (fd:Fd),B[p]?=ah (.ins "Gaps" fs)->fs.lookup ("newest" : a5)=ah fd->pV ["Gaps"] 0 "newest" [aE p,aA 1,aA 5] B=ah (p,("Gaps" : a5),fs,fd):=λB fs fd h1 h2=>by
   unfold pV;simp[h1,h2]
  have o:=own Z (NF keep) _ h rfl;show trim Z (bT (Kf [aE p,aA 1,aA 5] Z))=_;unfold Kf;rw[bC (Ec (Y':=[aE p,aA 1,aA 5]) rfl h (f := "newest") (fd:=.aQ []) rfl rfl (fd':=.aQ [(.inl 1,.int 5)]) (c':=.aQ [(.inl 1,.int 5)]) (by
   have q:=Ea (c:=.aQ []) o;have U:fL (kI Z p "Gaps" "newest" (NF keep) (.aQ [])) (.aB Z.length)=ah (Z.length,[]):=mK (Eb o);have g:iO (dF ["Gaps"] "newest" aM) aW cM [aE p,aA 1,aA 5] (kI Z p "Gaps" "newest" (NF keep) (.aQ []))=aG (.int 0) (kI Z p "Gaps" "newest" (NF keep) (.aQ [])):=by
    unfold iO;rw[bU q,ax ⟨_,_,U⟩,bU (x:=A.int 1) (by rfl),bU (x:=A.int 0) (by rfl)];simp only[GY,U,jS];rfl
   have l:(0:ay)<a7:=by decide
   unfold pT;rw[dP (x:=A.int 5) (cR g (b:=.int 5) (by simp) (by simp)),dP q,dP (x:=A.int 1) (by rfl)];simp only[FA,U,jS,DL,ax l];rw[show nB [] (.inl 1) (.int 5)=[(.inl 1,.int 5)]from rfl,Uq]) rfl (.inr (by simp[rU,fX,Cl])) (λj d u => .inl u))]
  have h1:(Z.set p (.ins "Gaps" z))[p]?=ah (.ins "Gaps" z):=yW L;have m:=own _ _ _ h1 rfl;have kp:z.lookup ("keep" : a5)=ah (.val (.int keep)):=rfl;have e:putD "newest" (.aQ [(.inl 1,.int 5)]) ([("keep",.val (.int keep)),("many",.val (.int 0)),("taken",.val (.int 0)),("newest",.aQ []),("laid",.aQ [])]:ai (a5×Fd))=z:=rfl;rw[e];have n:¬(keep:a6)<1:=by omega
  rw[iH (eU (b:=ao) (cR (a:=.int 1) (b:=.int keep) (by unfold iG;rw[m];rfl) (by simp[h1,kp]) (by simp[n])))];simp only[bT];exact nO (by simp)
 have k:(Z.set p (.ins "Gaps" z))[p]?=ah (.ins "Gaps" z):=yW L;have r:z.lookup ("many" : a5)=ah (.val (.int 0)):=rfl;have i:(Z.set p (.ins "Gaps" (putD "many" (.val (.int 5)) z)))[p]?=ah (.ins "Gaps" (putD "many" (.val (.int 5)) z)):=yW L;have t:(putD "many" (.val (.int 5)) z).lookup ("taken" : a5)=ah (.val (.int 0)):=rfl;show trim Z (bT (WE [aE p,aA 1,aA 5] Z))=_;unfold WE;rw[bC (iH (eU (b:=ao) (cR (a:=.int 5) (b:=.int 1) (by simp) (by simp) (by simp))))];rw[bC (nG (iX h (by rfl) (by rfl) (aK (by rfl)) (as:=[.int 5]) (das:=[]) (aO (aK (by rfl)) bJ) (by rfl) (by exact s)))];rw[bC (nG (iX h (by rfl) (by rfl) (aK (by rfl)) (as:=[.int 1,.int 5]) (das:=[]) (aO (aK (by rfl)) (aO (aK (by rfl)) bJ)) (by rfl) (by exact tk)))];rw[bC (LC (b:=.int 5) (by simp) (by rfl) k (by simp[z]) (cR (a:=.int 0) (b:=.int 5) (by simp[k,r]) (by simp) (by simp))),qJ];rw[LC (b:=.int 1) (by simp) (by rfl) i (by exact(show(5:ay)<1000 by decide)) (cR (a:=.int 0) (b:=.int 1) (by simp[i,t]) (by simp) (by simp)),qJ];simp only[bT];exact nO (by simp)
theorem aiG{f:Ev->Mo (ai A)}{Y:Ev}{Z Z':aH}{i j:a6}(h:f Y Z=aG [.int i,.int j] Z')(hs:sD i/\sD j):QI f Y Z=aG (yY i (j-i).toNat) Z':=by
 unfold QI;rw[bU h];show mb (mJ (sD i/\sD j)) _ Z'=_;rw[SQ _ hs];rfl
theorem He{ok:aH->Prop}{g:A->MS}{b:MS}(aL:∀Z,ok Z)(B:ay)(P:ay->Ev->aH->Prop):∀(xs:ai A) (i:ay) (Y:Ev) (Z:aH),P i Y Z->i+xs.length<=B->(∀(i:ay) (x:A) (Y:Ev) (Z:aH),x∈xs->i<B->P i Y Z->∃Y0 Y1 Z1,g x Y Z=fU Y0 Z/\b Y0 Z=fU Y1 Z1/\P (i+1) Y1 Z1)->∃Y' Z',eO ok g b xs Y Z=fU Y' Z'/\P (i+xs.length) Y' Z'
 |[],i,Y,Z,h,_,_=>⟨Y,Z,CQ (aL Z),h⟩
 |x::xs,i,Y,Z,h,hl,st=>by
  simp only[lH]at hl;obtain⟨Y0,Y1,Z1,L,z,h1⟩:=st i x Y Z (by simp) (by omega) h;obtain⟨Y',Z',q,h2⟩:=He aL B P xs (i+1) Y1 Z1 h1 (by omega) λj y Y Z hy=>st j y Y Z (by simp[hy]);refine⟨Y',Z',by rw[uM (aL Z) L z,q],?_⟩;rw[lH,show i+(xs.length+1)=i+1+xs.length by omega];exact h2
theorem aoV(ns:ai a6)(h:ns.length<=63):∃W,abT [.iU ns] []=aG (.bl au) W:=by
 have z:=λZ=>Lo ns 0 Z (by decide) (by decide);have z0:=Zd ns 0;generalize zW ns 0=c at z z0;obtain⟨k1,lE⟩:=DS (show 0<=c%9 by omega);obtain⟨keep,aFH⟩:∃keep:ay,keep=1+k1:=⟨_,rfl⟩;have hk:keep<=9:=by omega
 have T:(1:a6)+c%9=((keep:ay):a6):=by omega
 let Y:=λ(x3 x4 x5 x6 l d U:av A)=>[ah (A.iU ns),ah (A.int c),ah (A.int (keep:a6)),x3,x4,x5,x6,l,d,U]
 let o:=Y (ah fS) (ah gJ) (ah fO) (aE 8) ak ak ak
 let L:aH:=[aV keep 0 0 [] 0,aV keep 0 0 [] 0,aV keep 0 0 [] 0,aV (keep+1) 0 0 [] 0,xB keep,.aQ [],.aQ [],.aQ [],.lst [.int 0,.int 0,.int 0]]
 obtain⟨I,G1,B,hS,hN1,e1⟩:∃(I:ai a6) (G1:ai uV) (B:aH),iI I (((B.set 3 (aV (keep+1) 1 1 [(1,1)] 0))).set 4 (uB keep)) keep G1/\I.length<=1/\(B[3]?=ah (aV (keep+1) 0 0 [] 0)/\B[4]?=ah (xB keep)/\(dQ (bK (aD iC (aD (fH) (aD (lG) aW oI) Oi) cM))
   (aT (gW (bP "put" [("Often",bI 3 [] rS),("Gaps",bI 3 [] rT)] (aD bM cH cM) (aC pE (aC (cI 999999990) a0))))
   (aT (pT (cI 999999990) (aD bM fP cM) pE)
   (bZ cJ (CL eR cM))))
   eG) o L=fU o B):=by
  have d9:oF c 9:=⟨by omega,by omega⟩;have tt:=NM (Y:=o) (Z:=L) (g:=cI 0) (qW (g:=cI 8) (CU (f:=dO 1) (g:=cI 9) (aK (a:=.int c) rfl) rfl d9) rfl (by decide)) rfl;have u:=af0 keep
  by_cases hb:(c/9%8==0)=au
  ·have E:=Lj (Z:=L) (p:=0) (keep:=keep) (many:=0) (tk:=0) (rs:=[]) (lost:=0) rfl (by simp) (by simp) 3 999999990 (by decide) (by decide);have s1:=u.next 3 999999990 (by decide)
   generalize hJ keep (bW [] 3 999999990)=C at E s1;generalize (0:a6)+taken (bW [] 3 999999990) keep=D at E s1;have F:bW [] 3 999999990=[(3,999999990)]:=rfl;rw[F]at s1;rw[show(0:a6)+999999990=999999990 from rfl,show(0:a6)+1=1 from rfl]at E;rw[show(0:a6)+999999990=999999990 from rfl]at s1
   let B:aH:=[aV keep 999999990 1 C D,aV keep 0 0 [] 0,aV keep 0 0 [] 0,aV (keep+1) 0 0 [] 0,xB keep,.aQ [(.inl 3,.int 999999990)],.aQ [],.aQ [],.lst [.int 1,.int 0,.int 0]]
   refine⟨[3],[(C,D,[(3,999999990)],1),([],0,[],0),([],0,[],0)],B,⟨rfl,by simp[B],λi g q=>?_,λg q=>?_,rfl,rfl,rfl⟩,by simp,rfl,rfl,?_⟩
   ·have hi:i<3:=(cX.mp q).1
    match i,hi,q with
    |0,_,q=>cases q;exact⟨rfl,rfl,s1⟩
    |1,_,q=>cases q;exact⟨rfl,rfl,u⟩
    |2,_,q=>cases q;exact⟨rfl,rfl,u⟩
   ·simp only[eB,uS,tP]at q
    rcases q with e|e|e <;> subst e <;> simp[bS]
   ·rw[xC tt,ax hb];rw[bC (nG (iX (p:=0) (Z:=L) (c := "Often") (fs0:=eI keep 0 0 [] 0) (by rfl) (by rfl) (by rfl) (kJ (k:=0) (aK (a:=fS) (by rfl)) (by rfl) (ds:=[.aB 0,.aB 1,.aB 2]) (by rfl) (by rfl)) (as:=[.int 3,.int 999999990]) (das:=[]) (aO (f:=cI 3) (a:=.int 3) (by rfl) (aO (f:=cI 999999990) (a:=.int 999999990) (by rfl) bJ)) (by rfl) (by exact E)))];have hz:(0:ay)<a7:=by decide
    rw[bC (Y1:=o) (Z':=(L.set 0 (aV keep 999999990 1 C D)).set 5 (.aQ [(.inl 3,.int 999999990)])) (by
     have cd:fL (L.set 0 (aV keep 999999990 1 C D)) (.aB 5)=ah (5,[]):=mK rfl;unfold pT;rw[dP (x:=A.int 999999990) (by rfl),dP (x:=A.aB 5) (Z':=L.set 0 (aV keep 999999990 1 C D)) (kJ (k:=0) (aK (a:=fO) (by rfl)) (by rfl) (ds:=[.aB 5,.aB 6,.aB 7]) (by rfl) (by rfl)),dP (x:=A.int 3) (by rfl)];simp only[FA,cd,jS,DL,ax hz];rfl)]
    rw[ZW (k:=8) (ds:=[.int 0,.int 0,.int 0]) (a:=.int 1) (j:=0) (by rfl) (by rfl) (by rfl) (by simp) (by rfl)];rfl
  ·refine⟨[],[([],0,[],0),([],0,[],0),([],0,[],0)],L,⟨rfl,by simp[L],λi g q=>?_,λg q=>?_,rfl,rfl,rfl⟩,by simp,rfl,rfl,iH (by rw[tt,YH.mpr hb])⟩
   ·have hi:i<3:=(cX.mp q).1
    match i,hi,q with
    |0,_,q=>cases q;exact⟨rfl,rfl,u⟩
    |1,_,q=>cases q;exact⟨rfl,rfl,u⟩
    |2,_,q=>cases q;exact⟨rfl,rfl,u⟩
   ·simp only[eB,uS,tP]at q
    rcases q with e|e|e <;> subst e <;> simp[bS]
 obtain⟨g3,g4,e1⟩:=e1;have q3:=Lj (Z:=B) (p:=3) (keep:=keep+1) g3 (by simp) (by simp) 1 1 (by decide) (by decide);have F:hJ (keep+1) (bW [] 1 1)=[(1,1)]/\taken (bW [] 1 1) (keep+1)=0:=by
  have e:bW [] 1 1=[(1,1)]:=rfl;rw[e];have t0:taken [(1,1)] (keep+1)=0:=QU _ _ (by simp);refine⟨?_,t0⟩;unfold hJ;rw[a8 (by simp)]
 rw[F.1,F.2,show(0:a6)+1=1 from rfl,show(0:a6)+0=0 from rfl]at q3;have Xh:(B.set 3 (aV (keep+1) 1 1 [(1,1)] 0))[4]?=ah (xB keep):=by rw[eW (by decide)];exact g4
 have q4:=aC1 (keep:=keep) (by omega) Xh;generalize ((B.set 3 (aV (keep+1) 1 1 [(1,1)] 0))).set 4 (uB keep)=M at hS q4;obtain⟨m,hm⟩:=DS (show 0<=min (ns.length:a6) 62 by omega)
 let P:ay->Ev->aH->Prop:=λi r Z=>∃(l d U:av A) (N:ai a6) (G:ai uV),r=Y (ah fS) (ah gJ) (ah fO) (aE 8) l d U/\N.length<=1+i/\iI N Z keep G
 have Q:∀(v k:ay) (r:Ev) (n:aH),(r[3]?).join=ah fS->(r[v]?).join=(aA (k:a6))->k<3->(aD bM cH (dO v)) r n=aG (.aB k) n:=λv k r n h0 h1 h2=>kJ (k:=k) (aK h0) (aK h1) (ds:=[.aB 0,.aB 1,.aB 2]) rfl (Ct h2);have rX:∀(v k:ay) (r:Ev) (n:aH),(r[5]?).join=ah fO->(r[v]?).join=(aA (k:a6))->k<3->(aD bM fP (dO v)) r n=aG (.aB (5+k)) n:=λv k r n h0 h1 h2=>kJ (k:=k) (aK h0) (aK h1) (ds:=[.aB 5,.aB 6,.aB 7]) rfl (RN h2);have tr:∀{N:ai a6} {G:ai uV} {Z:aH} {a:ay} (x:a6),iI N Z keep G->N.length<=90->a<3->OT [.aB a,.int (keep:a6),.aB (5+a),.int x] Z=aG (.bl au) Z:=λ{N G Z a} x hS hN ha=>by
  obtain⟨g,q,_⟩:=hS.get ha;obtain⟨p1,p2,s⟩:=hS.pt a g q;have:=s.len;have:=hS.len q;exact aCU p1 p2 s (by omega) (by omega) (by omega) x
 have d72:oF c 72:=⟨by omega,by omega⟩;obtain⟨Y3,y,lp,l,d,U,N3,G3,rfl,X,H⟩:=He (ok:=λ_=>True) (g:=gN 7) (b:=Jb) (λ_=>trivial) 60 P ((List.range (((m:ay):a6)-2).toNat).map λ(i:ay)=>A.int (2+(i:a6))) 0 o M ⟨_,_,_,I,G1,rfl,by omega,hS⟩ (by simp;omega) (by
  rintro i x _ Z S hi ⟨l,d,U,N,G,rfl,hN,hS⟩;obtain⟨a,ha,rfl⟩:=mQ.mp S;rw[List.mem_range]at ha;obtain⟨k,hk⟩:∃k:a6,k=2+(a:a6):=⟨_,rfl⟩;have ce:=Lo ns k Z (by omega) (by omega);have mi:=OE (zW ns k) k Z (Zd _ _) (by have:=az2 ns k;omega) (by omega) (by omega);obtain⟨st,V⟩:∃st,st=zG (zW ns k) k:=⟨_,rfl⟩;rw[<-V]at mi;obtain⟨Z',N',G',dq,kM,GP⟩:=aDK hS (by omega) (by omega) st (c/72%4) (by rw[V];exact SO _ _) (by rw[V];exact Du _ _);obtain⟨t,ht⟩:=DS (show 0<=st/432%3 by omega);have Fb:t<3:=by omega
  have ay1:oF st 432:=⟨by omega,by omega⟩;refine⟨Y (ah fS) (ah gJ) (ah fO) (aE 8) (aA k) d U,Y (ah fS) (ah gJ) (ah fO) (aE 8) (aA k) (aA st) (aA t),Z',by rw[<-hk];rfl,?_,aA k,aA st,aA t,N',G',rfl,by omega,kM⟩;unfold Jb;rw[bC (Y1:=Y (ah fS) (ah gJ) (ah fO) (aE 8) (aA k) (aA st) U) (fD (fM (aO (fM (aO (aK (a:=.iU ns) (by rfl)) (aO (aK (a:=.int k) (by rfl)) bJ)) (by rfl) ce) (aO (aK (a:=.int k) (by rfl)) bJ)) (by rfl) mi))];rw[bC (Z':=Z') (iH (vH (b:=au) (eU (fM (aO (aK (a:=fS) (by rfl)) (aO (aK (a:=fO) (by rfl)) (aO (aK (a:=.aB 8) (by rfl)) (aO (aK (a:=gJ) (by rfl)) (aO (aK (a:=.int st) (by rfl)) (aO (qW (g:=cI 4) (CU (g:=cI 72) (aK (a:=.int c) (by rfl)) (by rfl) d72) (by rfl) (by decide)) bJ)))))) (by rfl) dq))))];rw[bC (Y1:=Y (ah fS) (ah gJ) (ah fO) (aE 8) (aA k) (aA st) (aA t)) (fD (by rw[<-ht];exact qW (g:=cI 3) (CU (g:=cI 432) (aK (a:=.int st) rfl) rfl ay1) rfl (by decide)))];have te:=NM (Y:=Y (ah fS) (ah gJ) (ah fO) (aE 8) (aA k) (aA st) (aA t)) (Z:=Z') (g:=cI 0) (qW (f:=dO 7) (g:=cI 9) (aK (a:=.int k) rfl) rfl (by decide)) rfl;refine iH ?_
  by_cases hb:(k%9==0)=au
  ·rw[Kl (by rw[te,hb])];exact vH (b:=au) (eU (fM (aO (Q 9 t _ _ rfl rfl Fb) (aO (aK rfl) (aO (rX 9 t _ _ rfl rfl Fb) (aO (aK rfl) bJ)))) rfl (tr st kM (by omega) Fb)))
  ·exact Km (by rw[te,YH.mpr hb]))
 have auZ:N3.length<=90:=by simp at X;omega
 obtain⟨Y4,K,R,y9,rfl,rfl⟩:=He (ok:=λ_=>True) (g:=gN 9) (b:=Ja) (λ_=>trivial) 3 (λ_ r Z=>∃U,r=Y (ah fS) (ah gJ) (ah fO) (aE 8) l d U/\Z=y) ((List.range 3).map λ(i:ay)=>A.int (0+(i:a6))) 0 (Y (ah fS) (ah gJ) (ah fO) (aE 8) l d U) y ⟨_,rfl,rfl⟩ (by simp) (by
  rintro i x _ Z S hi ⟨U,rfl,rfl⟩;obtain⟨a,ha,rfl⟩:=mQ.mp S;rw[List.mem_range]at ha;rw[Int.zero_add];obtain⟨g,q,_⟩:=H.get ha;obtain⟨p1,p2,s⟩:=H.pt a g q;have ug:(G3.map λg=>A.int g.2.2.2)[a]?=(aA g.2.2.2):=by rw[iZ,q];rfl
  have ce:=Lo ns 1 Z (by decide) (by decide);refine⟨Y (ah fS) (ah gJ) (ah fO) (aE 8) l d (aA (a:a6)),Y (ah fS) (ah gJ) (ah fO) (aE 8) l d (aA (a:a6)),Z,rfl,?_,_,rfl,rfl⟩;unfold Ja;refine iH ?_;rw[zD (vH (b:=au) (eU (fM (aO (Q 9 a _ _ (by rfl) (by rfl) ha) (aO (aK (a:=.int (keep:a6)) (by rfl)) (aO (rX 9 a _ _ (by rfl) (by rfl) ha) (aO (fM (aO (aK (a:=.iU ns) (by rfl)) (aO (f:=cI 1) (a:=.int 1) (by rfl) bJ)) (by rfl) ce) bJ)))) (by rfl) (tr _ H auZ ha))))];exact eU (cR (iX p1 rfl rfl (Q 9 a _ _ rfl rfl ha) (as:=[]) (das:=[]) bJ rfl (XF p1)) (kJ (k:=a) (aK (a:=.aB 8) rfl) (aK rfl) (KR (oS H.pu)) ug) (UQ (by simp[cO]))))
 refine⟨[],?_⟩
 suffices hh:∃w Z',VV [ah (.iU ns),ak,ak,ak,ak,ak,ak,ak,ak,ak] []=ah (.ret (.bl au),w,Z')by
  obtain⟨w,Z',e⟩:=hh;show trim [] (bT (VV [ah (.iU ns),ak,ak,ak,ak,ak,ak,ak,ak,ak] []))=_;rw[e];simp only[bT];exact KH (Z:=[]) (by simp only[Cl])
 refine⟨Y (ah fS) (ah gJ) (ah fO) (aE 8) l d y9,K,?_⟩;unfold VV;rw[bC (Y1:=[ah (.iU ns),aA c,ak,ak,ak,ak,ak,ak,ak,ak]) (fD (fM (aO (aK (a:=.iU ns) (by rfl)) (aO (f:=cI 0) (a:=.int 0) (by rfl) bJ)) (by rfl) (z [])))];rw[bC (Y1:=Y ak ak ak ak ak ak ak) (Z':=[]) (fD (by rw[<-T];exact DB (f:=cI 1) rfl (qW (g:=cI 9) (aK (a:=.int c) rfl) rfl (by decide))))];have jM:((keep:ay):a6)+1=((keep+1:ay):a6):=by omega
 have mk:∀(r:Ev) (Z:aH),(r[2]?).join=(aA (keep:a6))->(aR (sQ "Often" 2 yI) (aC bX a0)) r Z=aG (.aB Z.length) (Z++[aV keep 0 0 [] 0]):=λr Z hr=>vT (aO (aK hr) bJ) (abD keep Z);rw[bC (Y1:=Y (ah fS) ak ak ak ak ak ak) (Z':=[aV keep 0 0 [] 0,aV keep 0 0 [] 0,aV keep 0 0 [] 0]) (fD (vI (xs:=[.aB 0,.aB 1,.aB 2]) (vS (mk _ [] (by rfl)) (vS (mk _ [aV keep 0 0 [] 0] (by rfl)) (vS (mk _ [aV keep 0 0 [] 0,aV keep 0 0 [] 0] (by rfl)) bJ))) (by simp)))];rw[bC (Y1:=Y (ah fS) (ah gJ) ak ak ak ak ak) (Z':=[aV keep 0 0 [] 0,aV keep 0 0 [] 0,aV keep 0 0 [] 0,aV (keep+1) 0 0 [] 0,xB keep]) (fD (vI (xs:=[.aB 3,.aB 4]) (vS (vT (as:=[.int ((keep+1:ay):a6)]) (aO (by rw[<-jM];exact DB (g:=cI 1) (aK (a:=.int (keep:a6)) rfl) rfl) bJ) (abD (keep+1) [aV keep 0 0 [] 0,aV keep 0 0 [] 0,aV keep 0 0 [] 0])) (vS (vT (aO (aK (a:=.int (keep:a6)) (by rfl)) bJ) (aDA keep [aV keep 0 0 [] 0,aV keep 0 0 [] 0,aV keep 0 0 [] 0,aV (keep+1) 0 0 [] 0])) bJ)) (by simp)))];have z3:(3:ay)<=a7:=by decide
 rw[bC (Y1:=Y (ah fS) (ah gJ) (ah fO) ak ak ak ak) (Z':=[aV keep 0 0 [] 0,aV keep 0 0 [] 0,aV keep 0 0 [] 0,aV (keep+1) 0 0 [] 0,xB keep,.aQ [],.aQ [],.aQ []]) (by simp[z3,Y])];rw[bC (Y1:=o) (Z':=L) (by simp[z3,Y,o,L])];rw[bC e1];rw[bC (nG (iX g3 (by rfl) (by rfl) (kJ (k:=0) (aK (a:=gJ) (by rfl)) (by rfl) (ds:=[.aB 3,.aB 4]) (by rfl) (by rfl)) (as:=[.int 1]) (das:=[.int 1]) (aO (f:=cI 1) (a:=.int 1) (by rfl) bJ) (by rfl) (by exact q3)))];rw[bC (nG (iX Xh (by rfl) (by rfl) (kJ (k:=1) (aK (a:=gJ) (by rfl)) (by rfl) (ds:=[.aB 3,.aB 4]) (by rfl) (by rfl)) (as:=[.int 1,.int 5]) (das:=[]) (aO (f:=cI 1) (a:=.int 1) (by rfl) (aO (f:=cI 5) (a:=.int 5) (by rfl) bJ)) (by rfl) (by exact q4)))];rw[bC (by
  rw[uL (aiG (i:=2) (j:=(m:a6)) (aO (f:=cI 2) (a:=.int 2) (by rfl) (aO (vT (as:=[.int ns.length,.int 62]) (aO (vT (as:=[.iU ns]) (aO (aK (by rfl)) bJ) (by simp)) (aO (f:=cI 62) (a:=.int 62) (by rfl) bJ)) (by rw[<-hm];simp)) bJ)) ⟨⟨by decide,by decide⟩,by unfold sD;omega⟩)];exact lp)]
 rw[bC (by
  rw[uL (aiH (j:=((3:ay):a6)) (aO (f:=cI 3) (a:=.int 3) (by rfl) bJ) ⟨by decide,by decide⟩),DQ];exact R)]
 rfl
end M
namespace Mi
open PySem L2 V2 PyProof.Rows M
noncomputable def top(i:ay):bo:=PySem.Challenge.pw_rankpouch_k63_often_joined.main.body.getD i (.Pass ⟨0,0,0,0⟩)
abbrev An:bo:=top 15
abbrev Al:bo:=top 16
abbrev Ak:bo:=top 17
abbrev Am:bo:=top 20
abbrev Ao:bo:=top 40
abbrev Ax:bo:=top 45
abbrev Be:bo:=top 46
abbrev Ap:bo:=top 47
abbrev Ar:bo:=top 48
abbrev Ay:bo:=top 49
abbrev RM:bo:=top 50
abbrev Bc:bo:=top 51
abbrev Aw:bo:=top 52
abbrev Aq:bo:=top 53
abbrev Bg:bo:=top 54
abbrev Av:bo:=top 55
abbrev Ba:bo:=top 56
abbrev Au:bo:=top 57
abbrev Bf:bo:=top 58
abbrev As:bo:=top 59
abbrev Az:bo:=top 60
abbrev Bb:bo:=top 61
abbrev BD:bo:=inClass (top 37) 0
abbrev FC:bo:=inClass (top 41) 0
abbrev Bj:bo:=inClass (top 41) 1
abbrev Bi:bo:=inClass (top 41) 2
abbrev Bh:bo:=inClass (top 41) 3
abbrev Bw:bo:=inClass (top 41) 4
abbrev Bt:bo:=inClass (top 41) 5
abbrev Bu:bo:=inClass (top 41) 6
abbrev Bq:bo:=inClass (top 41) 7
abbrev Bm:bo:=inClass (top 41) 8
abbrev Bv:bo:=inClass (top 41) 9
abbrev Bl:bo:=inClass (top 41) 10
abbrev FD:bo:=inClass (top 43) 0
abbrev By:bo:=inClass (top 43) 1
abbrev Bx:bo:=inClass (top 43) 2
abbrev Cc:bo:=inClass (top 43) 5
abbrev Ca:bo:=inClass (top 43) 6
abbrev Cb:bo:=inClass (top 43) 9
abbrev Bs:bo:=inClass (top 37) 6
abbrev Br:bo:=inClass (top 37) 2
abbrev Bp:bo:=inClass (top 37) 4
abbrev Bo:bo:=inClass (top 37) 3
abbrev Bn:bo:=inClass (top 37) 7
abbrev BE:bo:=inClass (top 37) 1
abbrev Bk:bo:=inClass (top 37) 5
abbrev Cf:bo:=inClass (top 37) 2
abbrev Ce:bo:=inClass (top 37) 4
abbrev Cd:bo:=inClass (top 37) 3
abbrev BF:bo:=inClass (top 37) 1
abbrev Bz:bo:=inClass (top 37) 5
abbrev wM:bo:=top 62
structure cY(mg:a5->av aj):Prop where
 ValueError:mg "ValueError" = ak
 bool:mg "bool" = ak
 dict:mg "dict" = ak
 enumerate:mg "enumerate" = ak
 int:mg "int" = ak
 isinstance:mg "isinstance" = ak
 len:mg "len" = ak
 list:mg "list" = ak
 min:mg "min" = ak
 range:mg "range" = ak
 set:mg "set" = ak
 sorted:mg "sorted" = ak
 sum:mg "sum" = ak
 tuple:mg "tuple" = ak
section
variable(P:a9)(w:bh)(K:ba)(mg:a5->av aj)(base:bu)
abbrev WY:=dH P w K mg base "_law_mix" 1 ["_law_cell_here", "_law_k"] DV
abbrev Kv:=dH P w K mg base "_law_whole" 1 ["_law_found"] yD
abbrev Ty2:=dH P w K mg base "_law_times" 1 ["_law_cell_here"] yE
abbrev Ty3:=dH P w K mg base "_law_many" 1 ["_law_cell_here", "_law_way"] AI
abbrev WT:=bL P w K mg base "Gaps" "look_room" 1 2 [] OV
abbrev Kp:=bL P w K mg base "Gaps" "take" 1 3 [] YD
abbrev Ty6:=dH P w K mg base "_law_cell" 2 ["_law_script", "_law_k"] DW
abbrev Ty7:=bL P w K mg base "Often" "counted" 1 2 [] DZ
abbrev HV:=bL P w K mg base "Often" "off" 1 1 [] mR
abbrev Ty9:=dH P w K mg base "_law_counted_ok" 2 ["_law_pouch", "_law_kept", "_law_row", "_law_number", "_law_length"] OU
abbrev Ku:=bL P w K mg base "Often" "counts" 1 1 [] DY
abbrev Kt:=bL P w K mg base "Often" "length" 1 1 [] yH
abbrev WW:=bL P w K mg base "Often" "puts" 1 1 [] yG
abbrev WV:=dH P w K mg base "_law_state" 2 ["_law_pouch"] rR
abbrev aa1:=bL P w K mg base "Often" "count_in" 1 3 [] PB
abbrev aa0:=bL P w K mg base "Often" "cut_down" 2 1 [] OZ
abbrev aaZ:=bL P w K mg base "Often" "numbers" 2 1 [] IY
abbrev aaY:=dH P w K mg base "_law_counts_ok" 3 ["_law_pouch", "_law_keep", "_law_length"] Mr
abbrev WU:=bL P w K mg base "Often" "look_room" 1 2 [] OW
abbrev Ks:=bL P w K mg base "Often" "take" 3 3 [] YB
abbrev aaW:=dH P w K mg base "_law_often_ok" 4 ["_law_pouch", "_law_kept", "_law_row", "_law_least", "_law_length"] XY
abbrev aaV:=dH P w K mg base "_law_truly" 5 ["_law_pouch", "_law_keep", "_law_row", "_law_cell_here"] OT
abbrev aaU:=bL P w K mg base "Often" "put" 4 3 [] rS
abbrev Kr:=dH P w K mg base "_law_put" 5 ["_law_pouch", "_law_number", "_law_times_here"] IX
abbrev Kq:=dH P w K mg base "_law_join" 5 ["_law_pouch", "_law_other"] AJ
abbrev aaT:=dH P w K mg base "_law_bad_put" 6 ["_law_pouch", "_law_row", "_law_cell_here"] Ms
abbrev aaS:=dH P w K mg base "_law_joined" 6 ["_law_pouches", "_law_rows", "_law_puts", "_law_one", "_law_other"] XZ
abbrev aaR:=bL P w K mg base "Gaps" "puts" 1 1 [] DX
abbrev aaQ:=dH P w K mg base "_law_strange_join" 8 ["_law_pouch", "_law_others", "_law_cell_here"] Mq
abbrev aaP:=dH P w K mg base "_law_deed" 9 ["_law_pouches", "_law_rows", "_law_puts", "_law_others", "_law_cell_here", "_law_way"] yF
end
section
variable{P:a9}{w:bh}{K:ba}{mg:a5->av aj}{base:bu}
theorem agW:cL ["row", "times_of", "number", "times"] ["row"] (aY Al):=dN
theorem axJ(B:cY mg)(h:HasFn K mg "packed" Al):dH P w K mg base "packed" 1 ["row"] OQ :=
 dH.o h agW λhr=>(bA (dJ 1 yQ)
  (bA (tI bF.passes rfl (pF (vv 0)) (wI rfl (mX (gS 2) (mX (gS 3) wH)))
   (bE (AV (cE.mE hr) (vv 1) (vv 2) (bD (dU ao) (wJ (cE.mE hr) (vv 1) (vv 2) aN ⟨rfl,rfl,rfl,rfl⟩) (vv 3)))))
  (bE (cQ (AY ao ["number"] [1] (pF (fK (aAP rfl ao) rfl B.sorted HP (aF (vv 1) aP))) ⟨(gS 0),JV,(vA (aF (vv 0) (aF (Ov (cE.mE hr) (vv 1) (vv 0) cP) aP)))⟩)))))
theorem ahF:cL ["self", "keep"] ["self", "keep"] (aY BD):=dN
theorem aBO(B:cY mg)(j:bY K ["Often", "Gaps"] "keep")(q:bY K ["Often", "Gaps"] "many")(z:bY K ["Often", "Gaps"] "taken")(f:aq)(aS:aj)(A:bj)(outer:ai Env)(s:ar)(H:Hp)(E:XK)(hr:cE 0 (A.deeper (cn "Pouch.__init__" (aY BD) s.heap.objs.size f aS))) :
  fN (oZ P w K mg base ["self", "keep"] "Pouch.__init__" (aY BD) f aS A outer s H E) (λ_=>E) (eZ BD) WH:=by
 exact(bA (mW (vv 0) (vv 1) j)
  (bA (mW (vv 0) aN q)
  (bE (mW (vv 0) aN z))))
theorem Yg(B:cY mg)(q:bY K ["Often", "Gaps"] "keep")(z:bY K ["Often", "Gaps"] "many")(L:bY K ["Often", "Gaps"] "taken"){j:a5}(h:OO K mg j "__init__" "Pouch.__init__" BD):yC P w K mg base j "__init__" 1 2 AM:=yC.of h ahF (λ_ _ _ _ _ _ us hl=>BA us hl cP) (aBO B q z L)
theorem ahN:cL ["self", "more"] ["self", "more"] (aY Bo):=dN
theorem ayH(B:cY mg)(j:∃t,mg "LONGEST" = ah (.int 1000000000 t))(q:bY K ["Often"] "many")(z:qH K mg "NoTimes"){cls:a5}(h:iL K mg cls "look_room" "Pouch.look_room" Bo):bL P w K mg base cls "look_room" 1 2 [] OW :=
 bL.o h ahN λhr=>(bE (eT (dS qV (bD (dU ao) (fF (vv 0) q) (vv 1)) (YT rfl j) (cZ _))
   (bE (EL bF rfl z rfl (aF (Ol rfl j (by decide +kernel) (by decide +kernel)) aP)))
   eX))
theorem ah3:cL ["self", "more"] ["self", "more"] (aY Cd):=dN
theorem ayX(B:cY mg)(j:∃t,mg "LONGEST" = ah (.int 1000000000 t))(q:bY K ["Gaps"] "many")(z:qH K mg "NoTimes"){cls:a5}(h:iL K mg cls "look_room" "Pouch.look_room" Cd):bL P w K mg base cls "look_room" 1 2 [] OV :=
 bL.o h ah3 λhr=>(bE (eT (dS qV (bD (dU ao) (fF (vv 0) q) (vv 1)) (YT rfl j) (cZ _))
   (bE (EL bF rfl z rfl (aF (Ol rfl j (by decide +kernel) (by decide +kernel)) aP)))
   eX))
theorem ahO:cL ["self"] ["self"] (aY Bp):=dN
theorem ayI(B:cY mg)(j:bY K ["Often"] "many"){cls:a5}(h:iL K mg cls "length" "Pouch.length" Bp):bL P w K mg base cls "length" 1 1 [] yH :=
 bL.o h ahO λhr=>(bE (cQ (fF (vv 0) j)))
theorem ah4:cL ["self"] ["self"] (aY Ce):=dN
theorem ayY(B:cY mg)(j:bY K ["Gaps"] "many"){cls:a5}(h:iL K mg cls "length" "Pouch.length" Ce):bL P w K mg base cls "length" 1 1 [] IZ :=
 bL.o h ah4 λhr=>(bE (cQ (fF (vv 0) j)))
theorem ahJ:cL ["self"] ["self"] (aY Bk):=dN
theorem ayC(B:cY mg)(j:bY K ["Often"] "taken"){cls:a5}(h:iL K mg cls "puts" "Pouch.puts" Bk):bL P w K mg base cls "puts" 1 1 [] yG :=
 bL.o h ahJ λhr=>(bE (cQ (fF (vv 0) j)))
theorem ahZ:cL ["self"] ["self"] (aY Bz):=dN
theorem ayS(B:cY mg)(j:bY K ["Gaps"] "taken"){cls:a5}(h:iL K mg cls "puts" "Pouch.puts" Bz):bL P w K mg base cls "puts" 1 1 [] DX :=
 bL.o h ahZ λhr=>(bE (cQ (fF (vv 0) j)))
theorem ag0:cL ["counts", "keep", "taken"] ["counts", "keep"] (aY Ao):=dN
theorem axR(B:cY mg)(h:HasFn K mg "cut" Ao):dH P w K mg base "cut" 1 ["counts", "keep"] OR :=
 dH.o h ag0 λhr=>(bA (dJ 2 aN)
  (bA (eT (dS qV (fK xS rfl B.len PySem.boot_len (aF (vv 0) aP)) (vv 1) (cZ _))
   (bE (dJ 2 (cV (ac1 ao B.sorted rfl (AY ao ["pair"] [] (pF (vv 0)) ⟨(gS 0),JV,(cV (vv 0) aN cP)⟩)) (vv 1) cP)))
   eX)
  (bE (cQ (vA (aF (fK (Zg ao) rfl B.sorted HP (aF (AY ao ["pair"] [2] (pF (vv 0)) ⟨(gS 0),(YR (dS qV (cV (vv 0) aN cP) (vv 1) (cZ _))),(vA (aF (cV (vv 0) aN cP) (aF (bD BN (cV (vv 0) aN cP) (vv 1)) aP)))⟩) aP)) (aF (vv 2) aP)))))))
theorem ahI:cL ["self", "other"] ["self", "other"] (aY Bj):=dN
theorem ayB(B:cY mg)(j:OP K mg "Often")(q:XS K ["Often", "Gaps"]){cls:a5}(h:iL K mg cls "same_kind" "Often.same_kind" Bj):bL P w K mg base cls "same_kind" 1 2 [] JA :=
 bL.o h ahI λhr=>(bE (cQ (fK (Zh q) rfl B.isinstance sU (aF (vv 1) (aF (Oq j rfl) aP)))))
theorem ahV:cL ["self", "number", "times"] ["self", "number", "times"] (aY Bw):=dN
theorem ayP(B:cY mg)(j:bY K ["Often"] "tally"){cls:a5}(h:iL K mg cls "count_in" "Often.count_in" Bw):bL P w K mg base cls "count_in" 1 3 [] PB :=
 bL.o h ahV λhr=>(bE (YO (i:=0) (f := "tally") (AV (cE.mE hr) (fF (vv 0) j) (vv 1) (bD (dU ao) (wJ (cE.mE hr) (fF (vv 0) j) (vv 1) aN ⟨rfl,rfl,rfl,rfl⟩) (vv 2)))))
theorem ahT:cL ["self"] ["self"] (aY Bu):=dN
theorem ayN(B:cY mg)(j:bY K ["Often"] "tally"){cls:a5}(h:iL K mg cls "counts" "Often.counts" Bu):bL P w K mg base cls "counts" 1 1 [] DY :=
 bL.o h ahT λhr=>(bE (cQ (ac7 au rfl (vv 0) j rfl B.sorted)))
theorem ahP:cL ["self"] ["self"] (aY Bq):=dN
theorem ayJ(B:cY mg)(j:bY K ["Often"] "tally"){cls:a5}(h:iL K mg cls "kept" "Often.kept" Bq):bL P w K mg base cls "kept" 1 1 [] wD :=
 bL.o h ahP λhr=>(bE (cQ (ac8 ao rfl (vv 0) j rfl B.list)))
theorem ahL:cL ["self"] ["self"] (aY Bm):=dN
theorem ayF(B:cY mg)(j:bY K ["Often"] "lost"){cls:a5}(h:iL K mg cls "off" "Often.off" Bm):bL P w K mg base cls "off" 1 1 [] mR :=
 bL.o h ahL λhr=>(bE (cQ (fF (vv 0) j)))
theorem ahU:cL ["self", "number", "low"] ["self", "number"] (aY Bv):=dN
theorem ayO(B:cY mg)(j:bY K ["Often"] "lost")(q:bY K ["Often"] "tally"){cls:a5}(h:iL K mg cls "counted" "Often.counted" Bv):bL P w K mg base cls "counted" 1 2 [] DZ :=
 bL.o h ahU λhr=>(bA (YO (i:=0) (f := "tally") (dJ 2 (wJ (cE.mE hr) (fF (vv 0) q) (vv 1) aN ⟨rfl,rfl,rfl,rfl⟩)))
  (bE (cQ (vA (aF (vv 2) (aF (bD (dU ao) (vv 2) (fF (vv 0) j)) aP))))))
theorem ahY:cL ["self", "other"] ["self", "other"] (aY By):=dN
theorem ayR(B:cY mg)(j:OP K mg "Gaps")(q:XS K ["Often", "Gaps"]){cls:a5}(h:iL K mg cls "same_kind" "Gaps.same_kind" By):bL P w K mg base cls "same_kind" 1 2 [] YE :=
 bL.o h ahY λhr=>(bE (cQ (fK (Zh q) rfl B.isinstance sU (aF (vv 1) (aF (Oq j rfl) aP)))))
theorem ahX:cL ["self", "number", "times"] ["self", "number", "times"] (aY Bx):=dN
theorem ayQ(B:cY mg)(q:bY K ["Gaps"] "keep")(j:bY K ["Gaps"] "newest"){cls:a5}(h:iL K mg cls "take" "Gaps.take" Bx):bL P w K mg base cls "take" 1 3 [] YD :=
 bL.o h ahX λhr=>(bA (YO (i:=0) (f := "newest") (AV (cE.mE hr) (fF (vv 0) j) (vv 1) (bD (dU ao) (wJ (cE.mE hr) (fF (vv 0) j) (vv 1) aN ⟨rfl,rfl,rfl,rfl⟩) (vv 2))))
  (bE (eT (dS qV (Ot (vv 0) j rfl B.len) (fF (vv 0) q) (cZ _))
   acI
   eX)))
theorem ag7:cL ["_law_cell_here", "_law_k", "_law_first"] ["_law_cell_here", "_law_k"] (aY Ax):=dN
theorem axZ(B:cY mg)(h:HasFn K mg "_law_mix" Ax):WY P w K mg base :=
 dH.o h ag7 λhr=>(bA (dJ 2 (bD gZ (bD wW (bD (dU ao) (vv 0) aN) (bD (dU ao) aN (bD wW aN (vv 1)))) aN))
  (bE (cQ (bD gZ (bD (dU ao) (bD (dU ao) (bD wW (bD pW (vv 2) aN) aN) (bD wW (vv 2) (bD (dU ao) (bD wW (vv 1) (vv 1)) aN))) (vv 1)) aN))))
theorem ag1:cL ["_law_found"] ["_law_found"] (aY Ap):=dN
theorem axS(B:cY mg)(h:HasFn K mg "_law_whole" Ap):Kv P w K mg base :=
 dH.o h ag1 λhr=>(bE (cQ (yR (fK NQ rfl B.isinstance sU (aF (vv 0) (aF (EM rfl B.int PyProof.Rows.boot_int) aP))) (AW (JX (fK NQ rfl B.isinstance sU (aF (vv 0) (aF (EM rfl B.bool PyProof.Rows.boot_bool) aP))))))))
theorem ag3:cL ["_law_cell_here"] ["_law_cell_here"] (aY Ar):=dN
theorem axU(B:cY mg)(h:HasFn K mg "_law_times" Ar):Ty2 P w K mg base :=
 dH.o h ag3 λhr=>(bE (cQ (cV (kG ao (aF aN (aF aN (aF aN (aF (bD (dU ao) aN (bD gZ (bD pW (vv 0) aN) aN)) (aF (bD (dU ao) aN (bD gZ (bD pW (vv 0) aN) aN)) (aF (bD (dU ao) aN (bD gZ (bD pW (vv 0) aN) aN)) aP))))))) (bD gZ (vv 0) aN) cP)))
theorem ag8:cL ["_law_cell_here", "_law_way"] ["_law_cell_here", "_law_way"] (aY Ay):=dN
theorem ax0(B:cY mg)(h:HasFn K mg "_law_many" Ay):Ty3 P w K mg base :=
 dH.o h ag8 λhr=>(bA (eT (dS (lQ hr.units) (vv 1) aN (cZ _))
   (bE (cQ (bD gZ (vv 0) aN)))
   eX)
  (bA (eT (dS (lQ hr.units) (vv 1) aN (cZ _))
   (bE (cQ (bD wW (bD gZ (vv 0) aN) (bD gZ (bD pW (vv 0) aN) aN))))
   eX)
  (bA (eT (dS (lQ hr.units) (vv 1) aN (cZ _))
   (bE (cQ (bD BN (bD gZ (vv 0) aN) aN)))
   eX)
  (bE (cQ (cV (kG ao (aF (bD gZ (vv 0) aN) (aF (bD wW (bD BN (bD gZ (bD pW (vv 0) aN) aN) aN) (bD SH aN aN)) aP))) (YV aAR rfl B.int PyProof.Rows.boot_int (aF (sA (lQ hr.units) (bD gZ (vv 0) aN) aN (cZ _)) aP)) cP))))))
theorem ahE:cL ["_law_error"] ["_law_error"] (aY Bg):=dN
theorem ax8(B:cY mg)(h:HasFn K mg "_law_alone" Bg)(q:kE K mg "NoPlace")(z:kE K mg "NoPouch")(L:kE K mg "NoRow")(U:kE K mg "NoSize")(a:kE K mg "NoText")(b:kE K mg "RankError")(c:kE K mg "Wrong")(j:rO K ["NoRow", "NoTimes", "Unlike"] ["RankError", "NoRow", "NoPlace", "NoPouch", "NoSize", "Wrong", "NoTimes", "Unlike", "NoText"]){p d:aq}{oe:cj}{e:Exc}(he:EE K oe d e):AN P w K mg base "_law_alone" 1 ["_law_error"] p oe (AK p e):=by
 refine AN.of h ahE (λ_ _ _ _ _ _ us hl=>QM us hl (λ_=>rfl)) (λ_ _ _ _ _ _ _ hr=>?_);exact(bA (eT (VW.vt (mV (nN (nM (fK (HN (nL _ (AG _)) j he.cls) rfl B.isinstance sU (aF (vv 0) (aF (vB b rfl) aP))))) (tG (nN (nM (fK (HN (nL _ (AG _)) j he.cls) rfl B.isinstance sU (aF (vv 0) (aF (EM rfl B.ValueError aA3) aP))))))))
   (bE (cQ kX))
   eX)
  (bE (cQ (JX (fK (HN (nL _ (AG _)) j he.cls) rfl B.isinstance sU (aF (vv 0) (aF (vA (aF (vB q rfl) (aF (vB z rfl) (aF (vB L rfl) (aF (vB U rfl) (aF (vB a rfl) (aF (vB c rfl) aP))))))) aP)))))))
theorem agV:cL ["row", "places", "length", "number", "times"] ["row"] (aY Ak):=dN
theorem axI(B:cY mg)(h:HasFn K mg "places_of" Ak)(j:dH P w K mg base "packed" 1 ["row"] OQ):dH P w K mg base "places_of" 2 ["row"] DU :=
 dH.o h agV λhr=>(bA (dJ 1 yQ)
  (bA (dJ 2 aN)
  (bA (tI bF.passes rfl (pF (eM bF j hr.m rfl (aF (vv 0) aP))) (wI rfl (mX (gS 3) (mX (gS 4) wH)))
   (bA (AV (cE.mE hr) (vv 1) (vv 3) (vA (aF (bD (dU ao) (vv 2) aN) (aF (bD (dU ao) (vv 2) (vv 4)) aP))))
   (bE (dJ 2 (bD (dU ao) (vv 2) (vv 4))))))
  (bE (cQ (vv 1))))))
theorem Rc:cL ["self", "number", "times"] ["self", "number", "times"] (aY BF):=dN
theorem Zo(B:cY mg)(q:bY K ["Gaps"] "many")(j:bY K ["Gaps"] "taken")(z:WT P w K mg base)(U:Kp P w K mg base)(L:qH K mg "NoTimes")(f:aq)(aS:aj)(A:bj)(outer:ai Env)(s:ar)(H:Hp)(E:XK)(hr:cE 1 (A.deeper (cn "Pouch.put" (aY BF) s.heap.objs.size f aS))) :
  fN (oZ P w K mg base ["self", "number", "times"] "Pouch.put" (aY BF) f aS A outer s H E) (λ_=>E) (eZ BF) WE:=by
 exact(bA (eT (dS BO (vv 2) aN (cZ _))
   (bE (EL bF rfl L rfl (aF oJ aP)))
   eX)
  (bA (kW (mC bF (bB.cons z hr.m bB.nil) (vv 0) (aF (vv 2) aP)))
  (bA (kW (mC bF (bB.cons U hr.m bB.nil) (vv 0) (aF (vv 1) (aF (vv 2) aP))))
  (bA (mW (vv 0) (bD (dU ao) (fF (vv 0) q) (vv 2)) q)
  (bE (mW (vv 0) (bD (dU ao) (fF (vv 0) j) aN) j))))))
theorem ayT(B:cY mg)(z:bY K ["Gaps"] "many")(q:bY K ["Gaps"] "taken")(j:WT P w K mg base)(U:Kp P w K mg base)(L:qH K mg "NoTimes"){cls:a5}{tk:Tok}(h:IV K mg cls "put" "Pouch.put" BF #[.int 1 tk]):bL P w K mg base cls "put" 2 3 [] rT:=bL.ofD (ds:=[]) (dvs:=[]) h .nil (λ_ _ => .nil) Rc (λ_ _ _ _ _ _ _ us hl=>match us,hl with|[_,_,_],_=>⟨_,rfl,rfl⟩) (Zo B z q j U L)
theorem awZ(B:cY mg)(z:bY K ["Gaps"] "many")(q:bY K ["Gaps"] "taken")(j:WT P w K mg base)(U:Kp P w K mg base)(L:qH K mg "NoTimes"){cls:a5}{tk:Tok}(h:IV K mg cls "put" "Pouch.put" BF #[.int 1 tk]):bL P w K mg base cls "put" 2 3 [.int 1] rT:=bL.ofD (ds:=[.int 1 tk]) (dvs:=[.int 1]) h (.cons ⟨_,rfl⟩ .nil) (λ_ _ => .cons (by simp only[V2.Den]) .nil) Rc (λ_ _ _ _ _ _ _ us hl=>match us,hl with|[_,_],_=>⟨_,rfl,rfl⟩) (Zo B z q j U L)
theorem ah5:cL ["self", "other"] ["self", "other"] (aY Cf):=dN
theorem ayZ(B:cY mg)(z:bY K ["Gaps"] "keep")(j:bY K ["Gaps"] "many")(q:bY K ["Gaps"] "taken")(L:WT P w K mg base)(U:bL P w K mg base "Gaps" "same_kind" 1 2 [] YE)(a:qH K mg "Unlike"){cls:a5}(h:iL K mg cls "join" "Pouch.join" Cf):bL P w K mg base cls "join" 2 2 [] OX :=
 bL.o h ah5 λhr=>(bA (eT (VW.vt (mV (nN (nM (mC bF (bB.cons U hr.m bB.nil) (vv 0) (aF (vv 1) aP)))) (tG (dS (oO hr.units) (fF (vv 1) z) (fF (vv 0) z) (cZ _)))))
   (bE (EL bF rfl a rfl (aF oJ aP)))
   eX)
  (bA (kW (mC bF (bB.cons L hr.m bB.nil) (vv 0) (aF (fF (vv 1) j) aP)))
  (bA (kW (mC bF bB.nil (vv 0) (aF (vv 1) aP)))
  (bA (mW (vv 0) (bD (dU ao) (fF (vv 0) j) (fF (vv 1) j)) j)
  (bE (mW (vv 0) (bD (dU ao) (fF (vv 0) q) (fF (vv 1) q)) q))))))
theorem ahR:cL ["self"] ["self"] (aY Bs):=dN
theorem ayL(B:cY mg)(j:bL P w K mg base "Often" "kept" 1 1 [] wD){cls:a5}(h:iL K mg cls "held" "Pouch.held" Bs):bL P w K mg base cls "held" 2 1 [] OY :=
 bL.o h ahR λhr=>(bE (cQ (fK xS rfl B.len PySem.boot_len (aF (iF bF (bB.cons j hr.m bB.nil) (vv 0)) aP))))
theorem ahM:cL ["self"] ["self"] (aY Bn):=dN
theorem ayG(B:cY mg)(j:bL P w K mg base "Often" "kept" 1 1 [] wD){cls:a5}(h:iL K mg cls "numbers" "Pouch.numbers" Bn):bL P w K mg base cls "numbers" 2 1 [] IY :=
 bL.o h ahM λhr=>(bE (cQ (ac0 au rfl rfl B.sorted rfl B.set (iF bF (bB.cons j hr.m bB.nil) (vv 0)))))
theorem ahS:cL ["self", "left"] ["self"] (aY Bt):=dN
theorem ayM(B:cY mg)(L:dH P w K mg base "cut" 1 ["counts", "keep"] OR)(z:bY K ["Often"] "keep")(q:bY K ["Often"] "lost")(j:bY K ["Often"] "tally"){cls:a5}(h:iL K mg cls "cut_down" "Often.cut_down" Bt):bL P w K mg base cls "cut_down" 2 1 [] OZ :=
 bL.o h ahS λhr=>(bE (eT (dS qV (Ot (vv 0) j rfl B.len) (fF (vv 0) z) (cZ _))
   (bA (dJ 1 (eM bF L hr.m rfl (aF (Ou ao rfl (vv 0) j rfl B.list) (aF (fF (vv 0) z) aP))))
   (bA (QD (mW (vv 0) (YV (Zi rfl) rfl B.dict PyProof.Rows.boot_dict (aF (cV (vv 1) aN cP) aP)) j))
   (bE (mW (vv 0) (bD (dU ao) (fF (vv 0) q) (cV (vv 1) aN cP)) q))))
   eX))
theorem ahC:cL ["_law_script", "_law_k", "_law_cell_here"] ["_law_script", "_law_k"] (aY Be):=dN
theorem ax6(B:cY mg)(h:HasFn K mg "_law_cell" Be)(j:WY P w K mg base):Ty6 P w K mg base :=
 dH.o h ahC λhr=>(bA (dJ 2 aN)
  (bA (eT (dS BO (vv 1) (fK xS rfl B.len PySem.boot_len (aF (vv 0) aP)) (cZ _))
   (bE (dJ 2 (bD gZ (cV (vv 0) (vv 1) cP) aN)))
   eX)
  (bE (cQ (eM bF j hr.m rfl (aF (vv 2) (aF (bD (dU ao) (vv 1) aN) aP)))))))
theorem ahB:cL ["_law_pouch", "_law_kept", "_law_row", "_law_number", "_law_length", "_law_found", "_law_low"] ["_law_pouch", "_law_kept", "_law_row", "_law_number", "_law_length"] (aY Bc):=dN
theorem ax5(B:cY mg)(h:HasFn K mg "_law_counted_ok" Bc)(j:Kv P w K mg base)(z:Ty7 P w K mg base)(q:HV P w K mg base):Ty9 P w K mg base :=
 dH.o h ahB λhr=>(bA (dJ 5 (mC bF (bB.cons z hr.m bB.nil) (vv 0) (aF (vv 3) aP)))
  (bA (eT (VW.vt (mV (nN (nM (fK NQ rfl B.isinstance sU (aF (vv 5) (aF (EM rfl B.tuple PyProof.Rows.boot_tuple) aP))))) (mV (dS (oO hr.units) (fK xS rfl B.len PySem.boot_len (aF (vv 5) aP)) aN (cZ _)) (mV (nN (nM (eM bF j hr.m rfl (aF (cV (vv 5) aN cP) aP)))) (tG (nN (nM (eM bF j hr.m rfl (aF (cV (vv 5) aN cP) aP)))))))))
   (bE (cQ kX))
   eX)
  (bA (dJ 6 (wJ (cE.mE hr) (vv 1) (vv 3) aN ⟨rfl,rfl,rfl,rfl⟩))
  (bA (eT (dS (oO hr.units) (vv 5) (vA (aF (vv 6) (aF (fK (Im rfl) rfl B.min boot_min (aF (vv 4) (aF (bD (dU ao) (vv 6) (iF bF (bB.cons q hr.m bB.nil) (vv 0))) aP))) aP))) (cZ _))
   (bE (cQ kX))
   eX)
  (bE (cQ (ac9 To To (cV (vv 5) aN cP) (wJ (cE.mE hr) (vv 2) (vv 3) aN ⟨rfl,rfl,rfl,rfl⟩) (cV (vv 5) aN cP))))))))
theorem ag5:cL ["_law_pouch"] ["_law_pouch"] (aY Au):=dN
theorem axW(B:cY mg)(h:HasFn K mg "_law_state" Au)(j:Ku P w K mg base)(q:Kt P w K mg base)(L:HV P w K mg base)(z:WW P w K mg base):WV P w K mg base :=
 dH.o h ag5 λhr=>(bE (cQ (kG ao (aF (iF bF (bB.cons j hr.m bB.nil) (vv 0)) (aF (iF bF (bB.cons L hr.m bB.nil) (vv 0)) (aF (iF bF (bB.cons q hr.m bB.nil) (vv 0)) (aF (iF bF (bB.cons z hr.m bB.nil) (vv 0)) aP)))))))
theorem agY:cL ["row", "length", "at", "run", "times"] ["row"] (aY An):=dN
theorem axM(B:cY mg)(h:HasFn K mg "look_row" An)(j:∃t,mg "LONGEST" = ah (.int 1000000000 t)):dH P w K mg base "look_row" 3 ["row"] IW :=
 dH.o h agY λhr=>(bA (dJ 1 aN)
  (bA (tI bF.passes rfl (acW rfl B.enumerate (vv 0)) (wI rfl (mX (gS 2) (mX (gS 3) wH)))
   (bA (dJ 4 (cV (vv 3) aN cP))
   (bA (dJ 1 (bD (dU ao) (vv 1) (vv 4)))
   (bE (eT (VW.vt (mV (dS BO (vv 4) aN (cZ _)) (tG (dS qV (vv 1) (YT rfl j) (cZ _)))))
    (bE acQ)
    eX)))))
  (bE (cQ (vv 1)))))
theorem ahW:cL ["self", "keep"] ["self", "keep"] (aY FC):=dN
theorem aBP(B:cY mg)(z:yC P w K mg base "Pouch" "__init__" 1 2 AM)(j:bY K ["Often"] "lost")(q:bY K ["Often"] "tally")(f:aq)(aS:aj)(A:bj)(outer:ai Env)(s:ar)(H:Hp)(E:XK)(hr:cE 2 (A.deeper (cn "Often.__init__" (aY FC) s.heap.objs.size f aS))) :
  fN (oZ P w K mg base ["self", "keep"] "Often.__init__" (aY FC) f aS A outer s H E) (λ_=>E) (eZ FC) WM:=by
 exact(bA (kW (Ox bF z rfl hr.m (aF (vv 0) (aF (vv 1) aP))))
  (bA (QD (mW (vv 0) yQ q))
  (bE (mW (vv 0) aN j))))
theorem aw3(B:cY mg)(z:yC P w K mg base "Pouch" "__init__" 1 2 AM)(j:bY K ["Often"] "lost")(q:bY K ["Often"] "tally"){cls:a5}(h:XW K mg cls "Often.__init__" FC):xZ P w K mg base cls 3 2 yI:=xZ.of h ahW (λ_ _ _ _ _ _ us hl=>BA us hl cP) (aBP B z j q)
theorem ahH:cL ["self", "number", "times"] ["self", "number", "times"] (aY Bi):=dN
theorem ayA(B:cY mg)(j:aa1 P w K mg base)(q:aa0 P w K mg base){cls:a5}(h:iL K mg cls "take" "Often.take" Bi):bL P w K mg base cls "take" 3 3 [] YB :=
 bL.o h ahH λhr=>(bA (kW (mC bF (bB.cons j hr.m bB.nil) (vv 0) (aF (vv 1) (aF (vv 2) aP))))
  (bE (kW (iF bF (bB.cons q hr.m bB.nil) (vv 0)))))
theorem ahG:cL ["self", "other", "number", "count"] ["self", "other"] (aY Bh):=dN
theorem ax9(B:cY mg)(j:bY K ["Often"] "lost")(z:aa1 P w K mg base)(q:Ku P w K mg base)(L:aa0 P w K mg base){cls:a5}(h:iL K mg cls "take_in" "Often.take_in" Bh):bL P w K mg base cls "take_in" 3 2 [] YA :=
 bL.o h ahG λhr=>(bA (tI bF.passes rfl (pF (iF bF (bB.cons q hr.m bB.nil) (vv 1))) (wI rfl (mX (gS 2) (mX (gS 3) wH)))
   (bE (kW (mC bF (bB.cons z hr.m bB.nil) (vv 0) (aF (vv 2) (aF (vv 3) aP))))))
  (bA (mW (vv 0) (bD (dU ao) (fF (vv 0) j) (fF (vv 1) j)) j)
  (bE (kW (iF bF (bB.cons L hr.m bB.nil) (vv 0))))))
theorem ahK:cL ["self", "least"] ["self", "least"] (aY Bl):=dN
theorem ayE(B:cY mg)(j:Ty7 P w K mg base)(q:aaZ P w K mg base){cls:a5}(h:iL K mg cls "often" "Often.often" Bl):bL P w K mg base cls "often" 3 2 [] YC :=
 bL.o h ahK λhr=>(bE (cQ (AY ao ["number"] [0,1] (pF (iF bF (bB.cons q hr.m bB.nil) (vv 0))) ⟨(gS 0),(YR (dS Dk (cV (ac2 (bB.cons j hr.m bB.nil) (vv 1) (aF (vv 0) aP)) aN cP) (vv 2) (cZ _))),(vv 0)⟩)))
theorem ah6:cL ["self", "keep"] ["self", "keep"] (aY FD):=dN
theorem aBQ(B:cY mg)(q:yC P w K mg base "RankPouch" "__init__" 1 2 AM)(z:bY K ["Gaps"] "laid")(j:bY K ["Gaps"] "newest")(f:aq)(aS:aj)(A:bj)(outer:ai Env)(s:ar)(H:Hp)(E:XK)(hr:cE 2 (A.deeper (cn "Gaps.__init__" (aY FD) s.heap.objs.size f aS))) :
  fN (oZ P w K mg base ["self", "keep"] "Gaps.__init__" (aY FD) f aS A outer s H E) (λ_=>E) (eZ FD) WN:=by
 exact(bA (kW (Ox bF q rfl hr.m (aF (vv 0) (aF (vv 1) aP))))
  (bA (QD (mW (vv 0) yQ j))
  (bE (QD (mW (vv 0) yQ z)))))
theorem aw4(B:cY mg)(q:yC P w K mg base "RankPouch" "__init__" 1 2 AM)(z:bY K ["Gaps"] "laid")(j:bY K ["Gaps"] "newest"){cls:a5}(h:XW K mg cls "Gaps.__init__" FD):xZ P w K mg base cls 3 2 PJ:=xZ.of h ah6 (λ_ _ _ _ _ _ us hl=>BA us hl cP) (aBQ B q z j)
theorem Ra:cL ["_law_pouch", "_law_keep", "_law_length", "_law_counts", "_law_one", "_law_numbers", "_law_off"] ["_law_pouch", "_law_keep", "_law_length"] (aY RM):=dN
theorem ax4(B:cY mg)(h:HasFn K mg "_law_counts_ok" RM)(j:Kv P w K mg base)(q:Ku P w K mg base)(U:bL P w K mg base "Often" "held" 2 1 [] OY)(z:Kt P w K mg base)(a:aaZ P w K mg base)(L:HV P w K mg base):aaY P w K mg base :=
 dH.o h Ra λhr=>(bA (dJ 3 (iF bF (bB.cons q hr.m bB.nil) (vv 0)))
  (bA (eT (VW.vt (mV (nN (nM (fK NQ rfl B.isinstance sU (aF (vv 3) (aF (EM rfl B.list WZ) aP))))) (mV (dS (oO hr.units) (vv 3) (fK (Zg ao) rfl B.sorted HP (aF (vv 3) aP)) (cZ _)) (tG (dS qV (fK xS rfl B.len PySem.boot_len (aF (vv 3) aP)) (vv 1) (cZ _))))))
   (bE (cQ AX))
   eX)
  (bA (tI bF.passes rfl (pF (vv 3)) (gS 4)
   (bA (eT (VW.vt (mV (nN (nM (fK NQ rfl B.isinstance sU (aF (vv 4) (aF (EM rfl B.tuple PyProof.Rows.boot_tuple) aP))))) (mV (dS (oO hr.units) (fK xS rfl B.len PySem.boot_len (aF (vv 4) aP)) aN (cZ _)) (mV (nN (nM (eM bF j hr.m rfl (aF (cV (vv 4) aN cP) aP)))) (tG (nN (nM (eM bF j hr.m rfl (aF (cV (vv 4) aN cP) aP)))))))))
    (bE (cQ AX))
    eX)
   (bE (eT (dS BO (cV (vv 4) aN cP) aN (cZ _))
    (bE (cQ AX))
    eX))))
  (bA (acN (i:=5) ao ["_law_number", "_law_count"] [] Ra.nd rfl oIr rfl (lcO (aY RM) ["_law_pouch", "_law_keep", "_law_length", "_law_counts", "_law_one", "_law_numbers", "_law_off"]) (pF (vv 3)) (λcl C s H b=>⟨(wI rfl (mX (gS 0) (mX (gS 1) wH))),JV,(vv 0)⟩))
  (bA (dJ 6 (iF bF (bB.cons L hr.m bB.nil) (vv 0)))
  (bA (eT (VW.vt (mV (dS (oO hr.units) (ac4 rfl rfl B.len rfl B.set (vv 5)) (fK xS rfl B.len PySem.boot_len (aF (vv 5) aP)) (cZ _)) (mV (nN (nM (eM bF j hr.m rfl (aF (vv 6) aP)))) (tG (dS BO (vv 6) aN (cZ _))))))
   (bE (cQ AX))
   eX)
  (bA (eT (dS qV (bD (dU ao) (bD wW (vv 6) (bD (dU ao) (vv 1) aN)) (fK (CZ rfl) rfl B.sum boot_sum (aF (AY ao ["_law_number", "_law_count"] [] (pF (vv 3)) ⟨(wI rfl (mX (gS 0) (mX (gS 1) wH))),JV,(vv 1)⟩) aP))) (vv 2) (cZ _))
   (bE (cQ AX))
   eX)
  (bA (eT (VW.vt (mV (dS (oO hr.units) (iF bF (bB.cons U hr.m bB.nil) (vv 0)) (fK xS rfl B.len PySem.boot_len (aF (vv 3) aP)) (cZ _)) (mV (dS (oO hr.units) (iF bF (bB.cons a hr.m bB.nil) (vv 0)) (vv 5) (cZ _)) (tG (dS (oO hr.units) (iF bF (bB.cons z hr.m bB.nil) (vv 0)) (vv 2) (cZ _))))))
   (bE (cQ AX))
   eX)
  (bE (cQ (YV (Zi rfl) rfl B.dict PyProof.Rows.boot_dict (aF (vv 3) aP))))))))))))
theorem agX:cL ["row", "entries", "number", "stands"] ["row"] (aY Am):=dN
theorem axK(B:cY mg)(h:HasFn K mg "of_row" Am)(j:dH P w K mg base "look_row" 3 ["row"] IW)(q:dH P w K mg base "places_of" 2 ["row"] DU):dH P w K mg base "of_row" 4 ["row"] XX :=
 dH.o h agX λhr=>(bA (dJ 1 (kG au aP))
  (bA (tI bF.passes rfl (acX (eM bF q hr.m rfl (aF (vv 0) aP))) (wI rfl (mX (gS 2) (mX (gS 3) wH)))
   (bA (kW (Ow PySem.F.plainAttrs_list PySem.F.slot_list_append PySem.F.type_list_append Uc Ug (vv 1) (aF (vA (aF (vv 2) (aF (cV (vv 3) aN cP) (aF (cV (vv 3) aN cP) aP)))) aP)))
   (bE (eT (dS (oO hr.units) (cV (vv 3) aN cP) (cV (vv 3) aN cP) (cZ _))
    (bE (kW (Ow PySem.F.plainAttrs_list PySem.F.slot_list_append PySem.F.type_list_append Uc Ug (vv 1) (aF (vA (aF (vv 2) (aF (cV (vv 3) aN cP) (aF (cV (vv 3) aN cP) aP)))) aP))))
    eX))))
  (bE (cQ (vA (aF (eM bF j hr.m rfl (aF (vv 0) aP)) (aF aN (aF aN (aF (vf 1) aP)))))))))
theorem Rb:cL ["self", "number", "times"] ["self", "number", "times"] (aY BE):=dN
theorem Zn(B:cY mg)(q:bY K ["Often"] "many")(j:bY K ["Often"] "taken")(z:WU P w K mg base)(U:Ks P w K mg base)(L:qH K mg "NoTimes")(f:aq)(aS:aj)(A:bj)(outer:ai Env)(s:ar)(H:Hp)(E:XK)(hr:cE 3 (A.deeper (cn "Pouch.put" (aY BE) s.heap.objs.size f aS))) :
  fN (oZ P w K mg base ["self", "number", "times"] "Pouch.put" (aY BE) f aS A outer s H E) (λ_=>E) (eZ BE) HR:=by
 exact(bA (eT (dS BO (vv 2) aN (cZ _))
   (bE (EL bF rfl L rfl (aF oJ aP)))
   eX)
  (bA (kW (mC bF (bB.cons z hr.m bB.nil) (vv 0) (aF (vv 2) aP)))
  (bA (kW (mC bF (bB.cons U hr.m bB.nil) (vv 0) (aF (vv 1) (aF (vv 2) aP))))
  (bA (mW (vv 0) (bD (dU ao) (fF (vv 0) q) (vv 2)) q)
  (bE (mW (vv 0) (bD (dU ao) (fF (vv 0) j) aN) j))))))
theorem ayD(B:cY mg)(z:bY K ["Often"] "many")(q:bY K ["Often"] "taken")(j:WU P w K mg base)(U:Ks P w K mg base)(L:qH K mg "NoTimes"){cls:a5}{tk:Tok}(h:IV K mg cls "put" "Pouch.put" BE #[.int 1 tk]):bL P w K mg base cls "put" 4 3 [] rS:=bL.ofD (ds:=[]) (dvs:=[]) h .nil (λ_ _ => .nil) Rb (λ_ _ _ _ _ _ _ us hl=>match us,hl with|[_,_,_],_=>⟨_,rfl,rfl⟩) (Zn B z q j U L)
theorem awY(B:cY mg)(z:bY K ["Often"] "many")(q:bY K ["Often"] "taken")(j:WU P w K mg base)(U:Ks P w K mg base)(L:qH K mg "NoTimes"){cls:a5}{tk:Tok}(h:IV K mg cls "put" "Pouch.put" BE #[.int 1 tk]):bL P w K mg base cls "put" 4 3 [.int 1] rS:=bL.ofD (ds:=[.int 1 tk]) (dvs:=[.int 1]) h (.cons ⟨_,rfl⟩ .nil) (λ_ _ => .cons (by simp only[V2.Den]) .nil) Rb (λ_ _ _ _ _ _ _ us hl=>match us,hl with|[_,_],_=>⟨_,rfl,rfl⟩) (Zn B z q j U L)
theorem ahQ:cL ["self", "other"] ["self", "other"] (aY Br):=dN
theorem ayK(B:cY mg)(z:bY K ["Often"] "keep")(j:bY K ["Often"] "many")(q:bY K ["Often"] "taken")(L:WU P w K mg base)(U:bL P w K mg base "Often" "same_kind" 1 2 [] JA)(a:bL P w K mg base "Often" "take_in" 3 2 [] YA)(b:qH K mg "Unlike"){cls:a5}(h:iL K mg cls "join" "Pouch.join" Br):bL P w K mg base cls "join" 4 2 [] AL :=
 bL.o h ahQ λhr=>(bA (eT (VW.vt (mV (nN (nM (mC bF (bB.cons U hr.m bB.nil) (vv 0) (aF (vv 1) aP)))) (tG (dS (oO hr.units) (fF (vv 1) z) (fF (vv 0) z) (cZ _)))))
   (bE (EL bF rfl b rfl (aF oJ aP)))
   eX)
  (bA (kW (mC bF (bB.cons L hr.m bB.nil) (vv 0) (aF (fF (vv 1) j) aP)))
  (bA (kW (mC bF (bB.cons a hr.m bB.nil) (vv 0) (aF (vv 1) aP)))
  (bA (mW (vv 0) (bD (dU ao) (fF (vv 0) j) (fF (vv 1) j)) j)
  (bE (mW (vv 0) (bD (dU ao) (fF (vv 0) q) (fF (vv 1) q)) q))))))
theorem ag6:cL ["_law_pouch", "_law_kept", "_law_row", "_law_least", "_law_length", "_law_found", "_law_off", "_law_number", "_law_times_here"] ["_law_pouch", "_law_kept", "_law_row", "_law_least", "_law_length"] (aY Aw):=dN
theorem axY(B:cY mg)(h:HasFn K mg "_law_often_ok" Aw)(j:HV P w K mg base)(q:bL P w K mg base "Often" "often" 3 2 [] YC):aaW P w K mg base :=
 dH.o h ag6 λhr=>(bA (dJ 5 (mC bF (bB.cons q hr.m bB.nil) (vv 0) (aF (vv 3) aP)))
  (bA (dJ 6 (iF bF (bB.cons j hr.m bB.nil) (vv 0)))
  (bA (eT (dS (oO hr.units) (vv 5) (AY ao ["_law_number"] [1,3,4,6] (pF (fK (aAO ao) rfl B.sorted HP (aF (Om ao rfl rfl B.list (vv 1)) aP))) ⟨(gS 0),(YR (dS Dk (fK (Im rfl) rfl B.min boot_min (aF (vv 3) (aF (bD (dU ao) (Ov (cE.mE hr) (vv 1) (vv 0) cP) (vv 4)) aP))) (vv 2) (cZ _))),(vv 0)⟩) (cZ _))
   (bE (cQ kX))
   eX)
  (bA (acS bF.passes rfl (vv 2) (wI rfl (mX (gS 7) (mX (gS 8) wH)))
   (bE (eT (VW.vt (JU (dS Dk (vv 8) (vv 3) (cZ _)) (JU (dS qV (vv 8) (vv 6) (cZ _)) (QB (dS (amV hr.units) (vv 7) (vv 5) rfl)))))
    (bE (cQ kX))
    eX)))
  (bE (cQ kX))))))
theorem ah2:cL ["self"] ["self"] (aY Cc):=dN
theorem ayW(B:cY mg)(q:dH P w K mg base "of_row" 4 ["row"] XX)(j:bY K ["Gaps"] "newest"){cls:a5}(h:iL K mg cls "newest_pouch" "Gaps.newest_pouch" Cc):bL P w K mg base cls "newest_pouch" 5 1 [] PF :=
 bL.o h ah2 λhr=>(bE (cQ (eM bF q hr.m rfl (aF (Ou ao rfl (vv 0) j rfl B.list) aP))))
theorem ag2:cL ["_law_pouch", "_law_keep", "_law_row", "_law_cell_here", "_law_length", "_law_kept", "_law_number", "_law_least"] ["_law_pouch", "_law_keep", "_law_row", "_law_cell_here"] (aY Aq):=dN
theorem axT(B:cY mg)(h:HasFn K mg "_law_truly" Aq)(q:Ty9 P w K mg base)(z:aaY P w K mg base)(L:aaW P w K mg base)(j:HV P w K mg base):aaV P w K mg base :=
 dH.o h ag2 λhr=>(bA (dJ 4 (fK (CZ rfl) rfl B.sum boot_sum (aF (JZ ao rfl rfl B.list (vv 2)) aP)))
  (bA (dJ 5 (eM bF z hr.m rfl (aF (vv 0) (aF (vv 1) (aF (vv 4) aP)))))
  (bA (eT (dS amW (vv 5) AX (cZ _))
   (bE (cQ kX))
   eX)
  (bA (tI bF.passes rfl (pF (bD (dU ao) (Om ao rfl rfl B.list (vv 2)) (kG ao (aF (bD BN (bD gZ (vv 3) aN) aN) aP)))) (gS 6)
   (bA (eT (nN (nM (eM bF q hr.m rfl (aF (vv 0) (aF (vv 5) (aF (vv 2) (aF (vv 6) (aF (vv 4) aP))))))))
    (bE (cQ kX))
    eX)
   (bE (eT (VW.vt (JU (dS qV (bD wW (wJ (cE.mE hr) (vv 2) (vv 6) aN ⟨rfl,rfl,rfl,rfl⟩) (bD (dU ao) (vv 1) aN)) (vv 4) (cZ _)) (QB (acH (cE.mE hr) (vv 6) (vv 5)))))
    (bE (cQ kX))
    eX))))
  (bA (tI bF.passes rfl (pF (kG ao (aF aN (aF (bD (dU ao) aN (bD gZ (vv 3) aN)) (aF (bD (dU ao) (iF bF (bB.cons j hr.m bB.nil) (vv 0)) aN) (aF (bD (dU ao) aN (bD pW (vv 4) (bD (dU ao) (vv 1) aN))) aP)))))) (gS 7)
   (bE (eT (nN (nM (eM bF L hr.m rfl (aF (vv 0) (aF (vv 5) (aF (vv 2) (aF (vv 7) (aF (vv 4) aP))))))))
    (bE (cQ kX))
    eX)))
  (bE (cQ kX)))))))
theorem Qz:cL ["_law_pouch", "_law_number", "_law_times_here", "_law_told", "_law_error"] ["_law_pouch", "_law_number", "_law_times_here"] (aY Av):=dN
theorem axX(B:cY mg)(h:HasFn K mg "_law_put" Av)(q:kE K mg "NoTimes")(z:kE K mg "Unlike")(L:∀{p d:aq} {oe:cj} {e:Exc},EE K oe d e->AN P w K mg base "_law_alone" 1 ["_law_error"] p oe (AK p e))(U:bL P w K mg base "Gaps" "put" 2 3 [] rT)(a:aaU P w K mg base)(j:rO K ["NoRow", "NoTimes", "Unlike"] ["RankError", "NoRow", "NoPlace", "NoPouch", "NoSize", "Wrong", "NoTimes", "Unlike", "NoText"]):Kr P w K mg base:=by
 refine dH.Tn (PK.of0 h Qz (λ_ _ _ _ _ _ us hl=>QL us hl (λ_ _ _=>rfl)) (λ_ _ _ _ _ _ _ hr=>?_));exact(QC (VS.v0 (dJ 3 oJ))
  (QC (acM (i:=4) (rs:=["NoRow", "NoTimes", "Unlike"]) (ns:=["RankError", "NoRow", "NoPlace", "NoPouch", "NoSize", "Wrong", "NoTimes", "Unlike", "NoText"]) KI rfl q rfl j Qz.nd rfl rfl (λW=>(fN.v0 (bE (kW (mC Pw (bB.cons a hr.m (bB.cons U hr.m bB.nil)) (vv 0) (aF (vv 1) (aF (vv 2) aP)))))))
   (λp oe d e he=>(bE (dJ 3 (kG ao (aF oJ (aF (yR (YU (ps:=["_law_error"]) (L he) (by exact hr.mono (by first|decide|omega)) (by exact rfl) (aF (vv 4) aP)) (AW (JX (fK (HN (nL _ (AG _)) j he.cls) rfl B.isinstance sU (aF (vv 4) (aF (vB z rfl) aP)))))) aP)))))))
  (fN.v0 (bE (cQ (vv 3))))))
theorem Ai:cL ["_law_pouch", "_law_other", "_law_told", "_law_error"] ["_law_pouch", "_law_other"] (aY Ba):=dN
theorem ax2(B:cY mg)(h:HasFn K mg "_law_join" Ba)(q:kE K mg "NoTimes")(z:kE K mg "Unlike")(L:∀{p d:aq} {oe:cj} {e:Exc},EE K oe d e->AN P w K mg base "_law_alone" 1 ["_law_error"] p oe (AK p e))(U:bL P w K mg base "Gaps" "join" 2 2 [] OX)(a:bL P w K mg base "Often" "join" 4 2 [] AL)(j:rO K ["NoRow", "NoTimes", "Unlike"] ["RankError", "NoRow", "NoPlace", "NoPouch", "NoSize", "Wrong", "NoTimes", "Unlike", "NoText"]):Kq P w K mg base:=by
 refine dH.Tn (PK.of0 h Ai (λ_ _ _ _ _ _ us hl=>BA us hl cP) (λ_ _ _ _ _ _ _ hr=>?_));exact(QC (VS.v0 (dJ 2 oJ))
  (QC (acK KI rfl (λW=>(fN.v0 (bE (kW (mC Pw (bB.cons a hr.m (bB.cons U hr.m bB.nil)) (vv 0) (aF (vv 1) aP))))))
   (Oj (i:=3) (rs:=["NoRow", "NoTimes", "Unlike"]) (ns:=["RankError", "NoRow", "NoPlace", "NoPouch", "NoSize", "Wrong", "NoTimes", "Unlike", "NoText"]) KI z rfl j Ai.nd rfl rfl (λp oe d e he=>(bE (dJ 2 (kG ao (aF oJ (aF (yR (YU (ps:=["_law_error"]) (L he) (by exact hr.mono (by first|decide|omega)) (by exact rfl) (aF (vv 3) aP)) (AW (JX (fK (HN (nL _ (AG _)) j he.cls) rfl B.isinstance sU (aF (vv 3) (aF (vB q rfl) aP)))))) aP))))))
   (Oj (i:=3) (rs:=["NoRow", "NoTimes", "Unlike"]) (ns:=["RankError", "NoRow", "NoPlace", "NoPouch", "NoSize", "Wrong", "NoTimes", "Unlike", "NoText"]) KI q rfl j Ai.nd rfl rfl (λp oe d e he=>(bE (dJ 2 (kG ao (aF oJ (aF (yR (YU (ps:=["_law_error"]) (L he) (by exact hr.mono (by first|decide|omega)) (by exact rfl) (aF (vv 3) aP)) (AW (JX (fK (HN (nL _ (AG _)) j he.cls) rfl B.isinstance sU (aF (vv 3) (aF (vB z rfl) aP)))))) aP))))))
   acY)))
  (fN.v0 (bE (cQ (vv 2))))))
theorem ah0:cL ["self"] ["self"] (aY Ca):=dN
theorem ayU(B:cY mg)(q:bY K ["Gaps"] "laid")(j:bL P w K mg base "Gaps" "newest_pouch" 5 1 [] PF){cls:a5}(h:iL K mg cls "parts" "Gaps.parts" Ca):bL P w K mg base cls "parts" 6 1 [] PD :=
 bL.o h ah0 λhr=>(bE (cQ (bD (dU ao) (kG ao (aF (iF bF (bB.cons j hr.m bB.nil) (vv 0)) aP)) (ac6 ao rfl (vv 0) q rfl B.list))))
theorem ahD:cL ["_law_pouch", "_law_row", "_law_cell_here", "_law_state_here", "_law_length", "_law_times_here"] ["_law_pouch", "_law_row", "_law_cell_here"] (aY Bf):=dN
theorem ax7(B:cY mg)(h:HasFn K mg "_law_bad_put" Bf)(q:Kr P w K mg base)(j:WV P w K mg base):aaT P w K mg base :=
 dH.o h ahD λhr=>(bA (dJ 3 (eM bF j hr.m rfl (aF (vv 0) aP)))
  (bA (dJ 4 (fK (CZ rfl) rfl B.sum boot_sum (aF (JZ ao rfl rfl B.list (vv 1)) aP)))
  (bA (dJ 5 (cV (kG ao (aF aN (aF (bD BN (bD BN aN aN) (bD gZ (bD pW (vv 2) aN) aN)) (aF (bD BN (bD (dU ao) (bD SH aN aN) aN) (vv 4)) aP)))) (bD gZ (vv 2) aN) cP))
  (bE (cQ (yR (sA (lQ hr.units) (eM bF q hr.m rfl (aF (vv 0) (aF (bD gZ (vv 2) aN) (aF (vv 5) aP)))) (kG ao (aF oJ (aF kX aP))) (cZ _)) (AW (sA (lQ hr.units) (eM bF j hr.m rfl (aF (vv 0) aP)) (vv 3) (cZ _)))))))))
theorem ag9:cL ["_law_pouches", "_law_rows", "_law_puts", "_law_one", "_law_other", "_law_state_here", "_law_mine", "_law_many_here", "_law_told", "_law_number", "_law_times_here"] ["_law_pouches", "_law_rows", "_law_puts", "_law_one", "_law_other"] (aY Az):=dN
theorem ax1(B:cY mg)(h:HasFn K mg "_law_joined" Az)(z:Kq P w K mg base)(j:WV P w K mg base)(q:WW P w K mg base):aaS P w K mg base :=
 dH.o h ag9 λhr=>(bA (dJ 5 (eM bF j hr.m rfl (aF (cV (vv 0) (vv 4) cP) aP)))
  (bA (dJ 6 (eM bF j hr.m rfl (aF (cV (vv 0) (vv 3) cP) aP)))
  (bA (dJ 7 (bD (dU ao) (fK (CZ rfl) rfl B.sum boot_sum (aF (JZ ao rfl rfl B.list (cV (vv 1) (vv 3) cP)) aP)) (fK (CZ rfl) rfl B.sum boot_sum (aF (JZ ao rfl rfl B.list (cV (vv 1) (vv 4) cP)) aP))))
  (bA (dJ 8 (eM bF z hr.m rfl (aF (cV (vv 0) (vv 3) cP) (aF (cV (vv 0) (vv 4) cP) aP))))
  (bA (eT (dS qV (vv 7) (bD SH aN aN) (cZ _))
   (bE (cQ (yR (sA (lQ hr.units) (vv 8) (kG ao (aF oJ (aF kX aP))) (cZ _)) (AW (sA (lQ hr.units) (eM bF j hr.m rfl (aF (cV (vv 0) (vv 3) cP) aP)) (vv 6) (cZ _))))))
   eX)
  (bA (eT (VW.vt (mV (dS (oO hr.units) (vv 8) oJ (cZ _)) (tG (VW.vt (JU (dS (oO hr.units) (vv 3) (vv 4) (cZ _)) (QB (dS (oO hr.units) (eM bF j hr.m rfl (aF (cV (vv 0) (vv 4) cP) aP)) (vv 5) (cZ _))))))))
   (bE (cQ kX))
   eX)
  (bA (tI bF.passes rfl (pF (ac3 ao rfl B.list rfl (cV (vv 1) (vv 4) cP))) (wI rfl (mX (gS 9) (mX (gS 10) wH)))
   (bE (AV (cE.mE hr) (cV (vv 1) (vv 3) cP) (vv 9) (bD (dU ao) (wJ (cE.mE hr) (cV (vv 1) (vv 3) cP) (vv 9) aN ⟨rfl,rfl,rfl,rfl⟩) (vv 10)))))
  (bA (YQ (bD (dU ao) (cV (vv 2) (vv 3) cP) (cV (vv 2) (vv 4) cP)) (YS (vv 2) (vv 3)))
  (bE (cQ (sA (lQ hr.units) (iF bF (bB.cons q hr.m bB.nil) (cV (vv 0) (vv 3) cP)) (cV (vv 2) (vv 3) cP) (cZ _))))))))))))
theorem ah1:cL ["self"] ["self"] (aY Cb):=dN
theorem ayV(B:cY mg)(j:bL P w K mg base "Gaps" "parts" 6 1 [] PD){cls:a5}(h:iL K mg cls "off" "Gaps.off" Cb):bL P w K mg base cls "off" 7 1 [] JB :=
 bL.o h ah1 λhr=>(bE (cQ (fK (CZ rfl) rfl B.sum boot_sum (aF (AY ao ["part"] [] (pF (iF bF (bB.cons j hr.m bB.nil) (vv 0))) ⟨(gS 0),JV,(cV (vv 0) aN cP)⟩) aP))))
theorem ag4:cL ["_law_pouch", "_law_others", "_law_cell_here", "_law_state_here", "_law_other", "_law_here", "_law_good"] ["_law_pouch", "_law_others", "_law_cell_here"] (aY As):=dN
theorem axV(B:cY mg)(h:HasFn K mg "_law_strange_join" As)(b:Kq P w K mg base)(z:WV P w K mg base)(U:bL P w K mg base "Gaps" "length" 1 1 [] IZ)(a:bL P w K mg base "Gaps" "off" 7 1 [] JB)(c:aaR P w K mg base)(j:Kt P w K mg base)(L:HV P w K mg base)(q:WW P w K mg base):aaQ P w K mg base :=
 dH.o h ag4 λhr=>(bA (dJ 3 (eM bF z hr.m rfl (aF (vv 0) aP)))
  (bA (dJ 4 (cV (vv 1) (bD gZ (vv 2) aN) cP))
  (bA (dJ 5 (kG ao (aF (iF bF (bB.cons j hr.m (bB.cons U hr.m bB.nil)) (vv 4)) (aF (iF bF (bB.cons q hr.m (bB.cons c hr.m bB.nil)) (vv 4)) (aF (iF bF (bB.cons L hr.m (bB.cons a hr.m bB.nil)) (vv 4)) aP)))))
  (bA (eT (dS (lQ hr.units) (bD gZ (bD pW (vv 2) aN) aN) aN (cZ _))
   (bE (dJ 6 (sA (lQ hr.units) (eM bF b hr.m rfl (aF (vv 0) (aF (vv 4) aP))) (kG ao (aF oJ (aF kX aP))) (cZ _))))
   (bE (dJ 6 (sA (lQ hr.units) (eM bF b hr.m rfl (aF (vv 4) (aF (vv 0) aP))) (kG ao (aF oJ (aF kX aP))) (cZ _)))))
  (bE (cQ (yR (vv 6) (yR (sA (lQ hr.units) (eM bF z hr.m rfl (aF (vv 0) aP)) (vv 3) (cZ _)) (AW (sA (lQ hr.units) (kG ao (aF (iF bF (bB.cons j hr.m (bB.cons U hr.m bB.nil)) (vv 4)) (aF (iF bF (bB.cons q hr.m (bB.cons c hr.m bB.nil)) (vv 4)) (aF (iF bF (bB.cons L hr.m (bB.cons a hr.m bB.nil)) (vv 4)) aP)))) (vv 5) (cZ _)))))))))))
theorem ahA:cL ["_law_pouches", "_law_rows", "_law_puts", "_law_others", "_law_cell_here", "_law_way", "_law_one", "_law_form", "_law_seed", "_law_number", "_law_times_here"] ["_law_pouches", "_law_rows", "_law_puts", "_law_others", "_law_cell_here", "_law_way"] (aY Bb):=dN
theorem ax3(B:cY mg)(h:HasFn K mg "_law_deed" Bb)(z:aaT P w K mg base)(L:aaS P w K mg base)(U:Ty3 P w K mg base)(j:WY P w K mg base)(q:Kr P w K mg base)(a:aaQ P w K mg base)(b:Ty2 P w K mg base):aaP P w K mg base :=
 dH.o h ahA (bind:=λ_ _ _ _ _ _ us hl=>us6 us hl (λ_ _ _ _ _ _=>rfl)) λhr=>(bA (dJ 6 (bD gZ (vv 4) aN))
  (bA (dJ 7 (bD gZ (bD pW (vv 4) aN) aN))
  (bA (dJ 8 (bD pW (vv 4) aN))
  (bA (eT (dS (lQ hr.units) (vv 7) aN (cZ _))
   (bE (cQ (eM bF a hr.m rfl (aF (cV (vv 0) (vv 6) cP) (aF (vv 3) (aF (vv 8) aP))))))
   eX)
  (bA (eT (dS (lQ hr.units) (vv 7) aN (cZ _))
   (bE (cQ (eM bF z hr.m rfl (aF (cV (vv 0) (vv 6) cP) (aF (cV (vv 1) (vv 6) cP) (aF (vv 8) aP))))))
   eX)
  (bA (eT (dS BO (vv 7) aN (cZ _))
   (bE (cQ (eM bF L hr.m rfl (aF (vv 0) (aF (vv 1) (aF (vv 2) (aF (vv 6) (aF (bD gZ (vv 8) aN) aP))))))))
   eX)
  (bA (dJ 9 (eM bF U hr.m rfl (aF (eM bF j hr.m rfl (aF (vv 8) (aF aN aP))) (aF (vv 5) aP))))
  (bA (dJ 10 (eM bF b hr.m rfl (aF (eM bF j hr.m rfl (aF (vv 8) (aF aN aP))) aP)))
  (bA (eT (dS qV (bD (dU ao) (fK (CZ rfl) rfl B.sum boot_sum (aF (JZ ao rfl rfl B.list (cV (vv 1) (vv 6) cP)) aP)) (vv 10)) (bD SH aN aN) (cZ _))
   (bE (cQ (sA (lQ hr.units) (eM bF q hr.m rfl (aF (cV (vv 0) (vv 6) cP) (aF (vv 9) (aF (vv 10) aP)))) (kG ao (aF oJ (aF kX aP))) (cZ _))))
   eX)
  (bA (AV (cE.mE hr) (cV (vv 1) (vv 6) cP) (vv 9) (bD (dU ao) (wJ (cE.mE hr) (cV (vv 1) (vv 6) cP) (vv 9) aN ⟨rfl,rfl,rfl,rfl⟩) (vv 10)))
  (bA (YQ (bD (dU ao) (cV (vv 2) (vv 6) cP) aN) (YS (vv 2) (vv 6)))
  (bE (cQ (sA (lQ hr.units) (eM bF q hr.m rfl (aF (cV (vv 0) (vv 6) cP) (aF (vv 9) (aF (vv 10) aP)))) oJ (cZ _)))))))))))))))
theorem agZ:cL ["_law_script", "_law_cell_here", "_law_keep", "_law_pouches", "_law_others", "_law_rows", "_law_puts", "_law_k", "_law_step", "_law_at"] ["_law_script"] (aY wM):=dN
theorem axO{f:aq}{fd:ck}(B:cY mg)(F:tD K "law" "law" wM f fd)(q:Ty6 P w K mg base)(c:aaP P w K mg base)(a:WY P w K mg base)(z:aaV P w K mg base)(d:xZ P w K mg base "Gaps" 3 2 PJ)(j:xZ P w K mg base "Often" 3 2 yI)(L:bL P w K mg base "Gaps" "put" 2 3 [] rT)(h:aaR P w K mg base)(U:aaU P w K mg base)(b:WW P w K mg base)(e:bL P w K mg base "Gaps" "put" 2 3 [.int 1] rT)(g:bL P w K mg base "Often" "put" 4 3 [.int 1] rS):gR P w K mg base (oB P w) 10 f fd ["_law_script"] (qT K 1 abT):=by
 refine Xl F agZ (λ_ _ _ _ _ _ _ hr=>?_);exact(bA (dJ 1 (eM bF q hr.m rfl (aF (vv 0) (aF aN aP))))
  (bA (dJ 2 (bD (dU ao) aN (bD gZ (vv 1) aN)))
  (bA (dJ 3 (kG ao (aF (JY j hr.m rfl (aF (vv 2) aP)) (aF (JY j hr.m rfl (aF (vv 2) aP)) (aF (JY j hr.m rfl (aF (vv 2) aP)) aP)))))
  (bA (dJ 4 (kG ao (aF (JY j hr.m rfl (aF (bD (dU ao) (vv 2) aN) aP)) (aF (JY d hr.m rfl (aF (vv 2) aP)) aP))))
  (bA (dJ 5 (kG ao (aF yQ (aF yQ (aF yQ aP)))))
  (bA (dJ 6 (kG au (aF aN (aF aN (aF aN aP)))))
  (bA (eT (dS (lQ hr.units) (bD gZ (bD pW (vv 1) aN) aN) aN (cZ _))
   (bA (kW (mC bF (bB.cons U hr.m (bB.cons L hr.m bB.nil)) (cV (vv 3) aN cP) (aF aN (aF aN aP))))
   (bA (AV (cE.mE hr) (cV (vv 5) aN cP) aN aN)
   (bE (YQ aN (YS (vv 6) aN)))))
   eX)
  (bA (kW (mC bF (bB.cons g hr.m (bB.cons e hr.m bB.nil)) (cV (vv 4) aN cP) (aF aN aP)))
  (bA (kW (mC bF (bB.cons U hr.m (bB.cons L hr.m bB.nil)) (cV (vv 4) aN cP) (aF aN (aF aN aP))))
  (bA (tI bF.passes rfl (acU rfl B.range (aF aN (aF (fK (Im rfl) rfl B.min boot_min (aF (fK xS rfl B.len PySem.boot_len (aF (vv 0) aP)) (aF aN aP))) aP))) (gS 7)
   (bA (dJ 8 (eM bF a hr.m rfl (aF (eM bF q hr.m rfl (aF (vv 0) (aF (vv 7) aP))) (aF (vv 7) aP))))
   (bA (eT (nN (nM (eM bF c hr.m rfl (aF (vv 3) (aF (vv 5) (aF (vv 6) (aF (vv 4) (aF (vv 8) (aF (bD gZ (bD pW (vv 1) aN) aN) aP)))))))))
    (bE (cQ kX))
    eX)
   (bA (dJ 9 (bD gZ (bD pW (vv 8) aN) aN))
   (bE (eT (VW.vt (JU (dS (lQ hr.units) (bD gZ (vv 7) aN) aN (cZ _)) (QB (nN (nM (eM bF z hr.m rfl (aF (cV (vv 3) (vv 9) cP) (aF (vv 2) (aF (cV (vv 5) (vv 9) cP) (aF (vv 8) aP))))))))))
    (bE (cQ kX))
    eX))))))
  (bA (tI bF.passes rfl (acV rfl B.range (aF aN aP)) (gS 9)
   (bE (eT (VW.vt (mV (nN (nM (eM bF z hr.m rfl (aF (cV (vv 3) (vv 9) cP) (aF (vv 2) (aF (cV (vv 5) (vv 9) cP) (aF (eM bF q hr.m rfl (aF (vv 0) (aF aN aP))) aP))))))) (tG (dS (oO hr.units) (iF bF (bB.cons b hr.m (bB.cons h hr.m bB.nil)) (cV (vv 3) (vv 9) cP)) (cV (vv 6) (vv 9) cP) (cZ _)))))
    (bE (cQ kX))
    eX)))
  (bE (cQ kX)))))))))))))
end
theorem all_mk{l:OpenLaw}{w:bh}{K:ba}{h:bu}{mg:a5->av aj}{fa fl:aq}{od an:av aq}{sl:bf (av aj)}{oc kV dc pm cd ct:aj}(X:K.In h)(G:h.Ns aw mg)(hfa:mg "law" = ah (.ref fa))
  (al:cc K aw "law" = ah (ah (.ref fl))) (ll:K.lookup fl=ah ⟨oc,od,.func (fnOf "law" "law" (kO wM) (eZ wM) (aY wM) .none kV dc pm an cd ct),sl⟩) (lc:codeIn K cd "law" = au) (lk:keepIn K (.ref fl)=au)
  (B:cY mg)
  (at8:HasFn K mg "look_row" An)
  (at6:HasFn K mg "packed" Al)
  (at4:HasFn K mg "places_of" Ak)
  (at7:HasFn K mg "of_row" Am)
  (at9:HasFn K mg "cut" Ao)
  (auH:HasFn K mg "_law_mix" Ax)
  (auO:HasFn K mg "_law_cell" Be)
  (auA:HasFn K mg "_law_whole" Ap)
  (auC:HasFn K mg "_law_times" Ar)
  (auI:HasFn K mg "_law_many" Ay)
  (auM:HasFn K mg "_law_counts_ok" RM)
  (auN:HasFn K mg "_law_counted_ok" Bc)
  (auG:HasFn K mg "_law_often_ok" Aw)
  (auB:HasFn K mg "_law_truly" Aq)
  (auQ:HasFn K mg "_law_alone" Bg)
  (auF:HasFn K mg "_law_put" Av)
  (auK:HasFn K mg "_law_join" Ba)
  (auE:HasFn K mg "_law_state" Au)
  (auP:HasFn K mg "_law_bad_put" Bf)
  (auD:HasFn K mg "_law_strange_join" As)
  (auJ:HasFn K mg "_law_joined" Az)
  (auL:HasFn K mg "_law_deed" Bb)
  (uJ:∃t,mg "LONGEST" = ah (.int 1000000000 t))
  {u:aq} (I:cc K aw "RankError" = ah (ah (.ref u)))
  {anH aiV aCM aAV aA6 as6 agA ae8 aB9 azB axA aqG ap7 apY apP apG} (amZ:K.lookup u=ah (cy anH aiV u aCM aAV aA6 as6 agA ae8 aB9 azB axA aqG ap7 apY apP apG "ValueError.__new__"))
  (avS:bx K (.ref u) "__getattribute__" = ah (ah (.builtin "BaseException.__getattribute__"))) (avF:bx K (.ref u) "__getattr__" = ah ak) (azP:bx K (.ref u) "__class__" = ah (ah (.builtin "object.__class__"))) (aBH:b4 K (.ref u) (.type "BaseException")=ah au) (amI:b4 K (.ref u) (.type "object")=ah au)
  {U:aq} (g:cc K aw "NoRow" = ah (ah (.ref U)))
  {anL ajG aCQ aAZ aBA atA agE afU aCD azF axE aqK aqB ap2 apT apK} (am3:K.lookup U=ah (cy anL ajG U aCQ aAZ aBA atA agE afU aCD azF axE aqK aqB ap2 apT apK "ValueError.__new__"))
  (avW:bx K (.ref U) "__getattribute__" = ah (ah (.builtin "BaseException.__getattribute__"))) (avJ:bx K (.ref U) "__getattr__" = ah ak) (azT:bx K (.ref U) "__class__" = ah (ah (.builtin "object.__class__"))) (aBL:b4 K (.ref U) (.type "BaseException")=ah au) (amM:b4 K (.ref U) (.type "object")=ah au)
  {m:aq} (D:cc K aw "NoPlace" = ah (ah (.ref m)))
  {anN ajI aCS aA1 aBC atD agG afW aCF azH axG aqM aqD ap4 apV apM} (am5:K.lookup m=ah (cy anN ajI m aCS aA1 aBC atD agG afW aCF azH axG aqM aqD ap4 apV apM "ValueError.__new__"))
  (avY:bx K (.ref m) "__getattribute__" = ah (ah (.builtin "BaseException.__getattribute__"))) (avL:bx K (.ref m) "__getattr__" = ah ak) (azV:bx K (.ref m) "__class__" = ah (ah (.builtin "object.__class__"))) (aBN:b4 K (.ref m) (.type "BaseException")=ah au) (amO:b4 K (.ref m) (.type "object")=ah au)
  {n:aq} (E:cc K aw "NoPouch" = ah (ah (.ref n)))
  {anM ajH aCR aA0 aBB atB agF afV aCE azG axF aqL aqC ap3 apU apL} (am4:K.lookup n=ah (cy anM ajH n aCR aA0 aBB atB agF afV aCE azG axF aqL aqC ap3 apU apL "ValueError.__new__"))
  (avX:bx K (.ref n) "__getattribute__" = ah (ah (.builtin "BaseException.__getattribute__"))) (avK:bx K (.ref n) "__getattr__" = ah ak) (azU:bx K (.ref n) "__class__" = ah (ah (.builtin "object.__class__"))) (aBM:b4 K (.ref n) (.type "BaseException")=ah au) (amN:b4 K (.ref n) (.type "object")=ah au)
  {o:aq} (F:cc K aw "NoSize" = ah (ah (.ref o)))
  {anK ajF aCP aAY aA9 as9 agD afK aCC azE axD aqJ aqA ap1 apS apJ} (am2:K.lookup o=ah (cy anK ajF o aCP aAY aA9 as9 agD afK aCC azE axD aqJ aqA ap1 apS apJ "ValueError.__new__"))
  (avV:bx K (.ref o) "__getattribute__" = ah (ah (.builtin "BaseException.__getattribute__"))) (avI:bx K (.ref o) "__getattr__" = ah ak) (azS:bx K (.ref o) "__class__" = ah (ah (.builtin "object.__class__"))) (aBK:b4 K (.ref o) (.type "BaseException")=ah au) (amL:b4 K (.ref o) (.type "object")=ah au)
  {x:aq} (N:cc K aw "Wrong" = ah (ah (.ref x)))
  {anF aiT aCK aAT aA4 as4 af8 aeX aB7 ay9 aw8 aqE ap5 apW apN apE} (amX:K.lookup x=ah (cy anF aiT x aCK aAT aA4 as4 af8 aeX aB7 ay9 aw8 aqE ap5 apW apN apE "ValueError.__new__"))
  (avQ:bx K (.ref x) "__getattribute__" = ah (ah (.builtin "BaseException.__getattribute__"))) (avD:bx K (.ref x) "__getattr__" = ah ak) (azN:bx K (.ref x) "__class__" = ah (ah (.builtin "object.__class__"))) (aBF:b4 K (.ref x) (.type "BaseException")=ah au) (amG:b4 K (.ref x) (.type "object")=ah au)
  {a:aq} (i:cc K aw "NoTimes" = ah (ah (.ref a)))
  {anI ajD aCN aAW aA7 as7 agB afI aCA azC axB aqH ap8 apZ apQ apH} (am0:K.lookup a=ah (cy anI ajD a aCN aAW aA7 as7 agB afI aCA azC axB aqH ap8 apZ apQ apH "ValueError.__new__"))
  (avT:bx K (.ref a) "__getattribute__" = ah (ah (.builtin "BaseException.__getattribute__"))) (avG:bx K (.ref a) "__getattr__" = ah ak) (azQ:bx K (.ref a) "__class__" = ah (ah (.builtin "object.__class__"))) (aBI:b4 K (.ref a) (.type "BaseException")=ah au) (amJ:b4 K (.ref a) (.type "object")=ah au)
  {b:aq} (k:cc K aw "Unlike" = ah (ah (.ref b)))
  {anG aiU aCL aAU aA5 as5 af9 ae7 aB8 azA aw9 aqF ap6 apX apO apF} (amY:K.lookup b=ah (cy anG aiU b aCL aAU aA5 as5 af9 ae7 aB8 azA aw9 aqF ap6 apX apO apF "ValueError.__new__"))
  (avR:bx K (.ref b) "__getattribute__" = ah (ah (.builtin "BaseException.__getattribute__"))) (avE:bx K (.ref b) "__getattr__" = ah ak) (azO:bx K (.ref b) "__class__" = ah (ah (.builtin "object.__class__"))) (aBG:b4 K (.ref b) (.type "BaseException")=ah au) (amH:b4 K (.ref b) (.type "object")=ah au)
  {r:aq} (H:cc K aw "NoText" = ah (ah (.ref r)))
  {anJ ajE aCO aAX aA8 as8 agC afJ aCB azD axC aqI ap9 ap0 apR apI} (am1:K.lookup r=ah (cy anJ ajE r aCO aAX aA8 as8 agC afJ aCB azD axC aqI ap9 ap0 apR apI "ValueError.__new__"))
  (avU:bx K (.ref r) "__getattribute__" = ah (ah (.builtin "BaseException.__getattribute__"))) (avH:bx K (.ref r) "__getattr__" = ah ak) (azR:bx K (.ref r) "__class__" = ah (ah (.builtin "object.__class__"))) (aBJ:b4 K (.ref r) (.type "BaseException")=ah au) (amK:b4 K (.ref r) (.type "object")=ah au)
  (adC:b4 K (.ref U) (.type "ValueError")=ah au)
  (afN:b4 K (.ref U) (.ref u)=ah au)
  (afR:b4 K (.ref U) (.ref U)=ah au)
  (afT:b4 K (.ref U) (.ref m)=ah ao)
  (afS:b4 K (.ref U) (.ref n)=ah ao)
  (afQ:b4 K (.ref U) (.ref o)=ah ao)
  (afL:b4 K (.ref U) (.ref x)=ah ao)
  (afO:b4 K (.ref U) (.ref a)=ah ao)
  (afM:b4 K (.ref U) (.ref b)=ah ao)
  (afP:b4 K (.ref U) (.ref r)=ah ao)
  (adB:b4 K (.ref a) (.type "ValueError")=ah au)
  (afB:b4 K (.ref a) (.ref u)=ah au)
  (afF:b4 K (.ref a) (.ref U)=ah ao)
  (afH:b4 K (.ref a) (.ref m)=ah ao)
  (afG:b4 K (.ref a) (.ref n)=ah ao)
  (afE:b4 K (.ref a) (.ref o)=ah ao)
  (ae9:b4 K (.ref a) (.ref x)=ah ao)
  (afC:b4 K (.ref a) (.ref a)=ah au)
  (afA:b4 K (.ref a) (.ref b)=ah ao)
  (afD:b4 K (.ref a) (.ref r)=ah ao)
  (adA:b4 K (.ref b) (.type "ValueError")=ah au)
  (ae0:b4 K (.ref b) (.ref u)=ah au)
  (ae4:b4 K (.ref b) (.ref U)=ah ao)
  (ae6:b4 K (.ref b) (.ref m)=ah ao)
  (ae5:b4 K (.ref b) (.ref n)=ah ao)
  (ae3:b4 K (.ref b) (.ref o)=ah ao)
  (aeY:b4 K (.ref b) (.ref x)=ah ao)
  (ae1:b4 K (.ref b) (.ref a)=ah ao)
  (aeZ:b4 K (.ref b) (.ref b)=ah au)
  (ae2:b4 K (.ref b) (.ref r)=ah ao)
  (A:qH K mg "NoTimes")
  (HZ:qH K mg "Unlike")
  {j:aq} (q:cc K aw "Often" = ah (ah (.ref j))) (z:mS K j)
  (Tw:bx K (.ref j) "keep" = ah ak)
  (an0:bx K (.ref j) "lost" = ah ak)
  (Tv:bx K (.ref j) "many" = ah ak)
  (Tu:bx K (.ref j) "taken" = ah ak)
  (anZ:bx K (.ref j) "tally" = ah ak)
  (arI:bx K (.ref j) "__class__" = ah (ah (.builtin "object.__class__"))) (arB:specialIn K (.builtin "object.__class__") "__get__" = ah (ah (.builtin "getset_descriptor.__get__"))) (aqZ:takesIn K (.builtin "object.__class__")=ah au) (arE:mroIn K j (.type "object")=ah au)
  {L:aq} (c:cc K aw "Gaps" = ah (ah (.ref L))) (f:mS K L)
  (Ua:bx K (.ref L) "keep" = ah ak)
  (an2:bx K (.ref L) "laid" = ah ak)
  (Tz:bx K (.ref L) "many" = ah ak)
  (an1:bx K (.ref L) "newest" = ah ak)
  (Tx:bx K (.ref L) "taken" = ah ak)
  (arJ:bx K (.ref L) "__class__" = ah (ah (.builtin "object.__class__"))) (arC:specialIn K (.builtin "object.__class__") "__get__" = ah (ah (.builtin "getset_descriptor.__get__"))) (aq0:takesIn K (.builtin "object.__class__")=ah au) (arF:mroIn K L (.type "object")=ah au)
  (aoY:c7 K (.ref j) (.ref L)=ah ao)
  (aoZ:c7 K (.ref L) (.ref j)=ah ao)
  (ajC:OJ K j "Often.__init__" FC)
  (aiY:iK K j "same_kind" "Often.same_kind" Bj)
  (aiX:iK K j "take" "Often.take" Bi)
  (aiW:iK K j "take_in" "Often.take_in" Bh)
  (ajB:iK K j "count_in" "Often.count_in" Bw)
  (ai8:iK K j "cut_down" "Often.cut_down" Bt)
  (ai9:iK K j "counts" "Often.counts" Bu)
  (ai5:iK K j "kept" "Often.kept" Bq)
  (ai1:iK K j "off" "Often.off" Bm)
  (ajA:iK K j "counted" "Often.counted" Bv)
  (ai0:iK K j "often" "Often.often" Bl)
  (ajS:OJ K L "Gaps.__init__" FD)
  (ajK:iK K L "same_kind" "Gaps.same_kind" By)
  (ajJ:iK K L "take" "Gaps.take" Bx)
  (ajO:iK K L "newest_pouch" "Gaps.newest_pouch" Cc)
  (ajM:iK K L "parts" "Gaps.parts" Ca)
  (ajN:iK K L "off" "Gaps.off" Cb)
  (ai7:iK K j "held" "Pouch.held" Bs)
  (ai6:iK K j "join" "Pouch.join" Br)
  (ai4:iK K j "length" "Pouch.length" Bp)
  (ai3:iK K j "look_room" "Pouch.look_room" Bo)
  (ai2:iK K j "numbers" "Pouch.numbers" Bn)
  {ad4:Tok} (Rz:OD K j "put" "Pouch.put" BE #[.int 1 ad4])
  (aiZ:iK K j "puts" "Pouch.puts" Bk)
  (ajR:iK K L "join" "Pouch.join" Cf)
  (ajQ:iK K L "length" "Pouch.length" Ce)
  (ajP:iK K L "look_room" "Pouch.look_room" Cd)
  {ad5:Tok} (Sa:OD K L "put" "Pouch.put" BF #[.int 1 ad5])
  (ajL:iK K L "puts" "Pouch.puts" Bz)
  (atV:OO K mg "Pouch" "__init__" "Pouch.__init__" BD)
  (atU:OO K mg "RankPouch" "__init__" "Pouch.__init__" BD)
  : ∃fd:ck,(∀(s:ar) (v:aj),BindsTo s fd ⟨[v],[]⟩ [("_law_script",v)])/\∀base:bu,K.In base->base.Ns aw mg->gR l.prog w K mg base pS 10 fa fd ["_law_script"] (RH K):=by
 have e:=hfa.symm.trans (mg_of X G al);cases e;have Nw:XC K u:=⟨⟨_,_,_,_,_,_,_,_,_,_,_,_,_,_,_,_,amZ⟩,avS,avF,azP,aBH,amI⟩;have Nj:kE K mg "RankError":=⟨u,Nw,mg_of X G I,I⟩;have Oa:XC K U:=⟨⟨_,_,_,_,_,_,_,_,_,_,_,_,_,_,_,_,am3⟩,avW,avJ,azT,aBL,amM⟩;have Nm:kE K mg "NoRow":=⟨U,Oa,mg_of X G g,g⟩;have Oc:XC K m:=⟨⟨_,_,_,_,_,_,_,_,_,_,_,_,_,_,_,_,am5⟩,avY,avL,azV,aBN,amO⟩;have Np:kE K mg "NoPlace":=⟨m,Oc,mg_of X G D,D⟩;have Ob:XC K n:=⟨⟨_,_,_,_,_,_,_,_,_,_,_,_,_,_,_,_,am4⟩,avX,avK,azU,aBM,amN⟩;have Nn:kE K mg "NoPouch":=⟨n,Ob,mg_of X G E,E⟩;have Nz:XC K o:=⟨⟨_,_,_,_,_,_,_,_,_,_,_,_,_,_,_,_,am2⟩,avV,avI,azS,aBK,amL⟩;have Nl:kE K mg "NoSize":=⟨o,Nz,mg_of X G F,F⟩;have Nu:XC K x:=⟨⟨_,_,_,_,_,_,_,_,_,_,_,_,_,_,_,_,amX⟩,avQ,avD,azN,aBF,amG⟩;have Ni:kE K mg "Wrong":=⟨x,Nu,mg_of X G N,N⟩;have Nx:XC K a:=⟨⟨_,_,_,_,_,_,_,_,_,_,_,_,_,_,_,_,am0⟩,avT,avG,azQ,aBI,amJ⟩;have EG:kE K mg "NoTimes":=⟨a,Nx,mg_of X G i,i⟩;have Nv:XC K b:=⟨⟨_,_,_,_,_,_,_,_,_,_,_,_,_,_,_,_,amY⟩,avR,avE,azO,aBG,amH⟩;have EF:kE K mg "Unlike":=⟨b,Nv,mg_of X G k,k⟩;have Ny:XC K r:=⟨⟨_,_,_,_,_,_,_,_,_,_,_,_,_,_,_,_,am1⟩,avU,avH,azR,aBJ,amK⟩;have Nk:kE K mg "NoText":=⟨r,Ny,mg_of X G H,H⟩;have pP:rO K ["NoRow", "NoTimes", "Unlike"] ["RankError", "NoRow", "NoPlace", "NoPouch", "NoSize", "Wrong", "NoTimes", "Unlike", "NoText"]:=⟨(eN (sF I Nw) (eN (sF g Oa) (eN (sF D Oc) (eN (sF E Ob) (eN (sF F Nz) (eN (sF N Nu) (eN (sF i Nx) (eN (sF k Nv) (eN (sF H Ny) GZ))))))))),(eN (eN (iQ g I afN) (eN (iQ g g afR) (eN (iQ g D afT) (eN (iQ g E afS) (eN (iQ g F afQ) (eN (iQ g N afL) (eN (iQ g i afO) (eN (iQ g k afM) (eN (iQ g H afP) GZ))))))))) (eN (eN (iQ i I afB) (eN (iQ i g afF) (eN (iQ i D afH) (eN (iQ i E afG) (eN (iQ i F afE) (eN (iQ i N ae9) (eN (iQ i i afC) (eN (iQ i k afA) (eN (iQ i H afD) GZ))))))))) (eN (eN (iQ k I ae0) (eN (iQ k g ae4) (eN (iQ k D ae6) (eN (iQ k E ae5) (eN (iQ k F ae3) (eN (iQ k N aeY) (eN (iQ k i ae1) (eN (iQ k k aeZ) (eN (iQ k H ae2) GZ))))))))) GZ))),(eN (sF g adC) (eN (sF i adB) (eN (sF k adA) GZ))),by decide⟩;have JI:bY K ["Often", "Gaps"] "keep":=pA q z Tw (pA c f Ua (rF));have EH:bY K ["Gaps"] "keep":=pA c f Ua (rF);have AR:bY K ["Often"] "keep":=pA q z Tw (rF);have AQ:bY K ["Gaps"] "laid":=pA c f an2 (rF);have P:bY K ["Often"] "lost":=pA q z an0 (rF);have JH:bY K ["Often", "Gaps"] "many":=pA q z Tv (pA c f Tz (rF));have Q:bY K ["Gaps"] "many":=pA c f Tz (rF);have R:bY K ["Often"] "many":=pA q z Tv (rF);have rV:bY K ["Gaps"] "newest":=pA c f an1 (rF);have JG:bY K ["Often", "Gaps"] "taken":=pA q z Tu (pA c f Tx (rF));have T:bY K ["Gaps"] "taken":=pA c f Tx (rF);have V:bY K ["Often"] "taken":=pA q z Tu (rF);have C:bY K ["Often"] "tally":=pA q z anZ (rF);have HW:=aq1 q c ⟨z,arI,arB,aqZ,arE⟩ ⟨f,arJ,arC,aq0,arF⟩ (by decide) aoY aoZ;have Mp:OP K mg "Gaps":=⟨L,mg_of X G c,c⟩;have Mn:OP K mg "Often":=⟨j,mg_of X G q,q⟩;have FL:=ND (st:=wM) ll lc lk;refine⟨fnOf "law" "law" (kO wM) (eZ wM) (aY wM) .none kV dc pm an cd ct,λs v => .of_eq rfl,λbase _ _=>?_⟩;have Mu:=@axJ l.prog w K mg base B at6;have Mx:=@axR l.prog w K mg base B at9;have wF:=@axZ l.prog w K mg base B auH;have yK:=@axS l.prog w K mg base B auA;have My:=@axU l.prog w K mg base B auC;have Nb:=@ax0 l.prog w K mg base B auI;have ED:∀{p d:aq} {oe:cj} {e:Exc},EE K oe d e->AN l.prog w K mg base "_law_alone" 1 ["_law_error"] p oe (AK p e):=λhe=>ax8 B auQ Np Nn Nm Nl Nk Nj Ni pP he;have OL:=@Yg l.prog w K mg base B JI JH JG _ atV;have OK:=@Yg l.prog w K mg base B JI JH JG _ atU;have Lr:=@ayB l.prog w K mg base B Mn HW _ (aiY.has X G q z);have II:=@ayP l.prog w K mg base B C _ (ajB.has X G q z);have W:=@ayN l.prog w K mg base B C _ (ai9.has X G q z);have IF:=@ayJ l.prog w K mg base B C _ (ai5.has X G q z);have y:=@ayF l.prog w K mg base B P _ (ai1.has X G q z);have IH:=@ayO l.prog w K mg base B P C _ (ajA.has X G q z);have Lw:=@ayR l.prog w K mg base B Mp HW _ (ajK.has X G c f);have AD:=@ayQ l.prog w K mg base B EH rV _ (ajJ.has X G c f);have vY:=@ayI l.prog w K mg base B R _ (ai4.has X G q z);have uQ:=@ayH l.prog w K mg base B uJ R A _ (ai3.has X G q z);have S:=@ayC l.prog w K mg base B V _ (aiZ.has X G q z);have XI:=@ayY l.prog w K mg base B Q _ (ajQ.has X G c f);have uR:=@ayX l.prog w K mg base B uJ Q A _ (ajP.has X G c f);have DJ:=@ayS l.prog w K mg base B T _ (ajL.has X G c f);have Mt:=@axI l.prog w K mg base B at4 Mu;have PL:=@ax6 l.prog w K mg base B auO wF;have Ng:=@ax5 l.prog w K mg base B auN yK IH y;have qM:=@axW l.prog w K mg base B auE W vY y S;have IG:=@ayM l.prog w K mg base B Mx AR P C _ (ai8.has X G q z);have Lv:=@ayL l.prog w K mg base B IF _ (ai7.has X G q z);have IE:=@ayG l.prog w K mg base B IF _ (ai2.has X G q z);have Lz:=@ayZ l.prog w K mg base B EH Q T uR Lw HZ _ (ajR.has X G c f);have DK:=@ayT l.prog w K mg base B Q T uR AD A _ _ (Sa.has X G c f);have Lg:=@awZ l.prog w K mg base B Q T uR AD A _ _ (Sa.has X G c f);have Mw:=@axM l.prog w K mg base B at8 uJ;have Nf:=@ax4 l.prog w K mg base B auM yK W Lv vY IE y;have IS:=@aw3 l.prog w K mg base B OL P C _ (ajC.has X G q);have AB:=@ayA l.prog w K mg base B II IG _ (aiX.has X G q z);have Lq:=@ax9 l.prog w K mg base B P II W IG _ (aiW.has X G q z);have Ls:=@ayE l.prog w K mg base B IH IE _ (ai0.has X G q z);have Mh:=@aw4 l.prog w K mg base B OK AQ rV _ (ajS.has X G c);have Mv:=@axK l.prog w K mg base B at7 Mw Mt;have Na:=@axY l.prog w K mg base B auG y Ls;have Lu:=@ayK l.prog w K mg base B AR R V uQ Lr Lq HZ _ (ai6.has X G q z);have DI:=@ayD l.prog w K mg base B R V uQ AB A _ _ (Rz.has X G q z);have Lf:=@awY l.prog w K mg base B R V uQ AB A _ _ (Rz.has X G q z);have YF:=@axT l.prog w K mg base B auB Ng Nf Na y;have EB:=@axX l.prog w K mg base B auF EG EF ED DK DI pP;have EC:=@ax2 l.prog w K mg base B auK EG EF ED Lz Lu pP;have Ly:=@ayW l.prog w K mg base B Mv rV _ (ajO.has X G c f);have Nh:=@ax7 l.prog w K mg base B auP EB qM;have Nc:=@ax1 l.prog w K mg base B auJ EC qM S;have Lx:=@ayU l.prog w K mg base B AQ Ly _ (ajM.has X G c f);have XH:=@ayV l.prog w K mg base B Lx _ (ajN.has X G c f);have Mz:=@axV l.prog w K mg base B auD EC qM XI XH DJ vY y S;have Nd:=@ax3 l.prog w K mg base B auL Nh Nc Nb wF EB Mz My;exact aoT (axO B FL PL Nd wF YF Mh IS DK DJ DI S Lg Lf) M.aoV
theorem walk{l:OpenLaw}{q:a9}{loose:ai a5}{XP:(a5->av aj)->bu->Prop}{YP:bh->bu->Prop}{d:DefRec}{K:Params->ba}(hn:l.most=ah 63)(B:d.params.defaults=[])
  (j:∀(w:bh) (h:bu),YP w h->(K w.params).In h)
  (F:∀(w:bh) (mg:a5->av aj) (fa:aq) (h:bu),(K w.params).In h->h.Ns aw mg->mg d.name=ah (.ref fa) ->
   ∃fd:ck,(∀(s:ar) (u:aj),BindsTo s fd ⟨[u],[]⟩ [("_law_script",u)])/\∀base:bu,(K w.params).In base->base.Ns aw mg->gR l.prog w (K w.params) mg base pS 10 fa fd ["_law_script"] (RH (K w.params))) :
  PySem.W.WalkO q loose XP YP l.row.toRowW d [] (λf vs=>PySem.call f vs) :=
 L2.acF (n:=63) (k:=10) (x := "_law_script") (CX:=λ_=>pS) (sp:=λw=>RH (K w.params)) hn (by decide) B ⟨rfl,by decide,by decide⟩ j F (λ_ _ a ns hl _ hS=>⟨a,ns,rfl,hS,hl,λ_=>rfl⟩) λ_ _ _ _ _ z=>z
end Mi
open PySem PySem.W PyProof.Rows
open PySem PySem.W PyProof.Rows
local macro_rules
  | `(tactic| o_head $H) => `(tactic| refine holds_open (q := HD.kept) (loose := [Str.ofString "upto_asks", Str.ofString "below_asks"]) (N := 9158) (Xt := HD.seenX)
      (XP := XL HD.kept []) (Yf := Hook.obs $H) (Ya := Hook.val $H) (YP := Hook.says $H)
      ?_ (Hook.of $H) (Hook.keeps $H) (fun s e => xl_of s (Bool.and_eq_true_iff.mp e).1) XL.keeps
      (by rfl) (by rfl) (by rfl) (fun s e => recFacts_of (Bool.and_eq_true_iff.mp e).2)
      (by rfl) (by assumption) (by decide +kernel) ⟨rfl, rfl, rfl, rfl, rfl, by decide +kernel⟩ ?_ ?_)
set_option maxRecDepth 100000 in
set_option maxHeartbeats 0 in
theorem PySem.Challenge.cw_rankpouch_k63_often_joined_holds : PySem.Challenge.rw_rankpouch_k63_often_joined.Holds := by
 w_on
 refine holds_law HD.said fun said => ?_
 k_head
 ·clear said
  refine HD.left HD.plain (by kernel_rfl) (by kernel_rfl) HD.fence HD.pre HD.blk HD.one HD.tests HD.looks HD.obsM ?_
  intro w os
  kernel_rfl
 ·clear said
  w_witness2
 clear said

 k_fill
 refine Mi.walk (l:=PySem.Challenge.rw_rankpouch_k63_often_joined) rfl rfl (λw h ρ=>PySem.W.km_in_of ρ) ?F
 case F =>
  as_aux_lemma =>
   intro w mg fa h KX G MD
   refine' Mi.all_mk KX G MD ?_ ?_ ?_ ?_ ⟨qX KX G ?_,qX KX G ?_,qX KX G ?_,qX KX G ?_,qX KX G ?_,qX KX G ?_,qX KX G ?_,qX KX G ?_,qX KX G ?_,qX KX G ?_,qX KX G ?_,qX KX G ?_,qX KX G ?_,qX KX G ?_⟩ (L2.kL KX G ?_ ?_ ?_ ?_) (L2.kL KX G ?_ ?_ ?_ ?_) (L2.kL KX G ?_ ?_ ?_ ?_) (L2.kL KX G ?_ ?_ ?_ ?_) (L2.kL KX G ?_ ?_ ?_ ?_) (L2.kL KX G ?_ ?_ ?_ ?_) (L2.kL KX G ?_ ?_ ?_ ?_) (L2.kL KX G ?_ ?_ ?_ ?_) (L2.kL KX G ?_ ?_ ?_ ?_) (L2.kL KX G ?_ ?_ ?_ ?_) (L2.kL KX G ?_ ?_ ?_ ?_) (L2.kL KX G ?_ ?_ ?_ ?_) (L2.kL KX G ?_ ?_ ?_ ?_) (L2.kL KX G ?_ ?_ ?_ ?_) (L2.kL KX G ?_ ?_ ?_ ?_) (L2.kL KX G ?_ ?_ ?_ ?_) (L2.kL KX G ?_ ?_ ?_ ?_) (L2.kL KX G ?_ ?_ ?_ ?_) (L2.kL KX G ?_ ?_ ?_ ?_) (L2.kL KX G ?_ ?_ ?_ ?_) (L2.kL KX G ?_ ?_ ?_ ?_) (L2.kL KX G ?_ ?_ ?_ ?_) (V2.ay6 KX G ?_) ?_ ?_ ?_ ?_ ?_ ?_ ?_ ?_ ?_ ?_ ?_ ?_ ?_ ?_ ?_ ?_ ?_ ?_ ?_ ?_ ?_ ?_ ?_ ?_ ?_ ?_ ?_ ?_ ?_ ?_ ?_ ?_ ?_ ?_ ?_ ?_ ?_ ?_ ?_ ?_ ?_ ?_ ?_ ?_ ?_ ?_ ?_ ?_ ?_ ?_ ?_ ?_ ?_ ?_ ?_ ?_ ?_ ?_ ?_ ?_ ?_ ?_ ?_ ?_ ?_ ?_ ?_ ?_ ?_ ?_ ?_ ?_ ?_ ?_ ?_ ?_ ?_ ?_ ?_ ?_ ?_ ?_ ?_ ?_ ?_ ?_ ?_ ?_ ?_ ?_ ?_ ?_ ?_ (V2.Tc KX G ?_ ?_) (V2.Tc KX G ?_ ?_) ?_ ⟨?_,?_,?_,?_⟩ ?_ ?_ ?_ ?_ ?_ ?_ ?_ ?_ ?_ ?_ ⟨?_,?_,?_,?_⟩ ?_ ?_ ?_ ?_ ?_ ?_ ?_ ?_ ?_ ?_ ?_ (V2.Vm ?_ ?_ ?_ ?_ ?_ ?_ ?_) (V2.jC ?_ ?_ ?_ ?_ ?_) (V2.jC ?_ ?_ ?_ ?_ ?_) (V2.jC ?_ ?_ ?_ ?_ ?_) (V2.jC ?_ ?_ ?_ ?_ ?_) (V2.jC ?_ ?_ ?_ ?_ ?_) (V2.jC ?_ ?_ ?_ ?_ ?_) (V2.jC ?_ ?_ ?_ ?_ ?_) (V2.jC ?_ ?_ ?_ ?_ ?_) (V2.jC ?_ ?_ ?_ ?_ ?_) (V2.jC ?_ ?_ ?_ ?_ ?_) (V2.Vm ?_ ?_ ?_ ?_ ?_ ?_ ?_) (V2.jC ?_ ?_ ?_ ?_ ?_) (V2.jC ?_ ?_ ?_ ?_ ?_) (V2.jC ?_ ?_ ?_ ?_ ?_) (V2.jC ?_ ?_ ?_ ?_ ?_) (V2.jC ?_ ?_ ?_ ?_ ?_) (V2.jC ?_ ?_ ?_ ?_ ?_) (V2.jC ?_ ?_ ?_ ?_ ?_) (V2.jC ?_ ?_ ?_ ?_ ?_) (V2.jC ?_ ?_ ?_ ?_ ?_) (V2.jC ?_ ?_ ?_ ?_ ?_) (V2.Ub ?_ ?_ ?_ ?_ ?_ ?_) (V2.jC ?_ ?_ ?_ ?_ ?_) (V2.jC ?_ ?_ ?_ ?_ ?_) (V2.jC ?_ ?_ ?_ ?_ ?_) (V2.jC ?_ ?_ ?_ ?_ ?_) (V2.Ub ?_ ?_ ?_ ?_ ?_ ?_) (V2.jC ?_ ?_ ?_ ?_ ?_) (V2.Zr KX G ?_ ?_ ?_ ?_ ?_ ?_ ?_) (V2.Zr KX G ?_ ?_ ?_ ?_ ?_ ?_ ?_) <;> try first|k_is|kernel_rfl|k_exc
