import PyProof.Rows.All
import Wide.All
import OpenK.AllK
import Wide.FinOn
import HandS.ForMost
import HandS.IsInst
import HandS.Conv
import HandS.TupAny
import HandS.TupMul
import HandS.Codes
import HandS.Replace
import KE.GoesEnum
import HandS.Walk
import HandS.Steps
import HandS.NestedK
import KE.KDictKeyed
import KE.KeyNested
import HandS.EndTab
import HandS.Style
import PyProof.Rows.StrRev
import KE.GoesMore
import KE.KTurns
import HandS.Zip
import KE.KDictDisplayH
import KE.LtData
import KE.SortData
import HandS.Set
import HandS.SetTxt0
import HandS.SetFor
import HandS.DictComp
import HandS.SetKeys
import HandS.SortRule
import PyProof.StrLawsOcc
import HandS.TupLen
import PySem.Challenge.RW_unitlimits_k47_roads_that_part
set_option Elab.async false
set_option linter.all false
set_option maxRecDepth 100000
set_option maxHeartbeats 2000000
namespace U
open PySem PySem.Spec PyProof.Rows L2

/-! ### defs that are run where no guard is on the stack (for repr of lists and tuples) -/
/-- as FnOk, but asked only where no guard runs -/
structure FnG (P : Program) (w : World) (K : PySem.W.Frag) (mg : Str → Option Value) (base : Heap) (k : Nat) (f : Addr) (fd : FuncData) (ps : List Str) (sp : Sp) : Prop where
  arity : ∀ vs H Q E, sp vs H Q E → vs.length = ps.length
  runs : ∀ (A : Around) (outer : List Env) (s : Shared) (H : Hp) (args : Args) (us : List Value) (vs : List V) (Q : VK) (E : XK), A.guards = some [] → Room k A → Env0 P w K mg base A outer s H →
    BindsTo s fd args (ps.zip us) → Vals vs us → sp vs H Q E → codeAny (model P w) A (.call (.ref f) args) (CR CX0 outer P w H s Q E) s

section
variable {P : Program} {w : World} {K : PySem.W.Frag} {mg : Str → Option Value} {base : Heap}
theorem FnG.of {k : Nat} {f : Addr} {fd : FuncData} {ps : List Str} {sp : Sp} (F : FnOk P w K mg base CX0 k f fd ps sp) : FnG P w K mg base k f fd ps sp :=
  ⟨F.len, fun A o s H a us vs Q E _ => F.run A o s H a us vs Q E⟩
theorem FnG.more {j k : Nat} {f : Addr} {fd : FuncData} {ps : List Str} {sp : Sp} (F : FnG P w K mg base j f fd ps sp) (h : j ≤ k) : FnG P w K mg base k f fd ps sp :=
  ⟨F.arity, fun A o s H a us vs Q E g hr => F.runs A o s H a us vs Q E g (hr.mono h)⟩

/-- the body's rule, as Fun.ok, with the guards told -/
theorem okG {x qual : Str} {st : Stmt} {f : Addr} {fd : FuncData} {N ps : List Str} {k : Nat} {sp : Sp} (F : Fun K x qual st f fd) (S : FnScope N ps (defScope st)) (len : ∀ vs H Q E, sp vs H Q E → vs.length = ps.length)
    (hbody : ∀ (cdv : Value) (A : Around) (outer : List Env) (s : Shared) (H : Hp) (vs : List V) (Q : VK) (E : XK), A.guards = some [] → Room k (A.deeper (envOfC qual (defScope st) s.heap.objs.size f cdv)) → sp vs H Q E →
      ∃ t, PSs (cxOf CX0 P w K mg base N qual (defScope st) f cdv A outer s H E).nox (defBody st) t ∧ t { nx := fun _ H' => Q .non H', rt := Q } (start N vs) H) : FnG P w K mg base (k + 1) f fd ps sp := by
  obtain ⟨oc, od, kV, doc, pm, an, cdv, ct, osl, rfl, lk, hcd⟩ := F.ex
  refine ⟨len, fun A outer s H args us vs Q E hg hr e0 hb rel hsp => ?_⟩
  have nargs := len _ _ _ _ hsp
  have inH : K.In s.heap := e0.mod.kin.keeps (fun b o e => And.left (e0.bs b o e))
  have noLim : s.heap.NoLimit := e0.mod.nolimit.keeps (fun b o e => And.left (e0.bs b o e))
  have kinds : ∀ y ∈ ps.zip us, (defScope st).names.lookup y.1 = some .local ∨ ((defScope st).names.lookup y.1 = some .cell ∧ ((cellsFrom (s.heap.objs.size + 1) (defScope st).names []).lookup y.1).isSome = true) := by
    rintro ⟨n, v⟩ hy
    cases S.par n (List.of_mem_zip hy).1 with
    | inl q => exact Or.inl q
    | inr q => exact Or.inr ⟨q, PySem.W.cellsFrom_some _ _ _ (Or.inl q)⟩
  apply codeAny_call_function hr.depth (inH _ _ lk) rfl S.co S.gen rfl (PySem.W.codeRec_of inH hcd)
  refine hb _ _ _ _ (wpAny_newFunctionEnv_cells S.kind kinds fun env he s1 inC => ?_)
  cases he
  obtain ⟨t, ht, start_ok⟩ := hbody cdv A outer s H vs Q E hg (hr.deeper _) hsp
  have I0 : Inv (cxOf CX0 P w K mg base N qual (defScope st) f cdv A outer s H E) [] (start N vs) H s1 := inv_start S hr.hd e0 nargs rel inC
  have done : ∀ {σ' : L2.St} {H' : Hp} {v : V} {u : Value} {s' : Shared}, Inv (cxOf CX0 P w K mg base N qual (defScope st) f cdv A outer s H E) [] σ' H' s' → RelV v u → Q v H' → CE outer P w H s Q u s' :=
    fun {σ' H' v u s'} J rv q => ⟨v, H', J.os, J.bare, J.base, J.hok, rv, q⟩
  refine ⟨noLim.keeps inC.toInCall.keep, codeAny_func (wpAny_mono (ht.nox.run [] s1 (start N vs) H _ I0 start_ok) (fun fl s' hs => ?_) (fun _ _ z => z))⟩
  cases fl with
  | next =>
    obtain ⟨σ', H', J, q⟩ := hs
    exact done (v := V.non) (u := Value.none) J rfl q
  | ret u =>
    obtain ⟨v, σ', H', J, rv, q⟩ := hs
    exact done J rv q
  | brk => exact False.elim (let ⟨_, _, _, q⟩ := hs; q)
  | cont => exact False.elim (let ⟨_, _, _, q⟩ := hs; q)
end

section
variable {X : Cx} {k : Nat} {f : Addr} {fd : FuncData} {ps : List Str} {sp : Sp} {E : XK} {x : Str} {p pos : Pos} {e : Expr} {es : List Expr} {t : TA}
theorem pe_callG (hG : X.A.guards = some []) (F : FnG X.prog X.w X.K X.mg X.base k f fd ps sp) (hr : Room k X.A) (hg : Gl X x) (hm : X.mg x = some (.ref f)) (hk : PySem.W.keepIn X.K (.ref f) = true) (hb : Binds X.K fd ps [])
    (ha : PA X (e :: es) t) (hdb : (x == ("__debug__" : Str)) = false := by decide) (he : starEach (e :: es) X.env = (false, eval e X.env) :: starEach es X.env := by rfl) (hpl : (backTo pos (starEach es X.env)).any (·.1) = false := by rfl) :
    PE X (.Call (.Name x p) (e :: es) [] pos) (tCall sp [] E0 t) := by
  constructor
  intro pins s σ H Q I h
  apply wpAny_Call_Name_kw
  apply ld_glob I hg hm _ hdb
  apply PySem.W.callWith_K (h₀ := X.base) I.ok.mod.kin hk _ he hpl
  refine thn (ha.run pos pins s σ H _ I h) ?_
  rintro us s1 ⟨vs, H1, I1, r, q⟩
  refine ⟨I1.kIn, ?_⟩
  have q' : sp vs H1 Q E0 := by
    have z : sp (vs ++ []) H1 Q E0 := q
    rwa [List.append_nil] at z
  have nargs : (us ++ []).length = ps.length := by rw [List.append_nil, ← r.length]; exact F.arity _ _ _ _ q'
  have bd := hb s1 us I1.kIn nargs
  rw [List.append_nil] at bd
  apply wpAny_call
  refine codeAny_mono (F.runs X.A X.stack s1 H1 ⟨us, []⟩ us vs Q E0 hG hr I1.env0 bd r q') ?_
  intro res s' hres
  match res, hres with
  | .ok (.ret u), hres => exact I1.after hres
  | .ok .next, hres => exact False.elim hres
  | .ok .brk, hres => exact False.elim hres
  | .ok .cont, hres => exact False.elim hres
  | .error _, hres => exact False.elim hres
end

/-! ### the end of a law over such a def -/
theorem lawG {P : Program} {w : World} {K : PySem.W.Frag} {mg mb : Str → Option Value} {k : Nat} {fa a : Addr} {fd : FuncData} {x : Str} {sp : Sp} {s₁ : Shared} {vs : List Value} {ns : List Int}
    (inK : K.In s₁.heap) (glo : s₁.heap.Ns mainGlobals mg) (blt : s₁.heap.Ns builtinsNs mb) (boot : ∀ x : Str, x ≠ "__name__" → mb x = bootBuiltins x) (noLim : s₁.heap.NoLimit) (noGen : s₁.gens = #[])
    (scr : s₁.heap.get? a = some { cls := .type "list", data := .seq vs.toArray }) (nums : IntsAre vs ns) (small : ns.length ≤ sizeLine) (room : Room k callerA)
    (F : ∀ base : Heap, K.In base → base.Ns mainGlobals mg → FnG P w K mg base k fa fd [x] sp) (bind : ∀ (s : Shared) (u : Value), BindsTo s fd ⟨[u], []⟩ [(x, u)])
    (hsp : ∀ H : Hp, Only H → SqL K H a (ns.map V.int) → sp [.ref a] H (fun v _ => v = .bl true) E0) :
    codeAny (model P w) callerA (.call (.ref fa) ⟨[.ref a], []⟩) (fun r s' => r = .ok (.ret (.bool true)) ∧ OldK s₁.heap s'.heap ∧ s'.os = s₁.os ∧ AllBare s'.gens) s₁ := by
  have rel : Vals (ns.map V.int) vs := vals_ints nums
  have many : vs.length = ns.length := nums.length
  -- what is tracked: the script, where it is no object of the module's own
  obtain ⟨H, hOnly, hScr, hOk, hAt, hOwn⟩ : ∃ H : Hp, Only H ∧ SqL K H a (ns.map V.int) ∧ HOk P w H s₁.heap ∧ (∀ b u, H b = some u → b = a) ∧ (∀ u, H a = some u → K.lookup a = none) := by
    cases own : K.lookup a with
    | some o =>
      have e := inK a o own
      rw [scr] at e
      cases e
      exact ⟨fun _ => none, fun _ => Or.inl rfl, Or.inr ⟨_, vs.toArray, _, own, rfl, rfl, rfl, by rw [List.size_toArray, many]; exact small, by simpa using rel⟩,
        (fun b u z => absurd (show (none : Option HO) = some u from z) (by simp)), (fun b u z => absurd (show (none : Option HO) = some u from z) (by simp)), fun u z => absurd (show (none : Option HO) = some u from z) (by simp)⟩
    | none =>
      have at_ : ∀ b u, (fun b => if b = a then some (HO.frz { cls := .type "list", data := .seq vs.toArray } (.lst (ns.map V.int))) else none : Hp) b = some u → b = a ∧ u = HO.frz { cls := .type "list", data := .seq vs.toArray } (.lst (ns.map V.int)) := by
        intro b u z
        by_cases hb : b = a
        · exact ⟨hb, (Option.some.inj ((if_pos hb).symm.trans z)).symm⟩
        · exact nomatch (if_neg hb).symm.trans z
      refine ⟨fun b => if b = a then some (.frz { cls := .type "list", data := .seq vs.toArray } (.lst (ns.map V.int))) else none, fun b => ?_, Or.inl (Or.inr ⟨_, if_pos rfl⟩), fun b u z => ?_, fun b u z => (at_ b u z).1, fun _ _ => rfl⟩
      · by_cases hb : b = a
        · exact Or.inr ⟨_, _, if_pos hb⟩
        · exact Or.inl (if_neg hb)
      · obtain ⟨rfl, rfl⟩ := at_ b u z
        exact ⟨scr, by rw [List.length_map]; exact small, vs, _, rel, scr⟩
  have dictFree : ∀ {b : Addr} {o : Obj} {es : Array DictEntry} {ep : Nat}, s₁.heap.get? b = some o → o.data = .dict es ep → H b = none := by
    intro b o es ep e d
    cases q : H b with
    | none => rfl
    | some u =>
      cases hAt b u q
      rw [scr] at e
      cases e
      exact nomatch (show Data.seq vs.toArray _ = Data.dict es ep from d)
  have nsKeep : ∀ {b : Addr} {m : Str → Option Value}, s₁.heap.Ns b m → (hidT s₁.heap H).Ns b m := by
    rintro b m ⟨o, es, ep, e, d, r⟩
    exact ⟨o, es, ep, hidT_get e (dictFree e d), d, r⟩
  have inB : K.In (hidT s₁.heap H) := by
    intro b o e
    refine hidT_get (inK b o e) ?_
    cases q : H b with
    | none => rfl
    | some u =>
      cases hAt b u q
      rw [hOwn u q] at e
      cases e
  have M : Mod K mg (hidT s₁.heap H) := by
    obtain ⟨mc, h1, h2⟩ := noLim
    exact ⟨inB, nsKeep glo, ⟨mb, nsKeep blt, boot⟩, ⟨mc, nsKeep h1, h2⟩⟩
  have env : Env0 P w K mg (hidT s₁.heap H) callerA [] s₁ H := by
    refine ⟨rfl, M, fun b o e => of_hidT e, Nat.le_of_eq (hidT_size _ _), trivial, fun b hb => ?_, hOk, .of_eq noGen⟩
    exact nomatch (show b ∈ ([] : List Addr) from hb)
  refine codeAny_mono ((F _ inB (nsKeep glo)).runs callerA [] s₁ H ⟨[.ref a], []⟩ [.ref a] [.ref a] _ _ rfl room env (bind s₁ (.ref a)) (.cons rfl .nil) (hsp H hOnly hScr)) ?_
  intro res s' hres
  match res, hres with
  | .error _, hres => exact False.elim hres
  | .ok .next, hres => exact False.elim hres
  | .ok .brk, hres => exact False.elim hres
  | .ok .cont, hres => exact False.elim hres
  | .ok (.ret u), hres =>
    obtain ⟨v, H', os, bare, un, ok', rv, q⟩ := hres
    cases (show v = .bl true from q)
    cases (show u = Value.bool true from rv)
    refine ⟨rfl, OldK.of_keep (fun b o e => ?_), os, bare⟩
    cases q : H b with
    | none => exact un.keep b o e q (fun z => nomatch (show b ∈ ([] : List Addr) from z)) (by simp)
    | some u =>
      rcases hOnly b with z | ⟨ob, xs, z⟩
      · rw [q] at z
        cases z
      · have before := (hOk b _ z).1
        have after := (ok' b _ (un.frzs b ob _ z)).1
        rw [e] at before
        cases before
        exact after

theorem walkG {l : PySem.W.OpenLaw} {n k : Nat} {q : Program} {loose : List Str} {XP : (Str → Option Value) → Heap → Prop} {YP : World → Heap → Prop} {d : DefRec} {K : Params → PySem.W.Frag} {sp : PySem.W.Frag → Sp} {x : Str}
    (many : l.most = some n) (small : n ≤ sizeLine) (noDef : d.params.defaults = []) (room : Room k callerA)
    (inK : ∀ (w : World) (h : Heap), YP w h → (K w.params).In h)
    (F : ∀ (w : World) (mg : Str → Option Value) (fa : Addr) (h : Heap), (K w.params).In h → h.Ns mainGlobals mg → mg d.name = some (.ref fa) →
      ∃ fd : FuncData, (∀ (s : Shared) (u : Value), BindsTo s fd ⟨[u], []⟩ [(x, u)]) ∧
        ∀ base : Heap, (K w.params).In base → base.Ns mainGlobals mg → FnG l.prog w (K w.params) mg base k fa fd [x] (sp (K w.params)))
    (hsp : ∀ (K : PySem.W.Frag) (H : Hp) (a : Addr) (ns : List Int), ns.length ≤ n → Only H → SqL K H a (ns.map V.int) → sp K [.ref a] H (fun v _ => v = .bl true) E0) :
    PySem.W.WalkO q loose XP YP l.row.toRowW d [] (fun f vs => PySem.call f vs) := by
  apply Att.attach_call many noDef
  intro w s₀ s₁ mg mb fa o pm cd doc a vs ns G Y ho hd hcd hmg hobj hints hlen hg
  obtain ⟨fd, hb, hF⟩ := F w mg fa _ (inK w _ Y) G.T.g hmg
  exact lawG (inK w _ Y) G.T.g G.T.b G.T.builtins G.T.nolimit hg hobj hints (Nat.le_trans hlen small) room hF hb fun H hO hS => hsp (K w.params) H a ns hlen hO hS
end U

set_option Elab.async false
set_option linter.all false
set_option maxRecDepth 100000
set_option maxHeartbeats 2000000
namespace U
open PySem PySem.Spec PyProof.Rows L2

/-! ### data in the heap, off the places that are written (M) -/
mutual
inductive T (K : PySem.W.Frag) (M : List Addr) (H : Hp) : V → PyData → Prop
  | non : T K M H .non .none
  | bl (b : Bool) : T K M H (.bl b) (.bool b)
  | int (i : Int) : T K M H (.int i) (.int i)
  | str (x : Str) : T K M H (.str x) (.str x)
  | lst {a : Addr} {xs : List V} {ds : List PyData} : a ∉ M → H a = some (.lst xs) → TA K M H xs ds → T K M H (.ref a) (.list ds)
  | tup {a : Addr} {xs : List V} {ds : List PyData} : a ∉ M → H a = some (.tup xs) → TA K M H xs ds → T K M H (.ref a) (.tuple ds)
  | dct {a : Addr} {kvs : List (Key × V)} {es : List (PyData × PyData)} : a ∉ M → H a = some (.dK kvs) → TK K M H kvs es → T K M H (.ref a) (.dict es)
inductive TA (K : PySem.W.Frag) (M : List Addr) (H : Hp) : List V → List PyData → Prop
  | nil : TA K M H [] []
  | cons {v : V} {vs : List V} {d : PyData} {ds : List PyData} : T K M H v d → TA K M H vs ds → TA K M H (v :: vs) (d :: ds)
inductive TK (K : PySem.W.Frag) (M : List Addr) (H : Hp) : List (Key × V) → List (PyData × PyData) → Prop
  | nil : TK K M H [] []
  | cons {k : Key} {v : V} {e d : PyData} {kvs : List (Key × V)} {es : List (PyData × PyData)} : T K M H (kV k) e → T K M H v d → TK K M H kvs es → TK K M H ((k, v) :: kvs) ((e, d) :: es)
end

/-- what was tracked off M stands as before -/
def Ext (M : List Addr) (H H' : Hp) : Prop := ∀ b o, b ∉ M → H b = some o → H' b = some o
theorem Ext.refl (M : List Addr) (H : Hp) : Ext M H H := fun _ _ _ h => h
theorem Ext.trans {M : List Addr} {H H1 H2 : Hp} (a : Ext M H H1) (b : Ext M H1 H2) : Ext M H H2 := fun c o h e => b c o h (a c o h e)
theorem Ext.same {M : List Addr} {H H' : Hp} (a : Same H H') : Ext M H H' := fun b o _ e => a b o e
theorem Ext.sub {M N : List Addr} {H H' : Hp} (a : Ext M H H') (h : ∀ b ∈ M, b ∈ N) : Ext N H H' := fun b o n e => a b o (fun z => n (h b z)) e
theorem Ext.new {M : List Addr} {H : Hp} {p : Addr} {o : HO} (h : H p = none) : Ext M H (upd H p o) := fun b u _ e => by
  rw [upd_ne (ne_of_none e h)]
  exact e
theorem Ext.put {M : List Addr} {H : Hp} {p : Addr} {o : HO} (h : p ∈ M) : Ext M H (upd H p o) := fun b u n e => by
  have q : b ≠ p := by
    rintro rfl
    exact n h
  rw [upd_ne q]
  exact e
theorem Same.new {H : Hp} {p : Addr} {o : HO} (h : H p = none) : Same H (upd H p o) := fun b u e => by
  rw [upd_ne (ne_of_none e h)]
  exact e
theorem Same.newer {H H' : Hp} {p : Addr} {o : HO} (s : Same H H') (h : H p = none) : Same H (upd H' p o) := fun b u e => by
  rw [upd_ne (ne_of_none e h)]
  exact s b u e

section
variable {K : PySem.W.Frag} {M N : List Addr} {H H' : Hp}
theorem SqT.ext {a : Addr} {xs : List V} (e : Ext M H H') (n : a ∉ M) (h : SqT K H a xs) : SqT K H' a xs := by
  rcases h with (h | ⟨o, h⟩) | h
  · exact Or.inl (Or.inl (e _ _ n h))
  · exact Or.inl (Or.inr ⟨o, e _ _ n h⟩)
  · exact Or.inr h
mutual
theorem T.ext (e : Ext M H H') : ∀ {v : V} {d : PyData}, T K M H v d → T K M H' v d
  | _, _, .non => .non
  | _, _, .bl b => .bl b
  | _, _, .int i => .int i
  | _, _, .str x => .str x
  | _, _, .lst n h t => .lst n (e _ _ n h) (TA.ext e t)
  | _, _, .tup n h t => .tup n (e _ _ n h) (TA.ext e t)
  | _, _, .dct n h t => .dct n (e _ _ n h) (TK.ext e t)
theorem TA.ext (e : Ext M H H') : ∀ {vs : List V} {ds : List PyData}, TA K M H vs ds → TA K M H' vs ds
  | _, _, .nil => .nil
  | _, _, .cons h t => .cons (T.ext e h) (TA.ext e t)
theorem TK.ext (e : Ext M H H') : ∀ {kvs : List (Key × V)} {es : List (PyData × PyData)}, TK K M H kvs es → TK K M H' kvs es
  | _, _, .nil => .nil
  | _, _, .cons h g t => .cons (T.ext e h) (T.ext e g) (TK.ext e t)
end
mutual
/-- off fewer places -/
theorem T.off (s : ∀ b ∈ N, b ∈ M) : ∀ {v : V} {d : PyData}, T K M H v d → T K N H v d
  | _, _, .non => .non
  | _, _, .bl b => .bl b
  | _, _, .int i => .int i
  | _, _, .str x => .str x
  | _, _, .lst n h t => .lst (fun z => n (s _ z)) h (TA.off s t)
  | _, _, .tup n h t => .tup (fun z => n (s _ z)) h (TA.off s t)
  | _, _, .dct n h t => .dct (fun z => n (s _ z)) h (TK.off s t)
theorem TA.off (s : ∀ b ∈ N, b ∈ M) : ∀ {vs : List V} {ds : List PyData}, TA K M H vs ds → TA K N H vs ds
  | _, _, .nil => .nil
  | _, _, .cons h t => .cons (T.off s h) (TA.off s t)
theorem TK.off (s : ∀ b ∈ N, b ∈ M) : ∀ {kvs : List (Key × V)} {es : List (PyData × PyData)}, TK K M H kvs es → TK K N H kvs es
  | _, _, .nil => .nil
  | _, _, .cons h g t => .cons (T.off s h) (T.off s g) (TK.off s t)
end
mutual
/-- off one more place, which is free -/
theorem T.plus {p : Addr} (hp : H p = none) : ∀ {v : V} {d : PyData}, T K M H v d → T K (p :: M) H v d
  | _, _, .non => .non
  | _, _, .bl b => .bl b
  | _, _, .int i => .int i
  | _, _, .str x => .str x
  | _, _, .lst n h t => .lst (fun z => (List.mem_cons.mp z).elim (ne_of_none h hp) n) h (TA.plus hp t)
  | _, _, .tup n h t => .tup (fun z => (List.mem_cons.mp z).elim (ne_of_none h hp) n) h (TA.plus hp t)
  | _, _, .dct n h t => .dct (fun z => (List.mem_cons.mp z).elim (ne_of_none h hp) n) h (TK.plus hp t)
theorem TA.plus {p : Addr} (hp : H p = none) : ∀ {vs : List V} {ds : List PyData}, TA K M H vs ds → TA K (p :: M) H vs ds
  | _, _, .nil => .nil
  | _, _, .cons h t => .cons (T.plus hp h) (TA.plus hp t)
theorem TK.plus {p : Addr} (hp : H p = none) : ∀ {kvs : List (Key × V)} {es : List (PyData × PyData)}, TK K M H kvs es → TK K (p :: M) H kvs es
  | _, _, .nil => .nil
  | _, _, .cons h g t => .cons (T.plus hp h) (T.plus hp g) (TK.plus hp t)
end
theorem T.same (s : Same H H') {v : V} {d : PyData} (h : T K M H v d) : T K M H' v d := T.ext (Ext.same s) h
theorem TA.same (s : Same H H') {v : List V} {d : List PyData} (h : TA K M H v d) : TA K M H' v d := TA.ext (Ext.same s) h
theorem TA.len : ∀ {vs : List V} {ds : List PyData}, TA K M H vs ds → vs.length = ds.length
  | _, _, .nil => rfl
  | _, _, .cons _ t => by rw [List.length_cons, List.length_cons, TA.len t]
theorem TA.get : ∀ {vs : List V} {ds : List PyData} {i : Nat} {v : V}, TA K M H vs ds → vs[i]? = some v → ∃ d, ds[i]? = some d ∧ T K M H v d
  | _, _, _, _, .nil, e => by simp at e
  | _, _, 0, _, .cons h _, e => by simp at e; subst e; exact ⟨_, rfl, h⟩
  | _, _, i + 1, _, .cons _ t, e => by
    obtain ⟨d, h1, h2⟩ := TA.get (i := i) t (by simpa using e)
    exact ⟨d, by simpa using h1, h2⟩
theorem TA.app : ∀ {vs us : List V} {ds es : List PyData}, TA K M H vs ds → TA K M H us es → TA K M H (vs ++ us) (ds ++ es)
  | _, _, _, _, .nil, s => s
  | _, _, _, _, .cons h t, s => .cons h (TA.app t s)
theorem TA.take : ∀ {vs : List V} {ds : List PyData} (n : Nat), TA K M H vs ds → TA K M H (vs.take n) (ds.take n)
  | _, _, 0, _ => .nil
  | _, _, _ + 1, .nil => .nil
  | _, _, n + 1, .cons h t => .cons h (TA.take n t)
theorem TA.drop : ∀ {vs : List V} {ds : List PyData} (n : Nat), TA K M H vs ds → TA K M H (vs.drop n) (ds.drop n)
  | _, _, 0, h => h
  | _, _, _ + 1, .nil => .nil
  | _, _, n + 1, .cons _ t => TA.drop n t
theorem TA.one {v : V} {d : PyData} (h : T K M H v d) : TA K M H [v] [d] := .cons h .nil
theorem TA.ints : ∀ (is : List Int), TA K M H (is.map V.int) (is.map PyData.int)
  | [] => .nil
  | i :: is => .cons (.int i) (TA.ints is)
theorem TA.bls : ∀ (is : List Bool), TA K M H (is.map V.bl) (is.map PyData.bool)
  | [] => .nil
  | i :: is => .cons (.bl i) (TA.bls is)
end

/-! ### such data is read off the concrete heap -/
section
variable {X : Cx} {pins : List (Addr × Obj)} {σ : L2.St} {H : Hp} {s : Shared} {M : List Addr}
theorem pairs_two {P : Program} {w : World} : ∀ {es : List DictEntry} {kvs : List (Key × V)} {us : List (Key × Value)}, Pairs (mixKind P w) es us → KV kvs us →
    Vals (kvs.map fun p => kV p.1) (es.map (·.key)) ∧ Vals (kvs.map (·.2)) (es.map (·.val))
  | _, _, _, .nil, .nil => ⟨.nil, .nil⟩
  | _, _, _, .cons (e := e) h1 h2 t, .cons r rs => by
    obtain ⟨a, b⟩ := pairs_two t rs
    refine ⟨.cons ?_ a, .cons ?_ b⟩
    · show L2.RelV (kV _) _
      rw [r.1]
      rcases keyIs_shape h1 with ⟨i, t, e1, e2⟩ | ⟨x, t, e1, e2⟩
      · rw [e1]
        exact ⟨t, e2⟩
      · rw [e1]
        exact ⟨t, e2⟩
    · show L2.RelV _ (DictEntry.val _)
      rw [h2]
      exact r.2
mutual
theorem T.reads (I : Inv X pins σ H s) : ∀ (d : PyData) (v : V) (u : Value), T X.K M H v d → RelV v u → ∃ as, Reads s.heap u d as
  | .none, _, _, h, r => by
    cases h
    cases r
    exact ⟨_, .none⟩
  | .bool b, _, _, h, r => by
    cases h
    cases r
    exact ⟨_, .bool b⟩
  | .int i, _, _, h, r => by
    cases h
    obtain ⟨t, rfl⟩ := r
    exact ⟨_, .int i t⟩
  | .str x, _, _, h, r => by
    cases h
    obtain ⟨t, rfl⟩ := r
    exact ⟨_, .str x t⟩
  | .list ds, _, _, h, r => by
    cases h with
    | lst n ha t =>
      cases r
      obtain ⟨its, rv, ⟨o, k, ho, hc, _, hd⟩, _⟩ := I.list (SqL.of ha)
      obtain ⟨as, q⟩ := TA.reads I ds _ its t rv
      exact ⟨_, .list ho hc hd q⟩
  | .tuple ds, _, _, h, r => by
    cases h with
    | tup n ha t =>
      cases r
      obtain ⟨its, rv, ⟨o, ho, hc, k, hd⟩, _⟩ := I.tuple (SqT.of ha)
      obtain ⟨as, q⟩ := TA.reads I ds _ its t rv
      exact ⟨_, .tuple ho hc hd q⟩
  | .dict es, _, _, h, r => by
    cases h with
    | dct n ha t =>
      cases r
      obtain ⟨_, _, us, kv, o, es', ep, ho, hx, hd, _, hp, _⟩ := I.hok _ _ ha
      obtain ⟨r1, r2⟩ := pairs_two hp kv
      obtain ⟨⟨as, q1⟩, ⟨bs, q2⟩⟩ := TK.reads I es _ _ _ t r1 r2
      exact ⟨_, .dict ho hx.1 hd q1 q2⟩
theorem TA.reads (I : Inv X pins σ H s) : ∀ (ds : List PyData) (vs : List V) (us : List Value), TA X.K M H vs ds → Vals vs us → ∃ as, ReadsAll s.heap us ds as
  | [], _, _, h, r => by
    cases h
    cases r
    exact ⟨_, .nil⟩
  | d :: ds, _, _, h, r => by
    cases h with
    | cons h1 h2 =>
      cases r with
      | cons r1 r2 =>
        obtain ⟨as, q1⟩ := T.reads I d _ _ h1 r1
        obtain ⟨bs, q2⟩ := TA.reads I ds _ _ h2 r2
        exact ⟨_, .cons q1 q2⟩
theorem TK.reads (I : Inv X pins σ H s) : ∀ (es : List (PyData × PyData)) (kvs : List (Key × V)) (ks us : List Value), TK X.K M H kvs es → Vals (kvs.map fun p => kV p.1) ks → Vals (kvs.map (·.2)) us →
    (∃ as, ReadsAll s.heap ks (es.map (·.1)) as) ∧ ∃ bs, ReadsAll s.heap us (es.map (·.2)) bs
  | [], _, _, _, h, r1, r2 => by
    cases h
    cases r1
    cases r2
    exact ⟨⟨_, .nil⟩, ⟨_, .nil⟩⟩
  | (e, d) :: es, _, _, _, h, r1, r2 => by
    cases h with
    | cons h1 h2 h3 =>
      cases r1 with
      | cons a1 b1 =>
        cases r2 with
        | cons a2 b2 =>
          obtain ⟨as, q1⟩ := T.reads I e _ _ h1 a1
          obtain ⟨bs, q2⟩ := T.reads I d _ _ h2 a2
          obtain ⟨⟨cs, q3⟩, ⟨fs, q4⟩⟩ := TK.reads I es _ _ _ h3 b1 b2
          exact ⟨⟨_, .cons q1 q3⟩, ⟨_, .cons q2 q4⟩⟩
end
mutual
/-- .. and shown -/
theorem T.shows (I : Inv X pins σ H s) : ∀ (d : PyData) (v : V) (u : Value), T X.K M H v d → RelV v u → d.showable = true → d.shown.length ≤ sizeLine →
    ∃ bs, ReadAtMost s.heap d.depth bs ∧ ReprK X.prog X.w bs s.heap d.depth u d.shown
  | .none, _, _, h, r, _, _ => by
    cases h
    cases r
    exact ⟨[], (fun _ z => nomatch z), by simpa only [PyData.shown] using ReprK.of_is ReprIs.none [] s.heap _⟩
  | .bool b, _, _, h, r, _, _ => by
    cases h
    cases r
    exact ⟨[], (fun _ z => nomatch z), by simpa only [PyData.shown] using ReprK.of_is (ReprIs.bool b) [] s.heap _⟩
  | .int i, _, _, h, r, hs, _ => by
    cases h
    obtain ⟨t, rfl⟩ := r
    exact ⟨[], (fun _ z => nomatch z), by simpa only [PyData.shown] using ReprK.of_is (ReprIs.int t (by simpa [PyData.showable] using hs)) [] s.heap _⟩
  | .str x, _, _, h, r, _, hz => by
    cases h
    obtain ⟨t, rfl⟩ := r
    exact ⟨[], (fun _ z => nomatch z), by simpa only [PyData.shown] using ReprK.of_is (ReprIs.str x t (by simpa only [PyData.shown] using hz)) [] s.heap _⟩
  | .list ds, v, u, h, r, hs, hz => by
    obtain ⟨as0, rd⟩ := T.reads I _ v u h r
    cases h with
    | lst n ha t =>
      cases r
      obtain ⟨its, rv, ⟨o, k, ho, hc, _, hd⟩, _⟩ := I.list (SqL.of ha)
      have z' : (listText (PyData.shownAll ds)).length ≤ sizeLine := by simpa only [PyData.shown] using hz
      obtain ⟨bs, low, all⟩ := TA.shows I ds _ its t rv (by simpa [PyData.showable] using hs) fun x hx => Nat.le_trans (listText_mem_le hx) z'
      have out := not_mem_of_deeper rd (by simp only [PyData.depth]; omega) low
      refine ⟨_ :: bs, ReadAtMost.cons rd (by simp only [PyData.depth]; omega) low, ?_⟩
      simp only [PyData.depth, PyData.shown]
      cases its with
      | nil =>
        cases rv
        cases t
        simp only [PyData.shownAll, listText_nil]
        exact ReprK.listEmpty ho hc hd
      | cons x l => exact ReprK.list ho hc hd out (by simpa using all.length_eq) fun i y e => all.item i y (by simpa using e)
  | .tuple ds, v, u, h, r, hs, hz => by
    obtain ⟨as0, rd⟩ := T.reads I _ v u h r
    cases h with
    | tup n ha t =>
      cases r
      obtain ⟨its, rv, ⟨o, ho, hc, k, hd⟩, _⟩ := I.tuple (SqT.of ha)
      have z' : (tupleText (PyData.shownAll ds)).length ≤ sizeLine := by simpa only [PyData.shown] using hz
      obtain ⟨bs, low, all⟩ := TA.shows I ds _ its t rv (by simpa [PyData.showable] using hs) fun x hx => Nat.le_trans (tupleText_mem_le hx) z'
      have out := not_mem_of_deeper rd (by simp only [PyData.depth]; omega) low
      refine ⟨_ :: bs, ReadAtMost.cons rd (by simp only [PyData.depth]; omega) low, ?_⟩
      simp only [PyData.depth, PyData.shown]
      exact ReprK.tuple ho hc hd out (by simpa using all)
  | .dict es, v, u, h, r, hs, hz => by
    obtain ⟨as0, rd⟩ := T.reads I _ v u h r
    cases h with
    | dct n ha t =>
      cases r
      obtain ⟨_, sys, us, kv, o, es', ep, ho, hx, hd, _, hp, _⟩ := I.hok _ _ ha
      obtain ⟨r1, r2⟩ := pairs_two hp kv
      have z' : (dictText (PyData.shownKv es)).length ≤ sizeLine := by simpa only [PyData.shown] using hz
      obtain ⟨s1, s2⟩ := PyData.showableKv_split es (by simpa [PyData.showable] using hs)
      obtain ⟨⟨b1, l1, k1⟩, ⟨b2, l2, k2⟩⟩ := TK.shows I es _ _ _ t r1 r2 s1 s2
        (fun x hx => let ⟨p, hp, hl⟩ := PyData.shownKv_key_le es x hx; Nat.le_trans hl (Nat.le_trans (dictText_mem_le hp) z'))
        (fun x hx => let ⟨p, hp, hl⟩ := PyData.shownKv_val_le es x hx; Nat.le_trans hl (Nat.le_trans (dictText_mem_le hp) z'))
      have low : ReadAtMost s.heap (PyData.depthKv es) (b1 ++ b2) := (l1.mono (PyData.depthAll_keys_le es)).append (l2.mono (PyData.depthAll_vals_le es))
      have out := not_mem_of_deeper rd (by simp only [PyData.depth]; omega) low
      refine ⟨_ :: (b1 ++ b2), ReadAtMost.cons rd (by simp only [PyData.depth]; omega) low, ?_⟩
      simp only [PyData.depth, PyData.shown, PyData.shownKv_eq]
      exact ReprK.dict ho hx.1 hd sys out (ReprEntriesK.of_two es'.toList _ _ (k1.more_le (fun b hb => List.mem_append_left _ hb) (PyData.depthAll_keys_le es))
        (k2.more_le (fun b hb => List.mem_append_right _ hb) (PyData.depthAll_vals_le es)))
theorem TA.shows (I : Inv X pins σ H s) : ∀ (ds : List PyData) (vs : List V) (us : List Value), TA X.K M H vs ds → Vals vs us → PyData.showableAll ds = true → (∀ t ∈ PyData.shownAll ds, t.length ≤ sizeLine) →
    ∃ bs, ReadAtMost s.heap (PyData.depthAll ds) bs ∧ ReprAllK X.prog X.w bs s.heap (PyData.depthAll ds) us (PyData.shownAll ds)
  | [], _, _, h, r, _, _ => by
    cases h
    cases r
    exact ⟨[], (fun _ z => nomatch z), by simpa only [PyData.shownAll] using ReprAllK.nil⟩
  | d :: ds, _, _, h, r, hs, hz => by
    cases h with
    | cons h1 h2 =>
      cases r with
      | cons r1 r2 =>
        have hs' : d.showable = true ∧ PyData.showableAll ds = true := by simpa [PyData.showableAll] using hs
        obtain ⟨b1, l1, k1⟩ := T.shows I d _ _ h1 r1 hs'.1 (hz _ (by simp only [PyData.shownAll]; exact List.mem_cons_self ..))
        obtain ⟨b2, l2, k2⟩ := TA.shows I ds _ _ h2 r2 hs'.2 fun t ht => hz t (by simp only [PyData.shownAll]; exact List.mem_cons_of_mem _ ht)
        refine ⟨b1 ++ b2, ?_, ?_⟩
        · simp only [PyData.depthAll]
          exact (l1.mono (Nat.le_max_left _ _)).append (l2.mono (Nat.le_max_right _ _))
        · simp only [PyData.depthAll, PyData.shownAll]
          exact .cons ((k1.more fun b hb => List.mem_append_left _ hb).level_le (Nat.le_max_left _ _)) (k2.more_le (fun b hb => List.mem_append_right _ hb) (Nat.le_max_right _ _))
theorem TK.shows (I : Inv X pins σ H s) : ∀ (es : List (PyData × PyData)) (kvs : List (Key × V)) (ks us : List Value), TK X.K M H kvs es → Vals (kvs.map fun p => kV p.1) ks → Vals (kvs.map (·.2)) us →
    PyData.showableAll (es.map (·.1)) = true → PyData.showableAll (es.map (·.2)) = true → (∀ t ∈ PyData.shownAll (es.map (·.1)), t.length ≤ sizeLine) → (∀ t ∈ PyData.shownAll (es.map (·.2)), t.length ≤ sizeLine) →
    (∃ bs, ReadAtMost s.heap (PyData.depthAll (es.map (·.1))) bs ∧ ReprAllK X.prog X.w bs s.heap (PyData.depthAll (es.map (·.1))) ks (PyData.shownAll (es.map (·.1)))) ∧
    (∃ bs, ReadAtMost s.heap (PyData.depthAll (es.map (·.2))) bs ∧ ReprAllK X.prog X.w bs s.heap (PyData.depthAll (es.map (·.2))) us (PyData.shownAll (es.map (·.2))))
  | [], _, _, _, h, r1, r2, _, _, _, _ => by
    cases h
    cases r1
    cases r2
    exact ⟨⟨[], (fun _ z => nomatch z), by simpa only [List.map_nil, PyData.shownAll] using ReprAllK.nil⟩, ⟨[], (fun _ z => nomatch z), by simpa only [List.map_nil, PyData.shownAll] using ReprAllK.nil⟩⟩
  | (e, d) :: es, _, _, _, h, r1, r2, s1, s2, z1, z2 => by
    cases h with
    | cons h1 h2 h3 =>
      cases r1 with
      | cons a1 c1 =>
        cases r2 with
        | cons a2 c2 =>
          simp only [List.map_cons] at s1 s2 z1 z2 ⊢
          have t1 : e.showable = true ∧ PyData.showableAll (es.map (·.1)) = true := by simpa [PyData.showableAll] using s1
          have t2 : d.showable = true ∧ PyData.showableAll (es.map (·.2)) = true := by simpa [PyData.showableAll] using s2
          obtain ⟨b1, l1, k1⟩ := T.shows I e _ _ h1 a1 t1.1 (z1 _ (by simp only [PyData.shownAll]; exact List.mem_cons_self ..))
          obtain ⟨b2, l2, k2⟩ := T.shows I d _ _ h2 a2 t2.1 (z2 _ (by simp only [PyData.shownAll]; exact List.mem_cons_self ..))
          obtain ⟨⟨b3, l3, k3⟩, ⟨b4, l4, k4⟩⟩ := TK.shows I es _ _ _ h3 c1 c2 t1.2 t2.2 (fun t ht => z1 t (by simp only [PyData.shownAll]; exact List.mem_cons_of_mem _ ht)) (fun t ht => z2 t (by simp only [PyData.shownAll]; exact List.mem_cons_of_mem _ ht))
          refine ⟨⟨b1 ++ b3, ?_, ?_⟩, ⟨b2 ++ b4, ?_, ?_⟩⟩
          · simp only [PyData.depthAll]
            exact (l1.mono (Nat.le_max_left _ _)).append (l3.mono (Nat.le_max_right _ _))
          · simp only [PyData.depthAll, PyData.shownAll]
            exact .cons ((k1.more fun b hb => List.mem_append_left _ hb).level_le (Nat.le_max_left _ _)) (k3.more_le (fun b hb => List.mem_append_right _ hb) (Nat.le_max_right _ _))
          · simp only [PyData.depthAll]
            exact (l2.mono (Nat.le_max_left _ _)).append (l4.mono (Nat.le_max_right _ _))
          · simp only [PyData.depthAll, PyData.shownAll]
            exact .cons ((k2.more fun b hb => List.mem_append_left _ hb).level_le (Nat.le_max_left _ _)) (k4.more_le (fun b hb => List.mem_append_right _ hb) (Nat.le_max_right _ _))
end
end

/-! ### repr -/
/-- what repr asks of data: ints of a size that is written out, a text that fits -/
def Shown (d : PyData) : Prop := d.showable = true ∧ d.shown.length ≤ sizeLine ∧ d.depth ≤ 100
def rRepr (K : PySem.W.Frag) : List V → Hp → VK → Prop := fun xs H Q => ∃ (v : V) (M : List Addr) (d : PyData), xs = [v] ∧ T K M H v d ∧ Shown d ∧ Q (.str d.shown) H
section
variable {X : Cx}
theorem call_repr {k : Nat} (hG : X.A.guards = some []) (hr : Room k X.A) : CallR X (.builtin "repr") (rRepr X.K) := by
  intro pins s σ H xs us Q I r h
  obtain ⟨v, M, d, rfl, ht, ⟨hs, hz, hd⟩, q⟩ := h
  obtain ⟨u, rfl, ru⟩ := vals1 r
  have room := hr.un
  have back : ∀ h' tok tk, (∀ b o, s.heap.get? b = some o → h'.get? b = some o) → EP X pins σ Q (.str d.shown tok) { s with heap := h', toks := tk } := fun h' tok tk kp => ⟨.str d.shown, H, I.kept kp, ⟨tok, rfl⟩, q⟩
  have ofCall : ∀ h' tok tk, (∀ b o, s.heap.get? b = some o → h'.get? b = some o) → ∃ y t, Value.str d.shown tok = Value.str y t ∧ EP X pins σ Q (.str d.shown tok) { s with heap := h', toks := tk } := fun h' tok tk kp => ⟨_, _, rfl, back h' tok tk kp⟩
  cases ht with
  | non =>
    cases ru
    exact PySem.P.repr_of_none (by simpa only [PyData.shown] using back s.heap _ _ fun _ _ e => e)
  | bl b =>
    cases ru
    exact PySem.P.repr_of_bool (by simpa only [PyData.shown] using back s.heap _ _ fun _ _ e => e)
  | int i =>
    obtain ⟨t, rfl⟩ := ru
    exact PySem.P.repr_of_int (by simpa [PyData.showable] using hs) (by simpa only [PyData.shown] using back s.heap _ _ fun _ _ e => e)
  | str x =>
    obtain ⟨t, rfl⟩ := ru
    exact PySem.P.repr_of_str (by simpa only [PyData.shown] using back s.heap _ _ fun _ _ e => e) (by simpa only [PyData.shown] using hz)
  | @lst a xs ds n ha t =>
    obtain ⟨as0, rd⟩ := T.reads I _ _ _ (T.lst n ha t) ru
    cases ru
    obtain ⟨its, rv, ⟨o, k', ho, hc, _, hdat⟩, _⟩ := I.list (SqL.of ha)
    have z' : (listText (PyData.shownAll ds)).length ≤ sizeLine := by simpa only [PyData.shown] using hz
    obtain ⟨bs, low, all⟩ := TA.shows I ds _ its t rv (by simpa [PyData.showable] using hs) fun x hx => Nat.le_trans (listText_mem_le hx) z'
    have out := not_mem_of_deeper rd (by simp only [PyData.depth]; omega) low
    simp only [PyData.depth] at hd
    simp only [PyData.shown] at ofCall
    refine call_repr_slot (T := "list") (idr := "list.__repr__") (by omega) ⟨o, ho, hc⟩ F.slot_list_repr.toG ?_
    cases its with
    | nil =>
      cases rv
      cases t
      simp only [PyData.shownAll, listText_nil] at ofCall
      exact call_list_repr_empty ⟨o, ho, hc⟩ ho hdat (ofCall s.heap _ _ fun _ _ e => e)
    | cons x l =>
      exact call_list_reprK ho hc hdat out (by simpa using all.length_eq) (fun i y e => all.item i y (by simpa using e)) hG (fun b _ => Clear.nil b) (by show X.A.units + 1 + (_ + 1) < cLine; omega) (fun _ _ e => e) ofCall z'
  | @tup a xs ds n ha t =>
    obtain ⟨as0, rd⟩ := T.reads I _ _ _ (T.tup n ha t) ru
    cases ru
    obtain ⟨its, rv, ⟨o, ho, hc, k', hdat⟩, _⟩ := I.tuple (SqT.of ha)
    have z' : (tupleText (PyData.shownAll ds)).length ≤ sizeLine := by simpa only [PyData.shown] using hz
    obtain ⟨bs, low, all⟩ := TA.shows I ds _ its t rv (by simpa [PyData.showable] using hs) fun x hx => Nat.le_trans (tupleText_mem_le hx) z'
    have out := not_mem_of_deeper rd (by simp only [PyData.depth]; omega) low
    simp only [PyData.depth] at hd
    simp only [PyData.shown] at ofCall
    refine call_repr_slot (T := "tuple") (idr := "tuple.__repr__") (by omega) ⟨o, ho, hc⟩ F.slot_tuple_repr ?_
    exact call_tuple_reprK ho hc hdat out (by simpa using all) hG (fun b _ => Clear.nil b) (by show X.A.units + 1 + (_ + 1) < cLine; omega) (fun _ _ e => e) ofCall z'
  | @dct a kvs es n ha t =>
    obtain ⟨as0, rd⟩ := T.reads I _ _ _ (T.dct n ha t) ru
    cases ru
    obtain ⟨_, sys, us, kv, o, es', ep, ho, hx, hdat, _, hp, _⟩ := I.hok _ _ ha
    obtain ⟨r1, r2⟩ := pairs_two hp kv
    have z' : (dictText (PyData.shownKv es)).length ≤ sizeLine := by simpa only [PyData.shown] using hz
    obtain ⟨s1, s2⟩ := PyData.showableKv_split es (by simpa [PyData.showable] using hs)
    obtain ⟨⟨b1, l1, k1⟩, ⟨b2, l2, k2⟩⟩ := TK.shows I es _ _ _ t r1 r2 s1 s2
      (fun x hx => let ⟨p, hp, hl⟩ := PyData.shownKv_key_le es x hx; Nat.le_trans hl (Nat.le_trans (dictText_mem_le hp) z'))
      (fun x hx => let ⟨p, hp, hl⟩ := PyData.shownKv_val_le es x hx; Nat.le_trans hl (Nat.le_trans (dictText_mem_le hp) z'))
    have low : ReadAtMost s.heap (PyData.depthKv es) (b1 ++ b2) := (l1.mono (PyData.depthAll_keys_le es)).append (l2.mono (PyData.depthAll_vals_le es))
    have out := not_mem_of_deeper rd (by simp only [PyData.depth]; omega) low
    simp only [PyData.depth] at hd
    simp only [PyData.shown, PyData.shownKv_eq] at ofCall
    refine call_repr_slot (T := "dict") (idr := "dict.__repr__") (by omega) ⟨o, ho, hx.1⟩ F.slot_dict_repr ?_
    exact call_dict_reprK ho hx.1 hdat sys out (ReprEntriesK.of_two es'.toList _ _ (k1.more_le (fun b hb => List.mem_append_left _ hb) (PyData.depthAll_keys_le es))
        (k2.more_le (fun b hb => List.mem_append_right _ hb) (PyData.depthAll_vals_le es))) hG (fun b _ => Clear.nil b) (by show X.A.units + 1 + (PyData.depthKv es + 1) < cLine; omega) (fun _ _ e => e) ofCall (by rw [← PyData.shownKv_eq]; exact z')
end
end U

set_option Elab.async false
set_option linter.all false
set_option maxRecDepth 100000
set_option maxHeartbeats 2000000
namespace U
open PySem PySem.Spec PyProof.Rows L2

/-! ### short steps of a reading -/
section
variable {a b : TS} {D : Ends} {σ : L2.St} {H : Hp}
/-- two statements, what holds between them -/
theorem sq (J : L2.St → Hp → Prop) (h1 : ∀ N : L2.St → Hp → Prop, (∀ σ' H', J σ' H' → N σ' H') → a { D with nx := N } σ H) (h2 : ∀ σ' H', J σ' H' → b D σ' H') : tSeq a b D σ H := h1 _ h2
theorem nx_ {N : L2.St → Hp → Prop} (h : N σ H) : tNext { D with nx := N } σ H := h
theorem two_ {i j : Nat} {x y : V} {Q : L2.St → Hp → Prop} (h : Q ((σ.set i (some x)).set j (some y)) H) : gCons (gName i) (gCons (gName j) gNil) [x, y] σ H Q := ⟨_, _, rfl, _, _, rfl, rfl, h⟩
theorem if_ {P Q : Prop} {c : Bool} (h1 : c = true → P) (h2 : c = false → Q) : if c = true then P else Q := by
  cases c with
  | true => exact iteT (h1 rfl)
  | false => exact iteF (h2 rfl)
theorem idec {P Q c : Prop} [Decidable c] (h1 : c → P) (h2 : ¬ c → Q) : if (decide c) = true then P else Q := by
  by_cases h : c
  · rw [decide_eq_true h]
    exact iteT (h1 h)
  · rw [decide_eq_false h]
    exact iteF (h2 h)
theorem ndec {P Q c : Prop} [Decidable c] (h1 : c → Q) (h2 : ¬ c → P) : if (!decide c) = true then P else Q := by
  by_cases h : c
  · rw [decide_eq_true h]
    exact iteF (h1 h)
  · rw [decide_eq_false h]
    exact iteT (h2 h)
theorem if_t {P Q : Prop} {c : Bool} (e : c = true) (h : P) : if c = true then P else Q := by rw [e]; exact iteT h
theorem if_f {P Q : Prop} {c : Bool} (e : c = false) (h : Q) : if c = true then P else Q := by rw [e]; exact iteF h
end
/-- a comprehension's turn without a test -/
theorem yes_ {te : TE} {σ : L2.St} {H : Hp} {Q : VK} {R : Hp → Prop} (h : te σ H Q) : tYes σ H fun b H' => if b = true then te σ H' Q else R H' := by
  show if true = true then te σ H Q else R H
  rw [if_pos rfl]
  exact h
/-- a module's number -/
theorem pe_gi {X : Cx} {x : Str} {i : Int} {pos : Pos} (hg : Gl X x) (h : ∃ t, X.mg x = some (.int i t)) (hd : (x == ("__debug__" : Str)) = false := by decide) : PE X (.Name x pos) (tC (.int i)) := by
  obtain ⟨t, e⟩ := h
  exact pe_glob hg e ⟨t, rfl⟩ hd
theorem ne_new {H : Hp} {a p : Addr} {o u : HO} (h : H a = some o) (hp : H p = none) : upd H p u a = some o := by
  rw [upd_ne (ne_of_none h hp)]
  exact h
end U

set_option Elab.async false
set_option linter.all false
set_option maxRecDepth 100000
set_option maxHeartbeats 2000000
namespace U
open PySem PySem.Spec PyProof.Rows L2

/-! ### a list or tuple against the empty one -/
section
variable {X : Cx}
theorem lstOf {pins : List (Addr × Obj)} {σ : L2.St} {H : Hp} {s : Shared} {a : Addr} {xs : List V} (I : Inv X pins σ H s) (h : SqL X.K H a xs) : ∃ its : List Value, its.length = xs.length ∧ s.heap.IsList a its.toArray := by
  obtain ⟨its, rv, ⟨o, n, ho, hc, _, hd⟩, _⟩ := I.list h
  exact ⟨its, rv.length.symm, o, ho, hc, n, hd⟩
theorem tupOf {pins : List (Addr × Obj)} {σ : L2.St} {H : Hp} {s : Shared} {a : Addr} {xs : List V} (I : Inv X pins σ H s) (h : SqT X.K H a xs) : ∃ its : List Value, its.length = xs.length ∧ s.heap.IsTuple a its.toArray := by
  obtain ⟨its, rv, ⟨o, ho, hc, n, hd⟩, _⟩ := I.tuple h
  exact ⟨its, rv.length.symm, o, ho, hc, n, hd⟩
def rNil (K : PySem.W.Frag) (neg : Bool) : R2 := fun x y H Q => ∃ a b xs, x = .ref a ∧ y = .ref b ∧ ((SqL K H a xs ∧ SqL K H b []) ∨ (SqT K H a xs ∧ SqT K H b [])) ∧ Q (.bl (if neg then !xs.isEmpty else xs.isEmpty)) H
theorem op_neNil {k : Nat} (hr : Room k X.A) : OpR X (compareOp .NotEq) (rNil X.K true) := by
  intro pins s σ H x y v u Q I rx ry h
  obtain ⟨a, b, xs, rfl, rfl, h, q⟩ := h
  cases (show v = Value.ref a from rx)
  cases (show u = Value.ref b from ry)
  have room := hr.un
  have q' : EP X pins σ Q (.bool (!xs.isEmpty)) s := ⟨.bl (!xs.isEmpty), H, I, rfl, q⟩
  rcases h with ⟨h1, h2⟩ | ⟨h1, h2⟩
  · obtain ⟨i1, l1, L1⟩ := lstOf I h1
    obtain ⟨i2, l2, L2⟩ := lstOf I h2
    have e2 : i2 = [] := List.length_eq_zero_iff.mp l2
    subst e2
    cases xs with
    | nil =>
      have e1 : i1 = [] := List.length_eq_zero_iff.mp l1
      subst e1
      exact PySem.SeqAt.RcNeAt.lists (e := fun _ => true) L1 L2 rfl (by omega) (fun j h1 h2 => absurd h1 (by simp)) _ _ _ _ (by simpa using q')
    | cons x xs =>
      exact PySem.SeqAt.RcNeAt.lists_lengths L1 L2 (by simp [l1]) (by omega) _ _ _ _ q'
  · obtain ⟨i1, l1, L1⟩ := tupOf I h1
    obtain ⟨i2, l2, L2⟩ := tupOf I h2
    have e2 : i2 = [] := List.length_eq_zero_iff.mp l2
    subst e2
    refine PySem.SeqAt.RcNeAt.tuples (e := fun _ => true) L1 L2 (by omega) (fun j h1 h2 => absurd h2 (by simp)) _ _ _ _ ?_
    cases xs with
    | nil => simpa [l1] using q'
    | cons x xs => simpa [l1] using q'
theorem op_eqNil {k : Nat} (hr : Room k X.A) : OpR X (compareOp .Eq) (rNil X.K false) := by
  intro pins s σ H x y v u Q I rx ry h
  obtain ⟨a, b, xs, rfl, rfl, h, q⟩ := h
  cases (show v = Value.ref a from rx)
  cases (show u = Value.ref b from ry)
  have room := hr.un
  have q' : EP X pins σ Q (.bool xs.isEmpty) s := ⟨.bl xs.isEmpty, H, I, rfl, q⟩
  rcases h with ⟨h1, h2⟩ | ⟨h1, h2⟩
  · obtain ⟨i1, l1, L1⟩ := lstOf I h1
    obtain ⟨i2, l2, L2⟩ := lstOf I h2
    have e2 : i2 = [] := List.length_eq_zero_iff.mp l2
    subst e2
    cases xs with
    | nil =>
      have e1 : i1 = [] := List.length_eq_zero_iff.mp l1
      subst e1
      exact PySem.SeqAt.RcAt.lists (e := fun _ => true) L1 L2 rfl (by omega) (fun j h1 h2 => absurd h1 (by simp)) _ _ _ _ (by simpa using q')
    | cons x xs =>
      exact PySem.SeqAt.RcAt.lists_lengths L1 L2 (by simp [l1]) (by omega) _ _ _ _ q'
  · obtain ⟨i1, l1, L1⟩ := tupOf I h1
    obtain ⟨i2, l2, L2⟩ := tupOf I h2
    have e2 : i2 = [] := List.length_eq_zero_iff.mp l2
    subst e2
    refine PySem.SeqAt.RcAt.tuples (e := fun _ => true) L1 L2 (by omega) (fun j h1 h2 => absurd h2 (by simp)) _ _ _ _ ?_
    cases xs with
    | nil => simpa [l1] using q'
    | cons x xs => simpa [l1] using q'
end

/-! ### isinstance of data -/
def tyName : PyData → String
  | .none => "NoneType" | .bool _ => "bool" | .int _ => "int" | .str _ => "str" | .list _ => "list" | .tuple _ => "tuple" | .dict _ => "dict"
theorem T.ty {K : PySem.W.Frag} {M : List Addr} {H : Hp} {v : V} {d : PyData} (h : T K M H v d) : TyX K H v (.type (tyName d)) := by
  cases h with
  | non => exact .base .non
  | bl b => exact .base (.bl b)
  | int i => exact .base (.int i)
  | str x => exact .base (.str x)
  | lst n h t => exact .base (.lst h)
  | tup n h t => exact .base (.tup h)
  | dct n h t => exact .base (.dK h)
def isInt : PyData → Bool | .bool _ => true | .int _ => true | _ => false
def isBool : PyData → Bool | .bool _ => true | _ => false
def isTup : PyData → Bool | .tuple _ => true | _ => false
def isList : PyData → Bool | .list _ => true | _ => false
def isStr : PyData → Bool | .str _ => true | _ => false
theorem kit_int (d : PyData) : kitB (tyName d) "int" = some (isInt d) := by
  cases d with
  | none => exact (by decide +kernel : kitB "NoneType" "int" = some false)
  | bool _ => exact (by decide +kernel : kitB "bool" "int" = some true)
  | int _ => exact (by decide +kernel : kitB "int" "int" = some true)
  | str _ => exact (by decide +kernel : kitB "str" "int" = some false)
  | list _ => exact (by decide +kernel : kitB "list" "int" = some false)
  | tuple _ => exact (by decide +kernel : kitB "tuple" "int" = some false)
  | dict _ => exact (by decide +kernel : kitB "dict" "int" = some false)
theorem kit_bool (d : PyData) : kitB (tyName d) "bool" = some (isBool d) := by
  cases d with
  | none => exact (by decide +kernel : kitB "NoneType" "bool" = some false)
  | bool _ => exact (by decide +kernel : kitB "bool" "bool" = some true)
  | int _ => exact (by decide +kernel : kitB "int" "bool" = some false)
  | str _ => exact (by decide +kernel : kitB "str" "bool" = some false)
  | list _ => exact (by decide +kernel : kitB "list" "bool" = some false)
  | tuple _ => exact (by decide +kernel : kitB "tuple" "bool" = some false)
  | dict _ => exact (by decide +kernel : kitB "dict" "bool" = some false)
theorem kit_tup (d : PyData) : kitB (tyName d) "tuple" = some (isTup d) := by
  cases d with
  | none => exact (by decide +kernel : kitB "NoneType" "tuple" = some false)
  | bool _ => exact (by decide +kernel : kitB "bool" "tuple" = some false)
  | int _ => exact (by decide +kernel : kitB "int" "tuple" = some false)
  | str _ => exact (by decide +kernel : kitB "str" "tuple" = some false)
  | list _ => exact (by decide +kernel : kitB "list" "tuple" = some false)
  | tuple _ => exact (by decide +kernel : kitB "tuple" "tuple" = some true)
  | dict _ => exact (by decide +kernel : kitB "dict" "tuple" = some false)
theorem kit_list (d : PyData) : kitB (tyName d) "list" = some (isList d) := by
  cases d with
  | none => exact (by decide +kernel : kitB "NoneType" "list" = some false)
  | bool _ => exact (by decide +kernel : kitB "bool" "list" = some false)
  | int _ => exact (by decide +kernel : kitB "int" "list" = some false)
  | str _ => exact (by decide +kernel : kitB "str" "list" = some false)
  | list _ => exact (by decide +kernel : kitB "list" "list" = some true)
  | tuple _ => exact (by decide +kernel : kitB "tuple" "list" = some false)
  | dict _ => exact (by decide +kernel : kitB "dict" "list" = some false)
theorem kit_str (d : PyData) : kitB (tyName d) "str" = some (isStr d) := by
  cases d with
  | none => exact (by decide +kernel : kitB "NoneType" "str" = some false)
  | bool _ => exact (by decide +kernel : kitB "bool" "str" = some false)
  | int _ => exact (by decide +kernel : kitB "int" "str" = some false)
  | str _ => exact (by decide +kernel : kitB "str" "str" = some true)
  | list _ => exact (by decide +kernel : kitB "list" "str" = some false)
  | tuple _ => exact (by decide +kernel : kitB "tuple" "str" = some false)
  | dict _ => exact (by decide +kernel : kitB "dict" "str" = some false)
/-- isinstance(x, type): the answer by the datum -/
theorem isi_ {K : PySem.W.Frag} {M : List Addr} {H : Hp} {v : V} {d : PyData} {n : String} {b : Bool} {Q : VK} (t : T K M H v d) (e : kitB (tyName d) n = some b) (q : Q (.bl b) H) : rIsi K [v, .ty n] H Q :=
  ⟨v, .ty n, _, _, b, rfl, .ty n, t.ty, kit_ty e, q⟩
end U

set_option Elab.async false
set_option linter.all false
set_option maxRecDepth 100000
set_option maxHeartbeats 2000000
namespace U
open PySem PySem.Spec PyProof.Rows L2

theorem not_mem_of_none {N : List Addr} {H : Hp} {D : Addr} (tr : ∀ b ∈ N, H b ≠ none) (h : H D = none) : D ∉ N := fun z => tr D z h
theorem Ext.tracked {N : List Addr} {H H' : Hp} {b : Addr} {o : HO} (e : Ext N H H') (n : b ∉ N) (h : H b = some o) : H' b = some o := e b o n h
theorem Ext.fresh {N : List Addr} {H H' : Hp} {p : Addr} (e : Ext N H H') (n : p ∉ N) (h : H' p = none) : H p = none := by
  cases q : H p with
  | none => rfl
  | some o =>
    rw [e p o n q] at h
    cases h
theorem TA.of_bools {K : PySem.W.Frag} {M : List Addr} {H : Hp} : ∀ {ys : List V} {bs : List Bool}, TA K M H ys (bs.map .bool) → ys = bs.map V.bl
  | _, [], h => by
    cases h
    rfl
  | _, b :: bs, h => by
    cases h with
    | cons h1 h2 =>
      cases h1
      rw [TA.of_bools h2]
      rfl
theorem T.mut {K : PySem.W.Frag} {M : List Addr} {H : Hp} {p : Addr} {o : HO} {v : V} {d : PyData} (h : T K M H v d) (hp : p ∈ M) : T K M (upd H p o) v d := h.ext (Ext.put hp)
section
variable {K : PySem.W.Frag} {M N : List Addr} {g : TG} {tt : TT} {te : TE} {vs : List Nat} {σ : L2.St} {H1 : Hp} {D : Addr} {Qd : Hp → Prop}
/-- what one turn of a comprehension is asked: the item taken, the test, the element; Ky: what is wanted of the element, Kn: where the item is not kept -/
def Turn (g : TG) (tt : TT) (te : TE) (vs : List Nat) (σ : L2.St) (x : V) (H : Hp) (Ky : V → Hp → Prop) (Kn : Hp → Prop) : Prop :=
  g x (wipe σ vs) H fun σ2 H2 => wipe σ2 vs = wipe σ vs ∧ tt σ2 H2 fun b H3 => if b = true then te σ2 H3 Ky else Kn H3

/-- the state ahead of turn i: the list so far -/
def Sofar (K : PySem.W.Frag) (M N : List Addr) (H1 : Hp) (D : Addr) (J : Nat → Hp → Prop) (keep : PyData → Bool) (f : PyData → PyData → Prop) (ds : List PyData) (i : Nat) (H : Hp) : Prop :=
  ∃ (ys : List V) (es : List PyData), Ext N H1 H ∧ J i H ∧ H D = some (.lst ys) ∧ TA K M H ys es ∧ Paired f ((ds.take i).filter keep) es
theorem Paired.snoc {α β : Type} {F : α → β → Prop} : ∀ {l : List α} {m : List β} {a : α} {b : β}, Paired F l m → F a b → Paired F (l ++ [a]) (m ++ [b])
  | _, _, _, _, .nil, h => .cons h .nil
  | _, _, _, _, .cons r t, h => .cons r (Paired.snoc t h)
theorem Paired.len {α β : Type} {F : α → β → Prop} : ∀ {l : List α} {m : List β}, Paired F l m → l.length = m.length
  | _, _, .nil => rfl
  | _, _, .cons _ t => by rw [List.length_cons, List.length_cons, Paired.len t]
theorem paired_map {α β : Type} {h : α → β} : ∀ {l : List α} {m : List β}, Paired (fun a b => b = h a) l m → m = l.map h
  | _, _, .nil => rfl
  | _, _, .cons r t => by rw [r, paired_map t]; rfl

theorem sofar_turn {J : Nat → Hp → Prop} {keep : PyData → Bool} {f : PyData → PyData → Prop} {ds : List PyData} {i : Nat} {x : V} {d : PyData} {H : Hp} (hl : ds.length ≤ 100000)
    (hNM : ∀ b ∈ N, b ∈ M) (hDN : D ∉ N) (hDM : D ∉ M) (hD : H1 D = none) (hJ : ∀ i H o, J i H → J i (upd H D o)) (hd : ds[i]? = some d)
    (p : Sofar K (D :: M) N H1 D J keep f ds i H)
    (turn : ∀ (Ky : V → Hp → Prop) (Kn : Hp → Prop), (keep d = false → ∀ H', Ext N H H' → J (i + 1) H' → Kn H') →
      (keep d = true → ∀ H' y e, Ext N H H' → J (i + 1) H' → T K (D :: M) H' y e → f d e → Ky y H') → Turn g tt te vs σ x H Ky Kn) :
    g x (wipe σ vs) H fun σ2 H2 => wipe σ2 vs = wipe σ vs ∧ tt σ2 H2 fun b H3 => if b = true then te σ2 H3 fun y H4 => ∃ acc, H4 D = some (.lst acc) ∧ acc.length < sizeLine ∧ Sofar K (D :: M) N H1 D J keep f ds (i + 1) (upd H4 D (.lst (acc ++ [y])))
      else Sofar K (D :: M) N H1 D J keep f ds (i + 1) H3 := by
  obtain ⟨ys, es, e, j, hDy, ht, pr⟩ := p
  have eM : ∀ {A B : Hp}, Ext N A B → Ext (D :: M) A B := fun x => x.sub fun b hb => List.mem_cons_of_mem _ (hNM b hb)
  refine turn _ _ (fun hk H' e' j' => ⟨ys, es, e.trans e', j', e' _ _ hDN hDy, ht.ext (eM e'), ?_⟩) (fun hk H' y ed e' j' ty fy => ⟨ys, e' _ _ hDN hDy, ?_, ys ++ [y], es ++ [ed], ?_, hJ _ _ _ j', upd_same, ?_, ?_⟩)
  · rw [List.take_add_one, hd, List.filter_append]
    simpa [hk] using pr
  · have l1 := ht.len
    have l2 := Paired.len pr
    have l3 := List.length_filter_le keep (ds.take i)
    rw [List.length_take] at l3
    exact Nat.lt_of_le_of_lt (show ys.length ≤ 100000 by omega) (by decide)
  · intro b o nb hb
    have hbD : b ≠ D := ne_of_none hb hD
    rw [upd_ne hbD]
    exact e' _ _ nb (e _ _ nb hb)
  · exact ((ht.ext (eM e')).app (.one ty)).ext (Ext.put (by simp))
  · rw [List.take_add_one, hd, List.filter_append]
    have : (some d).toList.filter keep = [d] := by simp [hk]
    rw [this]
    exact Paired.snoc pr fy

/-- a comprehension over a tuple of data -/
theorem lcT {a : Addr} {xs : List V} {ds : List PyData} (J : Nat → Hp → Prop) (keep : PyData → Bool) (f : PyData → PyData → Prop) (ha : H1 a = some (.tup xs)) (na : a ∉ M) (ht : TA K M H1 xs ds) (hl : ds.length ≤ 100000)
    (hNM : ∀ b ∈ N, b ∈ M) (hN : ∀ b ∈ M, H1 b ≠ none) (hD : H1 D = none) (j0 : J 0 H1) (hJ : ∀ i H o, J i H → J i (upd H D o))
    (turn : ∀ i x d H, ds[i]? = some d → T K (D :: M) H x d → Ext N H1 H → J i H → ∀ (Ky : V → Hp → Prop) (Kn : Hp → Prop), (keep d = false → ∀ H', Ext N H H' → J (i + 1) H' → Kn H') →
      (keep d = true → ∀ H' y e, Ext N H H' → J (i + 1) H' → T K (D :: M) H' y e → f d e → Ky y H') → Turn g tt te vs σ x H Ky Kn)
    (hd : ∀ H ys es, Ext N H1 H → J ds.length H → H D = some (.lst ys) → TA K M H ys es → Paired f (ds.filter keep) es → Qd H) :
    ∃ W : Nat → Nat → Hp → Prop, (∃ m, W 0 m (upd H1 D (.lst []))) ∧ ∀ i m H, W i m H →
      ((Itt K a).stop i H ∧ Qd H) ∨ ((Itt K a).go i H ∧ ∃ Nx : Hp → Prop, (∀ H', Nx H' → ∃ m', m' < m ∧ W (i + 1) m' H') ∧ ∀ x H', (Itt K a).yld i H x H' → g x (wipe σ vs) H' fun σ2 H2 => wipe σ2 vs = wipe σ vs ∧ tt σ2 H2 fun b H3 =>
        if b = true then te σ2 H3 fun y H4 => ∃ acc, H4 D = some (.lst acc) ∧ acc.length < sizeLine ∧ Nx (upd H4 D (.lst (acc ++ [y]))) else Nx H3) := by
  have hDM : D ∉ M := fun z => hN D z hD
  have hDN : D ∉ N := fun z => hDM (hNM D z)
  have naN : a ∉ N := fun z => na (hNM a z)
  have hT : TA K (D :: M) H1 xs ds := ht.plus hD
  refine lc_tup (K := K) (a := a) (xs := xs) (fun i H => Sofar K (D :: M) N H1 D J keep f ds i H) ⟨[], [], Ext.new hD, hJ _ _ _ j0, upd_same, .nil, by simpa using Paired.nil⟩ (fun i H _ p => ?_) (fun i x H hx p => ?_) (fun H p => ?_)
  · obtain ⟨_, _, e, _⟩ := p
    exact SqT.of (e _ _ naN ha)
  · obtain ⟨d, hdi, td⟩ := hT.get hx
    have e := let ⟨_, _, e, _⟩ := p; e
    have j := let ⟨_, _, _, j, _⟩ := p; j
    exact sofar_turn hl hNM hDN hDM hD hJ hdi p (turn i x d H hdi (td.ext (e.sub fun b hb => List.mem_cons_of_mem _ (hNM b hb))) e j)
  · obtain ⟨ys, es, e, j, h1, h2, h3⟩ := p
    rw [ht.len, List.take_length] at h3
    rw [ht.len] at j
    exact hd H ys es e j h1 (h2.off fun b hb => List.mem_cons_of_mem _ hb) h3
/-- over a list of data -/
theorem lcL {a : Addr} {xs : List V} {ds : List PyData} (J : Nat → Hp → Prop) (keep : PyData → Bool) (f : PyData → PyData → Prop) (ha : H1 a = some (.lst xs)) (na : a ∉ M) (ht : TA K M H1 xs ds) (hl : ds.length ≤ 100000)
    (hNM : ∀ b ∈ N, b ∈ M) (hN : ∀ b ∈ M, H1 b ≠ none) (hD : H1 D = none) (j0 : J 0 H1) (hJ : ∀ i H o, J i H → J i (upd H D o))
    (turn : ∀ i x d H, ds[i]? = some d → T K (D :: M) H x d → Ext N H1 H → J i H → ∀ (Ky : V → Hp → Prop) (Kn : Hp → Prop), (keep d = false → ∀ H', Ext N H H' → J (i + 1) H' → Kn H') →
      (keep d = true → ∀ H' y e, Ext N H H' → J (i + 1) H' → T K (D :: M) H' y e → f d e → Ky y H') → Turn g tt te vs σ x H Ky Kn)
    (hd : ∀ H ys es, Ext N H1 H → J ds.length H → H D = some (.lst ys) → TA K M H ys es → Paired f (ds.filter keep) es → Qd H) :
    ∃ W : Nat → Nat → Hp → Prop, (∃ m, W 0 m (upd H1 D (.lst []))) ∧ ∀ i m H, W i m H →
      ((Itl K a).stop i H ∧ Qd H) ∨ ((Itl K a).go i H ∧ ∃ Nx : Hp → Prop, (∀ H', Nx H' → ∃ m', m' < m ∧ W (i + 1) m' H') ∧ ∀ x H', (Itl K a).yld i H x H' → g x (wipe σ vs) H' fun σ2 H2 => wipe σ2 vs = wipe σ vs ∧ tt σ2 H2 fun b H3 =>
        if b = true then te σ2 H3 fun y H4 => ∃ acc, H4 D = some (.lst acc) ∧ acc.length < sizeLine ∧ Nx (upd H4 D (.lst (acc ++ [y]))) else Nx H3) := by
  have hDM : D ∉ M := fun z => hN D z hD
  have hDN : D ∉ N := fun z => hDM (hNM D z)
  have naN : a ∉ N := fun z => na (hNM a z)
  have hT : TA K (D :: M) H1 xs ds := ht.plus hD
  refine lc_list (K := K) (a := a) (xs := xs) (fun i H => Sofar K (D :: M) N H1 D J keep f ds i H) ⟨[], [], Ext.new hD, hJ _ _ _ j0, upd_same, .nil, by simpa using Paired.nil⟩ (fun i H _ p => ?_) (fun i x H hx p => ?_) (fun H p => ?_)
  · obtain ⟨_, _, e, _⟩ := p
    exact SqL.of (e _ _ naN ha)
  · obtain ⟨d, hdi, td⟩ := hT.get hx
    have e := let ⟨_, _, e, _⟩ := p; e
    have j := let ⟨_, _, _, j, _⟩ := p; j
    exact sofar_turn hl hNM hDN hDM hD hJ hdi p (turn i x d H hdi (td.ext (e.sub fun b hb => List.mem_cons_of_mem _ (hNM b hb))) e j)
  · obtain ⟨ys, es, e, j, h1, h2, h3⟩ := p
    rw [ht.len, List.take_length] at h3
    rw [ht.len] at j
    exact hd H ys es e j h1 (h2.off fun b hb => List.mem_cons_of_mem _ hb) h3
/-- over a range from 0 -/
theorem lcR {n : Nat} (J : Nat → Hp → Prop) (keep : PyData → Bool) (f : PyData → PyData → Prop) (hl : n ≤ 100000)
    (hNM : ∀ b ∈ N, b ∈ M) (hN : ∀ b ∈ M, H1 b ≠ none) (hD : H1 D = none) (j0 : J 0 H1) (hJ : ∀ i H o, J i H → J i (upd H D o))
    (turn : ∀ (i : Nat) H, i < n → Ext N H1 H → J i H → ∀ (Ky : V → Hp → Prop) (Kn : Hp → Prop), (keep (.int (i : Int)) = false → ∀ H', Ext N H H' → J (i + 1) H' → Kn H') →
      (keep (.int (i : Int)) = true → ∀ H' y e, Ext N H H' → J (i + 1) H' → T K (D :: M) H' y e → f (.int (i : Int)) e → Ky y H') → Turn g tt te vs σ (.int (i : Int)) H Ky Kn)
    (hd : ∀ H ys es, Ext N H1 H → J n H → H D = some (.lst ys) → TA K M H ys es → Paired f (((List.range n).map fun i : Nat => PyData.int (i : Int)).filter keep) es → Qd H) :
    ∃ W : Nat → Nat → Hp → Prop, (∃ m, W 0 m (upd H1 D (.lst []))) ∧ ∀ i m H, W i m H →
      ((Itr 0 n).stop i H ∧ Qd H) ∨ ((Itr 0 n).go i H ∧ ∃ Nx : Hp → Prop, (∀ H', Nx H' → ∃ m', m' < m ∧ W (i + 1) m' H') ∧ ∀ x H', (Itr 0 n).yld i H x H' → g x (wipe σ vs) H' fun σ2 H2 => wipe σ2 vs = wipe σ vs ∧ tt σ2 H2 fun b H3 =>
        if b = true then te σ2 H3 fun y H4 => ∃ acc, H4 D = some (.lst acc) ∧ acc.length < sizeLine ∧ Nx (upd H4 D (.lst (acc ++ [y]))) else Nx H3) := by
  have hDM : D ∉ M := fun z => hN D z hD
  have hDN : D ∉ N := fun z => hDM (hNM D z)
  refine lc_range (lo := 0) (n := n) (fun i H => Sofar K (D :: M) N H1 D J keep f ((List.range n).map fun i : Nat => PyData.int (i : Int)) i H) ⟨[], [], Ext.new hD, hJ _ _ _ j0, upd_same, .nil, by simpa using Paired.nil⟩ (fun i H hi p => ?_) (fun H p => ?_)
  · have e := let ⟨_, _, e, _⟩ := p; e
    have j := let ⟨_, _, _, j, _⟩ := p; j
    have z : (0 : Int) + (i : Int) = (i : Int) := Int.zero_add _
    rw [z]
    exact sofar_turn (d := .int (i : Int)) (by simpa using hl) hNM hDN hDM hD hJ (by simp [hi]) p (turn i H hi e j)
  · obtain ⟨ys, es, e, j, h1, h2, h3⟩ := p
    rw [List.take_of_length_le (by simp)] at h3
    exact hd H ys es e j h1 (h2.off fun b hb => List.mem_cons_of_mem _ hb) h3
end
section
variable {K : PySem.W.Frag} {M N : List Addr} {H : Hp}
theorem filter_all (ds : List PyData) : (ds.filter fun _ => true) = ds := List.filter_eq_self.mpr fun _ _ => rfl
theorem bools_of {h : PyData → Bool} {ds es : List PyData} {ys : List V} (pr : Paired (fun d e => e = .bool (h d)) (ds.filter fun _ => true) es) (ty : TA K M H ys es) : ys = (ds.map h).map V.bl := by
  rw [filter_all] at pr
  have e := paired_map pr
  rw [e, show (fun a => PyData.bool (h a)) = PyData.bool ∘ h from rfl, ← List.map_map] at ty
  exact TA.of_bools ty
theorem same_ext {H' : Hp} (e : Ext [] H H') : Same H H' := fun b o h => e b o (by simp) h
theorem T.non_ {d : PyData} (h : T K M H .non d) : d = .none := by
  cases h
  rfl
theorem all_id (bs : List Bool) : bs.all id = bs.all fun b => b := rfl
theorem all_map {h : PyData → Bool} (ds : List PyData) : (ds.map h).all id = ds.all h := by
  rw [List.all_map]
  rfl
end
end U

set_option Elab.async false
set_option linter.all false
set_option maxRecDepth 100000
set_option maxHeartbeats 2000000
namespace U
open PySem PySem.Spec PyProof.Rows L2

/-! ### the rules with the written part named (K), so that a comprehension's reading hangs on K alone -/
def rLenQ (K : PySem.W.Frag) : List V → Hp → VK → Prop := fun xs H Q => ∃ p ys, xs = [.ref p] ∧ (SqL K H p ys ∨ SqT K H p ys) ∧ Q (.int (ys.length : Nat)) H
def rLenA (K : PySem.W.Frag) : List V → Hp → VK → Prop := fun xs H Q => ∃ x n, xs = [x] ∧ LenV K x H n ∧ Q (.int (n : Nat)) H
def rListOf (K : PySem.W.Frag) : List V → Hp → VK → Prop := fun xs H Q => ∃ p ys, xs = [.ref p] ∧ (SqL K H p ys ∨ SqT K H p ys) ∧ ∀ l, H l = none → Q (.ref l) (upd H l (.lst ys))
def rTupOf (K : PySem.W.Frag) : List V → Hp → VK → Prop := fun xs H Q => ∃ p ys, xs = [.ref p] ∧ ((SqL K H p ys ∧ ∀ l, H l = none → Q (.ref l) (upd H l (.tup ys))) ∨ (SqT K H p ys ∧ Q (.ref p) H))
theorem room1 {k : Nat} {A : Around} (r : Room k A) : A.units + 1 < cLine := by have := r.units; omega
section
variable {X : Cx}
theorem kLenQ (K : PySem.W.Frag) (h : X.K = K := by rfl) : CallR X (.builtin "len") (rLenQ K) := by subst h; exact call_len_seq
theorem kLenA (K : PySem.W.Frag) (h : X.K = K := by rfl) : CallR X (.builtin "len") (rLenA K) := by subst h; exact call_len
theorem kListOf (K : PySem.W.Frag) (h : X.K = K := by rfl) : CallR X (.type "list") (rListOf K) := by subst h; exact call_list_of
theorem kTupOf (K : PySem.W.Frag) (h : X.K = K := by rfl) : CallR X (.type "tuple") (rTupOf K) := by subst h; exact call_tuple_of
theorem kIsi (K : PySem.W.Frag) (h : X.K = K := by rfl) : CallR X (.builtin "isinstance") (rIsi K) := by subst h; exact call_isi
theorem kAll (K : PySem.W.Frag) (hc : X.calm = true) (h : X.K = K := by rfl) : CallR X (.builtin "all") (rAll K) := by subst h; exact cr_all hc
theorem kAny (K : PySem.W.Frag) (hc : X.calm = true) (h : X.K = K := by rfl) : CallR X (.builtin "any") (rAny K) := by subst h; exact cr_any hc
theorem kSum (K : PySem.W.Frag) (hc : X.calm = true) (h : X.K = K := by rfl) : CallR X (.builtin "sum") (rSum K) := by subst h; exact cr_sum hc
theorem kMax (K : PySem.W.Frag) (hc : X.calm = true) (h : X.K = K := by rfl) : CallR X (.builtin "max") (rMax K) := by subst h; exact cr_max hc
theorem kMin (K : PySem.W.Frag) (hc : X.calm = true) (h : X.K = K := by rfl) : CallR X (.builtin "min") (rMin K) := by subst h; exact cr_min hc
theorem kRepr (K : PySem.W.Frag) {k : Nat} (hG : X.A.guards = some []) (hr : Room k X.A) (h : X.K = K := by rfl) : CallR X (.builtin "repr") (rRepr K) := by subst h; exact call_repr hG hr
theorem kIxL (K : PySem.W.Frag) (h : X.K = K := by rfl) : IxR X (rIxL K) := by subst h; exact ix_list
theorem kIxT (K : PySem.W.Frag) (h : X.K = K := by rfl) : IxR X (rIxT K) := by subst h; exact ix_tup
theorem kIxQ (K : PySem.W.Frag) (h : X.K = K := by rfl) : IxR X (rIx K) := by subst h; exact ix_seq
theorem kSlL (K : PySem.W.Frag) (h : X.K = K := by rfl) : SlR X (rSlL K) := by subst h; exact sl_list
theorem kSlT (K : PySem.W.Frag) (h : X.K = K := by rfl) : SlR X (rSlA K) := by subst h; exact sl_tupA
theorem kCatT (K : PySem.W.Frag) (h : X.K = K := by rfl) : OpR X (binaryOp .Add) (rCatA K) := by subst h; exact op_catA
theorem kRepT (K : PySem.W.Frag) (h : X.K = K := by rfl) : OpR X (binaryOp .Mult) (rRepT K) := by subst h; exact op_repT
theorem kIn (K : PySem.W.Frag) (h : X.K = K := by rfl) : OpR X (compareOp .In) (rIn K false) := by subst h; exact op_in_seq
theorem kNotIn (K : PySem.W.Frag) (h : X.K = K := by rfl) : OpR X (compareOp .NotIn) (rIn K true) := by subst h; exact op_notIn_seq
theorem kEqD (K : PySem.W.Frag) {k : Nat} (hr : Room k X.A) (h : X.K = K := by rfl) : OpR X (compareOp .Eq) (rEqD K) := by subst h; exact op_eqD hr.units
theorem kNeD (K : PySem.W.Frag) {k : Nat} (hr : Room k X.A) (h : X.K = K := by rfl) : OpR X (compareOp .NotEq) (rNeD K) := by subst h; exact op_neD hr.units
theorem kEqNil (K : PySem.W.Frag) {k : Nat} (hr : Room k X.A) (h : X.K = K := by rfl) : OpR X (compareOp .Eq) (rNil K false) := by subst h; exact op_eqNil hr
theorem kNeNil (K : PySem.W.Frag) {k : Nat} (hr : Room k X.A) (h : X.K = K := by rfl) : OpR X (compareOp .NotEq) (rNil K true) := by subst h; exact op_neNil hr
theorem kPiL (K : PySem.W.Frag) {tg l : Expr} {tl : TE} (hl : PE X l tl) (h : X.K = K := by rfl) : PI X tg l (iList K tl) := by subst h; exact pi_list hl
theorem kPiT (K : PySem.W.Frag) {tg l : Expr} {tl : TE} (hl : PE X l tl) (h : X.K = K := by rfl) : PI X tg l (iTup K tl) := by subst h; exact pi_tup hl
theorem kTgT (K : PySem.W.Frag) {es : List Expr} {k : Nat} {t : TGs} {n : Nat} {pos : Pos} (hc : X.calm = true) (g : PGs X es t) (h : X.K = K := by rfl)
    (hn : (assignEach es X.env).length = n := by rfl) (hst : (assignEach es X.env).findIdx? (·.1) = none := by rfl) : PG X (.Tuple es k pos) (gTup K n t) := by
  subst h
  exact pg_tup hc g hn hst
theorem kBm (K : PySem.W.Frag) {e : Expr} {t : String} {r : V → List V → Hp → VK → Prop} {to : TE} {ts : L2.TA} (p : PE X e (tBM X.K t r to ts)) (h : X.K = K := by rfl) : PE X e (tBM K t r to ts) := by subst h; exact p
theorem kBm0 (K : PySem.W.Frag) {e : Expr} {t : String} {r : V → List V → Hp → VK → Prop} {to : TE} (p : PE X e (tBM0 X.K t r to)) (h : X.K = K := by rfl) : PE X e (tBM0 K t r to) := by subst h; exact p
theorem kTruth (K : PySem.W.Frag) {a : Expr} {ta : TE} (ha : PE X a ta) (he : ∀ whole, isTrue a X.env whole = (do let v ← whole; standAt a.pos; holding [v] (truthy v))) (h : X.K = K := by rfl) :
    PT X a (fun σ H Q => ta σ H fun x H' => ∃ k, TruV K x H' k ∧ Q k H') := by subst h; exact pt_truth ha he
theorem kEnum (K : PySem.W.Frag) {e : Expr} {ta : L2.TA} {p pos tpos : Pos} {elts : List Expr} {kk : Nat} (hg : Gl X "enumerate") (hm : X.mg "enumerate" = none) (ha : PA X [e] ta) (h : X.K = K := by rfl) (hs : starEach [e] X.env = [(false, eval e X.env)] := by rfl) :
    PI X (.Tuple elts kk tpos) (.Call (.Name "enumerate" p) [e] [] pos) (iEnum K ta) := by subst h; exact pi_enum hg hm ha hs
end
end U

set_option Elab.async false
set_option linter.all false
set_option maxRecDepth 100000
set_option maxHeartbeats 2000000
namespace U
open PySem PySem.Spec PyProof.Rows L2
/-- the places that are written are tracked -/
def Trk (M : List Addr) (H : Hp) : Prop := ∀ b ∈ M, H b ≠ none
theorem Trk.same {M : List Addr} {H H' : Hp} (t : Trk M H) (s : Same H H') : Trk M H' := fun b hb z => t b hb (Same.free s z)
theorem Trk.new {M : List Addr} {H : Hp} {p : Addr} (t : Trk M H) (h : H p = none) : p ∉ M := fun z => t p z h
theorem Trk.upd {M : List Addr} {H : Hp} {p : Addr} {o : HO} (t : Trk M H) : Trk M (upd H p o) := fun b hb z => by
  by_cases e : b = p
  · rw [e, upd_same] at z
    cases z
  · rw [upd_ne e] at z
    exact t b hb z
section
variable {K : PySem.W.Frag} {M : List Addr} {H : Hp} {xs : List V} {ds : List PyData} {Q : VK}
theorem newT (tr : Trk M H) (t : TA K M H xs ds) (k : ∀ p H', H p = none → Same H H' → Trk M H' → H' p = some (.tup xs) → T K M H' (.ref p) (.tuple ds) → Q (.ref p) H') : ∀ p, H p = none → Q (.ref p) (upd H p (.tup xs)) := fun p hp =>
  k p _ hp (Same.new hp) (tr.same (Same.new hp)) upd_same (.tup (tr.new hp) upd_same (t.same (Same.new hp)))
theorem newL (tr : Trk M H) (t : TA K M H xs ds) (k : ∀ p H', H p = none → Same H H' → Trk M H' → H' p = some (.lst xs) → T K M H' (.ref p) (.list ds) → Q (.ref p) H') : ∀ p, H p = none → Q (.ref p) (upd H p (.lst xs)) := fun p hp =>
  k p _ hp (Same.new hp) (tr.same (Same.new hp)) upd_same (.lst (tr.new hp) upd_same (t.same (Same.new hp)))
theorem newD (tr : Trk M H) (k : ∀ p H', H p = none → Same H H' → Trk M H' → T K M H' (.ref p) (.dict []) → Q (.ref p) H') : ∀ p, H p = none → Q (.ref p) (upd H p (.dK [])) := fun p hp =>
  k p _ hp (Same.new hp) (tr.same (Same.new hp)) (.dct (tr.new hp) upd_same .nil)
end
section
variable {K : PySem.W.Frag} {M : List Addr} {H : Hp} {xs : List V} {ds : List PyData} {p : Addr}
theorem atT (tr : Trk M H) (t : TA K M H xs ds) (hp : H p = none) : Same H (upd H p (.tup xs)) ∧ Trk M (upd H p (.tup xs)) ∧ T K M (upd H p (.tup xs)) (.ref p) (.tuple ds) ∧ (upd H p (.tup xs)) p = some (.tup xs) :=
  ⟨Same.new hp, tr.upd, .tup (tr.new hp) upd_same (t.same (Same.new hp)), upd_same⟩
theorem atL (tr : Trk M H) (t : TA K M H xs ds) (hp : H p = none) : Same H (upd H p (.lst xs)) ∧ Trk M (upd H p (.lst xs)) ∧ T K M (upd H p (.lst xs)) (.ref p) (.list ds) ∧ (upd H p (.lst xs)) p = some (.lst xs) :=
  ⟨Same.new hp, tr.upd, .lst (tr.new hp) upd_same (t.same (Same.new hp)), upd_same⟩
theorem atD (tr : Trk M H) (hp : H p = none) : Same H (upd H p (.dK [])) ∧ Trk M (upd H p (.dK [])) ∧ T K M (upd H p (.dK [])) (.ref p) (.dict []) ∧ (upd H p (.dK [])) p = some (.dK []) :=
  ⟨Same.new hp, tr.upd, .dct (tr.new hp) upd_same .nil, upd_same⟩
end
/-! ### parts of tuples, tuples put together -/
def cutD (ds : List PyData) (lo hi : Option Int) : List PyData := (ds.drop (HT.sIx ds.length 0 lo)).take (HT.sIx ds.length ds.length hi - HT.sIx ds.length 0 lo)
section
variable {K : PySem.W.Frag} {M : List Addr} {H : Hp} {a b : Addr} {ds es : List PyData} {lo hi : Option Int} {Q : VK}
theorem slA {x : V} (tr : Trk M H) (t : T K M H x (.tuple ds)) (k : ∀ r H', Same H H' → Trk M H' → T K M H' r (.tuple (cutD ds lo hi)) → Q r H') : rSlA K x lo hi H Q := by
  cases t with
  | @tup a xs _ na ha t =>
    have lx := t.len
    refine ⟨a, xs, rfl, SqT.of ha, fun w => ?_, fun w p hp => ?_⟩
    · rw [lx] at w
      refine k _ _ (Same.refl _) tr ?_
      have e : cutD ds lo hi = ds := by
        unfold cutD
        rw [w.1, w.2, List.drop_zero, Nat.sub_zero, List.take_length]
      rw [e]
      exact .tup na ha t
    · have tc : TA K M H (cutV xs lo hi) (cutD ds lo hi) := by
        unfold cutV cutD
        rw [lx]
        exact (t.drop _).take _
      obtain ⟨s, tr', t', _⟩ := atT tr tc hp
      exact k _ _ s tr' t'
theorem catA {x y : V} (tr : Trk M H) (t : T K M H x (.tuple ds)) (u : T K M H y (.tuple es)) (hl : ds.length + es.length ≤ 100000) (k : ∀ r H', Same H H' → Trk M H' → T K M H' r (.tuple (ds ++ es)) → Q r H') : rCatA K x y H Q := by
  cases t with
  | @tup a xs _ na ha t =>
    cases u with
    | @tup b ys _ nb hb u =>
      have lx := t.len
      have ly := u.len
      refine ⟨a, b, xs, ys, rfl, rfl, SqT.of ha, SqT.of hb, Nat.le_trans (show xs.length + ys.length ≤ 100000 by omega) (by decide), fun e => ?_, fun e1 e2 => ?_, fun e1 e2 p hp => ?_⟩
      · subst e
        cases t
        exact k _ _ (Same.refl _) tr (.tup nb hb u)
      · subst e2
        cases u
        exact k _ _ (Same.refl _) tr (.tup na ha (by rw [List.append_nil]; exact t))
      · obtain ⟨s, tr', t', _⟩ := atT tr (t.app u) hp
        exact k _ _ s tr' t'
theorem T.get {v : V} {j : Nat} (t : T K M H v (.tuple ds)) (hj : j < ds.length) : ∃ a xs x, v = .ref a ∧ H a = some (.tup xs) ∧ xs[j]? = some x ∧ T K M H x ds[j] := by
  cases t with
  | @tup a xs _ na ha t =>
    have lx := t.len
    have hx : xs[j]? = some xs[j] := by simp [lx, hj]
    obtain ⟨d, hd, td⟩ := t.get hx
    refine ⟨a, xs, _, rfl, ha, hx, ?_⟩
    have e : d = ds[j] := by
      rw [List.getElem?_eq_getElem hj] at hd
      exact (Option.some.inj hd).symm
    rw [← e]
    exact td
end
/-! ### data that is small enough to be shown -/
structure Fine (w dp : Nat) (d : PyData) : Prop where
  show_ : d.showable = true
  short : d.leavesShort 60 = true
  weight : d.weight ≤ w
  depth : d.depth ≤ dp
theorem Fine.shown {w dp : Nat} {d : PyData} (f : Fine w dp d) (hw : w ≤ 200000) (hd : dp ≤ 100) : Shown d := by
  refine ⟨f.show_, ?_, Nat.le_trans f.depth hd⟩
  have h := PyData.shown_le 60 (by decide) d f.short
  have h2 : (60 + 2) * d.weight ≤ (60 + 2) * 200000 := Nat.mul_le_mul_left _ (Nat.le_trans f.weight hw)
  rw [sizeLine_eq]
  omega
theorem Fine.more {w dp w' dp' : Nat} {d : PyData} (f : Fine w dp d) (hw : w ≤ w') (hd : dp ≤ dp') : Fine w' dp' d := ⟨f.show_, f.short, Nat.le_trans f.weight hw, Nat.le_trans f.depth hd⟩
theorem fine_all {w dp : Nat} : ∀ {ds : List PyData}, (∀ d ∈ ds, Fine w dp d) → PyData.showableAll ds = true ∧ PyData.leavesShortAll 60 ds = true ∧ PyData.weightAll ds ≤ (w + 1) * ds.length ∧ PyData.depthAll ds ≤ dp
  | [], _ => ⟨rfl, rfl, Nat.le_refl _, Nat.zero_le _⟩
  | d :: ds, h => by
    obtain ⟨a, b, c, e⟩ := fine_all fun x hx => h x (List.mem_cons_of_mem _ hx)
    have f := h d List.mem_cons_self
    refine ⟨?_, ?_, ?_, ?_⟩
    · simp only [PyData.showableAll, f.show_, a, Bool.and_self]
    · simp only [PyData.leavesShortAll, f.short, b, Bool.and_self]
    · simp only [PyData.weightAll, List.length_cons, Nat.mul_add, Nat.mul_one]
      have := f.weight
      omega
    · simp only [PyData.depthAll]
      have := f.depth
      omega
theorem fine_tup {w dp n : Nat} {ds : List PyData} (h : ∀ d ∈ ds, Fine w dp d) (hn : ds.length ≤ n) : Fine ((w + 1) * n) (dp + 1) (.tuple ds) := by
  obtain ⟨a, b, c, e⟩ := fine_all h
  refine ⟨by simp only [PyData.showable, a], by simp only [PyData.leavesShort, b], ?_, ?_⟩
  · simp only [PyData.weight]
    exact Nat.le_trans c (Nat.mul_le_mul_left _ hn)
  · simp only [PyData.depth]
    omega
theorem fine_list {w dp n : Nat} {ds : List PyData} (h : ∀ d ∈ ds, Fine w dp d) (hn : ds.length ≤ n) : Fine ((w + 1) * n) (dp + 1) (.list ds) := by
  obtain ⟨a, b, c, e⟩ := fine_all h
  refine ⟨by simp only [PyData.showable, a], by simp only [PyData.leavesShort, b], ?_, ?_⟩
  · simp only [PyData.weight]
    exact Nat.le_trans c (Nat.mul_le_mul_left _ hn)
  · simp only [PyData.depth]
    omega
theorem fine_of {w dp : Nat} {d : PyData} (h : (d.showable && d.leavesShort 60 && decide (d.weight ≤ w) && decide (d.depth ≤ dp)) = true) : Fine w dp d := by
  simp only [Bool.and_eq_true, decide_eq_true_eq] at h
  exact ⟨h.1.1.1, h.1.1.2, h.1.2, h.2⟩
theorem fine_int {i : Int} (h : i.natAbs < 10 ^ 12) : Fine 40 0 (.int i) := by
  have h1 := PyData.shown_int_le h
  have h2 : i.natAbs.log2 < 40 := by
    by_cases z : i.natAbs = 0
    · rw [z]
      decide
    · exact (Nat.log2_lt z).mpr (Nat.lt_trans h (by decide))
  refine ⟨?_, ?_, ?_, Nat.le_refl _⟩
  · simp only [PyData.showable, decide_eq_true_eq]
    omega
  · simp only [PyData.leavesShort, decide_eq_true_eq]
    omega
  · simp only [PyData.weight]
    split <;> omega
theorem fine_bool (b : Bool) : Fine 0 0 (.bool b) := ⟨rfl, rfl, Nat.le_refl _, Nat.le_refl _⟩
theorem fine_none : Fine 0 0 .none := ⟨rfl, rfl, Nat.le_refl _, Nat.le_refl _⟩
/-- the parts of data that is fine -/
theorem Fine.items {w dp : Nat} {ds : List PyData} (f : Fine w dp (.tuple ds)) : ∀ d ∈ ds, Fine w (dp - 1) d := by
  have s : PyData.showableAll ds = true := by simpa only [PyData.showable] using f.show_
  have l : PyData.leavesShortAll 60 ds = true := by simpa only [PyData.leavesShort] using f.short
  have wt : PyData.weightAll ds ≤ w := f.weight
  have dt : PyData.depthAll ds + 1 ≤ dp := by simpa only [PyData.depth] using f.depth
  clear f
  induction ds with
  | nil => intro d hd; cases hd
  | cons x xs ih =>
    simp only [PyData.showableAll, Bool.and_eq_true] at s
    simp only [PyData.leavesShortAll, Bool.and_eq_true] at l
    simp only [PyData.weightAll] at wt
    simp only [PyData.depthAll] at dt
    intro d hd
    rcases List.mem_cons.mp hd with rfl | hd
    · exact ⟨s.1, l.1, by omega, by omega⟩
    · exact ih s.2 l.2 (by omega) (by omega) d hd
/-! ### rows of data that are fine together -/
structure FineL (w dp : Nat) (ds : List PyData) : Prop where
  show_ : PyData.showableAll ds = true
  short : PyData.leavesShortAll 60 ds = true
  weight : PyData.weightAll ds ≤ w
  depth : PyData.depthAll ds ≤ dp
theorem FineL.nil {dp : Nat} : FineL 0 dp [] := ⟨rfl, rfl, Nat.le_refl _, Nat.zero_le _⟩
theorem FineL.cons {w v dp : Nat} {d : PyData} {ds : List PyData} (f : Fine v dp d) (g : FineL w dp ds) : FineL (v + 1 + w) dp (d :: ds) := by
  refine ⟨?_, ?_, ?_, ?_⟩
  · simp only [PyData.showableAll, f.show_, g.show_, Bool.and_self]
  · simp only [PyData.leavesShortAll, f.short, g.short, Bool.and_self]
  · simp only [PyData.weightAll]
    have := f.weight
    have := g.weight
    omega
  · simp only [PyData.depthAll]
    have := f.depth
    have := g.depth
    omega
theorem FineL.head {w dp : Nat} {d : PyData} {ds : List PyData} (h : FineL w dp (d :: ds)) : Fine w dp d ∧ FineL w dp ds ∧ d.weight + 1 + PyData.weightAll ds ≤ w := by
  obtain ⟨a, b, c, e⟩ := h
  simp only [PyData.showableAll, Bool.and_eq_true] at a
  simp only [PyData.leavesShortAll, Bool.and_eq_true] at b
  simp only [PyData.weightAll] at c
  simp only [PyData.depthAll] at e
  exact ⟨⟨a.1, b.1, by omega, by omega⟩, ⟨a.2, b.2, by omega, by omega⟩, c⟩
theorem FineL.more {w dp w' dp' : Nat} {ds : List PyData} (f : FineL w dp ds) (hw : w ≤ w') (hd : dp ≤ dp') : FineL w' dp' ds := ⟨f.show_, f.short, Nat.le_trans f.weight hw, Nat.le_trans f.depth hd⟩
theorem FineL.app {v w dp : Nat} : ∀ {as bs : List PyData}, FineL v dp as → FineL w dp bs → FineL (v + w) dp (as ++ bs)
  | [], _, _, g => g.more (by omega) (Nat.le_refl _)
  | a :: as, bs, f, g => by
    obtain ⟨h1, h2, h3⟩ := f.head
    have h4 : FineL (PyData.weightAll as) dp as := ⟨h2.show_, h2.short, Nat.le_refl _, h2.depth⟩
    have h5 : Fine a.weight dp a := ⟨h1.show_, h1.short, Nat.le_refl _, h1.depth⟩
    exact (FineL.cons h5 (h4.app g)).more (by omega) (Nat.le_refl _)
theorem FineL.drop {w dp : Nat} : ∀ {ds : List PyData} (n : Nat), FineL w dp ds → FineL w dp (ds.drop n)
  | _, 0, f => f
  | [], _ + 1, f => f
  | _ :: ds, n + 1, f => f.head.2.1.drop n
theorem FineL.take {w dp : Nat} : ∀ {ds : List PyData} (n : Nat), FineL w dp ds → FineL w dp (ds.take n)
  | _, 0, f => FineL.nil.more (Nat.zero_le _) (Nat.le_refl _)
  | [], _ + 1, f => f
  | d :: ds, n + 1, f => by
    obtain ⟨h1, h2, h3⟩ := f.head
    have h4 : FineL (PyData.weightAll ds) dp ds := ⟨h2.show_, h2.short, Nat.le_refl _, h2.depth⟩
    have h5 : Fine d.weight dp d := ⟨h1.show_, h1.short, Nat.le_refl _, h1.depth⟩
    exact (FineL.cons h5 (h4.take n)).more (by omega) (Nat.le_refl _)
theorem FineL.cut {w dp : Nat} {ds : List PyData} (f : FineL w dp ds) (lo hi : Option Int) : FineL w dp (cutD ds lo hi) := (f.drop _).take _
theorem FineL.get {w dp : Nat} : ∀ {ds : List PyData} {d : PyData}, FineL w dp ds → d ∈ ds → Fine w dp d
  | _ :: _, d, f, h => by
    rcases List.mem_cons.mp h with rfl | h
    · exact f.head.1
    · exact f.head.2.1.get h
theorem FineL.len {w dp : Nat} {ds : List PyData} (f : FineL w dp ds) : ds.length ≤ w := by
  have : ds.length ≤ PyData.weightAll ds := by
    clear f
    induction ds with
    | nil => exact Nat.zero_le _
    | cons y ys ih => simp only [List.length_cons, PyData.weightAll]; omega
  exact Nat.le_trans this f.weight
theorem FineL.tup {w dp : Nat} {ds : List PyData} (f : FineL w dp ds) : Fine w (dp + 1) (.tuple ds) :=
  ⟨by simp only [PyData.showable, f.show_], by simp only [PyData.leavesShort, f.short], f.weight, by simp only [PyData.depth]; have := f.depth; omega⟩
theorem FineL.list {w dp : Nat} {ds : List PyData} (f : FineL w dp ds) : Fine w (dp + 1) (.list ds) :=
  ⟨by simp only [PyData.showable, f.show_], by simp only [PyData.leavesShort, f.short], f.weight, by simp only [PyData.depth]; have := f.depth; omega⟩
theorem Fine.row {w dp : Nat} {ds : List PyData} (f : Fine w dp (.tuple ds)) : FineL w (dp - 1) ds ∧ 1 ≤ dp := by
  have d := f.depth
  simp only [PyData.depth] at d
  exact ⟨⟨by simpa only [PyData.showable] using f.show_, by simpa only [PyData.leavesShort] using f.short, f.weight, by omega⟩, by omega⟩
theorem cut_take {ds : List PyData} {j : Nat} (h : j ≤ ds.length) : cutD ds none (some (j : Int)) = ds.take j := by
  unfold cutD
  rw [HT.sIx_nat, HT.sIx_none, List.drop_zero, Nat.sub_zero, Nat.min_eq_left h]
theorem cut_drop {ds : List PyData} {j : Nat} (h : j ≤ ds.length) : cutD ds (some (j : Int)) none = ds.drop j := by
  unfold cutD
  rw [HT.sIx_nat, HT.sIx_none, Nat.min_eq_left h]
  exact List.take_of_length_le (by rw [List.length_drop]; exact Nat.le_refl _)
theorem weight_split : ∀ {ds : List PyData} {j : Nat} (h : j < ds.length), PyData.weightAll (ds.take j) + (ds[j].weight + 1) + PyData.weightAll (ds.drop (j + 1)) = PyData.weightAll ds
  | d :: ds, 0, _ => by
    simp only [List.take_zero, PyData.weightAll, List.getElem_cons_zero, List.drop_succ_cons, List.drop_zero]
    omega
  | d :: ds, j + 1, h => by
    have := weight_split (ds := ds) (j := j) (by simpa using h)
    simp only [List.take_succ_cons, PyData.weightAll, List.getElem_cons_succ, List.drop_succ_cons]
    omega
end U

set_option Elab.async false
set_option linter.all false
set_option maxRecDepth 100000
set_option maxHeartbeats 2000000
namespace U
open PySem PySem.Spec PyProof.Rows L2

/-! ### enumerate(tuple) -/
section
open AutoSeq1 (wpAny_loadPart')
theorem enumNew {v : Value} {it0 : Obj} {C : Heap → Prop} (B : Begins v it0 C) :
    Meets (Builtin.«enumerate.__new__» ⟨[.type "enumerate", v], []⟩) (fun _ R z => C z.heap ∧
      R (.ok (.ret (.ref (z.heap.push it0).objs.size))) { z with heap := (z.heap.push it0).push { cls := .type "enumerate", data := .fields #[.none, .bool false, .ref z.heap.objs.size, rawInt 0, .none, .none] } }) :=
  .of_wp fun prog w A R z h => by
    obtain ⟨p0, g, d, k0, os⟩ := z
    obtain ⟨c0, h⟩ := h
    have isE := sub_enumerate
    have start : ∀ {A2 : Around} {E : Value → Shared → Prop} {Q : Value → Shared → Prop}, Q (.ref p0.objs.size) ⟨p0.push it0, g, d, k0, os⟩ → wpAny (model prog w) A2 (pyIter v) Q E ⟨p0, g, d, k0, os⟩ :=
      fun y => B.iter prog w _ _ ⟨p0, g, d, k0, os⟩ _ c0 y
    wp_walk using start
    refine wpAny_stack_any fun _ => wpAny_pure ?_
    split
    · rename_i c _ _ _ _ _
      by_cases hc : (c == Value.type "enumerate") = true
      · simp only [hc]
        wp_walk using start
        exact ⟨_, rfl, h⟩
      · simp only [Bool.not_eq_true] at hc
        simp only [hc]
        wp_walk using start
        exact ⟨_, rfl, h⟩
    · wp_walk using start
      exact ⟨_, rfl, h⟩
theorem enumMake {prog : Program} {w : World} {A : Around} {E : Value → Shared → Prop} {z : Shared} {v : Value} {it0 : Obj} {C : Heap → Prop} {Q : Value → Shared → Prop} (B : Begins v it0 C) (c0 : C z.heap)
    (h : ∀ h', IsEnum h' (z.heap.objs.size + 1) z.heap.objs.size 0 .none → h'.get? z.heap.objs.size = some it0 → (∀ b ob, z.heap.get? b = some ob → h'.get? b = some ob) → Q (.ref (z.heap.objs.size + 1)) { z with heap := h' }) :
    wpAny (model prog w) A (call (.type "enumerate") [v]) Q E z := by
  refine callType_new F.called_enumerate (by decide) (F.typeCall_enumerate_1 _) (F.newCall_enumerate_1 _) (fun ob => F.args_object_init_2 ob _) F.entry_enumerate_new (enumNew B) ⟨c0, ?_⟩
  have size1 : (z.heap.push it0).objs.size = z.heap.objs.size + 1 := Heap.size_push ..
  show _ ∧ _
  rw [size1]
  have made : IsEnum ((z.heap.push it0).push { cls := .type "enumerate", data := .fields #[.none, .bool false, .ref z.heap.objs.size, rawInt 0, .none, .none] }) (z.heap.objs.size + 1) z.heap.objs.size 0 .none := by
    have y := Heap.get?_push_size (z.heap.push it0) (o := { cls := .type "enumerate", data := .fields #[.none, .bool false, .ref z.heap.objs.size, rawInt 0, .none, .none] }) rfl
    rw [size1] at y
    exact y
  exact ⟨⟨_, made, rfl⟩, h _ made (Heap.get?_push_of_some _ (Heap.get?_push_size _ B.free)) fun b ob y => Heap.get?_push_of_some _ (Heap.get?_push_of_some _ y)⟩
end
/-- the tuple at a, each item in a new pair with its number -/
def ItE (K : PySem.W.Frag) (a : Addr) : It :=
  ⟨fun i H => ∃ (xs : List V) (x : V), SqT K H a xs ∧ xs[i]? = some x,
    fun i H v H' => ∃ (p : Addr) (x : V), v = .ref p ∧ H p = none ∧ H' = upd H p (.tup [.int (i : Nat), x]) ∧ ∀ xs, SqT K H a xs → xs[i]? = some x,
    fun i H => ∃ xs : List V, SqT K H a xs ∧ xs.length ≤ i⟩
theorem apart_iter {h : Heap} {a it : Addr} {i : Nat} {items : Array Value} (h1 : h.IsTupleIter it a i) (h2 : h.IsTuple a items) : a ≠ it := by
  rintro rfl
  obtain ⟨o, ho, hc, _⟩ := h1
  obtain ⟨o2, ho2, hc2, _⟩ := h2
  rw [ho] at ho2
  cases ho2
  have z : Value.type "tuple_iterator" = Value.type "tuple" := hc.symm.trans hc2
  injection z with z
  exact absurd z (by decide)
theorem turnE {P : Program} {w : World} {K : PySem.W.Frag} {elts : List Expr} {kk : Nat} {tpos : Pos} (a e it : Addr) :
    L2.Turn P w K (.Tuple elts kk tpos) (ItE K a) [e, it] e (fun i h => (∃ old, IsEnum h e it ((i : Nat) : Int) old) ∧ h.IsTupleIter it a i ∧ e ≠ it) where
  mem := List.mem_cons_self
  obj := fun i h st b hb => by
    obtain ⟨⟨old, he⟩, ⟨o, ho, _, hd⟩, _⟩ := st
    rcases List.mem_cons.mp hb with rfl | hb
    · exact ⟨_, he, fun _ q => nomatch q⟩
    · obtain rfl : b = it := by simpa using hb
      exact ⟨o, ho, fun _ q => by rw [hd] at q; cases q⟩
  keep := fun i h h' st k => ⟨st.1.imp fun _ he => k e (by simp) _ he, st.2.1.at fun o q => k it (by simp) o q, st.2.2⟩
  item := by
    rintro X rfl rfl rfl hc i pins s σ H E I hf ⟨⟨old, he⟩, hit, hne⟩ ⟨xs, x, hq, hx⟩
    obtain ⟨its, rv, p, hz⟩ := I.tuple hq
    obtain ⟨u, hu, ru⟩ := rv.get hx
    have p2 : s.heap.IsTuple a its.toArray := p
    have el : e < s.heap.objs.size := Heap.lt_size he
    have il : it < s.heap.objs.size := by obtain ⟨_, q, _⟩ := hit; exact Heap.lt_size q
    have hlt : i < its.toArray.size := by
      have := (List.getElem?_eq_some_iff.mp hu).1
      simpa using this
    have hea : e ≠ a := by
      rintro rfl
      obtain ⟨o2, ho2, hc2, _⟩ := p2
      rw [he] at ho2
      cases ho2
      have z : Value.type "enumerate" = Value.type "tuple" := hc2
      injection z with z
      exact absurd z (by decide)
    have D := Draws.tuple (prog := X.prog) (w := X.w) (A := X.A.in1) (I.ok.hd hc) it a (apart_iter hit p2) its.toArray
    refine wpAny_pyNext_enum_itemD D he ⟨hit, p2⟩ hlt hne (by simp [hne, hea]) fun y h' tk hy ho hst hT hsz hk => ?_
    have ey : y = u := by
      have h2 : its.toArray[i]? = some u := by simpa using hu
      exact Option.some.inj (hy.symm.trans h2)
    subst ey
    refine ⟨_, rfl, wpAny_letOwnedTupleGo_enum (s := { s with heap := h', toks := tk + 1 }) ho fun h'' he' sb => ?_⟩
    have hT2 := (sb.2 _ (Nat.ne_of_gt el)).trans hT
    have new : ObjOk X.prog X.w (upd H s.heap.objs.size (.tup [.int (i : Nat), x])) h'' s.heap.objs.size (.tup [.int (i : Nat), x]) :=
      ⟨(show 2 ≤ sizeLine by decide), [.int i tk, y], .cons ⟨_, rfl⟩ (.cons ru .nil), ⟨_, hT2, rfl, _, rfl⟩⟩
    have I1 : Inv X pins σ (upd H s.heap.objs.size (.tup [.int (i : Nat), x])) { s with heap := h'', toks := tk + 1 } :=
      I.turnedNew (ch := [e, it]) (fun b ob hb q => (sb.2 b (fun z => hb (by simp [z]))).trans (hk b ob (fun z => hb (by simp [z])) (fun z => hb (by simp [z])) q)) hf (Nat.le_refl _) new
    refine ⟨.ref s.heap.objs.size, _, I1, rfl, ⟨_, x, rfl, I.hok.fresh (Nat.le_refl _), rfl, fun ys hy => by rw [I.tuple_inj hy hq]; exact hx⟩, ⟨⟨y, ?_⟩, hst.1.at fun o q => (sb.2 it (Ne.symm hne)).trans q, hne⟩, fun b hb => ?_⟩
    · rw [show ((i + 1 : Nat) : Int) = (i : Int) + 1 by omega]
      exact he'
    · have lt : b < s.heap.objs.size := by
        rcases List.mem_cons.mp hb with rfl | hb
        · exact el
        · obtain rfl : b = it := by simpa using hb
          exact il
      rw [upd_ne (Nat.ne_of_lt lt)]
      exact (hf b hb).1
  done := by
    rintro X rfl rfl rfl hc i pins s σ H E I hf ⟨⟨old, he⟩, hit, hne⟩ ⟨xs, hq, hx⟩
    obtain ⟨its, rv, p, hz⟩ := I.tuple hq
    have p2 : s.heap.IsTuple a its.toArray := p
    obtain ⟨f0, f1, f2, f3, f4, f5⟩ := hf it (by simp)
    have hl := rv.length
    unfold pyNext
    have hT : s.TypeIs (.ref e) "enumerate" := ⟨_, he, rfl⟩
    have none_ : its.toArray[i]? = none := by
      rw [List.getElem?_toArray]
      exact List.getElem?_eq_none (by omega)
    refine wpAny_bind (wpAny_attempt (wpAny_callSpecial?_slot (name := Str.ofString "__next__") hT F.slot_enumerate_next (wpAny_call_entry F.slot_enumerate_next hT F.entry_enumerate_next ?_ (F.args_enumerate_next_1 _))))
    show wpAny _ _ (field (.ref e) 2 >>= _) _ _ _
    refine wpAny_bind (wpAny_field he rfl (x := .ref it) rfl (wpAny_bind (wpAny_nextOf_tuple_end (I.ok.hd hc) hit p2 none_ fun h' y eb hy => ?_)))
    obtain ⟨o, ho, hoc⟩ := hy
    refine wpAny_bind (wpAny_isInstance (T := "StopIteration") (b := true) ⟨o, ho, hoc⟩ isSubtype_stop (wpAny_pure ?_))
    exact ⟨rfl, I.turned (t' := s.toks) (fun b o hb q => eb b o hb q) f0 f1 f3 f4 f5⟩
  self := fun _ _ _ _ _ st h => by
    obtain ⟨⟨_, he⟩, _⟩ := st
    exact wpAny_pyIter_enum he h
def iEnumT (K : PySem.W.Frag) (ta : L2.TA) : TI := fun σ H R => ta σ H fun vs H1 => ∃ (a : Addr) (xs : List V), vs = [.ref a] ∧ SqT K H1 a xs ∧ R (ItE K a) H1
theorem kEnumT (K : PySem.W.Frag) {X : Cx} {e : Expr} {ta : L2.TA} {p pos tpos : Pos} {elts : List Expr} {kk : Nat} (hg : Gl X "enumerate") (hm : X.mg "enumerate" = none) (ha : PA X [e] ta) (hK : X.K = K := by rfl)
    (hs : starEach [e] X.env = [(false, eval e X.env)] := by rfl) : PI X (.Tuple elts kk tpos) (.Call (.Name "enumerate" p) [e] [] pos) (iEnumT K ta) := by
  subst hK
  refine ⟨fun pins s σ H R I h => ?_⟩
  refine Call_ (ld_blt I hg hm boot_enumerate (PyProof.Rows.callWith_type1 (thn (ha.run pos pins s σ H _ I h) fun us s1 ⟨vs, H1, I1, r1, a, xs, ev, hq, q⟩ => ?_) hs rfl))
  subst ev
  cases r1 with
  | cons r rr =>
    cases rr
    cases r
    obtain ⟨its, rv, p', hz⟩ := I1.tuple hq
    have p2 : s1.heap.IsTuple a its.toArray := p'
    refine enumMake (begins_tuple a its.toArray) p2 fun h' he hit hk => wpAny_pyIter_enum he ?_
    refine ⟨s1.heap.objs.size + 1, [s1.heap.objs.size + 1, s1.heap.objs.size], _, _, H1, rfl, I1.kept (t' := s1.toks) hk, turnE a (s1.heap.objs.size + 1) s1.heap.objs.size, ⟨⟨.none, he⟩, ⟨_, hit, rfl, rfl⟩, Nat.succ_ne_self _⟩, fun b hb => ?_, q⟩
    have le_ : s1.heap.objs.size ≤ b := by
      rcases List.mem_cons.mp hb with rfl | hb
      · exact Nat.le_add_right _ _
      · obtain rfl : b = s1.heap.objs.size := by simpa using hb
        exact Nat.le_refl _
    exact I1.fpOk le_ (I1.hok.fresh le_)
/-- a comprehension over such pairs, the tuple staying as it is -/
theorem lc_enumT {K : PySem.W.Frag} {a : Addr} {xs : List V} {g : TG} {tt : TT} {te : TE} {vs : List Nat} {σ : L2.St} {H1 : Hp} {D : Addr} {Qd : Hp → Prop} (Pv : Nat → Hp → Prop) (h0 : Pv 0 (upd H1 D (.lst []))) (hl : ∀ i H, i ≤ xs.length → Pv i H → SqT K H a xs)
    (hs : ∀ i x H p, xs[i]? = some x → Pv i H → H p = none → g (.ref p) (wipe σ vs) (upd H p (.tup [.int (i : Nat), x])) fun σ2 H2 => wipe σ2 vs = wipe σ vs ∧ tt σ2 H2 fun b H3 =>
      if b = true then te σ2 H3 fun y H4 => ∃ acc, H4 D = some (.lst acc) ∧ acc.length < sizeLine ∧ Pv (i + 1) (upd H4 D (.lst (acc ++ [y]))) else Pv (i + 1) H3) (hd : ∀ H, Pv xs.length H → Qd H) :
    ∃ W : Nat → Nat → Hp → Prop, (∃ m, W 0 m (upd H1 D (.lst []))) ∧ ∀ i m H, W i m H →
      ((ItE K a).stop i H ∧ Qd H) ∨ ((ItE K a).go i H ∧ ∃ Nx : Hp → Prop, (∀ H', Nx H' → ∃ m', m' < m ∧ W (i + 1) m' H') ∧ ∀ x H', (ItE K a).yld i H x H' → g x (wipe σ vs) H' fun σ2 H2 => wipe σ2 vs = wipe σ vs ∧ tt σ2 H2 fun b H3 =>
        if b = true then te σ2 H3 fun y H4 => ∃ acc, H4 D = some (.lst acc) ∧ acc.length < sizeLine ∧ Nx (upd H4 D (.lst (acc ++ [y]))) else Nx H3) := by
  refine ⟨fun i m H => m + i = xs.length ∧ Pv i H, ⟨xs.length, rfl, h0⟩, ?_⟩
  rintro i m H ⟨hm, pv⟩
  have q := hl i H (by omega) pv
  by_cases hlt : i < xs.length
  · refine .inr ⟨⟨xs, xs[i], q, by simp [hlt]⟩, Pv (i + 1), fun H' p' => ⟨m - 1, by omega, by omega, p'⟩, ?_⟩
    rintro v H' ⟨p, x, rfl, hp, rfl, hx⟩
    exact hs i x H p (hx xs q) pv hp
  · obtain rfl : i = xs.length := by omega
    exact .inl ⟨⟨xs, q, Nat.le_refl _⟩, hd H pv⟩
/-- the same over a list -/
theorem lc_enumL {K : PySem.W.Frag} {a : Addr} {xs : List V} {g : TG} {tt : TT} {te : TE} {vs : List Nat} {σ : L2.St} {H1 : Hp} {D : Addr} {Qd : Hp → Prop} (Pv : Nat → Hp → Prop) (h0 : Pv 0 (upd H1 D (.lst []))) (hl : ∀ i H, i ≤ xs.length → Pv i H → SqL K H a xs)
    (hs : ∀ i x H p, xs[i]? = some x → Pv i H → H p = none → g (.ref p) (wipe σ vs) (upd H p (.tup [.int (i : Nat), x])) fun σ2 H2 => wipe σ2 vs = wipe σ vs ∧ tt σ2 H2 fun b H3 =>
      if b = true then te σ2 H3 fun y H4 => ∃ acc, H4 D = some (.lst acc) ∧ acc.length < sizeLine ∧ Pv (i + 1) (upd H4 D (.lst (acc ++ [y]))) else Pv (i + 1) H3) (hd : ∀ H, Pv xs.length H → Qd H) :
    ∃ W : Nat → Nat → Hp → Prop, (∃ m, W 0 m (upd H1 D (.lst []))) ∧ ∀ i m H, W i m H →
      ((Ite K a).stop i H ∧ Qd H) ∨ ((Ite K a).go i H ∧ ∃ Nx : Hp → Prop, (∀ H', Nx H' → ∃ m', m' < m ∧ W (i + 1) m' H') ∧ ∀ x H', (Ite K a).yld i H x H' → g x (wipe σ vs) H' fun σ2 H2 => wipe σ2 vs = wipe σ vs ∧ tt σ2 H2 fun b H3 =>
        if b = true then te σ2 H3 fun y H4 => ∃ acc, H4 D = some (.lst acc) ∧ acc.length < sizeLine ∧ Nx (upd H4 D (.lst (acc ++ [y]))) else Nx H3) := by
  refine ⟨fun i m H => m + i = xs.length ∧ Pv i H, ⟨xs.length, rfl, h0⟩, ?_⟩
  rintro i m H ⟨hm, pv⟩
  have q := hl i H (by omega) pv
  by_cases hlt : i < xs.length
  · refine .inr ⟨⟨xs, xs[i], q, by simp [hlt]⟩, Pv (i + 1), fun H' p' => ⟨m - 1, by omega, by omega, p'⟩, ?_⟩
    rintro v H' ⟨p, x, rfl, hp, rfl, hx⟩
    exact hs i x H p (hx xs q) pv hp
  · obtain rfl : i = xs.length := by omega
    exact .inl ⟨⟨xs, q, Nat.le_refl _⟩, hd H pv⟩
section
variable {K : PySem.W.Frag} {M N : List Addr} {g : TG} {tt : TT} {te : TE} {vs : List Nat} {σ : L2.St} {H1 : Hp} {D : Addr} {Qd : Hp → Prop}
/-- lcT, and the new list is known to be there -/
theorem lcT2 {a : Addr} {xs : List V} {ds : List PyData} (J : Nat → Hp → Prop) (keep : PyData → Bool) (f : PyData → PyData → Prop) (ha : H1 a = some (.tup xs)) (na : a ∉ M) (ht : TA K M H1 xs ds) (hl : ds.length ≤ 100000)
    (hNM : ∀ b ∈ N, b ∈ M) (hN : ∀ b ∈ M, H1 b ≠ none) (hD : H1 D = none) (j0 : J 0 H1) (hJ : ∀ i H o, J i H → J i (upd H D o))
    (turn : ∀ i x d H, ds[i]? = some d → T K (D :: M) H x d → Ext N H1 H → J i H → H D ≠ none → ∀ (Ky : V → Hp → Prop) (Kn : Hp → Prop), (keep d = false → ∀ H', Ext N H H' → J (i + 1) H' → Kn H') →
      (keep d = true → ∀ H' y e, Ext N H H' → J (i + 1) H' → T K (D :: M) H' y e → f d e → Ky y H') → Turn g tt te vs σ x H Ky Kn)
    (hd : ∀ H ys es, Ext N H1 H → J ds.length H → H D = some (.lst ys) → TA K M H ys es → Paired f (ds.filter keep) es → Qd H) :
    ∃ W : Nat → Nat → Hp → Prop, (∃ m, W 0 m (upd H1 D (.lst []))) ∧ ∀ i m H, W i m H →
      ((Itt K a).stop i H ∧ Qd H) ∨ ((Itt K a).go i H ∧ ∃ Nx : Hp → Prop, (∀ H', Nx H' → ∃ m', m' < m ∧ W (i + 1) m' H') ∧ ∀ x H', (Itt K a).yld i H x H' → g x (wipe σ vs) H' fun σ2 H2 => wipe σ2 vs = wipe σ vs ∧ tt σ2 H2 fun b H3 =>
        if b = true then te σ2 H3 fun y H4 => ∃ acc, H4 D = some (.lst acc) ∧ acc.length < sizeLine ∧ Nx (upd H4 D (.lst (acc ++ [y]))) else Nx H3) := by
  have hDM : D ∉ M := fun z => hN D z hD
  have hDN : D ∉ N := fun z => hDM (hNM D z)
  have naN : a ∉ N := fun z => na (hNM a z)
  have hT : TA K (D :: M) H1 xs ds := ht.plus hD
  refine lc_tup (K := K) (a := a) (xs := xs) (fun i H => Sofar K (D :: M) N H1 D J keep f ds i H) ⟨[], [], Ext.new hD, hJ _ _ _ j0, upd_same, .nil, by simpa using Paired.nil⟩ (fun i H _ p => ?_) (fun i x H hx p => ?_) (fun H p => ?_)
  · obtain ⟨_, _, e, _⟩ := p
    exact SqT.of (e _ _ naN ha)
  · obtain ⟨d, hdi, td⟩ := hT.get hx
    have e := let ⟨_, _, e, _⟩ := p; e
    have j := let ⟨_, _, _, j, _⟩ := p; j
    have hy : H D ≠ none := let ⟨_, _, _, _, h, _⟩ := p; fun z => by rw [z] at h; cases h
    exact sofar_turn hl hNM hDN hDM hD hJ hdi p (turn i x d H hdi (td.ext (e.sub fun b hb => List.mem_cons_of_mem _ (hNM b hb))) e j hy)
  · obtain ⟨ys, es, e, j, h1, h2, h3⟩ := p
    rw [ht.len, List.take_length] at h3
    rw [ht.len] at j
    exact hd H ys es e j h1 (h2.off fun b hb => List.mem_cons_of_mem _ hb) h3
/-- lcL, and the new list is known to be there -/
theorem lcL2 {a : Addr} {xs : List V} {ds : List PyData} (J : Nat → Hp → Prop) (keep : PyData → Bool) (f : PyData → PyData → Prop) (ha : H1 a = some (.lst xs)) (na : a ∉ M) (ht : TA K M H1 xs ds) (hl : ds.length ≤ 100000)
    (hNM : ∀ b ∈ N, b ∈ M) (hN : ∀ b ∈ M, H1 b ≠ none) (hD : H1 D = none) (j0 : J 0 H1) (hJ : ∀ i H o, J i H → J i (upd H D o))
    (turn : ∀ i x d H, ds[i]? = some d → T K (D :: M) H x d → Ext N H1 H → J i H → H D ≠ none → ∀ (Ky : V → Hp → Prop) (Kn : Hp → Prop), (keep d = false → ∀ H', Ext N H H' → J (i + 1) H' → Kn H') →
      (keep d = true → ∀ H' y e, Ext N H H' → J (i + 1) H' → T K (D :: M) H' y e → f d e → Ky y H') → Turn g tt te vs σ x H Ky Kn)
    (hd : ∀ H ys es, Ext N H1 H → J ds.length H → H D = some (.lst ys) → TA K M H ys es → Paired f (ds.filter keep) es → Qd H) :
    ∃ W : Nat → Nat → Hp → Prop, (∃ m, W 0 m (upd H1 D (.lst []))) ∧ ∀ i m H, W i m H →
      ((Itl K a).stop i H ∧ Qd H) ∨ ((Itl K a).go i H ∧ ∃ Nx : Hp → Prop, (∀ H', Nx H' → ∃ m', m' < m ∧ W (i + 1) m' H') ∧ ∀ x H', (Itl K a).yld i H x H' → g x (wipe σ vs) H' fun σ2 H2 => wipe σ2 vs = wipe σ vs ∧ tt σ2 H2 fun b H3 =>
        if b = true then te σ2 H3 fun y H4 => ∃ acc, H4 D = some (.lst acc) ∧ acc.length < sizeLine ∧ Nx (upd H4 D (.lst (acc ++ [y]))) else Nx H3) := by
  have hDM : D ∉ M := fun z => hN D z hD
  have hDN : D ∉ N := fun z => hDM (hNM D z)
  have naN : a ∉ N := fun z => na (hNM a z)
  have hT : TA K (D :: M) H1 xs ds := ht.plus hD
  refine lc_list (K := K) (a := a) (xs := xs) (fun i H => Sofar K (D :: M) N H1 D J keep f ds i H) ⟨[], [], Ext.new hD, hJ _ _ _ j0, upd_same, .nil, by simpa using Paired.nil⟩ (fun i H _ p => ?_) (fun i x H hx p => ?_) (fun H p => ?_)
  · obtain ⟨_, _, e, _⟩ := p
    exact SqL.of (e _ _ naN ha)
  · obtain ⟨d, hdi, td⟩ := hT.get hx
    have e := let ⟨_, _, e, _⟩ := p; e
    have j := let ⟨_, _, _, j, _⟩ := p; j
    have hy : H D ≠ none := let ⟨_, _, _, _, h, _⟩ := p; fun z => by rw [z] at h; cases h
    exact sofar_turn hl hNM hDN hDM hD hJ hdi p (turn i x d H hdi (td.ext (e.sub fun b hb => List.mem_cons_of_mem _ (hNM b hb))) e j hy)
  · obtain ⟨ys, es, e, j, h1, h2, h3⟩ := p
    rw [ht.len, List.take_length] at h3
    rw [ht.len] at j
    exact hd H ys es e j h1 (h2.off fun b hb => List.mem_cons_of_mem _ hb) h3
/-- lcR, and the new list is known to be there -/
theorem lcR2 {n : Nat} (J : Nat → Hp → Prop) (keep : PyData → Bool) (f : PyData → PyData → Prop) (hl : n ≤ 100000)
    (hNM : ∀ b ∈ N, b ∈ M) (hN : ∀ b ∈ M, H1 b ≠ none) (hD : H1 D = none) (j0 : J 0 H1) (hJ : ∀ i H o, J i H → J i (upd H D o))
    (turn : ∀ (i : Nat) H, i < n → Ext N H1 H → J i H → H D ≠ none → ∀ (Ky : V → Hp → Prop) (Kn : Hp → Prop), (keep (.int (i : Int)) = false → ∀ H', Ext N H H' → J (i + 1) H' → Kn H') →
      (keep (.int (i : Int)) = true → ∀ H' y e, Ext N H H' → J (i + 1) H' → T K (D :: M) H' y e → f (.int (i : Int)) e → Ky y H') → Turn g tt te vs σ (.int (i : Int)) H Ky Kn)
    (hd : ∀ H ys es, Ext N H1 H → J n H → H D = some (.lst ys) → TA K M H ys es → Paired f (((List.range n).map fun i : Nat => PyData.int (i : Int)).filter keep) es → Qd H) :
    ∃ W : Nat → Nat → Hp → Prop, (∃ m, W 0 m (upd H1 D (.lst []))) ∧ ∀ i m H, W i m H →
      ((Itr 0 n).stop i H ∧ Qd H) ∨ ((Itr 0 n).go i H ∧ ∃ Nx : Hp → Prop, (∀ H', Nx H' → ∃ m', m' < m ∧ W (i + 1) m' H') ∧ ∀ x H', (Itr 0 n).yld i H x H' → g x (wipe σ vs) H' fun σ2 H2 => wipe σ2 vs = wipe σ vs ∧ tt σ2 H2 fun b H3 =>
        if b = true then te σ2 H3 fun y H4 => ∃ acc, H4 D = some (.lst acc) ∧ acc.length < sizeLine ∧ Nx (upd H4 D (.lst (acc ++ [y]))) else Nx H3) := by
  have hDM : D ∉ M := fun z => hN D z hD
  have hDN : D ∉ N := fun z => hDM (hNM D z)
  refine lc_range (lo := 0) (n := n) (fun i H => Sofar K (D :: M) N H1 D J keep f ((List.range n).map fun i : Nat => PyData.int (i : Int)) i H) ⟨[], [], Ext.new hD, hJ _ _ _ j0, upd_same, .nil, by simpa using Paired.nil⟩ (fun i H hi p => ?_) (fun H p => ?_)
  · have e := let ⟨_, _, e, _⟩ := p; e
    have j := let ⟨_, _, _, j, _⟩ := p; j
    have z : (0 : Int) + (i : Int) = (i : Int) := Int.zero_add _
    rw [z]
    have hy : H D ≠ none := let ⟨_, _, _, _, h, _⟩ := p; fun z => by rw [z] at h; cases h
    exact sofar_turn (d := .int (i : Int)) (by simpa using hl) hNM hDN hDM hD hJ (by simp [hi]) p (turn i H hi e j hy)
  · obtain ⟨ys, es, e, j, h1, h2, h3⟩ := p
    rw [List.take_of_length_le (by simp)] at h3
    exact hd H ys es e j h1 (h2.off fun b hb => List.mem_cons_of_mem _ hb) h3
end
end U

set_option Elab.async false
set_option linter.all false
set_option maxRecDepth 100000
set_option maxHeartbeats 4000000
namespace U
open PySem PySem.Spec PyProof.Rows L2
section
open AutoSeq1 (wpAny_loadPart')
theorem tupTimes1 (l : Addr) (its : Array Value) (n : Nat) (dd : Option Addr) (sl : Array (Option Value)) (u : Tok) :
    Meets (Builtin.«tuple.__mul__» ⟨[.ref l, .int 1 u], []⟩) (fun _ R z => z.heap.get? l = some { cls := .type "tuple", dict := dd, data := .seq its n, slots := sl } ∧ R (.ok (.ret (Value.ref l))) z) :=
  .of_wp fun prog w A R z h => by
    obtain ⟨p0, g, d, k0, os⟩ := z
    obtain ⟨hl, h⟩ := h
    have f1 := AutoSeq1.idx_int
    wp_walk using wpAny_loadPart' hl
    exact ⟨_, rfl, h⟩
end
/-- a tuple k times, k from 1 on; once is the tuple itself -/
def rTimes (K : PySem.W.Frag) : R2 := fun x y H Q => ∃ (l : Addr) (k : Int) (xs : List V), x = .ref l ∧ y = .int k ∧ SqT K H l xs ∧ xs ≠ [] ∧ 1 ≤ k ∧ k ≤ 1000 ∧ xs.length ≤ 1000 ∧ (k = 1 → Q (.ref l) H) ∧ (2 ≤ k → ∀ p, H p = none → Q (.ref p) (upd H p (.tup (List.replicate k.toNat xs).flatten)))
theorem op_times {X : Cx} : OpR X (binaryOp .Mult) (rTimes X.K) := by
  intro pins z σ H x y v u Q I rx ry h
  obtain ⟨l, k, xs, rfl, rfl, hT, hne, k1, k2, hz, q1, q2⟩ := h
  by_cases e : k = 1
  · subst e
    have q1 := q1 rfl
    have rx' : RelV (.ref l) v := rx
    cases rx
    obtain ⟨t, rfl⟩ := ry
    obtain ⟨its, r, ⟨⟨cls, dd, data, sl⟩, ho, hc, m, hd⟩, hs⟩ := I.tuple hT
    simp only at hc hd
    subst hc hd
    exact wpAny_binaryOp_repeat_ref (T := "tuple") (U := "int") (by decide) ⟨_, ho, rfl⟩ (fun z' => typeIs_int z' 1 t) noFill_tuple_mul F.fills_int_mul F.slot_int_rmul repeat_tuple F.slot_int_index.lookup
      (call_meets F.slot_int_rmul (typeIs_int z 1 t) F.entry_int_rmul (F.args_int_rmul_2 _ _) (int_rmul_tuple 1 t l its.toArray m dd sl)
        ⟨ho, rfl, ⟨_, ho, rfl⟩, call_meets F.slot_tuple_mul ⟨_, ho, rfl⟩ F.entry_tuple_mul (F.args_tuple_mul_2 _ _) (tupTimes1 l its.toArray m dd sl t) ⟨ho, ⟨.ref l, H, I, rx', q1⟩⟩⟩)
  · exact op_repT pins z σ H (.ref l) (.int k) v u Q I rx ry ⟨l, k, xs, rfl, rfl, hT, hne, by omega, k2, hz, q2 (by omega)⟩
theorem kTimes (K : PySem.W.Frag) {X : Cx} (h : X.K = K := by rfl) : OpR X (binaryOp .Mult) (rTimes K) := by subst h; exact op_times
end U

set_option Elab.async false
set_option linter.all false
set_option maxRecDepth 100000
set_option maxHeartbeats 2000000
namespace U
open PySem PySem.Spec PyProof.Rows L2

/-! ### places more -/
section
variable {K : PySem.W.Frag} {N N' : List Addr} {H : Hp}
mutual
theorem T.plusAll (s : ∀ b ∈ N', b ∈ N ∨ H b = none) : ∀ {v : V} {d : PyData}, T K N H v d → T K N' H v d
  | _, _, .non => .non
  | _, _, .bl b => .bl b
  | _, _, .int i => .int i
  | _, _, .str x => .str x
  | _, _, .lst n h t => .lst (fun z => (s _ z).elim n fun q => by rw [q] at h; cases h) h (TA.plusAll s t)
  | _, _, .tup n h t => .tup (fun z => (s _ z).elim n fun q => by rw [q] at h; cases h) h (TA.plusAll s t)
  | _, _, .dct n h t => .dct (fun z => (s _ z).elim n fun q => by rw [q] at h; cases h) h (TK.plusAll s t)
theorem TA.plusAll (s : ∀ b ∈ N', b ∈ N ∨ H b = none) : ∀ {vs : List V} {ds : List PyData}, TA K N H vs ds → TA K N' H vs ds
  | _, _, .nil => .nil
  | _, _, .cons h t => .cons (T.plusAll s h) (TA.plusAll s t)
theorem TK.plusAll (s : ∀ b ∈ N', b ∈ N ∨ H b = none) : ∀ {kvs : List (Key × V)} {es : List (PyData × PyData)}, TK K N H kvs es → TK K N' H kvs es
  | _, _, .nil => .nil
  | _, _, .cons h g t => .cons (T.plusAll s h) (T.plusAll s g) (TK.plusAll s t)
end
end

/-! ### worlds: the places that are written from outside, and what is known of them -/
structure Wd (γ : Type) where
  M : List Addr
  /-- N: the places that data keep off (the own ones and M) -/
  I : γ → List Addr → Hp → Prop
  loc : ∀ k N H H', (∀ b, b ∈ M → H' b = H b) → Ext N H H' → I k N H → I k N H'
  plus : ∀ k N N' H, (∀ b, b ∈ N' → b ∈ N ∨ H b = none) → (∀ b, b ∈ M → b ∈ N') → I k N H → I k N' H
  trk : ∀ k N H, I k N H → Trk M H
/-- nothing at M is written -/
def pureW (M : List Addr) (Hs : Hp) (t : Trk M Hs) : Wd Nat where
  M := M
  I := fun _ _ H => ∀ b, b ∈ M → H b = Hs b
  loc := fun _ _ _ _ e _ h b hb => (e b hb).trans (h b hb)
  plus := fun _ _ _ _ _ _ h => h
  trk := fun _ _ _ h b hb z => t b hb ((h b hb).symm.trans z)

inductive Slot where
  | no
  | dat (d : PyData)
  | own (ds : List PyData)
  | ownD (kvs : List (Key × PyData))
  | lck (kvs : List (Key × PyData))
  | raw (v : V)
  /-- an inner def -/
  | fn (mk : Addr → NdefX.NF)
  /-- a dict of its own whose keys are tuples: D tells its object -/
  | ownN (D : Addr → List (NestedKey × Addr × V) → HO) (kvs : List (NestedKey × PyData))
def Slot.isOwn : Slot → Bool | .own _ => true | .ownD _ => true | .lck _ => true | .ownN _ _ => true | _ => false
abbrev Rho := List Slot
inductive KD (K : PySem.W.Frag) (M : List Addr) (H : Hp) : List (Key × V) → List (Key × PyData) → Prop
  | nil : KD K M H [] []
  | cons {k : Key} {v : V} {d : PyData} {vs : List (Key × V)} {ds : List (Key × PyData)} : T K M H v d → KD K M H vs ds → KD K M H ((k, v) :: vs) ((k, d) :: ds)
theorem KD.map {K : PySem.W.Frag} {M M' : List Addr} {H H' : Hp} (f : ∀ v d, T K M H v d → T K M' H' v d) : ∀ {vs : List (Key × V)} {ds : List (Key × PyData)}, KD K M H vs ds → KD K M' H' vs ds
  | _, _, .nil => .nil
  | _, _, .cons h t => .cons (f _ _ h) (KD.map f t)
mutual
/-- a datum as a key -/
def nkey : PyData → Option NestedKey
  | .none => some .none
  | .int i => some (.num i)
  | .str x => some (.text x)
  | .tuple ds => (nkeys ds).map .tup
  | _ => Option.none
def nkeys : List PyData → Option (List NestedKey)
  | [] => some []
  | d :: ds => match nkey d, nkeys ds with
    | some k, some ks => some (k :: ks)
    | _, _ => Option.none
end
inductive KN (K : PySem.W.Frag) (M : List Addr) (H : Hp) : List (NestedKey × Addr × V) → List (NestedKey × PyData) → Prop
  | nil : KN K M H [] []
  | cons {k : NestedKey} {a : Addr} {v : V} {e d : PyData} {xs : List (NestedKey × Addr × V)} {ds : List (NestedKey × PyData)} : nkey e = some k → k.depth ≤ 8 → T K M H (.ref a) e → T K M H v d → KN K M H xs ds → KN K M H ((k, a, v) :: xs) ((k, d) :: ds)
theorem KN.map {K : PySem.W.Frag} {M M' : List Addr} {H H' : Hp} (f : ∀ v d, T K M H v d → T K M' H' v d) : ∀ {xs : List (NestedKey × Addr × V)} {ds : List (NestedKey × PyData)}, KN K M H xs ds → KN K M' H' xs ds
  | _, _, .nil => .nil
  | _, _, .cons e dp h g t => .cons e dp (f _ _ h) (f _ _ g) (KN.map f t)
theorem TA.mapT {K : PySem.W.Frag} {M M' : List Addr} {H H' : Hp} (f : ∀ v d, T K M H v d → T K M' H' v d) : ∀ {vs : List V} {ds : List PyData}, TA K M H vs ds → TA K M' H' vs ds
  | _, _, .nil => .nil
  | _, _, .cons h t => .cons (f _ _ h) (TA.mapT f t)
def SlotOk (K : PySem.W.Frag) (N L : List Addr) (H : Hp) (o : Option (Option V)) : Slot → Prop
  | .no => True
  | .dat d => ∃ v, o = some (some v) ∧ T K N H v d
  | .own ds => ∃ l xs, o = some (some (.ref l)) ∧ l ∈ L ∧ H l = some (.lst xs) ∧ TA K N H xs ds
  | .ownD kvs => ∃ l vs, o = some (some (.ref l)) ∧ l ∈ L ∧ H l = some (.dK vs) ∧ KD K N H vs kvs
  | .lck kvs => ∃ l vs od, o = some (some (.ref l)) ∧ l ∈ L ∧ H l = some (.frz od (.dK vs)) ∧ KD K N H vs kvs
  | .raw v => o = some (some v)
  | .fn mk => ∃ f c, o = some (some (.ref f)) ∧ f ∉ N ∧ c ∉ N ∧ H f = some (NdefX.FnO f (mk c)) ∧ H c = some (LamX.CodeO c (mk c).qual)
  | .ownN D kvs => ∃ l xs, o = some (some (.ref l)) ∧ l ∈ L ∧ H l = some (D l xs) ∧ KN K N H xs kvs
/-- the slots and the heap as they are told: since H0 (whose own places are L0) -/
structure Stt (K : PySem.W.Frag) {γ : Type} (W : Wd γ) (L0 : List Addr) (H0 : Hp) (L : List Addr) (H : Hp) (σ : L2.St) (ρ : Rho) (k : γ) : Prop where
  base : Ext (L0 ++ W.M) H0 H
  fresh : ∀ l ∈ L, l ∈ L0 ∨ H0 l = none
  offM : ∀ l ∈ L, l ∉ W.M
  trk : Trk (L ++ W.M) H
  wd : W.I k (L ++ W.M) H
  len : ρ.length = σ.length
  slots : ∀ (i : Nat) (s : Slot), ρ[i]? = some s → SlotOk K (L ++ W.M) L H σ[i]? s
  dis : ∀ (i j : Nat) (s t : Slot), ρ[i]? = some s → ρ[j]? = some t → s.isOwn = true → t.isOwn = true → σ[i]? = σ[j]? → i = j

structure Later {γ : Type} (W : Wd γ) (L1 : List Addr) (H1 : Hp) (L : List Addr) (H : Hp) : Prop where
  ext : Ext (L1 ++ W.M) H1 H
  fresh : ∀ l ∈ L, l ∈ L1 ∨ H1 l = none
  trk : Trk (L ++ W.M) H
section
variable {K : PySem.W.Frag} {γ : Type} {W : Wd γ} {L0 L1 L L' : List Addr} {H0 H1 H H' : Hp} {σ σ' : L2.St} {ρ ρ' : Rho} {k k' : γ} {v : V} {d : PyData}
theorem Later.T (l : Later W L1 H1 L H) (t : T K (L1 ++ W.M) H1 v d) : T K (L ++ W.M) H v d := by
  have t1 : U.T K (L ++ (L1 ++ W.M)) H1 v d := t.plusAll fun b hb => by
    rcases List.mem_append.mp hb with hb | hb
    · rcases l.fresh b hb with h | h
      · exact .inl (List.mem_append_left _ h)
      · exact .inr h
    · exact .inl hb
  have t2 := t1.ext (l.ext.sub fun b hb => List.mem_append_right _ hb)
  exact t2.off fun b hb => by
    rcases List.mem_append.mp hb with hb | hb
    · exact List.mem_append_left _ hb
    · exact List.mem_append_right _ (List.mem_append_right _ hb)
theorem Stt.later (S : Stt K W L0 H0 L H σ ρ k) : Later W L0 H0 L H := ⟨S.base, S.fresh, S.trk⟩
theorem Stt.rebase (S : Stt K W L0 H0 L H σ ρ k) : Stt K W L H L H σ ρ k := ⟨Ext.refl _ _, fun _ h => .inl h, S.offM, S.trk, S.wd, S.len, S.slots, S.dis⟩
theorem Stt.back (S1 : Stt K W L0 H0 L1 H1 σ ρ k) (S : Stt K W L1 H1 L H σ' ρ' k') : Stt K W L0 H0 L H σ' ρ' k' := by
  have e : Ext (L0 ++ W.M) H0 H := fun b o nb hb => by
    refine S.base b o (fun z => ?_) (S1.base b o nb hb)
    rcases List.mem_append.mp z with z | z
    · rcases S1.fresh b z with q | q
      · exact nb (List.mem_append_left _ q)
      · rw [q] at hb; cases hb
    · exact nb (List.mem_append_right _ z)
  refine ⟨e, fun l hl => ?_, S.offM, S.trk, S.wd, S.len, S.slots, S.dis⟩
  rcases S.fresh l hl with q | q
  · exact S1.fresh l q
  · by_cases h0 : l ∈ L0
    · exact .inl h0
    · right
      cases h : H0 l with
      | none => rfl
      | some o =>
        have nb : l ∉ L0 ++ W.M := fun z => (List.mem_append.mp z).elim h0 (S.offM l hl)
        rw [S1.base l o nb h] at q
        cases q
theorem Stt.tM (S : Stt K W L0 H0 L H σ ρ k) (t : T K (L ++ W.M) H v d) : T K W.M H v d := t.off fun b hb => List.mem_append_right _ hb
/-- a heap in which the places of M alone have changed, or new ones have come -/
theorem Stt.ext (S : Stt K W L0 H0 L H σ ρ k) (e : Ext W.M H H') (wd : W.I k' (L ++ W.M) H') : Stt K W L0 H0 L H' σ ρ k' := by
  have e1 : Ext (L ++ W.M) H H' := e.sub fun b hb => List.mem_append_right _ hb
  refine ⟨S.base.trans (e.sub fun b hb => List.mem_append_right _ hb), S.fresh, S.offM, ?_, wd, S.len, fun i s hs => ?_, S.dis⟩
  · intro b hb
    rcases List.mem_append.mp hb with h | h
    · cases q : H b with
      | none => exact absurd q (S.trk b hb)
      | some o => rw [e b o (S.offM b h) q]; simp
    · exact W.trk _ _ _ wd b h
  · have q := S.slots i s hs
    cases s with
    | no => trivial
    | dat d =>
      obtain ⟨v, h1, h2⟩ := q
      exact ⟨v, h1, h2.ext e1⟩
    | own ds =>
      obtain ⟨l, xs, h1, h2, h3, h4⟩ := q
      exact ⟨l, xs, h1, h2, e l _ (S.offM l h2) h3, h4.ext e1⟩
    | ownD kvs =>
      obtain ⟨l, xs, h1, h2, h3, h4⟩ := q
      exact ⟨l, xs, h1, h2, e l _ (S.offM l h2) h3, h4.map fun _ _ t => t.ext e1⟩
    | lck kvs =>
      obtain ⟨l, xs, od, h1, h2, h3, h4⟩ := q
      exact ⟨l, xs, od, h1, h2, e l _ (S.offM l h2) h3, h4.map fun _ _ t => t.ext e1⟩
    | raw v => exact q
    | fn F =>
      obtain ⟨f, c, h1, h2, h3, h4, h5⟩ := q
      exact ⟨f, c, h1, h2, h3, e1 f _ h2 h4, e1 c _ h3 h5⟩
    | ownN D kvs =>
      obtain ⟨l, xs, h1, h2, h3, h4⟩ := q
      exact ⟨l, xs, h1, h2, e l _ (S.offM l h2) h3, h4.map fun _ _ t => t.ext e1⟩
theorem Stt.same (S : Stt K W L0 H0 L H σ ρ k) (e : Same H H') : Stt K W L0 H0 L H' σ ρ k := by
  refine S.ext (Ext.same e) (W.loc k _ H H' (fun b hb => ?_) (Ext.same e) S.wd)
  cases q : H b with
  | none => exact absurd q (W.trk _ _ _ S.wd b hb)
  | some o => exact e b o q
theorem Stt.new (S : Stt K W L0 H0 L H σ ρ k) {p : Addr} {o : HO} (hp : H p = none) : Stt K W L0 H0 L (upd H p o) σ ρ k := S.same (Same.new hp)
theorem Stt.nin (S : Stt K W L0 H0 L H σ ρ k) {p : Addr} (hp : H p = none) : p ∉ L ++ W.M := S.trk.new hp
/-- the world, when a new place becomes one's own -/
theorem Stt.wdNew (S : Stt K W L0 H0 L H σ ρ k) {p : Addr} {o : HO} (hp : H p = none) : W.I k (p :: L ++ W.M) (upd H p o) := by
  have npM : p ∉ W.M := fun z => S.nin hp (List.mem_append_right _ z)
  refine W.loc k _ H _ (fun b hb => ?_) (Ext.put (by simp)) (W.plus k (L ++ W.M) _ H (fun b hb => ?_) (fun b hb => List.mem_append_right _ hb) S.wd)
  · rw [upd_ne (by rintro rfl; exact npM hb)]
  · rcases List.mem_cons.mp hb with rfl | hb
    · exact .inr hp
    · exact .inl hb
/-- .. when own places are given away -/
theorem Stt.wdSub (S : Stt K W L0 H0 L H σ ρ k) {L' : List Addr} (h : ∀ b ∈ L', b ∈ L) : W.I k (L' ++ W.M) H :=
  W.plus k _ _ H (fun b hb => .inl ((List.mem_append.mp hb).elim (fun z => List.mem_append_left _ (h b z)) fun z => List.mem_append_right _ z)) (fun b hb => List.mem_append_right _ hb) S.wd
theorem Stt.wdM (S : Stt K W L0 H0 L H σ ρ k) : W.I k W.M H := S.wdSub (L' := []) fun _ h => nomatch h
/-- a slot takes a datum -/
theorem Stt.set (S : Stt K W L0 H0 L H σ ρ k) (i : Nat) (t : T K (L ++ W.M) H v d) : Stt K W L0 H0 L H (σ.set i (some v)) (ρ.set i (.dat d)) k := by
  refine ⟨S.base, S.fresh, S.offM, S.trk, S.wd, by rw [List.length_set, List.length_set]; exact S.len, fun j s hs => ?_, fun j l s t' hs ht h1 h2 h3 => ?_⟩
  · by_cases e : i = j
    · subst e
      rw [List.getElem?_set_self'] at hs
      cases q : ρ[i]? with
      | none => rw [q] at hs; cases hs
      | some u =>
        rw [q] at hs
        have hs' : Slot.dat d = s := by simpa using hs
        subst hs'
        have hl : i < σ.length := by rw [← S.len]; exact (List.getElem?_eq_some_iff.mp q).1
        exact ⟨v, by simp [hl], t⟩
    · rw [List.getElem?_set_ne e] at hs ⊢
      exact S.slots j s hs
  · have nj : i ≠ j := by
      rintro rfl
      rw [List.getElem?_set_self'] at hs
      cases q : ρ[i]? with
      | none => rw [q] at hs; cases hs
      | some u =>
        rw [q] at hs
        have hs' : Slot.dat d = s := by simpa using hs
        subst hs'
        cases h1
    have nl : i ≠ l := by
      rintro rfl
      rw [List.getElem?_set_self'] at ht
      cases q : ρ[i]? with
      | none => rw [q] at ht; cases ht
      | some u =>
        rw [q] at ht
        have hs' : Slot.dat d = t' := by simpa using ht
        subst hs'
        cases h2
    rw [List.getElem?_set_ne nj] at hs h3
    rw [List.getElem?_set_ne nl] at ht h3
    exact S.dis j l s t' hs ht h1 h2 h3
/-- a slot takes a thing as it is -/
theorem Stt.setRaw (S : Stt K W L0 H0 L H σ ρ k) (i : Nat) : Stt K W L0 H0 L H (σ.set i (some v)) (ρ.set i (.raw v)) k := by
  refine ⟨S.base, S.fresh, S.offM, S.trk, S.wd, by rw [List.length_set, List.length_set]; exact S.len, fun j s hs => ?_, fun j l s t' hs ht h1 h2 h3 => ?_⟩
  · by_cases e : i = j
    · subst e
      rw [List.getElem?_set_self'] at hs
      cases q : ρ[i]? with
      | none => rw [q] at hs; cases hs
      | some u =>
        rw [q] at hs
        have hs' : Slot.raw v = s := by simpa using hs
        subst hs'
        have hl : i < σ.length := by rw [← S.len]; exact (List.getElem?_eq_some_iff.mp q).1
        show (σ.set i (some v))[i]? = some (some v)
        simp [hl]
    · rw [List.getElem?_set_ne e] at hs ⊢
      exact S.slots j s hs
  · have nj : i ≠ j := by
      rintro rfl
      rw [List.getElem?_set_self'] at hs
      cases q : ρ[i]? with
      | none => rw [q] at hs; cases hs
      | some u =>
        rw [q] at hs
        have hs' : Slot.raw v = s := by simpa using hs
        subst hs'
        cases h1
    have nl : i ≠ l := by
      rintro rfl
      rw [List.getElem?_set_self'] at ht
      cases q : ρ[i]? with
      | none => rw [q] at ht; cases ht
      | some u =>
        rw [q] at ht
        have hs' : Slot.raw v = t' := by simpa using ht
        subst hs'
        cases h2
    rw [List.getElem?_set_ne nj] at hs h3
    rw [List.getElem?_set_ne nl] at ht h3
    exact S.dis j l s t' hs ht h1 h2 h3
/-- a slot takes a new list of its own, made at p -/
theorem Stt.setOwn (S : Stt K W L0 H0 L H σ ρ k) (i : Nat) {p : Addr} {o : HO} {s0 : Slot} (hi : s0.isOwn = true) (hp : H p = none)
    (hs0 : SlotOk K (p :: L ++ W.M) (p :: L) (upd H p o) (some (some (.ref p))) s0) : Stt K W L0 H0 (p :: L) (upd H p o) (σ.set i (some (.ref p))) (ρ.set i s0) k := by
  have np := S.nin hp
  have S1 := S.new (o := o) hp
  have npM : p ∉ W.M := fun z => np (List.mem_append_right _ z)
  have up : ∀ v d, T K (L ++ W.M) H v d → T K (p :: L ++ W.M) (upd H p o) v d := fun v d t => (t.plus hp).ext (Ext.put (by simp))
  have hf : H0 p = none ∨ p ∈ L0 := by
    by_cases h0 : p ∈ L0
    · exact .inr h0
    · left
      cases h : H0 p with
      | none => rfl
      | some o =>
        rw [S.base p o (fun z => (List.mem_append.mp z).elim h0 npM) h] at hp
        cases hp
  have old : ∀ j s, j ≠ i → (ρ.set i s0)[j]? = some s → SlotOk K (L ++ W.M) L H σ[j]? s := fun j s hj hs => by
    rw [List.getElem?_set_ne (fun e => hj e.symm)] at hs
    exact S.slots j s hs
  refine ⟨S1.base, fun l hl => ?_, fun l hl => ?_, ?_, S.wdNew hp, by rw [List.length_set, List.length_set]; exact S.len, fun j s hs => ?_, fun j l s t' hs ht h1 h2 h3 => ?_⟩
  · rcases List.mem_cons.mp hl with rfl | hl
    · exact hf.symm
    · exact S.fresh l hl
  · rcases List.mem_cons.mp hl with rfl | hl
    · exact npM
    · exact S.offM l hl
  · intro b hb z
    rcases List.mem_cons.mp hb with rfl | hb
    · rw [upd_same] at z; cases z
    · exact S1.trk b hb z
  · by_cases e : j = i
    · subst e
      rw [List.getElem?_set_self'] at hs
      cases q : ρ[j]? with
      | none => rw [q] at hs; cases hs
      | some u =>
        rw [q] at hs
        have hs' : s0 = s := by simpa using hs
        subst hs'
        have hl : j < σ.length := by rw [← S.len]; exact (List.getElem?_eq_some_iff.mp q).1
        have : (σ.set j (some (V.ref p)))[j]? = some (some (.ref p)) := by simp [hl]
        rw [this]
        exact hs0
    · have q := old j s e hs
      rw [List.getElem?_set_ne (fun z => e z.symm)]
      cases s with
      | no => trivial
      | dat d =>
        obtain ⟨v, h1, h2⟩ := q
        exact ⟨v, h1, up _ _ h2⟩
      | own ds =>
        obtain ⟨l, xs, h1, h2, h3, h4⟩ := q
        exact ⟨l, xs, h1, List.mem_cons_of_mem _ h2, by rw [upd_ne (ne_of_none h3 hp)]; exact h3, h4.mapT up⟩
      | ownD kvs =>
        obtain ⟨l, xs, h1, h2, h3, h4⟩ := q
        exact ⟨l, xs, h1, List.mem_cons_of_mem _ h2, by rw [upd_ne (ne_of_none h3 hp)]; exact h3, h4.map up⟩
      | lck kvs =>
        obtain ⟨l, xs, od, h1, h2, h3, h4⟩ := q
        exact ⟨l, xs, od, h1, List.mem_cons_of_mem _ h2, by rw [upd_ne (ne_of_none h3 hp)]; exact h3, h4.map up⟩
      | raw v => exact q
      | fn F =>
        obtain ⟨f, c, h1, h2, h3, h4, h5⟩ := q
        exact ⟨f, c, h1, fun z => (List.mem_cons.mp z).elim (ne_of_none h4 hp) h2, fun z => (List.mem_cons.mp z).elim (ne_of_none h5 hp) h3, by rw [upd_ne (ne_of_none h4 hp)]; exact h4, by rw [upd_ne (ne_of_none h5 hp)]; exact h5⟩
      | ownN D kvs =>
        obtain ⟨l, xs, h1, h2, h3, h4⟩ := q
        exact ⟨l, xs, h1, List.mem_cons_of_mem _ h2, by rw [upd_ne (ne_of_none h3 hp)]; exact h3, h4.map up⟩
  · have at_ : ∀ j s, j ≠ i → (ρ.set i s0)[j]? = some s → s.isOwn = true → (σ.set i (some (V.ref p)))[j]? ≠ some (some (V.ref p)) := fun j s hj hs ho z => by
      have q := old j s hj hs
      rw [List.getElem?_set_ne (fun z => hj z.symm)] at z
      cases s with
      | no => cases ho
      | dat d => cases ho
      | raw v => cases ho
      | fn F => cases ho
      | ownN D kvs =>
        obtain ⟨l, xs, h1, h2, h3, h4⟩ := q
        rw [z] at h1
        have e : p = l := by injection h1 with h1; injection h1 with h1; injection h1
        rw [← e, hp] at h3
        cases h3
      | own ds =>
        obtain ⟨l, xs, h1, h2, h3, h4⟩ := q
        rw [z] at h1
        have e : p = l := by injection h1 with h1; injection h1 with h1; injection h1
        rw [← e, hp] at h3
        cases h3
      | ownD kvs =>
        obtain ⟨l, xs, h1, h2, h3, h4⟩ := q
        rw [z] at h1
        have e : p = l := by injection h1 with h1; injection h1 with h1; injection h1
        rw [← e, hp] at h3
        cases h3
      | lck kvs =>
        obtain ⟨l, xs, od, h1, h2, h3, h4⟩ := q
        rw [z] at h1
        have e : p = l := by injection h1 with h1; injection h1 with h1; injection h1
        rw [← e, hp] at h3
        cases h3
    have self : ∀ s, (ρ.set i s0)[i]? = some s → (σ.set i (some (V.ref p)))[i]? = some (some (V.ref p)) := fun s hs => by
      rw [List.getElem?_set_self'] at hs
      cases q : ρ[i]? with
      | none => rw [q] at hs; cases hs
      | some u =>
        have hl : i < σ.length := by rw [← S.len]; exact (List.getElem?_eq_some_iff.mp q).1
        simp [hl]
    by_cases ej : j = i
    · by_cases el : l = i
      · rw [ej, el]
      · exfalso
        subst ej
        rw [self s hs] at h3
        exact at_ l t' el ht h2 h3.symm
    · by_cases el : l = i
      · exfalso
        subst el
        rw [self t' ht] at h3
        exact at_ j s ej hs h1 h3
      · rw [List.getElem?_set_ne (fun z => ej z.symm)] at hs h3
        rw [List.getElem?_set_ne (fun z => el z.symm)] at ht h3
        exact S.dis j l s t' hs ht h1 h2 h3
/-- a slot takes an inner def -/
theorem Stt.setFn (S : Stt K W L0 H0 L H σ ρ k) (i : Nat) {p c : Addr} {mk : Addr → NdefX.NF} (np : p ∉ L ++ W.M) (nc : c ∉ L ++ W.M) (hp : H p = some (NdefX.FnO p (mk c))) (hc : H c = some (LamX.CodeO c (mk c).qual)) : Stt K W L0 H0 L H (σ.set i (some (.ref p))) (ρ.set i (.fn mk)) k := by
  refine ⟨S.base, S.fresh, S.offM, S.trk, S.wd, by rw [List.length_set, List.length_set]; exact S.len, fun j s hs => ?_, fun j l s t' hs ht h1 h2 h3 => ?_⟩
  · by_cases e : i = j
    · subst e
      rw [List.getElem?_set_self'] at hs
      cases q : ρ[i]? with
      | none => rw [q] at hs; cases hs
      | some u =>
        rw [q] at hs
        have hs' : Slot.fn mk = s := by simpa using hs
        subst hs'
        have hl : i < σ.length := by rw [← S.len]; exact (List.getElem?_eq_some_iff.mp q).1
        exact ⟨p, c, by simp [hl], np, nc, hp, hc⟩
    · rw [List.getElem?_set_ne e] at hs ⊢
      exact S.slots j s hs
  · have nj : i ≠ j := by
      rintro rfl
      rw [List.getElem?_set_self'] at hs
      cases q : ρ[i]? with
      | none => rw [q] at hs; cases hs
      | some u =>
        rw [q] at hs
        have hs' : Slot.fn mk = s := by simpa using hs
        subst hs'
        cases h1
    have nl : i ≠ l := by
      rintro rfl
      rw [List.getElem?_set_self'] at ht
      cases q : ρ[i]? with
      | none => rw [q] at ht; cases ht
      | some u =>
        rw [q] at ht
        have hs' : Slot.fn mk = t' := by simpa using ht
        subst hs'
        cases h2
    rw [List.getElem?_set_ne nj] at hs h3
    rw [List.getElem?_set_ne nl] at ht h3
    exact S.dis j l s t' hs ht h1 h2 h3
/-- the own list (or dict) of a slot is written -/
theorem Stt.put (S : Stt K W L0 H0 L H σ ρ k) {i : Nat} {l : Addr} {o : HO} {s0 s1 : Slot} (hi : ρ[i]? = some s0) (ho : s0.isOwn = true) (h1 : s1.isOwn = true) (hσ : σ[i]? = some (some (.ref l))) (hl : l ∈ L)
    (hs1 : SlotOk K (L ++ W.M) L (upd H l o) (some (some (.ref l))) s1) : Stt K W L0 H0 L (upd H l o) σ (ρ.set i s1) k := by
  have nM := S.offM l hl
  have up : ∀ v d, T K (L ++ W.M) H v d → T K (L ++ W.M) (upd H l o) v d := fun v d t => t.ext (Ext.put (List.mem_append_left _ hl))
  have il : i < ρ.length := (List.getElem?_eq_some_iff.mp hi).1
  refine ⟨fun b u nb hb => ?_, S.fresh, S.offM, S.trk.upd, W.loc k _ H _ (fun b hb => ?_) (Ext.put (List.mem_append_left _ hl)) S.wd, by rw [List.length_set]; exact S.len, fun j s hs => ?_, fun j m s t' hs ht g1 g2 g3 => ?_⟩
  · have : b ≠ l := by
      rintro rfl
      rcases S.fresh b hl with q | q
      · exact nb (List.mem_append_left _ q)
      · rw [q] at hb; cases hb
    rw [upd_ne this]
    exact S.base b u nb hb
  · have : b ≠ l := by rintro rfl; exact nM hb
    rw [upd_ne this]
  · by_cases e : i = j
    · subst e
      rw [List.getElem?_set_self'] at hs
      rw [hi] at hs
      have hs' : s1 = s := by simpa using hs
      subst hs'
      rw [hσ]
      exact hs1
    · rw [List.getElem?_set_ne e] at hs
      have q := S.slots j s hs
      cases s with
      | no => trivial
      | dat d =>
        obtain ⟨v, h1, h2⟩ := q
        exact ⟨v, h1, up _ _ h2⟩
      | own ds =>
        obtain ⟨m, xs, q1, q2, q3, q4⟩ := q
        have : m ≠ l := by
          rintro rfl
          exact e (S.dis i j _ _ hi hs ho rfl (hσ.trans q1.symm))
        exact ⟨m, xs, q1, q2, by rw [upd_ne this]; exact q3, q4.mapT up⟩
      | ownD kvs =>
        obtain ⟨m, xs, q1, q2, q3, q4⟩ := q
        have : m ≠ l := by
          rintro rfl
          exact e (S.dis i j _ _ hi hs ho rfl (hσ.trans q1.symm))
        exact ⟨m, xs, q1, q2, by rw [upd_ne this]; exact q3, q4.map up⟩
      | lck kvs =>
        obtain ⟨m, xs, od, q1, q2, q3, q4⟩ := q
        have : m ≠ l := by
          rintro rfl
          exact e (S.dis i j _ _ hi hs ho rfl (hσ.trans q1.symm))
        exact ⟨m, xs, od, q1, q2, by rw [upd_ne this]; exact q3, q4.map up⟩
      | raw v => exact q
      | fn F =>
        obtain ⟨f, c, q1, q2, q3, q4, q5⟩ := q
        exact ⟨f, c, q1, q2, q3, by rw [upd_ne (by rintro rfl; exact q2 (List.mem_append_left _ hl))]; exact q4, by rw [upd_ne (by rintro rfl; exact q3 (List.mem_append_left _ hl))]; exact q5⟩
      | ownN D kvs =>
        obtain ⟨m, xs, q1, q2, q3, q4⟩ := q
        have : m ≠ l := by
          rintro rfl
          exact e (S.dis i j _ _ hi hs ho rfl (hσ.trans q1.symm))
        exact ⟨m, xs, q1, q2, by rw [upd_ne this]; exact q3, q4.map up⟩
  · have own_ : ∀ (j : Nat) (s : Slot), (ρ.set i s1)[j]? = some s → s.isOwn = true → ∃ s' : Slot, ρ[j]? = some s' ∧ s'.isOwn = true := fun j s hs hh => by
      by_cases e : i = j
      · subst e
        exact ⟨s0, hi, ho⟩
      · rw [List.getElem?_set_ne e] at hs
        exact ⟨s, hs, hh⟩
    obtain ⟨a, a1, a2⟩ := own_ j s hs g1
    obtain ⟨b, b1, b2⟩ := own_ m t' ht g2
    exact S.dis j m a b a1 b1 a2 b2 g3
/-- an own list becomes a datum -/
theorem Stt.freeze (S : Stt K W L0 H0 L H σ ρ k) {i : Nat} {ds : List PyData} (hi : ρ[i]? = some (.own ds)) : ∃ L' l, σ[i]? = some (some (.ref l)) ∧ T K (L' ++ W.M) H (.ref l) (.list ds) ∧ (∀ b ∈ L', b ∈ L) ∧ Stt K W L0 H0 L' H σ (ρ.set i (.dat (.list ds))) k := by
  obtain ⟨l, xs, e1, e2, e3, e4⟩ := S.slots i _ hi
  have sub : ∀ b ∈ L.filter (fun b => b ≠ l) ++ W.M, b ∈ L ++ W.M := fun b hb => by
    rcases List.mem_append.mp hb with hb | hb
    · exact List.mem_append_left _ (List.mem_filter.mp hb).1
    · exact List.mem_append_right _ hb
  have nl : l ∉ L.filter (fun b => b ≠ l) ++ W.M := fun hb => by
    rcases List.mem_append.mp hb with hb | hb
    · have := (List.mem_filter.mp hb).2
      simp at this
    · exact S.offM l e2 hb
  have tl : T K (L.filter (fun b => b ≠ l) ++ W.M) H (.ref l) (.list ds) := .lst nl e3 (e4.off sub)
  refine ⟨L.filter fun b => b ≠ l, l, e1, tl, fun b hb => (List.mem_filter.mp hb).1, S.base, fun b hb => S.fresh b (List.mem_filter.mp hb).1, fun b hb => S.offM b (List.mem_filter.mp hb).1, fun b hb => S.trk b (sub b hb), S.wdSub (fun b hb => (List.mem_filter.mp hb).1), by rw [List.length_set]; exact S.len, fun j s hs => ?_, fun j m s t' hs ht g1 g2 g3 => ?_⟩
  · by_cases e : i = j
    · subst e
      rw [List.getElem?_set_self', hi] at hs
      have hs' : Slot.dat (.list ds) = s := by simpa using hs
      subst hs'
      exact ⟨_, e1, tl⟩
    · rw [List.getElem?_set_ne e] at hs
      have q := S.slots j s hs
      cases s with
      | no => trivial
      | dat d =>
        obtain ⟨v, h1, h2⟩ := q
        exact ⟨v, h1, h2.off sub⟩
      | own ds' =>
        obtain ⟨m, xs, q1, q2, q3, q4⟩ := q
        have : m ≠ l := by
          rintro rfl
          exact e (S.dis i j _ _ hi hs rfl rfl (e1.trans q1.symm))
        exact ⟨m, xs, q1, List.mem_filter.mpr ⟨q2, by simpa using this⟩, q3, q4.off sub⟩
      | ownD kvs =>
        obtain ⟨m, xs, q1, q2, q3, q4⟩ := q
        have : m ≠ l := by
          rintro rfl
          exact e (S.dis i j _ _ hi hs rfl rfl (e1.trans q1.symm))
        exact ⟨m, xs, q1, List.mem_filter.mpr ⟨q2, by simpa using this⟩, q3, q4.map fun _ _ t => t.off sub⟩
      | lck kvs =>
        obtain ⟨m, xs, od, q1, q2, q3, q4⟩ := q
        have : m ≠ l := by
          rintro rfl
          exact e (S.dis i j _ _ hi hs rfl rfl (e1.trans q1.symm))
        exact ⟨m, xs, od, q1, List.mem_filter.mpr ⟨q2, by simpa using this⟩, q3, q4.map fun _ _ t => t.off sub⟩
      | raw v => exact q
      | fn F =>
        obtain ⟨f, c, q1, q2, q3, q4, q5⟩ := q
        exact ⟨f, c, q1, fun z => q2 (sub _ z), fun z => q3 (sub _ z), q4, q5⟩
      | ownN D kvs =>
        obtain ⟨m, xs, q1, q2, q3, q4⟩ := q
        have : m ≠ l := by
          rintro rfl
          exact e (S.dis i j _ _ hi hs rfl rfl (e1.trans q1.symm))
        exact ⟨m, xs, q1, List.mem_filter.mpr ⟨q2, by simpa using this⟩, q3, q4.map fun _ _ t => t.off sub⟩
  · have own_ : ∀ (j : Nat) (s : Slot), (ρ.set i (.dat (.list ds)))[j]? = some s → s.isOwn = true → ρ[j]? = some s := fun j s hs hh => by
      by_cases e : i = j
      · subst e
        rw [List.getElem?_set_self', hi] at hs
        have hs' : Slot.dat (.list ds) = s := by simpa using hs
        subst hs'
        cases hh
      · rw [List.getElem?_set_ne e] at hs
        exact hs
    exact S.dis j m s t' (own_ j s hs g1) (own_ m t' ht g2) g1 g2 g3
/-- slots forgotten -/
theorem Stt.weaken (S : Stt K W L0 H0 L H σ ρ k) {ρ' : Rho} (hl : ρ'.length = ρ.length) (h : ∀ (i : Nat) (s : Slot), ρ'[i]? = some s → s = .no ∨ ρ[i]? = some s) : Stt K W L0 H0 L H σ ρ' k := by
  refine ⟨S.base, S.fresh, S.offM, S.trk, S.wd, hl.trans S.len, fun i s hs => ?_, fun i j s t hs ht h1 h2 h3 => ?_⟩
  · rcases h i s hs with rfl | q
    · trivial
    · exact S.slots i s q
  · rcases h i s hs with rfl | q
    · cases h1
    · rcases h j t ht with rfl | q'
      · cases h2
      · exact S.dis i j s t q q' h1 h2 h3
end
end U

set_option Elab.async false
set_option linter.all false
set_option maxRecDepth 100000
set_option maxHeartbeats 2000000
namespace U
open PySem PySem.Spec PyProof.Rows L2

/-! ### expressions over data -/
def EvW (K : PySem.W.Frag) {γ : Type} (W : Wd γ) (te : TE) (ρ : Rho) (k : γ) (Φ : PyData → γ → Prop) : Prop :=
  ∀ (L0 : List Addr) (H0 : Hp) (L : List Addr) (H : Hp) (σ : L2.St), Stt K W L0 H0 L H σ ρ k → ∀ Q : VK, (∀ v d k' H2, Stt K W L0 H0 L H2 σ ρ k' → Ext W.M H H2 → T K (L ++ W.M) H2 v d → Φ d k' → Q v H2) → te σ H Q
def EvT (K : PySem.W.Frag) {γ : Type} (W : Wd γ) (tt : TT) (ρ : Rho) (k : γ) (Φ : Bool → γ → Prop) : Prop :=
  ∀ (L0 : List Addr) (H0 : Hp) (L : List Addr) (H : Hp) (σ : L2.St), Stt K W L0 H0 L H σ ρ k → ∀ Q : Bool → Hp → Prop, (∀ b k' H2, Stt K W L0 H0 L H2 σ ρ k' → Ext W.M H H2 → Φ b k' → Q b H2) → tt σ H Q
def EvA (K : PySem.W.Frag) {γ : Type} (W : Wd γ) (ta : L2.TA) (ρ : Rho) (k : γ) (Φ : List PyData → γ → Prop) : Prop :=
  ∀ (L0 : List Addr) (H0 : Hp) (L : List Addr) (H : Hp) (σ : L2.St), Stt K W L0 H0 L H σ ρ k → ∀ Q : List V → Hp → Prop, (∀ vs ds k' H2, Stt K W L0 H0 L H2 σ ρ k' → Ext W.M H H2 → TA K (L ++ W.M) H2 vs ds → Φ ds k' → Q vs H2) → ta σ H Q
def EvO (K : PySem.W.Frag) {γ : Type} (W : Wd γ) (to : TO) (ρ : Rho) (k : γ) (Φ : Option Int → γ → Prop) : Prop :=
  ∀ (L0 : List Addr) (H0 : Hp) (L : List Addr) (H : Hp) (σ : L2.St), Stt K W L0 H0 L H σ ρ k → ∀ Q : Option Int → Hp → Prop, (∀ o k' H2, Stt K W L0 H0 L H2 σ ρ k' → Ext W.M H H2 → Φ o k' → Q o H2) → to σ H Q
/-- operations on values -/
def RD (K : PySem.W.Frag) {γ : Type} (W : Wd γ) (r : R2) (x y : PyData) (ρ : Rho) (k : γ) (Φ : PyData → γ → Prop) : Prop :=
  ∀ (L0 : List Addr) (H0 : Hp) (L : List Addr) (H : Hp) (σ : L2.St) (vx vy : V), Stt K W L0 H0 L H σ ρ k → T K (L ++ W.M) H vx x → T K (L ++ W.M) H vy y → ∀ Q : VK, (∀ v d k' H2, Stt K W L0 H0 L H2 σ ρ k' → Ext W.M H H2 → T K (L ++ W.M) H2 v d → Φ d k' → Q v H2) → r vx vy H Q
def RU (K : PySem.W.Frag) {γ : Type} (W : Wd γ) (r : V → Hp → VK → Prop) (x : PyData) (ρ : Rho) (k : γ) (Φ : PyData → γ → Prop) : Prop :=
  ∀ (L0 : List Addr) (H0 : Hp) (L : List Addr) (H : Hp) (σ : L2.St) (vx : V), Stt K W L0 H0 L H σ ρ k → T K (L ++ W.M) H vx x → ∀ Q : VK, (∀ v d k' H2, Stt K W L0 H0 L H2 σ ρ k' → Ext W.M H H2 → T K (L ++ W.M) H2 v d → Φ d k' → Q v H2) → r vx H Q
def RCD (K : PySem.W.Frag) {γ : Type} (W : Wd γ) (r : List V → Hp → VK → Prop) (xs : List PyData) (ρ : Rho) (k : γ) (Φ : PyData → γ → Prop) : Prop :=
  ∀ (L0 : List Addr) (H0 : Hp) (L : List Addr) (H : Hp) (σ : L2.St) (vs : List V), Stt K W L0 H0 L H σ ρ k → TA K (L ++ W.M) H vs xs → ∀ Q : VK, (∀ v d k' H2, Stt K W L0 H0 L H2 σ ρ k' → Ext W.M H H2 → T K (L ++ W.M) H2 v d → Φ d k' → Q v H2) → r vs H Q
def RSl (K : PySem.W.Frag) {γ : Type} (W : Wd γ) (r : V → Option Int → Option Int → Hp → VK → Prop) (x : PyData) (lo hi : Option Int) (ρ : Rho) (k : γ) (Φ : PyData → γ → Prop) : Prop :=
  ∀ (L0 : List Addr) (H0 : Hp) (L : List Addr) (H : Hp) (σ : L2.St) (vx : V), Stt K W L0 H0 L H σ ρ k → T K (L ++ W.M) H vx x → ∀ Q : VK, (∀ v d k' H2, Stt K W L0 H0 L H2 σ ρ k' → Ext W.M H H2 → T K (L ++ W.M) H2 v d → Φ d k' → Q v H2) → r vx lo hi H Q
section
variable {K : PySem.W.Frag} {γ : Type} {W : Wd γ} {ρ : Rho} {k : γ} {Φ : PyData → γ → Prop} {ta tb tc te : TE} {tt tu : TT} {x y : PyData}
theorem eM {L M : List Addr} {H H' : Hp} (e : Ext M H H') : Ext (L ++ M) H H' := e.sub fun _ hb => List.mem_append_right _ hb

theorem ev_var {i : Nat} {d : PyData} (h : ρ[i]? = some (.dat d)) (q : Φ d k) : EvW K W (tVar i) ρ k Φ := fun _ _ _ H _ S _ c => by
  obtain ⟨v, e, t⟩ := S.slots i _ h
  exact ⟨v, e, c v d k H S (Ext.refl _ _) t q⟩
theorem ev_int {i : Int} (q : Φ (.int i) k) : EvW K W (tC (.int i)) ρ k Φ := fun _ _ _ H _ S _ c => c _ _ _ H S (Ext.refl _ _) (.int i) q
theorem ev_bl {b : Bool} (q : Φ (.bool b) k) : EvW K W (tC (.bl b)) ρ k Φ := fun _ _ _ H _ S _ c => c _ _ _ H S (Ext.refl _ _) (.bl b) q
theorem ev_non (q : Φ .none k) : EvW K W (tC .non) ρ k Φ := fun _ _ _ H _ S _ c => c _ _ _ H S (Ext.refl _ _) .non q
theorem ev_str {z : Str} (q : Φ (.str z) k) : EvW K W (tC (.str z)) ρ k Φ := fun _ _ _ H _ S _ c => c _ _ _ H S (Ext.refl _ _) (.str z) q
theorem ev_op {r : R2} (h : EvW K W ta ρ k fun x k1 => EvW K W tb ρ k1 fun y k2 => RD K W r x y ρ k2 Φ) : EvW K W (tOp r ta tb) ρ k Φ := fun L0 H0 L H σ S Q c =>
  h L0 H0 L H σ S _ fun v x k1 H1 S1 e1 t1 g => g L0 H0 L H1 σ S1 _ fun u y k2 H2 S2 e2 t2 g2 => g2 L0 H0 L H2 σ v u S2 (t1.ext (eM e2)) t2 Q fun w d k3 H3 S3 e3 t3 f => c w d k3 H3 S3 ((e1.trans e2).trans e3) t3 f
theorem ev_un {r : V → Hp → VK → Prop} (h : EvW K W ta ρ k fun x k1 => RU K W r x ρ k1 Φ) : EvW K W (tUn r ta) ρ k Φ := fun L0 H0 L H σ S Q c =>
  h L0 H0 L H σ S _ fun v x k1 H1 S1 e1 t1 g => g L0 H0 L H1 σ v S1 t1 Q fun w d k3 H3 S3 e3 t3 f => c w d k3 H3 S3 (e1.trans e3) t3 f
/-- a rule on values that leaves the heap -/
theorem rd_ {r : R2} {d : PyData} (q : Φ d k) (h : ∀ (N : List Addr) (H : Hp) (vx vy : V), T K N H vx x → T K N H vy y → ∀ Q : VK, (∀ v, T K N H v d → Q v H) → r vx vy H Q) : RD K W r x y ρ k Φ := fun L0 H0 L H σ vx vy S tx ty Q c =>
  h _ H vx vy tx ty Q fun v t => c v d k H S (Ext.refl _ _) t q
theorem ru_ {r : V → Hp → VK → Prop} {d : PyData} (q : Φ d k) (h : ∀ (N : List Addr) (H : Hp) (vx : V), T K N H vx x → ∀ Q : VK, (∀ v, T K N H v d → Q v H) → r vx H Q) : RU K W r x ρ k Φ := fun L0 H0 L H σ vx S tx Q c =>
  h _ H vx tx Q fun v t => c v d k H S (Ext.refl _ _) t q
theorem rc_ {r : List V → Hp → VK → Prop} {d : PyData} {xs : List PyData} (q : Φ d k) (h : ∀ (N : List Addr) (H : Hp) (vs : List V), TA K N H vs xs → ∀ Q : VK, (∀ v, T K N H v d → Q v H) → r vs H Q) : RCD K W r xs ρ k Φ := fun L0 H0 L H σ vs S tx Q c =>
  h _ H vs tx Q fun v t => c v d k H S (Ext.refl _ _) t q
/-- a rule on values that makes a new thing -/
theorem rdN {r : R2} {d : PyData} (q : Φ d k) (h : ∀ (N : List Addr) (H : Hp) (vx vy : V), Trk N H → T K N H vx x → T K N H vy y → ∀ Q : VK, (∀ v H2, Same H H2 → T K N H2 v d → Q v H2) → r vx vy H Q) : RD K W r x y ρ k Φ := fun L0 H0 L H σ vx vy S tx ty Q c =>
  h _ H vx vy S.trk tx ty Q fun v H2 s t => c v d k H2 (S.same s) (Ext.same s) t q
theorem rcN {r : List V → Hp → VK → Prop} {d : PyData} {xs : List PyData} (q : Φ d k) (h : ∀ (N : List Addr) (H : Hp) (vs : List V), Trk N H → TA K N H vs xs → ∀ Q : VK, (∀ v H2, Same H H2 → T K N H2 v d → Q v H2) → r vs H Q) : RCD K W r xs ρ k Φ := fun L0 H0 L H σ vs S tx Q c =>
  h _ H vs S.trk tx Q fun v H2 s t => c v d k H2 (S.same s) (Ext.same s) t q
theorem rslN {r : V → Option Int → Option Int → Hp → VK → Prop} {d : PyData} {lo hi : Option Int} (q : Φ d k) (h : ∀ (N : List Addr) (H : Hp) (vx : V), Trk N H → T K N H vx x → ∀ Q : VK, (∀ v H2, Same H H2 → T K N H2 v d → Q v H2) → r vx lo hi H Q) : RSl K W r x lo hi ρ k Φ := fun L0 H0 L H σ vx S tx Q c =>
  h _ H vx S.trk tx Q fun v H2 s t => c v d k H2 (S.same s) (Ext.same s) t q

/-! ints -/
theorem rd_I0 {g : Int → Int → Int} {i j : Int} (q : Φ (.int (g i j)) k) : RD K W (rI0 fun i j => .int (g i j)) (.int i) (.int j) ρ k Φ := rd_ q fun N H vx vy tx ty Q c => by
  cases tx
  cases ty
  exact ⟨i, j, rfl, rfl, c _ (.int _)⟩
theorem rd_add {i j : Int} (q : Φ (.int (i + j)) k) : RD K W (rI0 fun i j => .int (i + j)) (.int i) (.int j) ρ k Φ := rd_I0 (g := fun i j => i + j) q
theorem rd_sub {i j : Int} (q : Φ (.int (i - j)) k) : RD K W (rI0 fun i j => .int (i - j)) (.int i) (.int j) ρ k Φ := rd_I0 (g := fun i j => i - j) q
theorem rd_B0 {g : Int → Int → Bool} {i j : Int} (q : Φ (.bool (g i j)) k) : RD K W (rI0 fun i j => .bl (g i j)) (.int i) (.int j) ρ k Φ := rd_ q fun N H vx vy tx ty Q c => by
  cases tx
  cases ty
  exact ⟨i, j, rfl, rfl, c _ (.bl _)⟩
theorem rd_lt {i j : Int} (q : Φ (.bool (decide (i < j))) k) : RD K W (rI0 fun i j => .bl (decide (i < j))) (.int i) (.int j) ρ k Φ := rd_B0 (g := fun i j => decide (i < j)) q
theorem rd_le {i j : Int} (q : Φ (.bool (decide (i ≤ j))) k) : RD K W (rI0 fun i j => .bl (decide (i ≤ j))) (.int i) (.int j) ρ k Φ := rd_B0 (g := fun i j => decide (i ≤ j)) q
theorem rd_gt {i j : Int} (q : Φ (.bool (decide (j < i))) k) : RD K W (rI0 fun i j => .bl (decide (j < i))) (.int i) (.int j) ρ k Φ := rd_B0 (g := fun i j => decide (j < i)) q
theorem rd_ge {i j : Int} (q : Φ (.bool (decide (j ≤ i))) k) : RD K W (rI0 fun i j => .bl (decide (j ≤ i))) (.int i) (.int j) ρ k Φ := rd_B0 (g := fun i j => decide (j ≤ i)) q
theorem rd_I {C : Int → Int → Prop} {g : Int → Int → Int} {i j : Int} (hc : C i j) (q : Φ (.int (g i j)) k) : RD K W (rI C fun i j => .int (g i j)) (.int i) (.int j) ρ k Φ := rd_ q fun N H vx vy tx ty Q c => by
  cases tx
  cases ty
  exact ⟨i, j, rfl, rfl, hc, c _ (.int _)⟩
theorem rd_mul {i j : Int} (hc : CMul i j) (q : Φ (.int (i * j)) k) : RD K W (rI CMul fun i j => .int (i * j)) (.int i) (.int j) ρ k Φ := rd_I (g := fun i j => i * j) hc q
theorem rd_fdiv {i j : Int} (hc : CDiv i j) (q : Φ (.int (i / j)) k) : RD K W (rI CDiv fun i j => .int (i / j)) (.int i) (.int j) ρ k Φ := rd_I (g := fun i j => i / j) hc q
theorem rd_mod {i j : Int} (hc : 0 < j) (q : Φ (.int (i % j)) k) : RD K W (rI (fun _ j => 0 < j) fun i j => .int (i % j)) (.int i) (.int j) ρ k Φ := rd_I (C := fun _ j => 0 < j) (g := fun i j => i % j) hc q
theorem rd_pow {i j : Int} (hc : CPow i j) (q : Φ (.int (i ^ j.toNat)) k) : RD K W (rI CPow fun i j => .int (i ^ j.toNat)) (.int i) (.int j) ρ k Φ := rd_I (g := fun i j => i ^ j.toNat) hc q
theorem ru_neg {i : Int} (q : Φ (.int (-i)) k) : RU K W (rU fun i => .int (-i)) (.int i) ρ k Φ := ru_ q fun N H vx tx Q c => by
  cases tx
  exact ⟨i, rfl, c _ (.int _)⟩

/-! == of scalars -/
def eqS : PyData → PyData → Option Bool
  | .int a, .int b => some (decide (a = b))
  | .str a, .str b => some (decide (a = b))
  | .bool a, .bool b => some (decide (a = b))
  | .none, .none => some true
  | .none, .int _ => some false
  | .int _, .none => some false
  | .none, .str _ => some false
  | .str _, .none => some false
  | .str _, .int _ => some false
  | .int _, .str _ => some false
  | _, _ => none
theorem eqS_V {N : List Addr} {H : Hp} {vx vy : V} {b : Bool} (tx : T K N H vx x) (ty : T K N H vy y) (h : eqS x y = some b) : scal vx vy = true ∧ decide (vx = vy) = b := by
  cases tx <;> cases ty <;> simp only [eqS, Option.some.injEq, reduceCtorEq] at h <;> subst h <;> exact ⟨rfl, by simp⟩
theorem rd_eq {b : Bool} (h : eqS x y = some b) (q : Φ (.bool b) k) : RD K W rEq x y ρ k Φ := rd_ q fun N H vx vy tx ty Q c => by
  obtain ⟨h1, h2⟩ := eqS_V tx ty h
  exact ⟨h1, by rw [h2]; exact c _ (.bl b)⟩
theorem rd_ne {b : Bool} (h : eqS x y = some b) (q : Φ (.bool !b) k) : RD K W rNe x y ρ k Φ := rd_ q fun N H vx vy tx ty Q c => by
  obtain ⟨h1, h2⟩ := eqS_V tx ty h
  exact ⟨h1, by rw [h2]; exact c _ (.bl !b)⟩
theorem rd_eqI {i j : Int} (q : Φ (.bool (decide (i = j))) k) : RD K W rEq (.int i) (.int j) ρ k Φ := rd_eq (b := decide (i = j)) rfl q
theorem rd_neI {i j : Int} (q : Φ (.bool !(decide (i = j))) k) : RD K W rNe (.int i) (.int j) ρ k Φ := rd_ne (b := decide (i = j)) rfl q
theorem rd_eqX {i j : Str} (q : Φ (.bool (decide (i = j))) k) : RD K W rEq (.str i) (.str j) ρ k Φ := rd_eq (b := decide (i = j)) rfl q
theorem rd_neX {i j : Str} (q : Φ (.bool !(decide (i = j))) k) : RD K W rNe (.str i) (.str j) ρ k Φ := rd_ne (b := decide (i = j)) rfl q
def isNone : PyData → Bool | .none => true | _ => false
theorem isNone_V {N : List Addr} {H : Hp} {vx : V} (tx : T K N H vx x) : decide (vx = .non) = isNone x := by
  cases tx <;> simp [isNone]
theorem rd_isN (q : Φ (.bool (isNone x)) k) : RD K W (fun x y H Q => y = .non ∧ Q (.bl (decide (x = .non))) H) x .none ρ k Φ := rd_ q fun N H vx vy tx ty Q c => by
  cases ty
  exact ⟨rfl, by rw [isNone_V tx]; exact c _ (.bl _)⟩
theorem rd_notN (q : Φ (.bool !(isNone x)) k) : RD K W (fun x y H Q => y = .non ∧ Q (.bl (!decide (x = .non))) H) x .none ρ k Φ := rd_ q fun N H vx vy tx ty Q c => by
  cases ty
  exact ⟨rfl, by rw [isNone_V tx]; exact c _ (.bl _)⟩

/-! tests and logic -/
theorem et_test (h : EvW K W te ρ k fun d k1 => ∃ b, d = .bool b ∧ Ψ b k1) : EvT K W (tTest te) ρ k Ψ := fun L0 H0 L H σ S Q c =>
  h L0 H0 L H σ S _ fun v d k1 H1 S1 e1 t1 g => by
    obtain ⟨b, rfl, g⟩ := g
    cases t1
    exact ⟨b, rfl, c b k1 H1 S1 e1 g⟩
theorem et_B (h : EvW K W te ρ k fun d k1 => ∃ b, d = .bool b ∧ Ψ b k1) : EvT K W (tB te) ρ k Ψ := fun L0 H0 L H σ S Q c =>
  h L0 H0 L H σ S _ fun v d k1 H1 S1 e1 t1 g => by
    obtain ⟨b, rfl, g⟩ := g
    cases t1
    exact ⟨b, rfl, c b k1 H1 S1 e1 g⟩
variable {Ψ : Bool → γ → Prop}
theorem et_and (h : EvT K W tt ρ k fun b k1 => if b = true then EvT K W tu ρ k1 Ψ else Ψ false k1) : EvT K W (tAnd tt tu) ρ k Ψ := fun L0 H0 L H σ S Q c =>
  h L0 H0 L H σ S _ fun b k1 H1 S1 e1 g => by
    cases b with
    | true => exact (g : EvT K W tu ρ k1 Ψ) L0 H0 L H1 σ S1 Q fun b k2 H2 S2 e2 q => c b k2 H2 S2 (e1.trans e2) q
    | false => exact c false k1 H1 S1 e1 g
theorem et_or (h : EvT K W tt ρ k fun b k1 => if b = true then Ψ true k1 else EvT K W tu ρ k1 Ψ) : EvT K W (tOr tt tu) ρ k Ψ := fun L0 H0 L H σ S Q c =>
  h L0 H0 L H σ S _ fun b k1 H1 S1 e1 g => by
    cases b with
    | false => exact (g : EvT K W tu ρ k1 Ψ) L0 H0 L H1 σ S1 Q fun b k2 H2 S2 e2 q => c b k2 H2 S2 (e1.trans e2) q
    | true => exact c true k1 H1 S1 e1 g
theorem et_not (h : EvT K W tt ρ k fun b k1 => Ψ (!b) k1) : EvT K W (tNot tt) ρ k Ψ := fun L0 H0 L H σ S Q c =>
  h L0 H0 L H σ S _ fun b k1 H1 S1 e1 g => c (!b) k1 H1 S1 e1 g
theorem et_yes (q : Ψ true k) : EvT K W tYes ρ k Ψ := fun L0 H0 L H σ S Q c => c true k H S (Ext.refl _ _) q
theorem ev_andV (h : EvW K W ta ρ k fun d k1 => ∃ b, d = .bool b ∧ if b = true then EvW K W tb ρ k1 Φ else Φ (.bool false) k1) : EvW K W (tAndV ta tb) ρ k Φ := fun L0 H0 L H σ S Q c =>
  h L0 H0 L H σ S _ fun v d k1 H1 S1 e1 t1 g => by
    obtain ⟨b, rfl, g⟩ := g
    cases t1
    refine ⟨b, rfl, ?_⟩
    cases b with
    | true => exact (g : EvW K W tb ρ k1 Φ) L0 H0 L H1 σ S1 Q fun v d k2 H2 S2 e2 t q => c v d k2 H2 S2 (e1.trans e2) t q
    | false => exact c _ _ k1 H1 S1 e1 (.bl false) g
theorem ev_orV (h : EvW K W ta ρ k fun d k1 => ∃ b, d = .bool b ∧ if b = true then Φ (.bool true) k1 else EvW K W tb ρ k1 Φ) : EvW K W (tOrV ta tb) ρ k Φ := fun L0 H0 L H σ S Q c =>
  h L0 H0 L H σ S _ fun v d k1 H1 S1 e1 t1 g => by
    obtain ⟨b, rfl, g⟩ := g
    cases t1
    refine ⟨b, rfl, ?_⟩
    cases b with
    | false => exact (g : EvW K W tb ρ k1 Φ) L0 H0 L H1 σ S1 Q fun v d k2 H2 S2 e2 t q => c v d k2 H2 S2 (e1.trans e2) t q
    | true => exact c _ _ k1 H1 S1 e1 (.bl true) g
theorem ev_notV (h : EvW K W ta ρ k fun d k1 => ∃ b, d = .bool b ∧ Φ (.bool !b) k1) : EvW K W (tNotV ta) ρ k Φ := fun L0 H0 L H σ S Q c =>
  h L0 H0 L H σ S _ fun v d k1 H1 S1 e1 t1 g => by
    obtain ⟨b, rfl, g⟩ := g
    cases t1
    exact ⟨b, rfl, c _ _ k1 H1 S1 e1 (.bl !b) g⟩
theorem ev_if (h : EvT K W tt ρ k fun b k1 => if b = true then EvW K W ta ρ k1 Φ else EvW K W tb ρ k1 Φ) : EvW K W (tIf tt ta tb) ρ k Φ := fun L0 H0 L H σ S Q c =>
  h L0 H0 L H σ S _ fun b k1 H1 S1 e1 g => by
    cases b with
    | true => exact (g : EvW K W ta ρ k1 Φ) L0 H0 L H1 σ S1 Q fun v d k2 H2 S2 e2 t q => c v d k2 H2 S2 (e1.trans e2) t q
    | false => exact (g : EvW K W tb ρ k1 Φ) L0 H0 L H1 σ S1 Q fun v d k2 H2 S2 e2 t q => c v d k2 H2 S2 (e1.trans e2) t q
theorem ev_chain {r r' : R2} (h : EvW K W ta ρ k fun x k1 => EvW K W tb ρ k1 fun y k2 => RD K W r x y ρ k2 fun d k3 => ∃ b, d = .bool b ∧ if b = true then EvW K W tc ρ k3 fun z k4 => RD K W r' y z ρ k4 Φ else Φ (.bool false) k3) :
    EvW K W (tChain r r' ta tb tc) ρ k Φ := fun L0 H0 L H σ S Q c =>
  h L0 H0 L H σ S _ fun v x k1 H1 S1 e1 t1 g => g L0 H0 L H1 σ S1 _ fun u y k2 H2 S2 e2 t2 g2 => g2 L0 H0 L H2 σ v u S2 (t1.ext (eM e2)) t2 _ fun w d k3 H3 S3 e3 t3 f => by
    obtain ⟨b, rfl, f⟩ := f
    cases t3
    refine ⟨b, rfl, ?_⟩
    cases b with
    | false => exact c _ _ k3 H3 S3 ((e1.trans e2).trans e3) (.bl false) f
    | true =>
      exact (f : EvW K W tc ρ k3 _) L0 H0 L H3 σ S3 _ fun w z k4 H4 S4 e4 t4 g4 => g4 L0 H0 L H4 σ u w S4 ((t2.ext (eM e3)).ext (eM e4)) t4 Q fun v d k5 H5 S5 e5 t5 f5 => c v d k5 H5 S5 ((((e1.trans e2).trans e3).trans e4).trans e5) t5 f5

/-! arguments, displays -/
variable {Α : List PyData → γ → Prop} {tr : L2.TA}
theorem ea_nil (q : Α [] k) : EvA K W tNil ρ k Α := fun _ _ _ H _ S _ c => c [] [] k H S (Ext.refl _ _) .nil q
theorem ea_cons (h : EvW K W ta ρ k fun d k1 => EvA K W tr ρ k1 fun ds k2 => Α (d :: ds) k2) : EvA K W (tCons ta tr) ρ k Α := fun L0 H0 L H σ S Q c =>
  h L0 H0 L H σ S _ fun v d k1 H1 S1 e1 t1 g => g L0 H0 L H1 σ S1 _ fun vs ds k2 H2 S2 e2 t2 q => c _ _ k2 H2 S2 (e1.trans e2) (.cons (t1.ext (eM e2)) t2) q
theorem ev_tup (h : EvA K W tr ρ k fun ds k1 => ds.length ≤ 100000 ∧ Φ (.tuple ds) k1) : EvW K W (tTup tr) ρ k Φ := fun L0 H0 L H σ S Q c =>
  h L0 H0 L H σ S _ fun vs ds k1 H1 S1 e1 t1 g => ⟨Nat.le_trans (show vs.length ≤ 100000 by rw [t1.len]; exact g.1) (by decide), newT S1.trk t1 fun p H' hp s _ _ t => c _ _ k1 H' (S1.same s) (e1.trans (Ext.same s)) t g.2⟩
theorem ev_lst (h : EvA K W tr ρ k fun ds k1 => ds.length ≤ 100000 ∧ Φ (.list ds) k1) : EvW K W (tLst tr) ρ k Φ := fun L0 H0 L H σ S Q c =>
  h L0 H0 L H σ S _ fun vs ds k1 H1 S1 e1 t1 g => ⟨Nat.le_trans (show vs.length ≤ 100000 by rw [t1.len]; exact g.1) (by decide), newL S1.trk t1 fun p H' hp s _ _ t => c _ _ k1 H' (S1.same s) (e1.trans (Ext.same s)) t g.2⟩
theorem ev_dnew (q : Φ (.dict []) k) : EvW K W tDNewK ρ k Φ := fun L0 H0 L H σ S Q c => newD S.trk fun p H' hp s _ t => c _ _ k H' (S.same s) (Ext.same s) t q
/-! built-ins -/
theorem ev_cb {r : List V → Hp → VK → Prop} (h : EvA K W tr ρ k fun ds k1 => RCD K W r ds ρ k1 Φ) : EvW K W (tCB r tr) ρ k Φ := fun L0 H0 L H σ S Q c =>
  h L0 H0 L H σ S _ fun vs ds k1 H1 S1 e1 t1 g => g L0 H0 L H1 σ vs S1 t1 Q fun v d k2 H2 S2 e2 t2 q => c v d k2 H2 S2 (e1.trans e2) t2 q
theorem TA.one_ {N : List Addr} {H : Hp} {vs : List V} {d : PyData} (t : TA K N H vs [d]) : ∃ v, vs = [v] ∧ T K N H v d := by
  cases t with
  | cons h t => cases t; exact ⟨_, rfl, h⟩
theorem TA.two_ {N : List Addr} {H : Hp} {vs : List V} {d e : PyData} (t : TA K N H vs [d, e]) : ∃ v u, vs = [v, u] ∧ T K N H v d ∧ T K N H u e := by
  cases t with
  | cons h t => obtain ⟨u, rfl, h2⟩ := t.one_; exact ⟨_, _, rfl, h, h2⟩
theorem rc_lenS {z : Str} (hz : z.length ≤ 100000) (q : Φ (.int (z.length : Int)) k) : RCD K W (fun xs H Q => ∃ z, xs = [.str z] ∧ z.length ≤ sizeLine ∧ Q (.int z.length) H) [.str z] ρ k Φ := rc_ q fun N H vs t Q c => by
  obtain ⟨v, rfl, t1⟩ := t.one_
  cases t1
  exact ⟨z, rfl, Nat.le_trans hz (by decide), c _ (.int _)⟩
theorem rc_lenL {ds : List PyData} (q : Φ (.int (ds.length : Int)) k) : RCD K W (rLenQ K) [.list ds] ρ k Φ := rc_ q fun N H vs t Q c => by
  obtain ⟨v, rfl, t1⟩ := t.one_
  cases t1 with
  | lst n h t => exact ⟨_, _, rfl, .inl (SqL.of h), by rw [t.len]; exact c _ (.int _)⟩
theorem rc_lenT {ds : List PyData} (q : Φ (.int (ds.length : Int)) k) : RCD K W (rLenQ K) [.tuple ds] ρ k Φ := rc_ q fun N H vs t Q c => by
  obtain ⟨v, rfl, t1⟩ := t.one_
  cases t1 with
  | tup n h t => exact ⟨_, _, rfl, .inr (SqT.of h), by rw [t.len]; exact c _ (.int _)⟩
/-- len of what is known to have one -/
def lenD : PyData → Option Nat
  | .list ds => some ds.length
  | .tuple ds => some ds.length
  | .str z => some z.length
  | _ => none
theorem rc_lenA {n : Nat} (h : lenD x = some n) (hn : n ≤ 100000) (q : Φ (.int (n : Int)) k) : RCD K W (rLenA K) [x] ρ k Φ := rc_ q fun N H vs t Q c => by
  obtain ⟨v, rfl, t1⟩ := t.one_
  have hz : n ≤ sizeLine := Nat.le_trans hn (by decide)
  cases t1 with
  | lst _ ha t3 =>
    simp only [lenD, Option.some.injEq] at h
    subst h
    exact ⟨_, _, rfl, .inl ⟨_, SqL.of ha, t3.len.symm⟩, c _ (.int _)⟩
  | tup _ ha t3 =>
    simp only [lenD, Option.some.injEq] at h
    subst h
    exact ⟨_, _, rfl, .inr ⟨_, SqT.of ha, t3.len.symm⟩, c _ (.int _)⟩
  | str z =>
    simp only [lenD, Option.some.injEq] at h
    subst h
    exact ⟨_, _, rfl, ⟨hz, rfl⟩, c _ (.int _)⟩
  | _ => simp [lenD] at h
theorem rc_ord {c : Nat} (q : Φ (.int (c : Int)) k) : RCD K W (fun xs H Q => ∃ x, xs = [.str x] ∧ x.length = 1 ∧ Q (.int (x.cps.getD 0 0 : Nat)) H) [.str ⟨#[c]⟩] ρ k Φ := rc_ q fun N H vs t Q cc => by
  obtain ⟨v, rfl, t1⟩ := t.one_
  cases t1
  exact ⟨_, rfl, rfl, cc _ (.int _)⟩
theorem rc_abs {i : Int} (q : Φ (.int (if i < 0 then -i else i)) k) : RCD K W (fun xs H Q => ∃ i, xs = [.int i] ∧ Q (.int (if i < 0 then -i else i)) H) [.int i] ρ k Φ := rc_ q fun N H vs t Q c => by
  obtain ⟨v, rfl, t1⟩ := t.one_
  cases t1
  exact ⟨i, rfl, c _ (.int _)⟩
theorem rc_max2 {i j : Int} (q : Φ (.int (if j > i then j else i)) k) : RCD K W (fun xs H Q => ∃ i j, xs = [.int i, .int j] ∧ Q (.int (if j > i then j else i)) H) [.int i, .int j] ρ k Φ := rc_ q fun N H vs t Q c => by
  obtain ⟨v, u, rfl, t1, t2⟩ := t.two_
  cases t1
  cases t2
  exact ⟨i, j, rfl, c _ (.int _)⟩
theorem rc_min2 {i j : Int} (q : Φ (.int (if j < i then j else i)) k) : RCD K W (fun xs H Q => ∃ i j, xs = [.int i, .int j] ∧ Q (.int (if j < i then j else i)) H) [.int i, .int j] ρ k Φ := rc_ q fun N H vs t Q c => by
  obtain ⟨v, u, rfl, t1, t2⟩ := t.two_
  cases t1
  cases t2
  exact ⟨i, j, rfl, c _ (.int _)⟩
theorem rc_int1 {i : Int} (q : Φ (.int i) k) : RCD K W (fun xs H Q => (∃ i, xs = [.int i] ∧ Q (.int i) H) ∨ ∃ k, xs = [.bl k] ∧ Q (.int (if k then 1 else 0)) H) [.int i] ρ k Φ := rc_ q fun N H vs t Q c => by
  obtain ⟨v, rfl, t1⟩ := t.one_
  cases t1
  exact .inl ⟨i, rfl, c _ (.int _)⟩
theorem TA.ints_ {N : List Addr} {H : Hp} : ∀ {ns : List Int} {vs : List V}, TA K N H vs (ns.map .int) → vs = ns.map V.int
  | [], _, h => by cases h; rfl
  | n :: ns, _, h => by
    cases h with
    | cons h1 h2 =>
      cases h1
      rw [TA.ints_ h2]
      rfl
theorem TA.bools_ {N : List Addr} {H : Hp} : ∀ {ns : List Bool} {vs : List V}, TA K N H vs (ns.map .bool) → vs = ns.map V.bl
  | [], _, h => by cases h; rfl
  | n :: ns, _, h => by
    cases h with
    | cons h1 h2 =>
      cases h1
      rw [TA.bools_ h2]
      rfl
theorem TA.strs_ {N : List Addr} {H : Hp} : ∀ {ns : List Str} {vs : List V}, TA K N H vs (ns.map .str) → vs = ns.map V.str
  | [], _, h => by cases h; rfl
  | n :: ns, _, h => by
    cases h with
    | cons h1 h2 =>
      cases h1
      rw [TA.strs_ h2]
      rfl
theorem rc_sum {ds : List PyData} (ns : List Int) (h : ds = ns.map .int) (q : Φ (.int ns.sum) k) : RCD K W (rSum K) [.list ds] ρ k Φ := rc_ q fun N H vs t Q c => by
  subst h
  obtain ⟨v, rfl, t1⟩ := t.one_
  cases t1 with
  | lst n h t =>
    have e := t.ints_
    subst e
    exact ⟨_, ns, rfl, SqL.of h, c _ (.int _)⟩
theorem rc_all {ds : List PyData} (ns : List Bool) (h : ds = ns.map .bool) (q : Φ (.bool (ns.all id)) k) : RCD K W (rAll K) [.list ds] ρ k Φ := rc_ q fun N H vs t Q c => by
  subst h
  obtain ⟨v, rfl, t1⟩ := t.one_
  cases t1 with
  | lst n h t =>
    have e := t.bools_
    subst e
    exact ⟨_, ns, rfl, SqL.of h, c _ (.bl _)⟩
theorem rc_any {ds : List PyData} (ns : List Bool) (h : ds = ns.map .bool) (q : Φ (.bool (ns.any id)) k) : RCD K W (rAny K) [.list ds] ρ k Φ := rc_ q fun N H vs t Q c => by
  subst h
  obtain ⟨v, rfl, t1⟩ := t.one_
  cases t1 with
  | lst n h t =>
    have e := t.bools_
    subst e
    exact ⟨_, ns, rfl, SqL.of h, c _ (.bl _)⟩
theorem rc_tupL {ds : List PyData} (q : Φ (.tuple ds) k) : RCD K W (rTupOf K) [.list ds] ρ k Φ := rcN q fun N H vs tr t Q c => by
  obtain ⟨v, rfl, t1⟩ := t.one_
  cases t1 with
  | lst n h t => exact ⟨_, _, rfl, .inl ⟨SqL.of h, newT tr t fun p H' _ s _ _ t' => c _ _ s t'⟩⟩
theorem rc_tupT {ds : List PyData} (q : Φ (.tuple ds) k) : RCD K W (rTupOf K) [.tuple ds] ρ k Φ := rcN q fun N H vs tr t Q c => by
  obtain ⟨v, rfl, t1⟩ := t.one_
  cases t1 with
  | tup n h t => exact ⟨_, _, rfl, .inr ⟨SqT.of h, c _ _ (Same.refl _) (.tup n h t)⟩⟩
theorem rc_listL {ds : List PyData} (q : Φ (.list ds) k) : RCD K W (rListOf K) [.list ds] ρ k Φ := rcN q fun N H vs tr t Q c => by
  obtain ⟨v, rfl, t1⟩ := t.one_
  cases t1 with
  | lst n h t => exact ⟨_, _, rfl, .inl (SqL.of h), newL tr t fun p H' _ s _ _ t' => c _ _ s t'⟩
theorem rc_listT {ds : List PyData} (q : Φ (.list ds) k) : RCD K W (rListOf K) [.tuple ds] ρ k Φ := rcN q fun N H vs tr t Q c => by
  obtain ⟨v, rfl, t1⟩ := t.one_
  cases t1 with
  | tup n h t => exact ⟨_, _, rfl, .inr (SqT.of h), newL tr t fun p H' _ s _ _ t' => c _ _ s t'⟩
theorem rc_repr (h : Shown x) (q : Φ (.str x.shown) k) : RCD K W (rRepr K) [x] ρ k Φ := rc_ q fun N H vs t Q c => by
  obtain ⟨v, rfl, t1⟩ := t.one_
  exact ⟨v, N, x, rfl, t1, h, c _ (.str _)⟩
/-- isinstance(x, type) -/
theorem ev_isi {n : String} (h : EvW K W te ρ k fun d k1 => ∃ b, kitB (tyName d) n = some b ∧ Φ (.bool b) k1) : EvW K W (tCB (rIsi K) (tCons te (tCons (tC (.ty n)) tNil))) ρ k Φ := fun L0 H0 L H σ S Q c =>
  h L0 H0 L H σ S _ fun v d k1 H1 S1 e1 t1 g => by
    obtain ⟨b, hb, g⟩ := g
    exact isi_ t1 hb (c _ _ k1 H1 S1 e1 (.bl b) g)
/-! items, slices -/
theorem TA.at {N : List Addr} {H : Hp} {vs : List V} {ds : List PyData} (t : TA K N H vs ds) {j : Nat} {d : PyData} (h : ds[j]? = some d) : ∃ v, vs[j]? = some v ∧ T K N H v d := by
  have hj : j < vs.length := by rw [t.len]; exact (List.getElem?_eq_some_iff.mp h).1
  obtain ⟨e, h1, h2⟩ := t.get (i := j) (v := vs[j]) (by simp [hj])
  rw [h] at h1
  cases h1
  exact ⟨vs[j], by simp [hj], h2⟩
theorem rd_ixT {ds : List PyData} {i : Int} {j : Nat} {d : PyData} (hi : i = (j : Int)) (h : ds[j]? = some d) (q : Φ d k) : RD K W (rIxT K) (.tuple ds) (.int i) ρ k Φ := rd_ q fun N H vx vy tx ty Q c => by
  subst hi
  cases ty
  cases tx with
  | tup n ha t =>
    obtain ⟨v, h1, h2⟩ := t.at h
    exact ⟨_, _, _, v, rfl, rfl, SqT.of ha, atI_nat h1, c v h2⟩
theorem rd_ixL {ds : List PyData} {i : Int} {j : Nat} {d : PyData} (hi : i = (j : Int)) (h : ds[j]? = some d) (q : Φ d k) : RD K W (rIxL K) (.list ds) (.int i) ρ k Φ := rd_ q fun N H vx vy tx ty Q c => by
  subst hi
  cases ty
  cases tx with
  | lst n ha t =>
    obtain ⟨v, h1, h2⟩ := t.at h
    exact ⟨_, _, _, v, rfl, rfl, SqL.of ha, atI_nat h1, c v h2⟩
theorem rd_ixS {z : Str} {i : Int} {j c : Nat} (hz : z.length ≤ 100000) (hi : i = (j : Int)) (h : z.cps[j]? = some c) (q : Φ (.str ⟨#[c]⟩) k) : RD K W rIxS (.str z) (.int i) ρ k Φ := rd_ q fun N H vx vy tx ty Q cc => by
  subst hi
  cases ty
  cases tx
  exact ⟨z, _, c, rfl, rfl, Nat.le_trans hz (by decide), atI_nat (by simpa using h), cc _ (.str _)⟩
theorem ev_sl {r : V → Option Int → Option Int → Hp → VK → Prop} {tl th : TO} (h : EvW K W te ρ k fun x k1 => EvO K W tl ρ k1 fun lo k2 => EvO K W th ρ k2 fun hi k3 => RSl K W r x lo hi ρ k3 Φ) : EvW K W (tSl r te tl th) ρ k Φ := fun L0 H0 L H σ S Q c =>
  h L0 H0 L H σ S _ fun v x k1 H1 S1 e1 t1 g => g L0 H0 L H1 σ S1 _ fun lo k2 H2 S2 e2 g2 => g2 L0 H0 L H2 σ S2 _ fun hi k3 H3 S3 e3 g3 => g3 L0 H0 L H3 σ v S3 ((t1.ext (eM e2)).ext (eM e3)) Q fun w d k4 H4 S4 e4 t4 f => c w d k4 H4 S4 (((e1.trans e2).trans e3).trans e4) t4 f
variable {Ω : Option Int → γ → Prop}
theorem eo_none (q : Ω none k) : EvO K W tNoPart ρ k Ω := fun L0 H0 L H σ S Q c => c none k H S (Ext.refl _ _) q
theorem eo_some (h : EvW K W te ρ k fun d k1 => ∃ i, d = .int i ∧ Ω (some i) k1) : EvO K W (tPart te) ρ k Ω := fun L0 H0 L H σ S Q c =>
  h L0 H0 L H σ S _ fun v d k1 H1 S1 e1 t1 g => by
    obtain ⟨i, rfl, g⟩ := g
    cases t1
    exact ⟨i, rfl, c _ k1 H1 S1 e1 g⟩
theorem rsl_S {z : Str} {lo hi : Option Int} (hz : z.length ≤ 100000) (q : Φ (.str (cutS z lo hi)) k) : RSl K W rSlS (.str z) lo hi ρ k Φ := rslN q fun N H vx tr tx Q c => by
  cases tx
  exact ⟨z, rfl, Nat.le_trans hz (by decide), c _ _ (Same.refl _) (.str _)⟩
theorem rsl_T {ds : List PyData} {lo hi : Option Int} (q : Φ (.tuple (cutD ds lo hi)) k) : RSl K W (rSlA K) (.tuple ds) lo hi ρ k Φ := rslN q fun N H vx tr tx Q c => slA tr tx fun r H' s _ t => c r H' s t
theorem rsl_L {ds : List PyData} {lo hi : Option Int} (q : Φ (.list (cutD ds lo hi)) k) : RSl K W (rSlL K) (.list ds) lo hi ρ k Φ := rslN q fun N H vx tr tx Q c => by
  cases tx with
  | @lst a xs _ n ha t =>
    have lx := t.len
    have tc : TA K N H (cutV xs lo hi) (cutD ds lo hi) := by
      unfold cutV cutD
      rw [lx]
      exact (t.drop _).take _
    exact ⟨_, _, rfl, SqL.of ha, newL tr tc fun p H' _ s _ _ t' => c _ _ s t'⟩
/-! + of tuples, lists, texts -/
theorem rd_catT {ds es : List PyData} (hl : ds.length + es.length ≤ 100000) (q : Φ (.tuple (ds ++ es)) k) : RD K W (rCatA K) (.tuple ds) (.tuple es) ρ k Φ := rdN q fun N H vx vy tr tx ty Q c => catA tr tx ty hl fun r H' s _ t => c r H' s t
theorem rd_catL {ds es : List PyData} (hl : ds.length + es.length ≤ 100000) (q : Φ (.list (ds ++ es)) k) : RD K W rCat (.list ds) (.list es) ρ k Φ := rdN q fun N H vx vy tr tx ty Q c => by
  cases tx with
  | lst n ha t =>
    cases ty with
    | lst n2 hb t2 =>
      exact ⟨_, _, _, _, rfl, rfl, ha, hb, Nat.le_trans (show _ ≤ 100000 by rw [t.len, t2.len]; exact hl) (by decide), newL tr (t.app t2) fun p H' _ s _ _ t' => c _ _ s t'⟩
theorem rd_catS {a b : Str} (hl : a.length + b.length ≤ 100000) (q : Φ (.str (a ++ b)) k) : RD K W (fun x y H Q => ∃ i j, x = .str i ∧ y = .str j ∧ i.length + j.length ≤ sizeLine ∧ Q (.str (i ++ j)) H) (.str a) (.str b) ρ k Φ := rd_ q fun N H vx vy tx ty Q c => by
  cases tx
  cases ty
  exact ⟨a, b, rfl, rfl, Nat.le_trans hl (by decide), c _ (.str _)⟩
/-! own functions -/
theorem ev_call {sp : Sp} (h : EvA K W tr ρ k fun ds k1 => RCD K W (fun vs H Q => sp vs H Q E0) ds ρ k1 Φ) : EvW K W (tCall sp [] E0 tr) ρ k Φ := fun L0 H0 L H σ S Q c =>
  h L0 H0 L H σ S _ fun vs ds k1 H1 S1 e1 t1 g => by
    show sp (vs ++ []) H1 Q E0
    rw [List.append_nil]
    exact g L0 H0 L H1 σ vs S1 t1 Q fun v d k2 H2 S2 e2 t2 q => c v d k2 H2 S2 (e1.trans e2) t2 q
end
/-- a def that writes nothing: what its data give -/
def spP (K : PySem.W.Frag) (n : Nat) (R : List PyData → PyData → Prop) : Sp := fun vs H Q _ => ∃ (M : List Addr) (ds : List PyData) (r : PyData), TA K M H vs ds ∧ Trk M H ∧ ds.length = n ∧ R ds r ∧ ∀ v H', Same H H' → T K M H' v r → Q v H'
section
variable {K : PySem.W.Frag} {γ : Type} {W : Wd γ} {ρ : Rho} {k : γ} {Φ : PyData → γ → Prop}
theorem rc_pure {n : Nat} {R : List PyData → PyData → Prop} {ds : List PyData} {r : PyData} (hl : ds.length = n) (h : R ds r) (q : Φ r k) : RCD K W (fun vs H Q => spP K n R vs H Q E0) ds ρ k Φ := rcN q fun N H vs tr t Q c => ⟨N, ds, r, t, tr, hl, h, c⟩
end
end U

set_option Elab.async false
set_option linter.all false
set_option maxRecDepth 100000
set_option maxHeartbeats 2000000
namespace U
open PySem PySem.Spec PyProof.Rows L2

/-! ### statements over data -/
structure Ps (γ : Type) where
  nx : Rho → γ → Prop
  rt : PyData → γ → Prop
  bk : Rho → γ → Prop := fun _ _ => False
  ct : Rho → γ → Prop := fun _ _ => False
def SW (K : PySem.W.Frag) {γ : Type} (W : Wd γ) (ts : TS) (ρ : Rho) (k : γ) (P : Ps γ) : Prop :=
  ∀ (L0 : List Addr) (H0 : Hp) (L : List Addr) (H : Hp) (σ : L2.St) (D : Ends), Stt K W L0 H0 L H σ ρ k →
    (∀ L' H' σ' ρ' k', Stt K W L0 H0 L' H' σ' ρ' k' → P.nx ρ' k' → D.nx σ' H') →
    (∀ v d k' H', Ext (L0 ++ W.M) H0 H' → W.I k' W.M H' → T K W.M H' v d → P.rt d k' → D.rt v H') →
    (∀ L' H' σ' ρ' k', Stt K W L0 H0 L' H' σ' ρ' k' → P.bk ρ' k' → D.bk σ' H') →
    (∀ L' H' σ' ρ' k', Stt K W L0 H0 L' H' σ' ρ' k' → P.ct ρ' k' → D.ct σ' H') → ts D σ H
/-- targets: js the slots that they may store in -/
def TgW (K : PySem.W.Frag) {γ : Type} (W : Wd γ) (g : TG) (js : Nat → Prop) (d : PyData) (ρ : Rho) (Ψ : Rho → Prop) : Prop :=
  ∀ (L0 : List Addr) (H0 : Hp) (L : List Addr) (H : Hp) (σ : L2.St) (k : γ) (v : V), Stt K W L0 H0 L H σ ρ k → T K (L ++ W.M) H v d → ∀ Q : L2.St → Hp → Prop,
    (∀ σ' ρ', Stt K W L0 H0 L H σ' ρ' k → σ'.length = σ.length → (∀ i, ¬ js i → σ'[i]? = σ[i]?) → Ψ ρ' → Q σ' H) → g v σ H Q
def TgsW (K : PySem.W.Frag) {γ : Type} (W : Wd γ) (g : TGs) (js : Nat → Prop) (ds : List PyData) (ρ : Rho) (Ψ : Rho → Prop) : Prop :=
  ∀ (L0 : List Addr) (H0 : Hp) (L : List Addr) (H : Hp) (σ : L2.St) (k : γ) (vs : List V), Stt K W L0 H0 L H σ ρ k → TA K (L ++ W.M) H vs ds → ∀ Q : L2.St → Hp → Prop,
    (∀ σ' ρ', Stt K W L0 H0 L H σ' ρ' k → σ'.length = σ.length → (∀ i, ¬ js i → σ'[i]? = σ[i]?) → Ψ ρ' → Q σ' H) → g vs σ H Q
section
variable {K : PySem.W.Frag} {γ : Type} {W : Wd γ} {ρ : Rho} {k : γ} {js : Nat → Prop} {Ψ : Rho → Prop} {d : PyData} {ds : List PyData}
theorem tg_name {i : Nat} (hj : js i) (q : Ψ (ρ.set i (.dat d))) : TgW K W (gName i) js d ρ Ψ := fun L0 H0 L H σ k v S t Q c =>
  c _ _ (S.set i t) (by rw [List.length_set]) (fun j hn => by
    rw [List.getElem?_set_ne]
    rintro rfl
    exact hn hj) q
theorem tgs_nil (q : Ψ ρ) : TgsW K W gNil js [] ρ Ψ := fun L0 H0 L H σ k vs S t Q c => by
  cases t
  exact ⟨rfl, c _ _ S rfl (fun _ _ => rfl) q⟩
theorem tgs_cons {g : TG} {gs : TGs} (h : TgW K W g js d ρ fun ρ1 => TgsW K W gs js ds ρ1 Ψ) : TgsW K W (gCons g gs) js (d :: ds) ρ Ψ := fun L0 H0 L H σ k vs S t Q c => by
  cases t with
  | @cons v vs _ _ h1 h2 =>
    exact ⟨v, vs, rfl, h L0 H0 L H σ k v S h1 _ fun σ1 ρ1 S1 l1 a1 g1 => g1 L0 H0 L H σ1 k vs S1 h2 Q fun σ2 ρ2 S2 l2 a2 q => c σ2 ρ2 S2 (l2.trans l1) (fun i hi => (a2 i hi).trans (a1 i hi)) q⟩
theorem tg_tup {n : Nat} {gs : TGs} (hn : ds.length = n) (h : TgsW K W gs js ds ρ Ψ) : TgW K W (gTup K n gs) js (.tuple ds) ρ Ψ := fun L0 H0 L H σ k v S t Q c => by
  cases t with
  | tup nn ha t => exact ⟨_, _, rfl, SqT.of ha, by rw [t.len]; exact hn, h L0 H0 L H σ k _ S t Q c⟩
end
section
variable {K : PySem.W.Frag} {γ : Type} {W : Wd γ} {ρ : Rho} {k : γ} {P : Ps γ} {ta tb te ti : TE} {tt : TT} {a b : TS} {tr : L2.TA}
theorem sw_seq (h : SW K W a ρ k { P with nx := fun ρ1 k1 => SW K W b ρ1 k1 P }) : SW K W (tSeq a b) ρ k P := fun L0 H0 L H σ D S nx rt bk ct =>
  h L0 H0 L H σ { D with nx := b D } S (fun L' H' σ' ρ' k' S' g => by
    refine (g : SW K W b ρ' k' P) L0 H0 L' H' σ' D S' nx rt bk ct) rt bk ct
theorem sw_nx (q : P.nx ρ k) : SW K W tNext ρ k P := fun L0 H0 L H σ D S nx _ _ _ => nx _ _ _ _ _ S q
theorem sw_brk (q : P.bk ρ k) : SW K W tBreak ρ k P := fun L0 H0 L H σ D S _ _ bk _ => bk _ _ _ _ _ S q
theorem sw_ct (q : P.ct ρ k) : SW K W tCont ρ k P := fun L0 H0 L H σ D S _ _ _ ct => ct _ _ _ _ _ S q
theorem sw_ret (h : EvW K W te ρ k P.rt) : SW K W (tRet te) ρ k P := fun L0 H0 L H σ D S _ rt _ _ =>
  h L0 H0 L H σ S _ fun v d k' H2 S2 e t q => rt v d k' H2 S2.base S2.wdM (S2.tM t) q
theorem sw_retN (q : P.rt .none k) : SW K W tRetN ρ k P := fun L0 H0 L H σ D S _ rt _ _ => rt .non .none k H S.base S.wdM .non q
theorem sw_drop (h : EvW K W te ρ k fun _ k1 => P.nx ρ k1) : SW K W (tDrop te) ρ k P := fun L0 H0 L H σ D S nx _ _ _ =>
  h L0 H0 L H σ S _ fun v d k' H2 S2 e t q => nx _ _ _ _ _ S2 q
theorem sw_if (h : EvT K W tt ρ k fun b' k1 => if b' = true then SW K W a ρ k1 P else SW K W b ρ k1 P) : SW K W (tIfS tt a b) ρ k P := fun L0 H0 L H σ D S nx rt bk ct =>
  h L0 H0 L H σ S _ fun b' k1 H2 S2 e g => by
    cases b' with
    | true => exact (g : SW K W a ρ k1 P) L0 H0 L H2 σ D S2 nx rt bk ct
    | false => exact (g : SW K W b ρ k1 P) L0 H0 L H2 σ D S2 nx rt bk ct
theorem sw_asg {g : TG} (h : EvW K W te ρ k fun d k1 => TgW K W g (fun _ => True) d ρ fun ρ1 => P.nx ρ1 k1) : SW K W (tAsg te g) ρ k P := fun L0 H0 L H σ D S nx _ _ _ =>
  h L0 H0 L H σ S _ fun v d k1 H1 S1 e t g => g L0 H0 L H1 σ k1 v S1 t _ fun σ2 ρ2 S2 _ _ q => nx _ _ _ _ _ S2 q
theorem sw_set {i : Nat} (h : EvW K W te ρ k fun d k1 => P.nx (ρ.set i (.dat d)) k1) : SW K W (tAsg te (gName i)) ρ k P := sw_asg fun L0 H0 L H σ S Q c => h L0 H0 L H σ S Q fun v d k1 H1 S1 e t q => c v d k1 H1 S1 e t (tg_name trivial q)
theorem sw_par {i j : Nat} (h : EvA K W tr ρ k fun ds k1 => ∃ d e, ds = [d, e] ∧ P.nx ((ρ.set i (.dat d)).set j (.dat e)) k1) : SW K W (tPar i j tr) ρ k P := fun L0 H0 L H σ D S nx _ _ _ =>
  h L0 H0 L H σ S _ fun vs ds k1 H1 S1 e1 t g => by
    obtain ⟨d, e, rfl, q⟩ := g
    obtain ⟨v, u, rfl, t1, t2⟩ := t.two_
    exact ⟨v, u, rfl, nx _ _ _ _ _ ((S1.set i t1).set j t2) q⟩
/-- x = [..], a list of its own -/
theorem sw_own {i : Nat} (h : EvA K W tr ρ k fun ds k1 => ds.length ≤ 100000 ∧ P.nx (ρ.set i (.own ds)) k1) : SW K W (tAsg (tLst tr) (gName i)) ρ k P := fun L0 H0 L H σ D S nx _ _ _ =>
  h L0 H0 L H σ S _ fun vs ds k1 H1 S1 e1 t g => ⟨Nat.le_trans (show vs.length ≤ 100000 by rw [t.len]; exact g.1) (by decide), fun p hp => nx _ _ _ _ _ (S1.setOwn i (s0 := .own ds) rfl hp ⟨p, vs, rfl, by simp, upd_same, (t.plus hp).ext (Ext.put (by simp))⟩) g.2⟩
theorem sw_ownD {i : Nat} (q : P.nx (ρ.set i (.ownD [])) k) : SW K W (tAsg tDNewK (gName i)) ρ k P := fun L0 H0 L H σ D S nx _ _ _ =>
  fun p hp => nx _ _ _ _ _ (S.setOwn i (s0 := .ownD []) rfl hp ⟨p, [], rfl, by simp, upd_same, .nil⟩) q
theorem tyList {K : PySem.W.Frag} {H : Hp} {l : Addr} {xs : List V} (h : H l = some (.lst xs)) : tyV K "list" (.ref l) H := .inl ⟨rfl, xs, SqL.of h⟩
/-- x.append(e) -/
theorem sw_append {i : Nat} (h : EvW K W te ρ k fun d k1 => ∃ ds, ρ[i]? = some (.own ds) ∧ ds.length < 100000 ∧ P.nx (ρ.set i (.own (ds ++ [d]))) k1) (h0 : ∃ ds, ρ[i]? = some (.own ds)) :
    SW K W (tDrop (tBM K "list" rAppend (tVar i) (tCons te tNil))) ρ k P := fun L0 H0 L H σ D S nx _ _ _ => by
  obtain ⟨ds0, h0⟩ := h0
  obtain ⟨l, xs, e1, e2, e3, e4⟩ := S.slots i _ h0
  refine ⟨.ref l, e1, tyList e3, h L0 H0 L H σ S _ fun v d k1 H1 S1 _ t g => ?_⟩
  obtain ⟨ds, h1, hl, q⟩ := g
  obtain ⟨l', ys, f1, f2, f3, f4⟩ := S1.slots i _ h1
  have el : l = l' := by rw [e1] at f1; injection f1 with f1; injection f1 with f1; injection f1
  subst el
  refine ⟨l, ys, v, rfl, rfl, f3, Nat.lt_of_le_of_lt (show ys.length ≤ 99999 by rw [f4.len]; omega) (by decide), ?_⟩
  exact nx _ _ _ _ _ (S1.put (s1 := .own (ds ++ [d])) h1 rfl rfl f1 f2 ⟨l, ys ++ [v], rfl, f2, upd_same, (f4.app (.one t)).ext (Ext.put (List.mem_append_left _ f2))⟩) q
/-- x.extend(e), e a new list -/
theorem sw_extend {i : Nat} (h : EvW K W te ρ k fun d k1 => ∃ ds es, d = .list es ∧ ρ[i]? = some (.own ds) ∧ ds.length + es.length ≤ 100000 ∧ P.nx (ρ.set i (.own (ds ++ es))) k1) (h0 : ∃ ds, ρ[i]? = some (.own ds)) :
    SW K W (tDrop (tBM K "list" rExtend (tVar i) (tCons te tNil))) ρ k P := fun L0 H0 L H σ D S nx _ _ _ => by
  obtain ⟨ds0, h0⟩ := h0
  obtain ⟨l, xs, e1, e2, e3, e4⟩ := S.slots i _ h0
  refine ⟨.ref l, e1, tyList e3, h L0 H0 L H σ S _ fun v d k1 H1 S1 _ t g => ?_⟩
  obtain ⟨ds, es, rfl, h1, hl, q⟩ := g
  obtain ⟨l', ys, f1, f2, f3, f4⟩ := S1.slots i _ h1
  have el : l = l' := by rw [e1] at f1; injection f1 with f1; injection f1 with f1; injection f1
  subst el
  cases t with
  | @lst b zs _ nb hb tz =>
    refine ⟨l, b, ys, zs, rfl, rfl, f3, hb, Nat.le_trans (show ys.length + zs.length ≤ 100000 by rw [f4.len, tz.len]; exact hl) (by decide), ?_⟩
    exact nx _ _ _ _ _ (S1.put (s1 := .own (ds ++ es)) h1 rfl rfl f1 f2 ⟨l, ys ++ zs, rfl, f2, upd_same, (f4.app tz).ext (Ext.put (List.mem_append_left _ f2))⟩) q
/-- x[j] = e -/
theorem TA.set {N : List Addr} {H : Hp} : ∀ {vs : List V} {ds : List PyData} (j : Nat) {v : V} {d : PyData}, TA K N H vs ds → T K N H v d → TA K N H (vs.set j v) (ds.set j d)
  | _, _, _, _, _, .nil, _ => .nil
  | _, _, 0, _, _, .cons _ t, h => .cons h t
  | _, _, j + 1, _, _, .cons g t, h => .cons g (TA.set j t h)
theorem sw_setL {i : Nat} (h : EvW K W te ρ k fun d k1 => EvW K W ti ρ k1 fun x k2 => ∃ ds j, x = .int ((j : Nat) : Int) ∧ ρ[i]? = some (.own ds) ∧ j < ds.length ∧ P.nx (ρ.set i (.own (ds.set j d))) k2) (h0 : ∃ ds, ρ[i]? = some (.own ds)) :
    SW K W (tAsg te (gSub (tVar i) ti rSetL)) ρ k P := fun L0 H0 L H σ D S nx _ _ _ =>
  h L0 H0 L H σ S _ fun v d k1 H1 S1 _ t g => by
    obtain ⟨ds0, h0⟩ := h0
    obtain ⟨l, xs, e1, e2, e3, e4⟩ := S1.slots i _ h0
    refine ⟨.ref l, e1, g L0 H0 L H1 σ S1 _ fun vi x k2 H2 S2 ee2 t2 g2 => ?_⟩
    obtain ⟨ds, j, rfl, h1, hj, q⟩ := g2
    obtain ⟨l', ys, f1, f2, f3, f4⟩ := S2.slots i _ h1
    have el : l = l' := by rw [e1] at f1; injection f1 with f1; injection f1 with f1; injection f1
    subst el
    cases t2
    refine ⟨l, ys, (j : Int), j, rfl, rfl, f3, ?_, ?_⟩
    · have : j < ys.length := by rw [f4.len]; exact hj
      unfold ixN
      rw [if_pos (by omega), if_pos (by omega)]
      simp
    · exact nx _ _ _ _ _ (S2.put (s1 := .own (ds.set j d)) h1 rfl rfl f1 f2 ⟨l, ys.set j v, rfl, f2, upd_same, (TA.set j f4 (t.ext (eM ee2))).ext (Ext.put (List.mem_append_left _ f2))⟩) q
/-- x += e (ints) -/
theorem sw_aug {i : Nat} {f : Int → Int → Int} (h0 : ∃ x, ρ[i]? = some (.dat (.int x))) (h : EvW K W te ρ k fun d k1 => ∃ x y, ρ[i]? = some (.dat (.int x)) ∧ d = .int y ∧ P.nx (ρ.set i (.dat (.int (f x y)))) k1) : SW K W (tAug i te (ipI f)) ρ k P := fun L0 H0 L H σ D S nx _ _ _ => by
  obtain ⟨x0, h0⟩ := h0
  obtain ⟨v, e1, t1⟩ := S.slots i _ h0
  refine ⟨v, e1, h L0 H0 L H σ S _ fun u d k1 H1 S1 _ t g => ?_⟩
  obtain ⟨x, y, h1, rfl, q⟩ := g
  rw [h0] at h1
  cases h1
  cases t1
  cases t
  exact ⟨x0, y, rfl, rfl, nx _ _ _ _ _ (S1.set i (.int _)) q⟩
/-- an own list is one of the data from here on -/
theorem sw_freeze (i : Nat) {ds : List PyData} (hi : ρ[i]? = some (.own ds)) (h : SW K W a (ρ.set i (.dat (.list ds))) k P) : SW K W a ρ k P := fun L0 H0 L H σ D S nx rt bk ct => by
  obtain ⟨L', l, _, _, _, S'⟩ := S.freeze hi
  exact h L0 H0 L' H σ D S' nx rt bk ct
theorem sw_weak {ρ' : Rho} (hl : ρ'.length = ρ.length) (hw : ∀ (i : Nat) (s : Slot), ρ'[i]? = some s → s = .no ∨ ρ[i]? = some s) (h : SW K W a ρ' k P) : SW K W a ρ k P := fun L0 H0 L H σ D S nx rt bk ct =>
  h L0 H0 L H σ D (S.weaken hl hw) nx rt bk ct
theorem SW.mono {P' : Ps γ} (h : SW K W a ρ k P') (h1 : ∀ ρ k, P'.nx ρ k → P.nx ρ k) (h2 : ∀ d k, P'.rt d k → P.rt d k) (h3 : ∀ ρ k, P'.bk ρ k → P.bk ρ k) (h4 : ∀ ρ k, P'.ct ρ k → P.ct ρ k) : SW K W a ρ k P := fun L0 H0 L H σ D S nx rt bk ct =>
  h L0 H0 L H σ D S (fun _ _ _ _ _ S' q => nx _ _ _ _ _ S' (h1 _ _ q)) (fun _ _ _ _ e w t q => rt _ _ _ _ e w t (h2 _ _ q)) (fun _ _ _ _ _ S' q => bk _ _ _ _ _ S' (h3 _ _ q)) (fun _ _ _ _ _ S' q => ct _ _ _ _ _ S' (h4 _ _ q))
/-- two statements, what holds between them -/
theorem sw_mid (J : Rho → γ → Prop) (h1 : SW K W a ρ k { P with nx := J }) (h2 : ∀ ρ1 k1, J ρ1 k1 → SW K W b ρ1 k1 P) : SW K W (tSeq a b) ρ k P := sw_seq (h1.mono (P := { P with nx := fun ρ1 k1 => SW K W b ρ1 k1 P }) h2 (fun _ _ q => q) (fun _ _ q => q) (fun _ _ q => q))
/-- while -/
theorem sw_while (J : Nat → Rho → γ → Prop) (m0 : Nat) (h0 : J m0 ρ k)
    (hs : ∀ m ρ1 k1, J m ρ1 k1 → EvT K W tt ρ1 k1 fun b' k2 => if b' = true then SW K W b ρ1 k2 { P with nx := fun ρ2 k3 => ∃ m', m' < m ∧ J m' ρ2 k3, ct := fun ρ2 k3 => ∃ m', m' < m ∧ J m' ρ2 k3, bk := P.nx } else P.nx ρ1 k2) :
    SW K W (tWhile tt b) ρ k P := fun L0 H0 L H σ D S nx rt bk ct => by
  refine ⟨fun m σ' H' => ∃ L' ρ' k', Stt K W L0 H0 L' H' σ' ρ' k' ∧ J m ρ' k', ⟨m0, L, ρ, k, S, h0⟩, ?_⟩
  rintro m σ1 H1 ⟨L1, ρ1, k1, S1, j1⟩
  refine hs m ρ1 k1 j1 L0 H0 L1 H1 σ1 S1 _ fun b' k2 H2 S2 _ g => ?_
  cases b' with
  | false => exact nx _ _ _ _ _ S2 g
  | true =>
    refine ⟨fun σ' H' => ∃ m', m' < m ∧ ∃ L' ρ' k', Stt K W L0 H0 L' H' σ' ρ' k' ∧ J m' ρ' k', fun σ' H' ⟨m', hm, w⟩ => ⟨m', hm, w⟩, ?_⟩
    exact (g : SW K W b ρ1 k2 _) L0 H0 L1 H2 σ1 _ S2 (fun L' H' σ' ρ' k' S' ⟨m', hm, j'⟩ => ⟨m', hm, L', ρ', k', S', j'⟩) rt (fun L' H' σ' ρ' k' S' q => nx _ _ _ _ _ S' q) (fun L' H' σ' ρ' k' S' ⟨m', hm, j'⟩ => ⟨m', hm, L', ρ', k', S', j'⟩)
end

/-! ### walks -/
structure WalkD (K : PySem.W.Frag) {γ : Type} (W : Wd γ) (J : It) (n : Nat) (f : Nat → PyData) (L1 : List Addr) (H1 : Hp) : Prop where
  goes : ∀ i L H, i < n → Later W L1 H1 L H → J.go i H
  stops : ∀ L H, Later W L1 H1 L H → J.stop n H
  yields : ∀ i L H x H', i < n → Later W L1 H1 L H → J.yld i H x H' → Same H H' ∧ T K (L ++ W.M) H' x (f i)
def EvI (K : PySem.W.Frag) {γ : Type} (W : Wd γ) (wi : TI) (ρ : Rho) (k : γ) (Ω : Nat → (Nat → PyData) → γ → Prop) : Prop :=
  ∀ (L0 : List Addr) (H0 : Hp) (L : List Addr) (H : Hp) (σ : L2.St), Stt K W L0 H0 L H σ ρ k → ∀ R : It → Hp → Prop, (∀ J n f k' H2, Stt K W L0 H0 L H2 σ ρ k' → Ext W.M H H2 → WalkD K W J n f L H2 → Ω n f k' → R J H2) → wi σ H R
/-- the same for a comprehension: off M all stands meanwhile -/
structure WalkX (K : PySem.W.Frag) {γ : Type} (W : Wd γ) (J : It) (n : Nat) (f : Nat → PyData) (L1 : List Addr) (H1 : Hp) : Prop where
  goes : ∀ i L H, i < n → Later W L1 H1 L H → Ext W.M H1 H → J.go i H
  stops : ∀ L H, Later W L1 H1 L H → Ext W.M H1 H → J.stop n H
  yields : ∀ i L H x H', i < n → Later W L1 H1 L H → Ext W.M H1 H → J.yld i H x H' → Same H H' ∧ T K (L ++ W.M) H' x (f i)
def EvX (K : PySem.W.Frag) {γ : Type} (W : Wd γ) (wi : TI) (ρ : Rho) (k : γ) (Ω : Nat → (Nat → PyData) → γ → Prop) : Prop :=
  ∀ (L0 : List Addr) (H0 : Hp) (L : List Addr) (H : Hp) (σ : L2.St), Stt K W L0 H0 L H σ ρ k → ∀ R : It → Hp → Prop, (∀ J n f k' H2, Stt K W L0 H0 L H2 σ ρ k' → Ext W.M H H2 → WalkX K W J n f L H2 → Ω n f k' → R J H2) → wi σ H R
theorem EvI.x {K : PySem.W.Frag} {γ : Type} {W : Wd γ} {wi : TI} {ρ : Rho} {k : γ} {Ω : Nat → (Nat → PyData) → γ → Prop} (h : EvI K W wi ρ k Ω) : EvX K W wi ρ k Ω := fun L0 H0 L H σ S R c =>
  h L0 H0 L H σ S R fun J n f k' H2 S2 e wd q => c J n f k' H2 S2 e ⟨fun i L H hi l _ => wd.goes i L H hi l, fun L H l _ => wd.stops L H l, fun i L H x H' hi l _ y => wd.yields i L H x H' hi l y⟩ q
def itemD (ds : List PyData) (i : Nat) : PyData := ds[i]?.getD .none
section
variable {K : PySem.W.Frag} {γ : Type} {W : Wd γ} {ρ : Rho} {k : γ} {te : TE} {tr : L2.TA} {Ω : Nat → (Nat → PyData) → γ → Prop}
theorem Later.same {L1 L : List Addr} {H1 H H' : Hp} (l : Later W L1 H1 L H) (e : Same H H') : Later W L1 H1 L H' := ⟨l.ext.trans (Ext.same e), l.fresh, l.trk.same e⟩
theorem TA.itemD {N : List Addr} {H : Hp} {xs : List V} {ds : List PyData} {i : Nat} {x : V} (t : TA K N H xs ds) (h : xs[i]? = some x) : T K N H x (itemD ds i) := by
  obtain ⟨d, h1, h2⟩ := t.get h
  unfold U.itemD
  rw [h1]
  exact h2
/-- a list's items, when the list is one of the data -/
theorem later_seq {L1 L : List Addr} {H1 H : Hp} {a : Addr} {ds : List PyData} (l : Later W L1 H1 L H) (t : T K (L1 ++ W.M) H1 (.ref a) (.list ds)) : ∃ xs, H a = some (.lst xs) ∧ TA K (L ++ W.M) H xs ds := by
  cases l.T t with
  | lst n h t => exact ⟨_, h, t⟩
theorem later_tup {L1 L : List Addr} {H1 H : Hp} {a : Addr} {ds : List PyData} (l : Later W L1 H1 L H) (t : T K (L1 ++ W.M) H1 (.ref a) (.tuple ds)) : ∃ xs, H a = some (.tup xs) ∧ TA K (L ++ W.M) H xs ds := by
  cases l.T t with
  | tup n h t => exact ⟨_, h, t⟩
theorem walkD_list {L1 : List Addr} {H1 : Hp} {a : Addr} {ds : List PyData} (t : T K (L1 ++ W.M) H1 (.ref a) (.list ds)) : WalkD K W (Itl K a) ds.length (itemD ds) L1 H1 := by
  refine ⟨fun i L H hi l => ?_, fun L H l => ?_, fun i L H x H' hi l y => ?_⟩
  · obtain ⟨xs, h, t⟩ := later_seq l t
    exact ⟨xs, xs[i]'(by rw [t.len]; exact hi), SqL.of h, by simp [t.len, hi]⟩
  · obtain ⟨xs, h, t⟩ := later_seq l t
    exact ⟨xs, SqL.of h, Nat.le_of_eq t.len⟩
  · obtain ⟨xs, h, t⟩ := later_seq l t
    obtain ⟨rfl, y⟩ := y
    exact ⟨Same.refl _, t.itemD (y xs (SqL.of h))⟩
theorem walkD_tup {L1 : List Addr} {H1 : Hp} {a : Addr} {ds : List PyData} (t : T K (L1 ++ W.M) H1 (.ref a) (.tuple ds)) : WalkD K W (Itt K a) ds.length (itemD ds) L1 H1 := by
  refine ⟨fun i L H hi l => ?_, fun L H l => ?_, fun i L H x H' hi l y => ?_⟩
  · obtain ⟨xs, h, t⟩ := later_tup l t
    exact ⟨xs, xs[i]'(by rw [t.len]; exact hi), SqT.of h, by simp [t.len, hi]⟩
  · obtain ⟨xs, h, t⟩ := later_tup l t
    exact ⟨xs, SqT.of h, Nat.le_of_eq t.len⟩
  · obtain ⟨xs, h, t⟩ := later_tup l t
    obtain ⟨rfl, y⟩ := y
    exact ⟨Same.refl _, t.itemD (y xs (SqT.of h))⟩
theorem ei_list (h : EvW K W te ρ k fun d k1 => ∃ ds, d = .list ds ∧ Ω ds.length (itemD ds) k1) : EvI K W (iList K te) ρ k Ω := fun L0 H0 L H σ S R c =>
  h L0 H0 L H σ S _ fun v d k1 H1 S1 e t g => by
    obtain ⟨ds, rfl, q⟩ := g
    have w := fun a => walkD_list (K := K) (W := W) (L1 := L) (H1 := H1) (a := a) (ds := ds)
    cases t with
    | @lst a xs _ n ha tt => exact ⟨a, rfl, ⟨xs, SqL.of ha⟩, c _ _ _ k1 H1 S1 e (w a (.lst n ha tt)) q⟩
theorem ei_tup (h : EvW K W te ρ k fun d k1 => ∃ ds, d = .tuple ds ∧ Ω ds.length (itemD ds) k1) : EvI K W (iTup K te) ρ k Ω := fun L0 H0 L H σ S R c =>
  h L0 H0 L H σ S _ fun v d k1 H1 S1 e t g => by
    obtain ⟨ds, rfl, q⟩ := g
    have w := fun a => walkD_tup (K := K) (W := W) (L1 := L) (H1 := H1) (a := a) (ds := ds)
    cases t with
    | @tup a xs _ n ha tt => exact ⟨a, rfl, ⟨xs, SqT.of ha⟩, c _ _ _ k1 H1 S1 e (w a (.tup n ha tt)) q⟩
theorem walkD_range {lo : Int} {n : Nat} {L1 : List Addr} {H1 : Hp} : WalkD K W (Itr lo n) n (fun i => .int (lo + (i : Nat))) L1 H1 :=
  ⟨fun i L H hi _ => hi, fun L H _ => Nat.le_refl _, fun i L H x H' hi _ y => by
    obtain ⟨rfl, rfl⟩ := y
    exact ⟨Same.refl _, .int _⟩⟩
theorem ei_rng1 (h : EvA K W tr ρ k fun ds k1 => ∃ j : Int, ds = [.int j] ∧ -(2 ^ 62) ≤ j ∧ j < 2 ^ 62 ∧ Ω j.toNat (fun i => .int (i : Nat)) k1) : EvI K W (iRng1 tr) ρ k Ω := fun L0 H0 L H σ S R c =>
  h L0 H0 L H σ S _ fun vs ds k1 H1 S1 e t g => by
    obtain ⟨j, rfl, h1, h2, q⟩ := g
    obtain ⟨v, rfl, t1⟩ := t.one_
    cases t1
    refine ⟨j, rfl, h1, h2, c _ _ (fun i => .int (0 + (i : Nat))) k1 H1 S1 e walkD_range ?_⟩
    have : (fun i : Nat => PyData.int (0 + (i : Nat))) = fun i : Nat => PyData.int (i : Nat) := by funext i; rw [Int.zero_add]
    rw [this]
    exact q
theorem ei_rng2 (h : EvA K W tr ρ k fun ds k1 => ∃ a b : Int, ds = [.int a, .int b] ∧ (-(2 ^ 62) ≤ a ∧ a < 2 ^ 62 ∧ -(2 ^ 62) ≤ b ∧ b < 2 ^ 62) ∧ Ω (b - a).toNat (fun i => .int (a + (i : Nat))) k1) : EvI K W (iRng2 tr) ρ k Ω := fun L0 H0 L H σ S R c =>
  h L0 H0 L H σ S _ fun vs ds k1 H1 S1 e t g => by
    obtain ⟨a, b, rfl, h1, q⟩ := g
    obtain ⟨v, u, rfl, t1, t2⟩ := t.two_
    cases t1
    cases t2
    exact ⟨a, b, rfl, h1, c _ _ _ k1 H1 S1 e walkD_range q⟩
theorem ei_str (h : EvW K W te ρ k fun d k1 => ∃ z : Str, d = .str z ∧ Ω z.cps.size (fun i => .str ⟨#[z.cps[i]?.getD 0]⟩) k1) : EvI K W (iStr te) ρ k Ω := fun L0 H0 L H σ S R c =>
  h L0 H0 L H σ S _ fun v d k1 H1 S1 e t g => by
    obtain ⟨z, rfl, q⟩ := g
    cases t
    refine ⟨z, rfl, c _ _ _ k1 H1 S1 e ⟨fun i L H hi _ => hi, fun L H _ => Nat.le_refl _, fun i L H x H' hi _ y => ?_⟩ q⟩
    obtain ⟨rfl, cc, h1, rfl⟩ := y
    refine ⟨Same.refl _, ?_⟩
    show T K _ _ _ (.str ⟨#[z.cps[i]?.getD 0]⟩)
    rw [h1]
    exact .str _
/-- enumerate(list), enumerate(tuple) -/
theorem pair_new {L : List Addr} {H : Hp} {p : Addr} {i : Nat} {x : V} {d : PyData} (tr : Trk (L ++ W.M) H) (hp : H p = none) (t : T K (L ++ W.M) H x d) : T K (L ++ W.M) (upd H p (.tup [.int (i : Nat), x])) (.ref p) (.tuple [.int (i : Nat), d]) :=
  .tup (tr.new hp) upd_same (.cons (.int _) (.one (t.ext (Ext.new hp))))
theorem ei_enumL (h : EvA K W tr ρ k fun es k1 => ∃ ds, es = [.list ds] ∧ Ω ds.length (fun i => .tuple [.int (i : Nat), itemD ds i]) k1) : EvI K W (iEnum K tr) ρ k Ω := fun L0 H0 L H σ S R c =>
  h L0 H0 L H σ S _ fun vs es k1 H1 S1 e t g => by
    obtain ⟨ds, rfl, q⟩ := g
    obtain ⟨v, rfl, t1⟩ := t.one_
    have w : ∀ a, T K (L ++ W.M) H1 (.ref a) (.list ds) → WalkD K W (Ite K a) ds.length (fun i => .tuple [.int (i : Nat), itemD ds i]) L H1 := fun a t => by
      refine ⟨fun i L H hi l => ?_, fun L H l => ?_, fun i L H x H' hi l y => ?_⟩
      · obtain ⟨xs, h, t⟩ := later_seq l t
        exact (walk_enum (xs := xs)).goes i H (by rw [t.len]; exact hi) (SqL.of h)
      · obtain ⟨xs, h, t⟩ := later_seq l t
        have := (walk_enum (K := K) (a := a) (xs := xs)).stops H (SqL.of h)
        rw [t.len] at this
        exact this
      · obtain ⟨xs, h, t⟩ := later_seq l t
        obtain ⟨p, u, z, rfl, hp, rfl, e1, e2⟩ := (walk_enum (K := K) (a := a) (xs := xs)).yields i H x H' (by rw [t.len]; exact hi) (SqL.of h) y
        cases e1
        exact ⟨Same.new hp, pair_new l.trk hp (t.itemD e2)⟩
    cases t1 with
    | @lst a xs _ n ha tt => exact ⟨a, xs, rfl, SqL.of ha, c _ _ _ k1 H1 S1 e (w a (.lst n ha tt)) q⟩
theorem ei_enumT (h : EvA K W tr ρ k fun es k1 => ∃ ds, es = [.tuple ds] ∧ Ω ds.length (fun i => .tuple [.int (i : Nat), itemD ds i]) k1) : EvI K W (iEnumT K tr) ρ k Ω := fun L0 H0 L H σ S R c =>
  h L0 H0 L H σ S _ fun vs es k1 H1 S1 e t g => by
    obtain ⟨ds, rfl, q⟩ := g
    obtain ⟨v, rfl, t1⟩ := t.one_
    have w : ∀ a, T K (L ++ W.M) H1 (.ref a) (.tuple ds) → WalkD K W (ItE K a) ds.length (fun i => .tuple [.int (i : Nat), itemD ds i]) L H1 := fun a t => by
      refine ⟨fun i L H hi l => ?_, fun L H l => ?_, fun i L H x H' hi l y => ?_⟩
      · obtain ⟨xs, h, t⟩ := later_tup l t
        exact ⟨xs, xs[i]'(by rw [t.len]; exact hi), SqT.of h, by simp [t.len, hi]⟩
      · obtain ⟨xs, h, t⟩ := later_tup l t
        exact ⟨xs, SqT.of h, Nat.le_of_eq t.len⟩
      · obtain ⟨xs, h, t⟩ := later_tup l t
        obtain ⟨p, z, rfl, hp, rfl, e1⟩ := y
        exact ⟨Same.new hp, pair_new l.trk hp (t.itemD (e1 xs (SqT.of h)))⟩
    cases t1 with
    | @tup a xs _ n ha tt => exact ⟨a, xs, rfl, SqT.of ha, c _ _ _ k1 H1 S1 e (w a (.tup n ha tt)) q⟩
end
section
variable {K : PySem.W.Frag} {γ : Type} {W : Wd γ} {ρ : Rho} {k : γ} {P : Ps γ} {g : TG} {b : TS} {wi : TI}
theorem sw_for (h : EvI K W wi ρ k fun n f k1 => ∃ J : Nat → Rho → γ → Prop, J 0 ρ k1 ∧
      (∀ i ρ1 k2, i < n → J i ρ1 k2 → TgW K W g (fun _ => True) (f i) ρ1 fun ρ2 => SW K W b ρ2 k2 { P with nx := J (i + 1), ct := J (i + 1), bk := P.nx }) ∧ ∀ ρ1 k2, J n ρ1 k2 → P.nx ρ1 k2) : SW K W (tFor wi g b) ρ k P := fun L0 H0 L H σ D S nx rt bk ct =>
  h L0 H0 L H σ S _ fun J n f k1 H1 S1 e wd g => by
    obtain ⟨Jv, j0, turn, done⟩ := g
    refine ⟨fun i m σ' H' => m = n - i ∧ i ≤ n ∧ ∃ L' ρ' k', Stt K W L H1 L' H' σ' ρ' k' ∧ Jv i ρ' k', ⟨n, rfl, Nat.zero_le _, L, ρ, k1, S1.rebase, j0⟩, ?_⟩
    rintro i m σ2 H2 ⟨rfl, hi, L2, ρ2, k2, S2, j2⟩
    have l2 := S2.later
    by_cases hlt : i < n
    · refine .inr ⟨wd.goes i L2 H2 hlt l2, fun σ' H' => ∃ L' ρ' k', Stt K W L H1 L' H' σ' ρ' k' ∧ Jv (i + 1) ρ' k', fun σ' H' ⟨L', ρ', k', S', j'⟩ => ⟨n - (i + 1), by omega, rfl, hlt, L', ρ', k', S', j'⟩, fun x H' y => ?_⟩
      obtain ⟨sm, tx⟩ := wd.yields i L2 H2 x H' hlt l2 y
      refine turn i ρ2 k2 hlt j2 L H1 L2 H' σ2 k2 x (S2.same sm) tx _ fun σ3 ρ3 S3 _ _ body => ?_
      refine (body : SW K W b ρ3 k2 _) L H1 L2 H' σ3 _ S3 (fun L' H' σ' ρ' k' S' q => ⟨L', ρ', k', S', q⟩) (fun v d k' H' ex wi t q => ?_) (fun L' H' σ' ρ' k' S' q => nx _ _ _ _ _ (S1.back S') q) (fun L' H' σ' ρ' k' S' q => ⟨L', ρ', k', S', q⟩)
      refine rt v d k' H' (fun b o nb hb => ?_) wi t q
      refine ex b o (fun z => ?_) (S1.base b o nb hb)
      rcases List.mem_append.mp z with z | z
      · rcases S1.fresh b z with r | r
        · exact nb (List.mem_append_left _ r)
        · rw [r] at hb; cases hb
      · exact nb (List.mem_append_right _ z)
    · have ei : i = n := by omega
      subst ei
      exact .inl ⟨wd.stops L2 H2 l2, nx _ _ _ _ _ (S1.back S2) (done ρ2 k2 j2)⟩
end

/-! ### comprehensions -/
def wipeR (ρ : Rho) : List Nat → Rho
  | [] => ρ
  | v :: vs => (wipeR ρ vs).set v .no
theorem wipeR_length (ρ : Rho) : ∀ vs : List Nat, (wipeR ρ vs).length = ρ.length
  | [] => rfl
  | v :: vs => by unfold wipeR; rw [List.length_set, wipeR_length ρ vs]
theorem wipe_get (σ : L2.St) (i : Nat) : ∀ vs : List Nat, (wipe σ vs)[i]? = if i ∈ vs then σ[i]?.map fun _ => none else σ[i]?
  | [] => by simp [wipe]
  | v :: vs => by
    unfold wipe
    by_cases e : v = i
    · subst e
      rw [List.getElem?_set_self', wipe_get σ v vs]
      simp only [List.mem_cons, true_or, if_true]
      split <;> cases σ[v]? <;> rfl
    · rw [List.getElem?_set_ne e, wipe_get σ i vs]
      simp only [List.mem_cons, Ne.symm e, false_or]
theorem wipeR_get (ρ : Rho) (i : Nat) : ∀ vs : List Nat, (wipeR ρ vs)[i]? = if i ∈ vs then ρ[i]?.map fun _ => .no else ρ[i]?
  | [] => by simp [wipeR]
  | v :: vs => by
    unfold wipeR
    by_cases e : v = i
    · subst e
      rw [List.getElem?_set_self', wipeR_get ρ v vs]
      simp only [List.mem_cons, true_or, if_true]
      split <;> cases ρ[v]? <;> rfl
    · rw [List.getElem?_set_ne e, wipeR_get ρ i vs]
      simp only [List.mem_cons, Ne.symm e, false_or]
theorem wipe_of {σ σ2 : L2.St} {vs : List Nat} (hl : σ2.length = (wipe σ vs).length) (h : ∀ i, i ∉ vs → σ2[i]? = (wipe σ vs)[i]?) : wipe σ2 vs = wipe σ vs := by
  apply List.ext_getElem?
  intro i
  rw [wipe_get, wipe_get]
  by_cases hi : i ∈ vs
  · rw [if_pos hi, if_pos hi]
    rw [wipe_length] at hl
    by_cases hj : i < σ.length
    · simp [hj, hl]
    · simp [hj, hl]
  · rw [if_neg hi, if_neg hi, h i hi, wipe_get, if_neg hi]
section
variable {K : PySem.W.Frag} {γ : Type} {W : Wd γ} {L0 L : List Addr} {H0 H H' : Hp} {σ : L2.St} {ρ : Rho} {k : γ} {p : Addr} {o : HO}
theorem Stt.wipe (S : Stt K W L0 H0 L H σ ρ k) (vs : List Nat) : Stt K W L0 H0 L H (wipe σ vs) (wipeR ρ vs) k := by
  refine ⟨S.base, S.fresh, S.offM, S.trk, S.wd, by rw [wipeR_length, wipe_length]; exact S.len, fun i s hs => ?_, fun i j s t hs ht h1 h2 h3 => ?_⟩
  · rw [wipeR_get] at hs
    rw [wipe_get]
    by_cases hi : i ∈ vs
    · rw [if_pos hi] at hs
      cases q : ρ[i]? with
      | none => rw [q] at hs; cases hs
      | some u =>
        rw [q] at hs
        cases hs
        trivial
    · rw [if_neg hi] at hs ⊢
      exact S.slots i s hs
  · have off : ∀ (i : Nat) (s : Slot), (wipeR ρ vs)[i]? = some s → s.isOwn = true → i ∉ vs ∧ ρ[i]? = some s := fun i s hs ho => by
      rw [wipeR_get] at hs
      by_cases hi : i ∈ vs
      · rw [if_pos hi] at hs
        cases q : ρ[i]? with
        | none => rw [q] at hs; cases hs
        | some u =>
          rw [q] at hs
          cases hs
          cases ho
      · rw [if_neg hi] at hs
        exact ⟨hi, hs⟩
    obtain ⟨a1, a2⟩ := off i s hs h1
    obtain ⟨b1, b2⟩ := off j t ht h2
    rw [wipe_get, wipe_get, if_neg a1, if_neg b1] at h3
    exact S.dis i j s t a2 b2 h1 h2 h3
/-- no slot's own thing stands at p -/
def NoAt (ρ : Rho) (σ : L2.St) (p : Addr) : Prop := ∀ (i : Nat) (s : Slot), ρ[i]? = some s → s.isOwn = true → σ[i]? ≠ some (some (.ref p))
theorem Stt.hide (S : Stt K W L0 H0 L H σ ρ k) (hp : H p = none) : Stt K W L0 H0 (p :: L) (upd H p o) σ ρ k ∧ NoAt ρ σ p := by
  have np := S.nin hp
  have S1 := S.new (o := o) hp
  have npM : p ∉ W.M := fun z => np (List.mem_append_right _ z)
  have up : ∀ v d, T K (L ++ W.M) H v d → T K (p :: L ++ W.M) (upd H p o) v d := fun v d t => (t.plus hp).ext (Ext.put (by simp))
  refine ⟨⟨S1.base, fun l hl => ?_, fun l hl => ?_, ?_, S.wdNew hp, S.len, fun j s hs => ?_, S.dis⟩, fun i s hs ho z => ?_⟩
  · rcases List.mem_cons.mp hl with rfl | hl
    · by_cases h0 : l ∈ L0
      · exact .inl h0
      · right
        cases h : H0 l with
        | none => rfl
        | some o =>
          rw [S.base l o (fun z => (List.mem_append.mp z).elim h0 npM) h] at hp
          cases hp
    · exact S.fresh l hl
  · rcases List.mem_cons.mp hl with rfl | hl
    · exact npM
    · exact S.offM l hl
  · intro b hb z
    rcases List.mem_cons.mp hb with rfl | hb
    · rw [upd_same] at z; cases z
    · exact S1.trk b hb z
  · have q := S.slots j s hs
    cases s with
    | no => trivial
    | dat d =>
      obtain ⟨v, h1, h2⟩ := q
      exact ⟨v, h1, up _ _ h2⟩
    | own ds =>
      obtain ⟨l, xs, h1, h2, h3, h4⟩ := q
      exact ⟨l, xs, h1, List.mem_cons_of_mem _ h2, by rw [upd_ne (ne_of_none h3 hp)]; exact h3, h4.mapT up⟩
    | ownD kvs =>
      obtain ⟨l, xs, h1, h2, h3, h4⟩ := q
      exact ⟨l, xs, h1, List.mem_cons_of_mem _ h2, by rw [upd_ne (ne_of_none h3 hp)]; exact h3, h4.map up⟩
    | lck kvs =>
      obtain ⟨l, xs, od, h1, h2, h3, h4⟩ := q
      exact ⟨l, xs, od, h1, List.mem_cons_of_mem _ h2, by rw [upd_ne (ne_of_none h3 hp)]; exact h3, h4.map up⟩
    | raw v => exact q
    | fn F =>
      obtain ⟨f, c, h1, h2, h3, h4, h5⟩ := q
      exact ⟨f, c, h1, fun z => (List.mem_cons.mp z).elim (ne_of_none h4 hp) h2, fun z => (List.mem_cons.mp z).elim (ne_of_none h5 hp) h3, by rw [upd_ne (ne_of_none h4 hp)]; exact h4, by rw [upd_ne (ne_of_none h5 hp)]; exact h5⟩
    | ownN D kvs =>
      obtain ⟨l, xs, h1, h2, h3, h4⟩ := q
      exact ⟨l, xs, h1, List.mem_cons_of_mem _ h2, by rw [upd_ne (ne_of_none h3 hp)]; exact h3, h4.map up⟩
  · have q := S.slots i s hs
    cases s with
    | no => cases ho
    | dat d => cases ho
    | raw v => cases ho
    | fn F => cases ho
    | ownN D kvs =>
      obtain ⟨l, xs, h1, h2, h3, h4⟩ := q
      rw [z] at h1
      have e : p = l := by injection h1 with h1; injection h1 with h1; injection h1
      rw [← e, hp] at h3
      cases h3
    | own ds =>
      obtain ⟨l, xs, h1, h2, h3, h4⟩ := q
      rw [z] at h1
      have e : p = l := by injection h1 with h1; injection h1 with h1; injection h1
      rw [← e, hp] at h3
      cases h3
    | ownD kvs =>
      obtain ⟨l, xs, h1, h2, h3, h4⟩ := q
      rw [z] at h1
      have e : p = l := by injection h1 with h1; injection h1 with h1; injection h1
      rw [← e, hp] at h3
      cases h3
    | lck kvs =>
      obtain ⟨l, xs, od, h1, h2, h3, h4⟩ := q
      rw [z] at h1
      have e : p = l := by injection h1 with h1; injection h1 with h1; injection h1
      rw [← e, hp] at h3
      cases h3
theorem Stt.putHid (S : Stt K W L0 H0 (p :: L) H σ ρ k) (n : NoAt ρ σ p) : Stt K W L0 H0 (p :: L) (upd H p o) σ ρ k := by
  have up : ∀ v d, T K (p :: L ++ W.M) H v d → T K (p :: L ++ W.M) (upd H p o) v d := fun v d t => t.ext (Ext.put (by simp))
  have nM := S.offM p (by simp)
  refine ⟨fun b u nb hb => ?_, S.fresh, S.offM, S.trk.upd, W.loc k _ H _ (fun b hb => ?_) (Ext.put (by simp)) S.wd, S.len, fun j s hs => ?_, S.dis⟩
  · have : b ≠ p := by
      rintro rfl
      rcases S.fresh b (by simp) with q | q
      · exact nb (List.mem_append_left _ q)
      · rw [q] at hb; cases hb
    rw [upd_ne this]
    exact S.base b u nb hb
  · have : b ≠ p := by rintro rfl; exact nM hb
    rw [upd_ne this]
  · have q := S.slots j s hs
    have ns := n j s hs
    cases s with
    | no => trivial
    | dat d =>
      obtain ⟨v, h1, h2⟩ := q
      exact ⟨v, h1, up _ _ h2⟩
    | own ds =>
      obtain ⟨l, xs, h1, h2, h3, h4⟩ := q
      have : l ≠ p := by rintro rfl; exact ns rfl h1
      exact ⟨l, xs, h1, h2, by rw [upd_ne this]; exact h3, h4.mapT up⟩
    | ownD kvs =>
      obtain ⟨l, xs, h1, h2, h3, h4⟩ := q
      have : l ≠ p := by rintro rfl; exact ns rfl h1
      exact ⟨l, xs, h1, h2, by rw [upd_ne this]; exact h3, h4.map up⟩
    | lck kvs =>
      obtain ⟨l, xs, od, h1, h2, h3, h4⟩ := q
      have : l ≠ p := by rintro rfl; exact ns rfl h1
      exact ⟨l, xs, od, h1, h2, by rw [upd_ne this]; exact h3, h4.map up⟩
    | raw v => exact q
    | fn F =>
      obtain ⟨f, c, h1, h2, h3, h4, h5⟩ := q
      exact ⟨f, c, h1, h2, h3, by rw [upd_ne (by rintro rfl; exact h2 (by simp))]; exact h4, by rw [upd_ne (by rintro rfl; exact h3 (by simp))]; exact h5⟩
    | ownN D kvs =>
      obtain ⟨l, xs, h1, h2, h3, h4⟩ := q
      have : l ≠ p := by rintro rfl; exact ns rfl h1
      exact ⟨l, xs, h1, h2, by rw [upd_ne this]; exact h3, h4.map up⟩
theorem Stt.unhide (S : Stt K W L0 H0 (p :: L) H σ ρ k) (n : NoAt ρ σ p) : Stt K W L0 H0 L H σ ρ k := by
  have sub : ∀ b ∈ L ++ W.M, b ∈ p :: L ++ W.M := fun b hb => List.mem_cons_of_mem _ hb
  refine ⟨S.base, fun l hl => S.fresh l (List.mem_cons_of_mem _ hl), fun l hl => S.offM l (List.mem_cons_of_mem _ hl), fun b hb => S.trk b (sub b hb), S.wdSub (fun b hb => List.mem_cons_of_mem _ hb), S.len, fun j s hs => ?_, S.dis⟩
  have q := S.slots j s hs
  have ns := n j s hs
  cases s with
  | no => trivial
  | dat d =>
    obtain ⟨v, h1, h2⟩ := q
    exact ⟨v, h1, h2.off sub⟩
  | own ds =>
    obtain ⟨l, xs, h1, h2, h3, h4⟩ := q
    have : l ≠ p := by rintro rfl; exact ns rfl h1
    exact ⟨l, xs, h1, (List.mem_cons.mp h2).resolve_left this, h3, h4.off sub⟩
  | ownD kvs =>
    obtain ⟨l, xs, h1, h2, h3, h4⟩ := q
    have : l ≠ p := by rintro rfl; exact ns rfl h1
    exact ⟨l, xs, h1, (List.mem_cons.mp h2).resolve_left this, h3, h4.map fun _ _ t => t.off sub⟩
  | lck kvs =>
    obtain ⟨l, xs, od, h1, h2, h3, h4⟩ := q
    have : l ≠ p := by rintro rfl; exact ns rfl h1
    exact ⟨l, xs, od, h1, (List.mem_cons.mp h2).resolve_left this, h3, h4.map fun _ _ t => t.off sub⟩
  | raw v => exact q
  | fn F =>
    obtain ⟨f, c, h1, h2, h3, h4, h5⟩ := q
    exact ⟨f, c, h1, fun z => h2 (sub _ z), fun z => h3 (sub _ z), h4, h5⟩
  | ownN D kvs =>
    obtain ⟨l, xs, h1, h2, h3, h4⟩ := q
    have : l ≠ p := by rintro rfl; exact ns rfl h1
    exact ⟨l, xs, h1, (List.mem_cons.mp h2).resolve_left this, h3, h4.map fun _ _ t => t.off sub⟩
end
section
variable {K : PySem.W.Frag} {γ : Type} {W : Wd γ} {ρ : Rho} {k : γ} {Φ : PyData → γ → Prop} {g : TG} {tt : TT} {te : TE} {wi : TI} {vs : List Nat}
theorem ev_lcX (h : EvX K W wi ρ k fun n f k1 => n ≤ 100000 ∧ ∃ J : Nat → List PyData → γ → Prop, J 0 [] k1 ∧
      (∀ i acc k2, i < n → J i acc k2 → TgW K W g (fun i => i ∈ vs) (f i) (wipeR ρ vs) fun ρ2 => EvT K W tt ρ2 k2 fun b k3 => if b = true then EvW K W te ρ2 k3 fun d k4 => J (i + 1) (acc ++ [d]) k4 else J (i + 1) acc k3) ∧
      ∀ acc k2, acc.length ≤ n → J n acc k2 → Φ (.list acc) k2) : EvW K W (tLc wi g tt te vs) ρ k Φ := fun L0 H0 L H σ S Q c =>
  h L0 H0 L H σ S _ fun J n f k1 H1 S1 e wd g => by
    obtain ⟨hn, Jv, j0, turn, done⟩ := g
    intro D hD
    obtain ⟨Sd, nD⟩ := S1.hide (o := .lst []) hD
    have nin := S1.nin hD
    refine ⟨fun i m H2 => m = n - i ∧ i ≤ n ∧ ∃ acc k2 ys, Stt K W L0 H0 (D :: L) H2 σ ρ k2 ∧ Ext W.M H1 H2 ∧ H2 D = some (.lst ys) ∧ TA K (D :: L ++ W.M) H2 ys acc ∧ acc.length ≤ i ∧ Jv i acc k2,
      ⟨n, rfl, Nat.zero_le _, [], k1, [], Sd, Ext.new hD, upd_same, .nil, Nat.le_refl _, j0⟩, ?_⟩
    rintro i m H2 ⟨rfl, hi, acc, k2, ys, S2, e2, hy, ty, ha, j2⟩
    have l2 : Later W L H1 (D :: L) H2 := ⟨e2.sub fun b hb => List.mem_append_right _ hb, fun l hl => (List.mem_cons.mp hl).elim (fun q => .inr (by rw [q]; exact hD)) fun q => .inl q, S2.trk⟩
    by_cases hlt : i < n
    · refine .inr ⟨wd.goes i _ H2 hlt l2 e2, fun H' => ∃ acc k2 ys, Stt K W L0 H0 (D :: L) H' σ ρ k2 ∧ Ext W.M H1 H' ∧ H' D = some (.lst ys) ∧ TA K (D :: L ++ W.M) H' ys acc ∧ acc.length ≤ i + 1 ∧ Jv (i + 1) acc k2,
        fun H' ⟨acc, k2, ys, a1, a2, a3, a4, a5, a6⟩ => ⟨n - (i + 1), by omega, rfl, hlt, acc, k2, ys, a1, a2, a3, a4, a5, a6⟩, fun x H' y => ?_⟩
      obtain ⟨sm, tx⟩ := wd.yields i _ H2 x H' hlt l2 e2 y
      have S3 := S2.same sm
      refine turn i acc k2 hlt j2 L0 H0 (D :: L) H' _ k2 x (S3.wipe vs) tx _ fun σ3 ρ3 S4 hl4 ag tst => ⟨wipe_of hl4 ag, ?_⟩
      refine (tst : EvT K W tt ρ3 k2 _) L0 H0 (D :: L) H' σ3 S4 _ fun b k3 H3 S5 e5 g5 => ?_
      have dM : D ∉ W.M := fun z => nin (List.mem_append_right _ z)
      cases b with
      | false =>
        refine ⟨acc, k3, ys, S3.ext e5 S5.wd, (e2.trans (Ext.same sm)).trans e5, e5 _ _ dM (sm _ _ hy), (ty.same sm).ext (eM e5), by omega, g5⟩
      | true =>
        refine (g5 : EvW K W te ρ3 k3 _) L0 H0 (D :: L) H3 σ3 S5 _ fun v d k4 H4 S6 e6 t6 g6 => ?_
        have e56 := e5.trans e6
        have hy4 : H4 D = some (.lst ys) := e56 _ _ dM (sm _ _ hy)
        have lz : ys.length ≤ 99999 := by rw [ty.len]; omega
        refine ⟨ys, hy4, Nat.lt_of_le_of_lt lz (by decide), acc ++ [d], k4, ys ++ [v], (S3.ext e56 S6.wd).putHid nD, ?_, upd_same, ?_, by rw [List.length_append]; exact Nat.add_le_add_right ha 1, g6⟩
        · intro b o nb hb
          rw [upd_ne (ne_of_none hb hD)]
          exact ((e2.trans (Ext.same sm)).trans e56) b o nb hb
        · exact ((((ty.same sm).ext (eM e56)).app (.one t6))).ext (Ext.put (by simp))
    · have ei : i = n := by omega
      subst ei
      refine .inl ⟨wd.stops _ H2 l2 e2, c (.ref D) (.list acc) k2 H2 (S2.unhide nD) (e.trans e2) (.lst nin hy (ty.off fun b hb => List.mem_cons_of_mem _ hb)) (done acc k2 ha j2)⟩
theorem ev_lc (h : EvI K W wi ρ k fun n f k1 => n ≤ 100000 ∧ ∃ J : Nat → List PyData → γ → Prop, J 0 [] k1 ∧
      (∀ i acc k2, i < n → J i acc k2 → TgW K W g (fun i => i ∈ vs) (f i) (wipeR ρ vs) fun ρ2 => EvT K W tt ρ2 k2 fun b k3 => if b = true then EvW K W te ρ2 k3 fun d k4 => J (i + 1) (acc ++ [d]) k4 else J (i + 1) acc k3) ∧
      ∀ acc k2, acc.length ≤ n → J n acc k2 → Φ (.list acc) k2) : EvW K W (tLc wi g tt te vs) ρ k Φ := ev_lcX h.x
/-- a comprehension whose parts draw nothing -/
theorem lc_pure {n : Nat} {f : Nat → PyData} {k1 : γ} (keep : Nat → Bool) (el : Nat → PyData) (hn : n ≤ 100000)
    (turn : ∀ i, i < n → TgW K W g (fun i => i ∈ vs) (f i) (wipeR ρ vs) fun ρ2 => EvT K W tt ρ2 k1 fun b k3 => b = keep i ∧ k3 = k1 ∧ (keep i = true → EvW K W te ρ2 k1 fun d k4 => d = el i ∧ k4 = k1))
    (q : Φ (.list (((List.range n).filter keep).map el)) k1) :
    n ≤ 100000 ∧ ∃ J : Nat → List PyData → γ → Prop, J 0 [] k1 ∧
      (∀ i acc k2, i < n → J i acc k2 → TgW K W g (fun i => i ∈ vs) (f i) (wipeR ρ vs) fun ρ2 => EvT K W tt ρ2 k2 fun b k3 => if b = true then EvW K W te ρ2 k3 fun d k4 => J (i + 1) (acc ++ [d]) k4 else J (i + 1) acc k3) ∧
      ∀ acc k2, acc.length ≤ n → J n acc k2 → Φ (.list acc) k2 := by
  refine ⟨hn, fun i acc k2 => acc = ((List.range i).filter keep).map el ∧ k2 = k1, ⟨rfl, rfl⟩, ?_, ?_⟩
  · rintro i acc k2 hi ⟨rfl, rfl⟩ L0 H0 L H σ kk v S t Q c
    refine turn i hi L0 H0 L H σ kk v S t Q fun σ' ρ' S' hl ag ev => c σ' ρ' S' hl ag ?_
    intro L0 H0 L H σ S Q c
    refine ev L0 H0 L H σ S Q fun b k3 H2 S2 e ⟨hb, hk, he⟩ => ?_
    subst hb
    subst hk
    refine c _ _ H2 S2 e ?_
    cases hkeep : keep i with
    | false => exact ⟨by rw [List.range_succ, List.filter_append]; simp [hkeep], rfl⟩
    | true =>
      intro L0 H0 L H σ S Q c
      refine he hkeep L0 H0 L H σ S Q fun v d k4 H2 S2 e t ⟨hd, hk⟩ => c v d k4 H2 S2 e t ⟨?_, hk⟩
      rw [List.range_succ, List.filter_append, hd]
      simp [hkeep]
  · rintro acc k2 _ ⟨rfl, rfl⟩
    exact q
theorem ev_lcP (keep : Nat → Bool) (el : Nat → PyData) (h : EvI K W wi ρ k fun n f k1 => n ≤ 100000 ∧
      (∀ i, i < n → TgW K W g (fun i => i ∈ vs) (f i) (wipeR ρ vs) fun ρ2 => EvT K W tt ρ2 k1 fun b k3 => b = keep i ∧ k3 = k1 ∧ (keep i = true → EvW K W te ρ2 k1 fun d k4 => d = el i ∧ k4 = k1)) ∧
      Φ (.list (((List.range n).filter keep).map el)) k1) : EvW K W (tLc wi g tt te vs) ρ k Φ :=
  ev_lc fun L0 H0 L H σ S R c => h L0 H0 L H σ S R fun J n f k' H2 S2 e wd ⟨h1, h2, h3⟩ => c J n f k' H2 S2 e wd (lc_pure keep el h1 h2 h3)
theorem ev_lcXP (keep : Nat → Bool) (el : Nat → PyData) (h : EvX K W wi ρ k fun n f k1 => n ≤ 100000 ∧
      (∀ i, i < n → TgW K W g (fun i => i ∈ vs) (f i) (wipeR ρ vs) fun ρ2 => EvT K W tt ρ2 k1 fun b k3 => b = keep i ∧ k3 = k1 ∧ (keep i = true → EvW K W te ρ2 k1 fun d k4 => d = el i ∧ k4 = k1)) ∧
      Φ (.list (((List.range n).filter keep).map el)) k1) : EvW K W (tLc wi g tt te vs) ρ k Φ :=
  ev_lcX fun L0 H0 L H σ S R c => h L0 H0 L H σ S R fun J n f k' H2 S2 e wd ⟨h1, h2, h3⟩ => c J n f k' H2 S2 e wd (lc_pure keep el h1 h2 h3)
theorem range_itemD (ds : List PyData) : (List.range ds.length).map (itemD ds) = ds := by
  apply List.ext_getElem?
  intro i
  rw [List.getElem?_map]
  by_cases hi : i < ds.length
  · rw [List.getElem?_range hi]
    simp [itemD, hi]
  · simp [hi]
end

/-! ### defs -/
def rest0 (N : List Str) (ds : List PyData) : Rho := ds.map Slot.dat ++ List.replicate (N.length - ds.length) .no
theorem start_len {N : List Str} {vs : List V} : (start N vs).length = vs.length + (N.length - vs.length) := by
  unfold L2.start
  simp
theorem start_get {N : List Str} {vs : List V} {i : Nat} {v : V} (h : vs[i]? = some v) : (start N vs)[i]? = some (some v) := by
  unfold L2.start
  rw [List.getElem?_append_left (by simpa using (List.getElem?_eq_some_iff.mp h).1)]
  simp [h]
theorem stt_start {K : PySem.W.Frag} {γ : Type} {W : Wd γ} {N : List Str} {vs : List V} {ds : List PyData} {H : Hp} {k : γ} (t : TA K W.M H vs ds) (wd : W.I k W.M H) : Stt K W [] H [] H (start N vs) (rest0 N ds) k := by
  have get_ : ∀ (i : Nat) (s : Slot), (rest0 N ds)[i]? = some s → s = .no ∨ ∃ d, ds[i]? = some d ∧ s = .dat d := fun i s hs => by
    unfold rest0 at hs
    by_cases hi : i < ds.length
    · rw [List.getElem?_append_left (by simpa using hi)] at hs
      rw [List.getElem?_map] at hs
      obtain ⟨d, h1, h2⟩ := Option.map_eq_some_iff.mp hs
      exact .inr ⟨d, h1, h2.symm⟩
    · rw [List.getElem?_append_right (by simpa using hi)] at hs
      exact .inl (List.eq_of_mem_replicate (List.mem_of_getElem? hs))
  refine ⟨Ext.refl _ _, (fun l hl => nomatch hl), (fun l hl => nomatch hl), W.trk k _ H wd, wd, ?_, fun i s hs => ?_, fun i j s u hs hu h1 _ _ => ?_⟩
  · rw [start_len]
    unfold rest0
    have := t.len
    simp [this]
  · rcases get_ i s hs with rfl | ⟨d, hd, rfl⟩
    · trivial
    · obtain ⟨v, h1, h2⟩ := t.at hd
      exact ⟨v, start_get h1, h2⟩
  · rcases get_ i s hs with rfl | ⟨d, hd, rfl⟩ <;> cases h1
/-- the body of a def that writes nothing -/
theorem spP.ok {K : PySem.W.Frag} {R : List PyData → PyData → Prop} {n : Nat} {N : List Str} {vs : List V} {H : Hp} {Q : VK} {E : XK} {t : TS} (h : spP K n R vs H Q E)
    (hb : ∀ (W : Wd Nat) (ds : List PyData) (r : PyData), R ds r → SW K W t (rest0 N ds) 0 ⟨fun _ _ => r = .none, fun d _ => d = r, fun _ _ => False, fun _ _ => False⟩) : t { nx := fun _ H' => Q .non H', rt := Q } (start N vs) H := by
  obtain ⟨M, ds, r, ta, tr, _, hr, q⟩ := h
  have fin : ∀ k' H', Ext ([] ++ (pureW M H tr).M) H H' → (pureW M H tr).I k' M H' → Same H H' := fun k' H' e wi b o hb => by
    by_cases hm : b ∈ M
    · rw [wi b hm]; exact hb
    · exact e b o hm hb
  refine hb (pureW M H tr) ds r hr [] H [] H (start N vs) _ (stt_start ta fun b _ => rfl) (fun L' H' σ' ρ' k' S' e => ?_) (fun v d k' H' e wi t' hd => ?_) (fun _ _ _ _ _ _ z => z.elim) (fun _ _ _ _ _ _ z => z.elim)
  · subst e
    exact q .non H' (fin k' H' S'.base S'.wdM) .non
  · subst hd
    exact q v H' (fin k' H' e wi) t'
theorem spP.len {K : PySem.W.Frag} {R : List PyData → PyData → Prop} {n : Nat} {vs : List V} {H : Hp} {Q : VK} {E : XK} (h : spP K n R vs H Q E) : vs.length = n := by
  obtain ⟨M, ds, r, ta, tr, hl, hR, q⟩ := h
  rw [ta.len]
  exact hl
end U

set_option Elab.async false
set_option linter.all false
set_option maxRecDepth 100000
set_option maxHeartbeats 4000000
namespace U
open PySem PySem.Spec PyProof.Rows L2
/-! ### enumerate(text) -/
def ItES (z : Str) : It :=
  ⟨fun i _ => i < z.cps.size,
    fun i H v H' => ∃ (p : Addr) (c : Nat), v = .ref p ∧ H p = none ∧ H' = upd H p (.tup [.int (i : Nat), .str ⟨#[c]⟩]) ∧ z.cps[i]? = some c,
    fun i _ => z.cps.size ≤ i⟩
theorem turnES {P : Program} {w : World} {K : PySem.W.Frag} {elts : List Expr} {kk : Nat} {tpos : Pos} (z : Str) (tz : Tok) (e it : Addr) :
    L2.Turn P w K (.Tuple elts kk tpos) (ItES z) [e, it] e (fun i h => (∃ old, IsEnum h e it ((i : Nat) : Int) old) ∧ h.IsStrIter it (strIterType z) z tz i ∧ e ≠ it) where
  mem := List.mem_cons_self
  obj := fun i h st b hb => by
    obtain ⟨⟨old, he⟩, ⟨o, ho, _, hd⟩, _⟩ := st
    rcases List.mem_cons.mp hb with rfl | hb
    · exact ⟨_, he, fun _ q => nomatch q⟩
    · obtain rfl : b = it := by simpa using hb
      exact ⟨o, ho, fun _ q => by rw [hd] at q; cases q⟩
  keep := fun i h h' st k => ⟨st.1.imp fun _ he => k e (by simp) _ he, let ⟨o, ho, r⟩ := st.2.1; ⟨o, k it (by simp) o ho, r⟩, st.2.2⟩
  item := by
    rintro X rfl rfl rfl hc i pins s σ H E I hf ⟨⟨old, he⟩, hit, hne⟩ hlt
    have el : e < s.heap.objs.size := Heap.lt_size he
    have il : it < s.heap.objs.size := by obtain ⟨_, q, _⟩ := hit; exact Heap.lt_size q
    have D := Draws.text (prog := X.prog) (w := X.w) (A := X.A.in1) (I.ok.hd hc) it z tz
    refine wpAny_pyNext_enum_itemD D he hit hlt hne (by simpa using hne) fun y h' tk hy ho hst hT hsz hk => ?_
    obtain ⟨c, u, hcx, rfl⟩ := hy
    refine ⟨_, rfl, wpAny_letOwnedTupleGo_enum (s := { s with heap := h', toks := tk + 1 }) ho fun h'' he' sb => ?_⟩
    have hT2 := (sb.2 _ (Nat.ne_of_gt el)).trans hT
    have new : ObjOk X.prog X.w (upd H s.heap.objs.size (.tup [.int (i : Nat), .str ⟨#[c]⟩])) h'' s.heap.objs.size (.tup [.int (i : Nat), .str ⟨#[c]⟩]) :=
      ⟨(show 2 ≤ sizeLine by decide), [.int i tk, .str ⟨#[c]⟩ u], .cons ⟨_, rfl⟩ (.cons ⟨_, rfl⟩ .nil), ⟨_, hT2, rfl, _, rfl⟩⟩
    have I1 : Inv X pins σ (upd H s.heap.objs.size (.tup [.int (i : Nat), .str ⟨#[c]⟩])) { s with heap := h'', toks := tk + 1 } :=
      I.turnedNew (ch := [e, it]) (fun b ob hb q => (sb.2 b (fun z => hb (by simp [z]))).trans (hk b ob (fun z => hb (by simp [z])) (fun z => hb (by simp [z])) q)) hf (Nat.le_refl _) new
    refine ⟨.ref s.heap.objs.size, _, I1, rfl, ⟨_, c, rfl, I.hok.fresh (Nat.le_refl _), rfl, hcx⟩, ⟨⟨.str ⟨#[c]⟩ u, ?_⟩, let ⟨o, ho, r⟩ := hst; ⟨o, (sb.2 it (Ne.symm hne)).trans ho, r⟩, hne⟩, fun b hb => ?_⟩
    · rw [show ((i + 1 : Nat) : Int) = (i : Int) + 1 by omega]
      exact he'
    · have lt : b < s.heap.objs.size := by
        rcases List.mem_cons.mp hb with rfl | hb
        · exact el
        · obtain rfl : b = it := by simpa using hb
          exact il
      rw [upd_ne (Nat.ne_of_lt lt)]
      exact (hf b hb).1
  done := by
    rintro X rfl rfl rfl hc i pins s σ H E I hf ⟨⟨old, he⟩, hit, hne⟩ hx
    obtain ⟨f0, f1, f2, f3, f4, f5⟩ := hf it (by simp)
    unfold pyNext
    have hT : s.TypeIs (.ref e) "enumerate" := ⟨_, he, rfl⟩
    refine wpAny_bind (wpAny_attempt (wpAny_callSpecial?_slot (name := Str.ofString "__next__") hT F.slot_enumerate_next (wpAny_call_entry F.slot_enumerate_next hT F.entry_enumerate_next ?_ (F.args_enumerate_next_1 _))))
    show wpAny _ _ (field (.ref e) 2 >>= _) _ _ _
    have none_ : z.cps[i]? = none := Array.getElem?_eq_none hx
    cases ha : z.cps.all (· < 128)
    · simp only [strIterType, ha, Bool.false_eq_true, if_false] at hit
      refine wpAny_bind (wpAny_field he rfl (x := .ref it) rfl (wpAny_bind (wpAny_nextOf_wide_end (I.ok.hd hc) hit none_ fun h' y eb hy => ?_)))
      obtain ⟨o, ho, hoc⟩ := hy
      refine wpAny_bind (wpAny_isInstance (T := "StopIteration") (b := true) ⟨o, ho, hoc⟩ isSubtype_stop (wpAny_pure ?_))
      exact ⟨rfl, I.turned (t' := s.toks) (fun b o hb q => eb b o hb q) f0 f1 f3 f4 f5⟩
    · simp only [strIterType, ha, if_true] at hit
      refine wpAny_bind (wpAny_field he rfl (x := .ref it) rfl (wpAny_bind (wpAny_nextOf_ascii_end (I.ok.hd hc) hit none_ fun h' y eb hy => ?_)))
      obtain ⟨o, ho, hoc⟩ := hy
      refine wpAny_bind (wpAny_isInstance (T := "StopIteration") (b := true) ⟨o, ho, hoc⟩ isSubtype_stop (wpAny_pure ?_))
      exact ⟨rfl, I.turned (t' := s.toks) (fun b o hb q => eb b o hb q) f0 f1 f3 f4 f5⟩
  self := fun _ _ _ _ _ st h => by
    obtain ⟨⟨_, he⟩, _⟩ := st
    exact wpAny_pyIter_enum he h
def iEnumS (ta : L2.TA) : TI := fun σ H R => ta σ H fun vs H1 => ∃ z : Str, vs = [.str z] ∧ R (ItES z) H1
theorem pi_enumS {X : Cx} {e : Expr} {ta : L2.TA} {p pos tpos : Pos} {elts : List Expr} {kk : Nat} (hg : Gl X "enumerate") (hm : X.mg "enumerate" = none) (ha : PA X [e] ta)
    (hs : starEach [e] X.env = [(false, eval e X.env)] := by rfl) : PI X (.Tuple elts kk tpos) (.Call (.Name "enumerate" p) [e] [] pos) (iEnumS ta) := by
  refine ⟨fun pins s σ H R I h => ?_⟩
  refine Call_ (ld_blt I hg hm boot_enumerate (PyProof.Rows.callWith_type1 (thn (ha.run pos pins s σ H _ I h) fun us s1 ⟨vs, H1, I1, r1, z, ev, q⟩ => ?_) hs rfl))
  subst ev
  cases r1 with
  | cons r rr =>
    cases rr
    obtain ⟨t, rfl⟩ := r
    refine enumMake (begins_text z t) trivial fun h' he hit hk => wpAny_pyIter_enum he ?_
    refine ⟨s1.heap.objs.size + 1, [s1.heap.objs.size + 1, s1.heap.objs.size], _, _, H1, rfl, I1.kept (t' := s1.toks) hk, turnES z t (s1.heap.objs.size + 1) s1.heap.objs.size, ⟨⟨.none, he⟩, ⟨_, hit, rfl, rfl⟩, Nat.succ_ne_self _⟩, fun b hb => ?_, q⟩
    have le_ : s1.heap.objs.size ≤ b := by
      rcases List.mem_cons.mp hb with rfl | hb
      · exact Nat.le_add_right _ _
      · obtain rfl : b = s1.heap.objs.size := by simpa using hb
        exact Nat.le_refl _
    exact I1.fpOk le_ (I1.hok.fresh le_)
theorem ei_enumS {K : PySem.W.Frag} {γ : Type} {W : Wd γ} {ρ : Rho} {k : γ} {tr : L2.TA} {Ω : Nat → (Nat → PyData) → γ → Prop} (h : EvA K W tr ρ k fun es k1 => ∃ z : Str, es = [.str z] ∧ Ω z.cps.size (fun i => .tuple [.int (i : Nat), .str ⟨#[z.cps[i]?.getD 0]⟩]) k1) : EvI K W (iEnumS tr) ρ k Ω := fun L0 H0 L H σ S R c =>
  h L0 H0 L H σ S _ fun vs es k1 H1 S1 e t g => by
    obtain ⟨z, rfl, q⟩ := g
    obtain ⟨v, rfl, t1⟩ := t.one_
    cases t1
    refine ⟨z, rfl, c _ _ _ k1 H1 S1 e ⟨fun i L H hi _ => hi, fun L H _ => Nat.le_refl _, fun i L H x H' hi l y => ?_⟩ q⟩
    obtain ⟨p, cc, rfl, hp, rfl, h1⟩ := y
    refine ⟨Same.new hp, ?_⟩
    show T K _ _ _ (.tuple [_, .str ⟨#[z.cps[i]?.getD 0]⟩])
    rw [h1]
    exact .tup (l.trk.new hp) upd_same (.cons (.int _) (.one (.str _)))
end U

set_option Elab.async false
set_option linter.all false
set_option maxRecDepth 100000
set_option maxHeartbeats 2000000
namespace U
open PySem PySem.Spec PyProof.Rows L2
/-! ### words as rows of letters -/
def txt (ws : List Nat) : Str := ⟨(ws.map (97 + ·)).toArray⟩
theorem txt_size (ws : List Nat) : (txt ws).cps.size = ws.length := by simp [txt]
theorem txt_len (ws : List Nat) : (txt ws).length = ws.length := txt_size ws
theorem txt_get (ws : List Nat) (i : Nat) : (txt ws).cps[i]? = ws[i]?.map (97 + ·) := by simp [txt]
theorem txt_app (a b : List Nat) : txt a ++ txt b = txt (a ++ b) := by
  show Str.mk _ = Str.mk _
  simp [txt]
theorem txt_inj {a b : List Nat} (h : txt a = txt b) : a = b := by
  unfold txt at h
  have h2 : (a.map (97 + ·)).toArray = (b.map (97 + ·)).toArray := by injection h
  have h3 : a.map (97 + ·) = b.map (97 + ·) := by simpa using congrArg Array.toList h2
  exact (List.map_inj_right (fun x y e => by omega)).mp h3
theorem txt_dec (a b : List Nat) : decide (txt a = txt b) = decide (a = b) := by
  by_cases h : a = b
  · simp [h]
  · rw [decide_eq_false h, decide_eq_false fun e => h (txt_inj e)]
theorem txt_cut (ws : List Nat) (lo hi : Option Int) : cutS (txt ws) lo hi = txt ((ws.drop (HT.sIx ws.length 0 lo)).take (HT.sIx ws.length ws.length hi - HT.sIx ws.length 0 lo)) := by
  unfold cutS
  rw [txt_len]
  show Str.mk _ = Str.mk _
  congr 1
  simp [txt, List.map_take, List.map_drop]
theorem txt_take (ws : List Nat) {n : Nat} (h : n ≤ ws.length) : cutS (txt ws) none (some (n : Int)) = txt (ws.take n) := by
  rw [txt_cut, HT.sIx_nat, HT.sIx_none, List.drop_zero, Nat.sub_zero, Nat.min_eq_left h]
theorem txt_drop (ws : List Nat) {n : Nat} (h : n ≤ ws.length) : cutS (txt ws) (some (n : Int)) none = txt (ws.drop n) := by
  rw [txt_cut, HT.sIx_nat, HT.sIx_none, Nat.min_eq_left h, List.take_of_length_le (by rw [List.length_drop]; omega)]
theorem txt_mem (ws : List Nat) (c : Nat) : decide ((97 + c) ∈ (txt ws).cps.toList) = decide (c ∈ ws) := by
  have : (97 + c ∈ (txt ws).cps.toList) ↔ c ∈ ws := by
    unfold txt
    simp only [List.mem_map]
    exact ⟨fun ⟨d, hd, e⟩ => by rwa [show d = c by omega] at hd, fun h => ⟨c, h, rfl⟩⟩
  by_cases h : c ∈ ws
  · rw [decide_eq_true h, decide_eq_true (this.mpr h)]
  · rw [decide_eq_false h, decide_eq_false fun q => h (this.mp q)]
theorem txt_nil : Str.ofString "" = txt [] := rfl
theorem txt_abcd : Str.ofString "abcd" = txt [0, 1, 2, 3] := by decide +kernel
theorem occ_abcd {c : Nat} (h : c < 4) : Builtin.Str.occurrences (Str.ofString "abcd") ⟨#[97 + c]⟩ 0 (Str.ofString "abcd").length 1 = [c] := by
  have : c = 0 ∨ c = 1 ∨ c = 2 ∨ c = 3 := by omega
  rcases this with rfl | rfl | rfl | rfl <;> decide +kernel
theorem join_txt (l : List (List Nat)) : Txt.join (Str.ofString "") (l.map txt) = txt l.flatten := by
  have e0 : (Str.ofString "").cps = #[] := rfl
  have fold : ∀ (l : List (List Nat)) (acc : Array Nat), (l.map txt).foldl (fun acc p => acc ++ (Str.ofString "").cps ++ p.cps) acc = acc ++ (l.flatten.map (97 + ·)).toArray := by
    intro l
    induction l with
    | nil => intro acc; simp
    | cons x xs ih =>
      intro acc
      rw [List.map_cons, List.foldl_cons, ih, e0]
      simp [txt]
  cases l with
  | nil => rfl
  | cons x xs =>
    show Str.mk _ = Str.mk _
    congr 1
    show (((x :: xs).map txt).drop 1).foldl _ _ = _
    rw [List.map_cons, List.drop_succ_cons, List.drop_zero, fold]
    simp [txt]
/-- truth of data -/
def truD : PyData → Bool
  | .none => false
  | .bool b => b
  | .int i => i != 0
  | .str z => z.length != 0
  | .list ds => !ds.isEmpty
  | .tuple ds => !ds.isEmpty
  | .dict es => !es.isEmpty
section
variable {K : PySem.W.Frag} {γ : Type} {W : Wd γ} {ρ : Rho} {k : γ} {Φ : PyData → γ → Prop} {ta tb tc te : TE} {tt tu : TT} {x y : PyData} {Ψ : Bool → γ → Prop}
theorem TA.emp {N : List Addr} {H : Hp} {vs : List V} {ds : List PyData} (t : TA K N H vs ds) : ds.isEmpty = vs.isEmpty := by cases t <;> rfl
theorem TK.emp {N : List Addr} {H : Hp} {vs : List (Key × V)} {ds : List (PyData × PyData)} (t : TK K N H vs ds) : ds.isEmpty = vs.isEmpty := by cases t <;> rfl
def sizeOk : PyData → Prop | .str z => z.length ≤ 100000 | _ => True
theorem et_truth (h : EvW K W te ρ k fun d k1 => sizeOk d ∧ Ψ (truD d) k1) : EvT K W (fun σ H Q => te σ H fun x H' => ∃ k, TruV K x H' k ∧ Q k H') ρ k Ψ := fun L0 H0 L H σ S Q c =>
  h L0 H0 L H σ S _ fun v d k1 H1 S1 e1 t1 g => by
    have q : Q (truD d) H1 := c _ _ _ S1 e1 g.2
    refine ⟨truD d, ?_, q⟩
    cases t1 with
    | non => exact rfl
    | bl b => exact rfl
    | int i => exact rfl
    | str z =>
      refine ⟨Nat.le_trans g.1 (by decide), ?_⟩
      show (z.length != 0) = _
      by_cases hz : z.length = 0
      · rw [hz]; rfl
      · have h2 : (z.length : Int) ≠ 0 := by omega
        rw [bne_iff_ne.mpr hz, bne_iff_ne.mpr h2]
    | lst n h t => exact .inl ⟨_, SqL.of h, by show (!List.isEmpty _) = _; rw [t.emp]⟩
    | tup n h t => exact .inr (.inl ⟨_, SqT.of h, by show (!List.isEmpty _) = _; rw [t.emp]⟩)
    | dct n h t => exact .inr (.inr ⟨_, h, by show (!List.isEmpty _) = _; rw [t.emp]⟩)
theorem rd_inS {c : Nat} {z : Str} (q : Φ (.bool (decide (c ∈ z.cps.toList))) k) : RD K W (fun x y H Q => ∃ (c : Nat) (z : Str), x = .str ⟨#[c]⟩ ∧ y = .str z ∧ Q (.bl (decide (c ∈ z.cps.toList))) H) (.str ⟨#[c]⟩) (.str z) ρ k Φ := rd_ q fun N H vx vy tx ty Q cc => by
  cases tx
  cases ty
  exact ⟨c, z, rfl, rfl, cc _ (.bl _)⟩
theorem rd_ninS {c : Nat} {z : Str} (q : Φ (.bool (!decide (c ∈ z.cps.toList))) k) : RD K W (fun x y H Q => ∃ (c : Nat) (z : Str), x = .str ⟨#[c]⟩ ∧ y = .str z ∧ Q (.bl (!decide (c ∈ z.cps.toList))) H) (.str ⟨#[c]⟩) (.str z) ρ k Φ := rd_ q fun N H vx vy tx ty Q cc => by
  cases tx
  cases ty
  exact ⟨c, z, rfl, rfl, cc _ (.bl _)⟩
/-- sep.join(list of texts) -/
theorem sum_le {l : List Str} {a : Nat} (h : ∀ z ∈ l, z.length ≤ a) : (l.map (·.length)).sum ≤ l.length * a := by
  induction l with
  | nil => simp
  | cons x xs ih =>
    have h1 := h x List.mem_cons_self
    have h2 := ih fun z hz => h z (List.mem_cons_of_mem _ hz)
    rw [List.map_cons, List.sum_cons, List.length_cons, Nat.add_mul]
    omega
def rJoin (K : PySem.W.Frag) : V → List V → Hp → VK → Prop := fun x xs H Q => ∃ a p, ∃ ys : List Str, x = .str a ∧ xs = [.ref p] ∧ (SqL K H p (ys.map V.str) ∨ SqT K H p (ys.map V.str)) ∧ (ys.map (·.length)).sum + ys.length * a.length ≤ 16777216 ∧ Q (.str (Txt.join a ys)) H
theorem kJoin (K : PySem.W.Frag) {X : Cx} {e : Expr} {to te : TE} (p : PE X e (tM1 (fun x xs H Q => ∃ a p, ∃ ys : List Str, x = .str a ∧ xs = [.ref p] ∧ (SqL X.K H p (ys.map V.str) ∨ SqT X.K H p (ys.map V.str)) ∧ (ys.map (·.length)).sum + ys.length * a.length ≤ 16777216 ∧ Q (.str (Txt.join a ys)) H) to te)) (h : X.K = K := by rfl) : PE X e (tM1 (rJoin K) to te) := by subst h; exact p
theorem ev_join (h : EvW K W ta ρ k fun a k1 => ∃ s : Str, a = .str s ∧ EvW K W tb ρ k1 fun d k2 => ∃ ys : List Str, d = .list (ys.map .str) ∧ (ys.map (·.length)).sum + ys.length * s.length ≤ 16777216 ∧ Φ (.str (Txt.join s ys)) k2) :
    EvW K W (tM1 (rJoin K) ta tb) ρ k Φ := fun L0 H0 L H σ S Q c =>
  h L0 H0 L H σ S _ fun v a k1 H1 S1 e1 t1 g => by
    obtain ⟨s, rfl, g⟩ := g
    cases t1
    refine ⟨⟨s, rfl⟩, g L0 H0 L H1 σ S1 _ fun u d k2 H2 S2 e2 t2 g2 => ?_⟩
    obtain ⟨ys, rfl, hz, q⟩ := g2
    cases t2 with
    | lst n ha t =>
      have e := t.strs_
      subst e
      exact ⟨s, _, ys, rfl, rfl, .inl (SqL.of ha), hz, c _ _ k2 H2 S2 (e1.trans e2) (.str _) q⟩
/-- "abcd".index(letter) -/
theorem ev_index (h : EvW K W tb ρ k fun d k2 => ∃ c : Nat, d = .str ⟨#[97 + c]⟩ ∧ c < 4 ∧ Φ (.int (c : Int)) k2) :
    EvW K W (tBM K "str" (fun x xs H Q => ∃ a b i rest, x = .str a ∧ xs = [.str b] ∧ Builtin.Str.occurrences a b 0 a.length 1 = i :: rest ∧ Q (.int (i : Nat)) H) (tC (.str (Str.ofString "abcd"))) (tCons tb tNil)) ρ k Φ := fun L0 H0 L H σ S Q c => by
  refine ⟨rfl, h L0 H0 L H σ S _ fun u d k2 H2 S2 e2 t2 g2 => ?_⟩
  obtain ⟨n, rfl, hn, q⟩ := g2
  cases t2
  exact ⟨_, _, n, [], rfl, rfl, occ_abcd hn, c _ _ k2 H2 S2 e2 (.int _) q⟩
/-! ### reading a list of one's own -/
theorem Stt.own_at {L0 L : List Addr} {H0 H : Hp} {σ : L2.St} {i : Nat} {ds : List PyData} (S : Stt K W L0 H0 L H σ ρ k) (h : ρ[i]? = some (.own ds)) : ∃ l xs, σ[i]? = some (some (.ref l)) ∧ H l = some (.lst xs) ∧ TA K (L ++ W.M) H xs ds := by
  obtain ⟨l, xs, h1, _, h3, h4⟩ := S.slots i _ h
  exact ⟨l, xs, h1, h3, h4⟩
theorem ev_ownLen {i : Nat} {ds : List PyData} (h : ρ[i]? = some (.own ds)) (q : Φ (.int (ds.length : Int)) k) : EvW K W (tCB (rLenQ K) (tCons (tVar i) tNil)) ρ k Φ := fun L0 H0 L H σ S Q c => by
  obtain ⟨l, xs, h1, h3, h4⟩ := S.own_at h
  exact ⟨_, h1, _, _, rfl, .inl (SqL.of h3), by rw [h4.len]; exact c _ _ k H S (Ext.refl _ _) (.int _) q⟩
theorem ev_ownIx {i : Nat} {ds : List PyData} (h : ρ[i]? = some (.own ds)) (hb : EvW K W tb ρ k fun x k1 => ∃ j : Nat, x = .int (j : Int) ∧ ∃ d, ds[j]? = some d ∧ Φ d k1) : EvW K W (tOp (rIxL K) (tVar i) tb) ρ k Φ := fun L0 H0 L H σ S Q c => by
  obtain ⟨l, xs, h1, h3, h4⟩ := S.own_at h
  refine ⟨_, h1, hb L0 H0 L H σ S _ fun v x k1 H1 S1 e1 t1 g => ?_⟩
  obtain ⟨j, rfl, d, hd, q⟩ := g
  cases t1
  obtain ⟨l', ys, g1, g3, g4⟩ := S1.own_at h
  rw [h1] at g1
  have e : l = l' := by injection g1 with g1; injection g1 with g1; injection g1
  subst e
  obtain ⟨v, e1', t⟩ := g4.at hd
  exact ⟨_, _, _, v, rfl, rfl, SqL.of g3, atI_nat e1', c v d k1 H1 S1 e1 t q⟩
theorem et_ownTruth {i : Nat} {ds : List PyData} (h : ρ[i]? = some (.own ds)) (q : Ψ (!ds.isEmpty) k) : EvT K W (fun σ H Q => (tVar i) σ H fun x H' => ∃ k, TruV K x H' k ∧ Q k H') ρ k Ψ := fun L0 H0 L H σ S Q c => by
  obtain ⟨l, xs, h1, h3, h4⟩ := S.own_at h
  exact ⟨_, h1, !ds.isEmpty, .inl ⟨_, SqL.of h3, by rw [h4.emp]⟩, c _ _ _ S (Ext.refl _ _) q⟩
end
/-! ### the deck -/
structure Deck (H : Hp) (p q : Addr) (n : Nat) : Prop where
  top : H p = some (.lst [.ref q, .int (n : Int)])
  cells : ∃ cs : List Int, H q = some (.lst (cs.map V.int)) ∧ (∀ c ∈ cs, 0 ≤ c) ∧ cs.length ≤ 63
theorem Deck.ne {H : Hp} {p q : Addr} {n : Nat} (d : Deck H p q n) : p ≠ q := by
  obtain ⟨cs, h, _⟩ := d.cells
  refine ne_of d.top h ?_
  intro e
  have e1 : [V.ref q, V.int (n : Int)] = cs.map V.int := HO.lst.inj e
  cases cs with
  | nil => cases e1
  | cons c cs =>
    have e2 := (List.cons.inj e1).1
    cases e2
theorem Deck.of {H H' : Hp} {p q : Addr} {n : Nat} (d : Deck H p q n) (hp : H' p = H p) (hq : H' q = H q) : Deck H' p q n := by
  obtain ⟨cs, h, r⟩ := d.cells
  exact ⟨hp.trans d.top, cs, hq.trans h, r⟩
/-- a world with a deck, at most k numbers drawn -/
def deckW (M : List Addr) (p q : Addr) (Hs : Hp) (t : Trk M Hs) (hp : p ∈ M) (hq : q ∈ M) : Wd Nat where
  M := M
  I := fun k _ H => (∃ n, n ≤ k ∧ Deck H p q n) ∧ ∀ b, b ∈ M → b ≠ p → b ≠ q → H b = Hs b
  plus := fun _ _ _ _ _ _ h => h
  loc := fun k _ H H' e _ h => ⟨let ⟨n, hn, d⟩ := h.1; ⟨n, hn, d.of (e p hp) (e q hq)⟩, fun b hb h1 h2 => (e b hb).trans (h.2 b hb h1 h2)⟩
  trk := fun k _ H h b hb z => by
    obtain ⟨⟨n, _, d⟩, r⟩ := h
    by_cases h1 : b = p
    · rw [h1, d.top] at z; cases z
    · by_cases h2 : b = q
      · obtain ⟨cs, hc, _⟩ := d.cells
        rw [h2, hc] at z; cases z
      · rw [r b hb h1 h2] at z
        exact t b hb z
/-- a def whose first argument is the deck: c numbers are drawn at most, what it gives has G -/
def spD (K : PySem.W.Frag) (n0 : Nat) (R : List PyData → Nat → (PyData → Prop) → Prop) : Sp := fun vs H Q _ => ∃ (M : List Addr) (p q : Addr) (n : Nat) (us : List V) (ds : List PyData) (c : Nat) (G : PyData → Prop),
  vs = .ref p :: us ∧ Deck H p q n ∧ p ∈ M ∧ q ∈ M ∧ TA K M H us ds ∧ Trk M H ∧ ds.length + 1 = n0 ∧ R ds c G ∧ n + c ≤ 1000000000 ∧
  ∀ v d H' n', Deck H' p q n' → n' ≤ n + c → Ext [p, q] H H' → T K M H' v d → G d → Q v H'
/-- a world that has the deck -/
class HasD (W : Wd Nat) (p q : outParam Addr) : Prop where
  memp : p ∈ W.M
  memq : q ∈ W.M
  get : ∀ k N H, W.I k N H → ∃ n, n ≤ k ∧ Deck H p q n
  put : ∀ k k' N H H' n', p ∈ N → q ∈ N → W.I k N H → Ext [p, q] H H' → Deck H' p q n' → n' ≤ k' → W.I k' N H'
instance {M : List Addr} {p q : Addr} {Hs : Hp} {t : Trk M Hs} {hp : p ∈ M} {hq : q ∈ M} : HasD (deckW M p q Hs t hp hq) p q where
  memp := hp
  memq := hq
  get := fun k N H h => h.1
  put := fun k k' N H H' n' _ _ h e d hn => ⟨⟨n', hn, d⟩, fun b hb h1 h2 => by
    have hh := h.2 b hb h1 h2
    cases z : H b with
    | none => exact absurd z ((deckW M p q Hs t hp hq).trk k N H h b hb)
    | some o =>
      rw [← hh, z]
      exact e b o (by simp [h1, h2]) z⟩
section
variable {K : PySem.W.Frag} {W : Wd Nat} {p q : Addr} {ρ : Rho} {k : Nat} {Φ : PyData → Nat → Prop} {tr : L2.TA}
theorem ev_callD [hd : HasD W p q] {n0 : Nat} {R : List PyData → Nat → (PyData → Prop) → Prop} {i : Nat} (h0 : ρ[i]? = some (.raw (.ref p)))
    (h : EvA K W tr ρ k fun ds k1 => ds.length + 1 = n0 ∧ ∃ c G, R ds c G ∧ k1 + c ≤ 1000000000 ∧ ∀ d, G d → Φ d (k1 + c)) : EvW K W (tCall (spD K n0 R) [] E0 (tCons (tVar i) tr)) ρ k Φ := fun L0 H0 L H σ S Q c => by
  refine ⟨.ref p, S.slots i _ h0, h L0 H0 L H σ S _ fun vs ds k1 H1 S1 e1 ta g => ?_⟩
  obtain ⟨hl, cc, G, hR, hk, g⟩ := g
  obtain ⟨n, hn, dk⟩ := hd.get _ _ _ S1.wd
  have pN : p ∈ L ++ W.M := List.mem_append_right _ hd.memp
  have qN : q ∈ L ++ W.M := List.mem_append_right _ hd.memq
  refine ⟨L ++ W.M, p, q, n, vs, ds, cc, G, by simp, dk, pN, qN, ta, S1.trk, hl, hR, by omega, fun v d H' n' dk' hn' e t' gd => ?_⟩
  have eM' : Ext W.M H1 H' := e.sub fun b hb => by
    rcases List.mem_cons.mp hb with rfl | hb
    · exact hd.memp
    · have : b = q := by simpa using hb
      rw [this]; exact hd.memq
  exact c v d _ H' (S1.ext eM' (hd.put k1 (k1 + cc) _ _ _ n' pN qN S1.wd e dk' (by omega))) (e1.trans eM') t' (g d gd)
end
/-- the start of a def whose first argument is the deck -/
def rest1 (N : List Str) (p : Addr) (ds : List PyData) : Rho := .raw (.ref p) :: (ds.map Slot.dat ++ List.replicate (N.length - (ds.length + 1)) .no)
theorem stt_startD {K : PySem.W.Frag} {γ : Type} {W : Wd γ} {N : List Str} {vs : List V} {ds : List PyData} {H : Hp} {k : γ} {p : Addr} (t : TA K W.M H vs ds) (wd : W.I k W.M H) : Stt K W [] H [] H (L2.start N (.ref p :: vs)) (rest1 N p ds) k := by
  have get_ : ∀ (i : Nat) (s : Slot), (rest1 N p ds)[i]? = some s → s = .no ∨ (i = 0 ∧ s = .raw (.ref p)) ∨ ∃ d j, i = j + 1 ∧ ds[j]? = some d ∧ s = .dat d := fun i s hs => by
    unfold rest1 at hs
    cases i with
    | zero => right; left; exact ⟨rfl, by simpa using hs.symm⟩
    | succ i =>
      rw [List.getElem?_cons_succ] at hs
      by_cases hi : i < ds.length
      · rw [List.getElem?_append_left (by simpa using hi)] at hs
        rw [List.getElem?_map] at hs
        obtain ⟨d, h1, h2⟩ := Option.map_eq_some_iff.mp hs
        exact .inr (.inr ⟨d, i, rfl, h1, h2.symm⟩)
      · rw [List.getElem?_append_right (by simpa using hi)] at hs
        exact .inl (List.eq_of_mem_replicate (List.mem_of_getElem? hs))
  refine ⟨Ext.refl _ _, (fun l hl => nomatch hl), (fun l hl => nomatch hl), W.trk k _ H wd, wd, ?_, fun i s hs => ?_, fun i j s u hs hu h1 _ _ => ?_⟩
  · rw [start_len]
    unfold rest1
    have := t.len
    simp only [List.length_cons, List.length_append, List.length_map, List.length_replicate, this]
    omega
  · rcases get_ i s hs with rfl | ⟨rfl, rfl⟩ | ⟨d, j, rfl, hd, rfl⟩
    · trivial
    · exact start_get (by simp)
    · obtain ⟨v, h1, h2⟩ := t.at hd
      exact ⟨v, start_get (by simpa using h1), h2⟩
  · rcases get_ i s hs with rfl | ⟨rfl, rfl⟩ | ⟨d, j, rfl, hd, rfl⟩ <;> cases h1
theorem spD.ok {K : PySem.W.Frag} {n0 : Nat} {R : List PyData → Nat → (PyData → Prop) → Prop} {N : List Str} {vs : List V} {H : Hp} {Q : VK} {E : XK} {t : TS} (h : spD K n0 R vs H Q E)
    (hb : ∀ (M : List Addr) (p q : Addr) (hp : p ∈ M) (hq : q ∈ M) (Hs : Hp) (tr : Trk M Hs) (ds : List PyData) (c n : Nat) (G : PyData → Prop), R ds c G → n + c ≤ 1000000000 →
      SW K (deckW M p q Hs tr hp hq) t (rest1 N p ds) n ⟨fun _ k => G .none ∧ k ≤ n + c, fun d k => G d ∧ k ≤ n + c, fun _ _ => False, fun _ _ => False⟩) : t { nx := fun _ H' => Q .non H', rt := Q } (L2.start N vs) H := by
  obtain ⟨M, p, q, n, us, ds, c, G, rfl, dk, hp, hq, ta, tr, _, hR, hn, qq⟩ := h
  have wd0 : (deckW M p q H tr hp hq).I n M H := ⟨⟨n, Nat.le_refl _, dk⟩, fun b _ _ _ => rfl⟩
  have fin : ∀ k' H', Ext ([] ++ (deckW M p q H tr hp hq).M) H H' → (deckW M p q H tr hp hq).I k' M H' → k' ≤ n + c → ∃ n', Deck H' p q n' ∧ n' ≤ n + c ∧ Ext [p, q] H H' := fun k' H' e wi hk => by
    obtain ⟨⟨n', hn', dk'⟩, oth⟩ := wi
    refine ⟨n', dk', by omega, fun b o nb hb => ?_⟩
    have h1 : b ≠ p := fun z => nb (by simp [z])
    have h2 : b ≠ q := fun z => nb (by simp [z])
    by_cases hm : b ∈ M
    · rw [oth b hm h1 h2]; exact hb
    · exact e b o hm hb
  refine hb M p q hp hq H tr ds c n G hR hn [] H [] H _ _ (stt_startD ta wd0) (fun L' H' σ' ρ' k' S' g => ?_) (fun v d k' H' e wi t' hd => ?_) (fun _ _ _ _ _ _ z => z.elim) (fun _ _ _ _ _ _ z => z.elim)
  · obtain ⟨n', a, b, e⟩ := fin k' H' S'.base S'.wdM g.2
    exact qq .non .none H' n' a b e .non g.1
  · obtain ⟨n', a, b, e⟩ := fin k' H' e wi hd.2
    exact qq v d H' n' a b e t' hd.1
theorem spD.len {K : PySem.W.Frag} {R : List PyData → Nat → (PyData → Prop) → Prop} {n : Nat} {vs : List V} {H : Hp} {Q : VK} {E : XK} (h : spD K n R vs H Q E) : vs.length = n := by
  obtain ⟨M, p, q, n', us, ds, c, G, rfl, dk, hp, hq, ta, tr, hl, hR, hn, qq⟩ := h
  rw [List.length_cons, ta.len]
  exact hl
end U

set_option Elab.async false
set_option linter.all false
set_option maxRecDepth 100000
set_option maxHeartbeats 2000000
namespace U
open PySem PySem.Spec PyProof.Rows L2
abbrev nI (n : Nat) : PyData := .int (n : Int)
abbrev nX (ws : List Nat) : PyData := .str (txt ws)
theorem at_map {α β : Type} {f : α → β} {us : List α} {i : Nat} {u : α} (h : us[i]? = some u) : (us.map f)[i]? = some (f u) := by rw [List.getElem?_map, h]; rfl
theorem itemD_map {α : Type} {f : α → PyData} {xs : List α} {j : Nat} (h : j < xs.length) : itemD (xs.map f) j = f xs[j] := by simp [itemD, h]
theorem cut_to (ws : List Nat) (n : Nat) : cutS (txt ws) none (some (n : Int)) = txt (ws.take n) := by
  by_cases h : n ≤ ws.length
  · exact txt_take ws h
  · rw [txt_cut, HT.sIx_nat, HT.sIx_none, List.drop_zero, Nat.sub_zero, Nat.min_eq_right (by omega), List.take_length, List.take_of_length_le (by omega)]
theorem cut_from (ws : List Nat) (n : Nat) : cutS (txt ws) (some (n : Int)) none = txt (ws.drop n) := by
  by_cases h : n ≤ ws.length
  · exact txt_drop ws h
  · rw [txt_cut, HT.sIx_nat, HT.sIx_none, Nat.min_eq_right (by omega), List.drop_length, List.drop_eq_nil_of_le (by omega), List.take_nil]
theorem if_split {P Q : Prop} {c : Bool} (h1 : c = true → P) (h2 : c = false → Q) : if c = true then P else Q := by
  cases c with
  | true => exact iteT (h1 rfl)
  | false => exact iteF (h2 rfl)
section
variable {K : PySem.W.Frag} {γ : Type} {W : Wd γ} {ρ : Rho} {k : γ} {Φ : PyData → γ → Prop}
theorem rd_ixT0 {a : PyData} {ds : List PyData} (q : Φ a k) : RD K W (rIxT K) (.tuple (a :: ds)) (.int 0) ρ k Φ := rd_ixT (j := 0) rfl rfl q
theorem rd_ixT1 {a b : PyData} {ds : List PyData} (q : Φ b k) : RD K W (rIxT K) (.tuple (a :: b :: ds)) (.int 1) ρ k Φ := rd_ixT (j := 1) rfl rfl q
theorem rd_ixT2 {a b c : PyData} {ds : List PyData} (q : Φ c k) : RD K W (rIxT K) (.tuple (a :: b :: c :: ds)) (.int 2) ρ k Φ := rd_ixT (j := 2) rfl rfl q
theorem rd_ixTm {α : Type} {f : α → PyData} {xs : List α} {x : α} {j : Nat} (h : xs[j]? = some x) (q : Φ (f x) k) : RD K W (rIxT K) (.tuple (xs.map f)) (.int (j : Int)) ρ k Φ := rd_ixT (j := j) rfl (at_map h) q
theorem rd_ixX {ws : List Nat} {j : Nat} (hz : ws.length ≤ 100000) (h : j < ws.length) (q : Φ (.str ⟨#[97 + ws[j]]⟩) k) : RD K W rIxS (nX ws) (.int (j : Int)) ρ k Φ := rd_ixS (j := j) (c := 97 + ws[j]) (by rw [txt_len]; exact hz) rfl (by rw [txt_get]; simp [h]) q
theorem rc_lenX {ws : List Nat} (hz : ws.length ≤ 100000) (q : Φ (nI ws.length) k) : RCD K W (fun xs H Q => ∃ z, xs = [.str z] ∧ z.length ≤ sizeLine ∧ Q (.int z.length) H) [nX ws] ρ k Φ := rc_lenS (by rw [txt_len]; exact hz) (by rw [txt_len]; exact q)
theorem rsl_to {ws : List Nat} {n : Nat} (hz : ws.length ≤ 100000) (q : Φ (nX (ws.take n)) k) : RSl K W rSlS (nX ws) none (some (n : Int)) ρ k Φ := rsl_S (by rw [txt_len]; exact hz) (by rw [cut_to]; exact q)
theorem rsl_from {ws : List Nat} {n : Nat} (hz : ws.length ≤ 100000) (q : Φ (nX (ws.drop n)) k) : RSl K W rSlS (nX ws) (some (n : Int)) none ρ k Φ := rsl_S (by rw [txt_len]; exact hz) (by rw [cut_from]; exact q)
theorem rd_inX {c : Nat} {ws : List Nat} (q : Φ (.bool (decide (c ∈ ws))) k) : RD K W (fun x y H Q => ∃ (c : Nat) (z : Str), x = .str ⟨#[c]⟩ ∧ y = .str z ∧ Q (.bl (decide (c ∈ z.cps.toList))) H) (.str ⟨#[97 + c]⟩) (nX ws) ρ k Φ := rd_inS (by rw [txt_mem]; exact q)
theorem rd_ninX {c : Nat} {ws : List Nat} (q : Φ (.bool (!decide (c ∈ ws))) k) : RD K W (fun x y H Q => ∃ (c : Nat) (z : Str), x = .str ⟨#[c]⟩ ∧ y = .str z ∧ Q (.bl (!decide (c ∈ z.cps.toList))) H) (.str ⟨#[97 + c]⟩) (nX ws) ρ k Φ := rd_ninS (by rw [txt_mem]; exact q)
theorem rd_eqXX {a b : List Nat} (q : Φ (.bool (decide (a = b))) k) : RD K W rEq (nX a) (nX b) ρ k Φ := rd_eqX (by rw [txt_dec]; exact q)
theorem rd_neXX {a b : List Nat} (q : Φ (.bool (!decide (a = b))) k) : RD K W rNe (nX a) (nX b) ρ k Φ := rd_neX (by rw [txt_dec]; exact q)
end
/-! ### the deck's defs -/
theorem Deck.ext {H H' : Hp} {p q : Addr} {n : Nat} {M : List Addr} (d : Deck H p q n) (e : Ext M H H') (hp : p ∉ M) (hq : q ∉ M) : Deck H' p q n := by
  obtain ⟨cs, h, r⟩ := d.cells
  exact ⟨e _ _ hp d.top, cs, e _ _ hq h, r⟩
theorem Deck.same {H H' : Hp} {p q : Addr} {n : Nat} (d : Deck H p q n) (e : Same H H') : Deck H' p q n := d.ext (M := []) (Ext.same e) (by simp) (by simp)
def spDraw : Sp := fun vs H Q _ => ∃ (p q : Addr) (n : Nat) (many : Int), vs = [.ref p, .int many] ∧ Deck H p q n ∧ n ≤ 1000000000 ∧ 0 < many ∧ many ≤ 1000000000 ∧
  ∀ (H' : Hp) (r : Int), Deck H' p q (n + 1) → Ext [p, q] H H' → 0 ≤ r → r < many → Q (.int r) H'
def spDeck (K : PySem.W.Frag) : Sp := fun vs H Q _ => ∃ (a : Addr) (ns : List Int), vs = [.ref a] ∧ SqL K H a (ns.map V.int) ∧ ns.length ≤ 63 ∧
  ∀ (H' : Hp) (p q : Addr), H p = none → H q = none → Deck H' p q 0 → Same H H' → Q (.ref p) H'
def R_draw (ds : List PyData) (c : Nat) (G : PyData → Prop) : Prop := ∃ many : Int, ds = [.int many] ∧ 0 < many ∧ many ≤ 1000000000 ∧ c = 1 ∧ G = fun d => ∃ r : Nat, (r : Int) < many ∧ d = nI r
theorem FnOk.less {P : Program} {w : World} {K : PySem.W.Frag} {mg : Str → Option Value} {base : Heap} {k : Nat} {f : Addr} {fd : FuncData} {ps : List Str} {sp sp' : Sp} (F : FnOk P w K mg base CX0 k f fd ps sp) (h : ∀ vs H Q E, sp' vs H Q E → sp vs H Q E) : FnOk P w K mg base CX0 k f fd ps sp' :=
  ⟨fun vs H Q E g => F.len vs H Q E (h _ _ _ _ g), fun A o s H a us vs Q E hr e hb r g => F.run A o s H a us vs Q E hr e hb r (h _ _ _ _ g)⟩
section
variable {K : PySem.W.Frag} {W : Wd Nat} {p q : Addr} {ρ : Rho} {k : Nat} {Φ : PyData → Nat → Prop} {ta : L2.TA}
/-- a number drawn -/
theorem ev_draw [hd : HasD W p q] {i : Nat} (h0 : ρ[i]? = some (.raw (.ref p))) (h : EvA K W ta ρ k fun ds k1 => ∃ many : Int, ds = [.int many] ∧ 0 < many ∧ many ≤ 1000000000 ∧ k1 + 1 ≤ 1000000000 ∧ ∀ r : Nat, (r : Int) < many → Φ (nI r) (k1 + 1)) :
    EvW K W (tCall (spD K 2 R_draw) [] E0 (tCons (tVar i) ta)) ρ k Φ := ev_callD h0 fun L0 H0 L H σ S Q c => h L0 H0 L H σ S Q fun vs ds k1 H2 S2 e2 t2 g => c vs ds k1 H2 S2 e2 t2 (by
  obtain ⟨many, rfl, g0, g1, g2, g3⟩ := g
  exact ⟨rfl, 1, _, ⟨many, rfl, g0, g1, rfl, rfl⟩, g2, fun d ⟨r, hr, e⟩ => by rw [e]; exact g3 r hr⟩)
end
def R_one (ds : List PyData) (c : Nat) (G : PyData → Prop) : Prop := c = 1 ∧ ((∃ es, (ds = [.list es] ∨ ds = [.tuple es]) ∧ es ≠ [] ∧ es.length ≤ 1000 ∧ G = fun d => d ∈ es) ∨
  ∃ ws : List Nat, ds = [.str (txt ws)] ∧ ws ≠ [] ∧ ws.length ≤ 1000 ∧ G = fun d => ∃ x ∈ ws, d = .str (txt [x]))
def OneOk (Ψ : PyData → Prop) : PyData → Prop
  | .list es => es ≠ [] ∧ es.length ≤ 1000 ∧ ∀ d, d ∈ es → Ψ d
  | .tuple es => es ≠ [] ∧ es.length ≤ 1000 ∧ ∀ d, d ∈ es → Ψ d
  | .str z => ∃ ws, z = txt ws ∧ ws ≠ [] ∧ ws.length ≤ 1000 ∧ ∀ x, x ∈ ws → Ψ (.str (txt [x]))
  | _ => False
section
variable {K : PySem.W.Frag} {W : Wd Nat} {p q : Addr} {ρ : Rho} {k : Nat} {Φ : PyData → Nat → Prop} {ta : L2.TA}
/-- one of some -/
theorem ev_one [hd : HasD W p q] {i : Nat} (h0 : ρ[i]? = some (.raw (.ref p))) (h : EvA K W ta ρ k fun ds k1 => ∃ x, ds = [x] ∧ k1 + 1 ≤ 1000000000 ∧ OneOk (fun d => Φ d (k1 + 1)) x) :
    EvW K W (tCall (spD K 2 R_one) [] E0 (tCons (tVar i) ta)) ρ k Φ := ev_callD h0 fun L0 H0 L H σ S Q c => h L0 H0 L H σ S Q fun vs ds k1 H2 S2 e2 t2 g => c vs ds k1 H2 S2 e2 t2 (by
  obtain ⟨x, rfl, g0, g1⟩ := g
  refine ⟨rfl, 1, ?_⟩
  cases x with
  | list es => exact ⟨_, ⟨rfl, .inl ⟨es, .inl rfl, g1.1, g1.2.1, rfl⟩⟩, g0, g1.2.2⟩
  | tuple es => exact ⟨_, ⟨rfl, .inl ⟨es, .inr rfl, g1.1, g1.2.1, rfl⟩⟩, g0, g1.2.2⟩
  | str z =>
    obtain ⟨ws, rfl, a, b, g⟩ := g1
    exact ⟨_, ⟨rfl, .inr ⟨ws, rfl, a, b, rfl⟩⟩, g0, fun d ⟨y, hy, e⟩ => by rw [e]; exact g y hy⟩
  | _ => exact g1.elim)
end
section
variable {K : PySem.W.Frag} {γ : Type} {W : Wd γ} {ρ : Rho} {k : γ} {Φ : PyData → γ → Prop} {x y : PyData}
/-- an item of what may be a list, a tuple or a text -/
def nthD (x : PyData) (j : Nat) : Option PyData := match x with
  | .list es => es[j]?
  | .tuple es => es[j]?
  | .str z => z.cps[j]?.map fun c => .str ⟨#[c]⟩
  | _ => none
theorem rd_ixQ {i : Int} {j : Nat} {d : PyData} (hi : i = (j : Int)) (hz : sizeOk x) (h : nthD x j = some d) (q : Φ d k) : RD K W (rIx K) x (.int i) ρ k Φ := rd_ q fun N H vx vy tx ty Q c => by
  subst hi
  cases ty
  cases tx with
  | lst n ha t =>
    obtain ⟨v, h1, h2⟩ := t.at h
    exact .inl ⟨_, _, _, v, rfl, rfl, SqL.of ha, atI_nat h1, c v h2⟩
  | tup n ha t =>
    obtain ⟨v, h1, h2⟩ := t.at h
    exact .inr (.inl ⟨_, _, _, v, rfl, rfl, SqT.of ha, atI_nat h1, c v h2⟩)
  | str z =>
    obtain ⟨cc, h1, rfl⟩ := Option.map_eq_some_iff.mp h
    exact .inr (.inr ⟨z, _, cc, rfl, rfl, Nat.le_trans hz (by decide), atI_nat (by simpa using h1), c _ (.str _)⟩)
  | _ => cases h
end

theorem fine_X {n : Nat} {ws : List Nat} (h : ∀ c ∈ ws, c < 1000) (hn : ws.length ≤ n) : Fine n 0 (nX ws) := by
  refine ⟨rfl, ?_, by show (txt ws).cps.size ≤ n; rw [txt_size]; exact hn, Nat.le_refl _⟩
  show ((txt ws).cps.toList.all fun c => decide (c < 16 ^ 8)) = true
  rw [List.all_eq_true]
  intro c hc
  obtain ⟨d, hd, rfl⟩ : ∃ d ∈ ws, c = 97 + d := by
    unfold txt at hc
    simp only [List.mem_map] at hc
    obtain ⟨d, hd, e⟩ := hc
    exact ⟨d, hd, e.symm⟩
  have := h d hd
  have h2 : (1100 : Nat) < 16 ^ 8 := by decide
  exact decide_eq_true (by omega)
section
variable {K : PySem.W.Frag} {γ : Type} {W : Wd γ} {ρ : Rho} {k : γ} {Φ : PyData → γ → Prop}
theorem rd_neX0 {a : List Nat} (q : Φ (.bool (!decide (a = []))) k) : RD K W rNe (nX a) (.str (Str.ofString "")) ρ k Φ := by rw [txt_nil]; exact rd_neXX q
theorem rd_eqX0 {a : List Nat} (q : Φ (.bool (decide (a = []))) k) : RD K W rEq (nX a) (.str (Str.ofString "")) ρ k Φ := by rw [txt_nil]; exact rd_eqXX q
end
/-! ### slots forgotten -/
inductive Le : Rho → Rho → Prop
  | nil : Le [] []
  | no {s : Slot} {a b : Rho} : Le a b → Le (.no :: a) (s :: b)
  | same {s : Slot} {a b : Rho} : Le a b → Le (s :: a) (s :: b)
theorem Le.refl : ∀ (a : Rho), Le a a
  | [] => .nil
  | _ :: a => .same (Le.refl a)
theorem Le.len : ∀ {a b : Rho}, Le a b → a.length = b.length
  | _, _, .nil => rfl
  | _, _, .no h => by rw [List.length_cons, List.length_cons, h.len]
  | _, _, .same h => by rw [List.length_cons, List.length_cons, h.len]
theorem Le.get : ∀ {a b : Rho}, Le a b → ∀ (i : Nat) (s : Slot), a[i]? = some s → s = .no ∨ b[i]? = some s
  | _, _, .nil, i, s, h => by simp at h
  | _, _, .no g, 0, s, h => by simp at h; exact .inl h.symm
  | _, _, .no g, i + 1, s, h => by simpa using g.get i s (by simpa using h)
  | _, _, .same g, 0, s, h => by simp at h; exact .inr (by simp [h])
  | _, _, .same g, i + 1, s, h => by simpa using g.get i s (by simpa using h)
section
variable {K : PySem.W.Frag} {γ : Type} {W : Wd γ} {ρ : Rho} {k : γ} {P : Ps γ} {g : TG} {a b : TS} {wi : TI} {tt : TT}
theorem Stt.le {L0 L : List Addr} {H0 H : Hp} {σ : L2.St} {ρ0 : Rho} (S : Stt K W L0 H0 L H σ ρ k) (l : Le ρ0 ρ) : Stt K W L0 H0 L H σ ρ0 k := S.weaken l.len l.get
theorem sw_wk (h : SW K W a ρ k { P with nx := fun ρ' k' => ∃ ρ0, Le ρ0 ρ' ∧ P.nx ρ0 k' }) : SW K W a ρ k P := fun L0 H0 L H σ D S nx rt bk ct =>
  h L0 H0 L H σ D S (fun L' H' σ' ρ' k' S' ⟨ρ0, l, q⟩ => nx L' H' σ' ρ0 k' (S'.le l) q) rt bk ct
theorem sw_le {ρ0 : Rho} (l : Le ρ0 ρ) (h : SW K W a ρ0 k P) : SW K W a ρ k P := fun L0 H0 L H σ D S nx rt bk ct => h L0 H0 L H σ D (S.le l) nx rt bk ct
theorem tg_le {js : Nat → Prop} {d : PyData} {Ψ : Rho → Prop} {ρ0 : Rho} (l : Le ρ0 ρ) (h : TgW K W g js d ρ0 Ψ) : TgW K W g js d ρ Ψ := fun L0 H0 L H σ k v S t Q c => h L0 H0 L H σ k v (S.le l) t Q c
/-- for, slots forgotten at each turn -/
theorem sw_forW (h : EvI K W wi ρ k fun n f k1 => ∃ J : Nat → Rho → γ → Prop, (∃ ρ0, Le ρ0 ρ ∧ J 0 ρ0 k1) ∧
      (∀ i ρ1 k2, i < n → J i ρ1 k2 → TgW K W g (fun _ => True) (f i) ρ1 fun ρ2 => SW K W b ρ2 k2 { P with nx := fun ρ' k' => ∃ ρ0, Le ρ0 ρ' ∧ J (i + 1) ρ0 k', ct := fun ρ' k' => ∃ ρ0, Le ρ0 ρ' ∧ J (i + 1) ρ0 k', bk := P.nx }) ∧ ∀ ρ1 k2, J n ρ1 k2 → P.nx ρ1 k2) : SW K W (tFor wi g b) ρ k P :=
  sw_wk (sw_for fun L0 H0 L H σ S R c => h L0 H0 L H σ S R fun J n f k' H2 S2 e wd ⟨Jv, j0, turn, done⟩ => c J n f k' H2 S2 e wd
    ⟨fun i ρ k => ∃ ρ0, Le ρ0 ρ ∧ Jv i ρ0 k, j0, fun i ρ1 k2 hi ⟨ρ0, l, j⟩ => tg_le l (fun L0 H0 L H σ k v S t Q c => turn i ρ0 k2 hi j L0 H0 L H σ k v S t Q fun σ' ρ' S' a b body => c σ' ρ' S' a b
      (body.mono (fun _ _ q => q) (fun _ _ q => q) (fun ρ k q => ⟨ρ, Le.refl ρ, q⟩) (fun _ _ q => q))), fun ρ1 k2 ⟨ρ0, l, j⟩ => ⟨ρ0, l, done ρ0 k2 j⟩⟩)
end
/-! ### a law -/
def spLaw (K : PySem.W.Frag) : Sp := fun vs H Q _ => ∃ (a : Addr) (ns : List Int), vs = [.ref a] ∧ SqL K H a (ns.map V.int) ∧ ns.length ≤ 63 ∧ ∀ H', Q (.bl true) H'
theorem spLaw.len {K : PySem.W.Frag} {vs : List V} {H : Hp} {Q : VK} {E : XK} (h : spLaw K vs H Q E) : vs.length = 1 := by
  obtain ⟨_, _, rfl, _⟩ := h
  rfl
theorem spLaw.ok {K : PySem.W.Frag} {N : List Str} {vs : List V} {H : Hp} {Q : VK} {E : XK} {rest : TS} (n : Nat) (hN : N.length = n + 2) (h : spLaw K vs H Q E)
    (hb : ∀ (M : List Addr) (p q : Addr) (hp : p ∈ M) (hq : q ∈ M) (Hs : Hp) (tr : Trk M Hs), SW K (deckW M p q Hs tr hp hq) rest (.no :: .raw (.ref p) :: List.replicate n .no) 0 ⟨fun _ _ => False, fun d _ => d = .bool true, fun _ _ => False, fun _ _ => False⟩) :
    tSeq (tAsg (tCall (spDeck K) [] E0 (tCons (tVar 0) tNil)) (gName 1)) rest { nx := fun _ H' => Q .non H', rt := Q } (L2.start N vs) H := by
  obtain ⟨a, ns, rfl, hS, hl, k⟩ := h
  refine ⟨.ref a, start_get (by simp), a, ns, rfl, hS, hl, fun H' p q hp0 hq0 dk sm => ?_⟩
  have tr : Trk [p, q] H' := fun b hb z => by
    rcases List.mem_cons.mp hb with rfl | hb
    · rw [dk.top] at z; cases z
    · have : b = q := by simpa using hb
      subst this
      obtain ⟨cs, hc, _⟩ := dk.cells
      rw [hc] at z; cases z
  have es : L2.start N [.ref a] = some (.ref a) :: none :: List.replicate n none := by
    unfold L2.start
    rw [hN]
    show some (V.ref a) :: List.replicate (n + 1) none = _
    rfl
  show rest _ ((L2.start N [.ref a]).set 1 (some (.ref p))) H'
  rw [es]
  have S : Stt K (deckW [p, q] p q H' tr (by simp) (by simp)) [] H' [] H' (some (.ref a) :: some (.ref p) :: List.replicate n none) (.no :: .raw (.ref p) :: List.replicate n .no) 0 := by
    have get_ : ∀ (i : Nat) (s : Slot), (Slot.no :: Slot.raw (.ref p) :: List.replicate n Slot.no)[i]? = some s → s = .no ∨ (i = 1 ∧ s = .raw (.ref p)) := fun i s hs => by
      match i, hs with
      | 0, hs => left; simpa using hs.symm
      | 1, hs => right; exact ⟨rfl, by simpa using hs.symm⟩
      | i + 2, hs => left; exact List.eq_of_mem_replicate (List.mem_of_getElem? (by simpa using hs))
    refine ⟨Ext.refl _ _, (fun l hl => nomatch hl), (fun l hl => nomatch hl), tr, ⟨⟨0, Nat.le_refl _, dk⟩, fun b _ _ _ => rfl⟩, by simp, fun i s hs => ?_, fun i j s u hs hu h1 _ _ => ?_⟩
    · rcases get_ i s hs with rfl | ⟨rfl, rfl⟩
      · trivial
      · rfl
    · rcases get_ i s hs with rfl | ⟨rfl, rfl⟩ <;> cases h1
  refine hb [p, q] p q (by simp) (by simp) H' tr [] H' [] H' _ _ S (fun _ _ _ _ _ _ z => z.elim) (fun v d k' H2 _ _ t e => ?_) (fun _ _ _ _ _ _ z => z.elim) (fun _ _ _ _ _ _ z => z.elim)
  subst e
  cases t
  exact k H2
abbrev sp_law (K : PySem.W.Frag) : Sp := spLaw K
theorem sp_law_end {K : PySem.W.Frag} {H : Hp} {a : Addr} {ns : List Int} (hl : ns.length ≤ 63) (hS : SqL K H a (ns.map V.int)) : sp_law K [.ref a] H (fun v _ => v = .bl true) E0 := ⟨a, ns, rfl, hS, hl, fun _ => rfl⟩
end U

set_option Elab.async false
set_option linter.all false
set_option maxRecDepth 100000
set_option maxHeartbeats 2000000
namespace U
open PySem PySem.Spec PyProof.Rows L2
/-! ### dicts of one's own -/
def keyD : Key → PyData
  | .inl i => .int i
  | .inr x => .str x
def lookD (kvs : List (Key × PyData)) (k : Key) : Option PyData := (kvs.find? fun kv => decide (kv.1 = k)).map (·.2)
def putD (kvs : List (Key × PyData)) (k : Key) (d : PyData) : List (Key × PyData) := if (kvs.any fun kv => decide (kv.1 = k)) = true then kvs.map (fun kv => if kv.1 = k then (kv.1, d) else kv) else kvs ++ [(k, d)]
theorem lookD_cons (p : Key × PyData) (kvs : List (Key × PyData)) (j : Key) : lookD (p :: kvs) j = if p.1 = j then some p.2 else lookD kvs j := by
  unfold lookD
  by_cases e : p.1 = j <;> simp [e]
theorem lookD_any (kvs : List (Key × PyData)) (k : Key) : (kvs.any fun kv => decide (kv.1 = k)) = (lookD kvs k).isSome := by
  induction kvs with
  | nil => rfl
  | cons p r ih =>
    rw [List.any_cons, lookD_cons, ih]
    by_cases e : p.1 = k <;> simp [e]
theorem lookD_map (k j : Key) (d : PyData) (kvs : List (Key × PyData)) : lookD (kvs.map fun kv => if kv.1 = k then (kv.1, d) else kv) j = (lookD kvs j).map fun x => if j = k then d else x := by
  induction kvs with
  | nil => rfl
  | cons p r ih =>
    rw [List.map_cons, lookD_cons, lookD_cons, ih]
    by_cases e : p.1 = k
    · rw [if_pos e]
      by_cases f : p.1 = j
      · rw [if_pos f, if_pos f, Option.map_some, if_pos (f.symm.trans e)]
      · rw [if_neg f, if_neg f]
    · rw [if_neg e]
      by_cases f : p.1 = j
      · rw [if_pos f, if_pos f, Option.map_some, if_neg (fun z => e (f.trans z))]
      · rw [if_neg f, if_neg f]
theorem lookD_app (k j : Key) (d : PyData) (kvs : List (Key × PyData)) (h : lookD kvs k = none) : lookD (kvs ++ [(k, d)]) j = if j = k then some d else lookD kvs j := by
  induction kvs with
  | nil =>
    rw [List.nil_append, lookD_cons]
    by_cases e : k = j
    · rw [if_pos e, if_pos e.symm]
    · rw [if_neg e, if_neg (fun z => e z.symm)]
  | cons p r ih =>
    rw [lookD_cons] at h
    by_cases e : p.1 = k
    · rw [if_pos e] at h; cases h
    · rw [if_neg e] at h
      rw [List.cons_append, lookD_cons, lookD_cons, ih h]
      by_cases f : p.1 = j
      · rw [if_pos f, if_pos f, if_neg (fun z => e (f.trans z))]
      · rw [if_neg f, if_neg f]
theorem lookD_put (kvs : List (Key × PyData)) (k j : Key) (d : PyData) : lookD (putD kvs k d) j = if j = k then some d else lookD kvs j := by
  unfold putD
  rw [lookD_any]
  cases h : lookD kvs k with
  | none => simp only [Option.isSome_none, Bool.false_eq_true, if_false]; exact lookD_app k j d kvs h
  | some x =>
    simp only [Option.isSome_some, if_true]
    rw [lookD_map]
    by_cases e : j = k
    · subst e; simp [h]
    · cases lookD kvs j <;> simp [e]
theorem length_putD (kvs : List (Key × PyData)) (k : Key) (d : PyData) : (putD kvs k d).length ≤ kvs.length + 1 := by
  unfold putD
  split <;> simp
theorem keys_putD (kvs : List (Key × PyData)) (k : Key) (d : PyData) (h : lookD kvs k = none) : putD kvs k d = kvs ++ [(k, d)] := by
  unfold putD
  rw [lookD_any, h]
  simp
section
variable {K : PySem.W.Frag} {N : List Addr} {H : Hp}
theorem keyD_T {v : V} {key : Key} (t : T K N H v (keyD key)) : v = kV key := by
  cases key with
  | inl i => cases t; rfl
  | inr x => cases t; rfl
theorem T_keyD (key : Key) : T K N H (kV key) (keyD key) := by
  cases key with
  | inl i => exact .int i
  | inr x => exact .str x
theorem KD.len {vs : List (Key × V)} {ds : List (Key × PyData)} (h : KD K N H vs ds) : vs.length = ds.length := by
  induction h with
  | nil => rfl
  | cons _ _ ih => rw [List.length_cons, List.length_cons, ih]
theorem KD.look {vs : List (Key × V)} {ds : List (Key × PyData)} (h : KD K N H vs ds) (key : Key) : (valV vs key = none ∧ lookD ds key = none) ∨ ∃ v d, valV vs key = some v ∧ lookD ds key = some d ∧ T K N H v d := by
  induction h with
  | nil => exact .inl ⟨rfl, rfl⟩
  | @cons k v d vs ds t h ih =>
    unfold valV lookD at ih ⊢
    by_cases e : k = key
    · right
      refine ⟨v, d, ?_, ?_, t⟩ <;> simp [e]
    · simp only [List.find?_cons, decide_eq_false e]
      exact ih
theorem KD.at {vs : List (Key × V)} {ds : List (Key × PyData)} (h : KD K N H vs ds) : ∀ (i : Nat) (key : Key) (v : V), vs[i]? = some (key, v) → ∃ d, ds[i]? = some (key, d) := by
  induction h with
  | nil => intro i key v e; simp at e
  | @cons k v d vs ds t h ih =>
    intro i key u e
    cases i with
    | zero =>
      simp only [List.getElem?_cons_zero, Option.some.injEq, Prod.mk.injEq] at e
      exact ⟨d, by simp [e.1]⟩
    | succ i => simpa using ih i key u (by simpa using e)
end
section
variable {K : PySem.W.Frag} {N : List Addr} {H : Hp}
theorem KD.anyk {vs : List (Key × V)} {ds : List (Key × PyData)} (h : KD K N H vs ds) (key : Key) : (vs.any fun kv => decide (kv.1 = key)) = ds.any fun kv => decide (kv.1 = key) := by
  induction h with
  | nil => rfl
  | cons _ _ ih => rw [List.any_cons, List.any_cons, ih]
theorem KD.put {vs : List (Key × V)} {ds : List (Key × PyData)} (h : KD K N H vs ds) (key : Key) {v : V} {d : PyData} (t : T K N H v d) : KD K N H (putK vs key v) (putD ds key d) := by
  unfold putK putD
  rw [h.anyk]
  split
  · rename_i hh; clear hh
    induction h with
    | nil => exact .nil
    | @cons k x y vs ds tx h ih =>
      rw [List.map_cons, List.map_cons]
      by_cases e : k = key
      · simp only [e, if_true]; exact .cons t ih
      · simp only [e, if_false]; exact .cons tx ih
  · rename_i hh; clear hh
    induction h with
    | nil => exact .cons t .nil
    | cons tx h ih => exact .cons tx ih
end
section
variable {K : PySem.W.Frag} {γ : Type} {W : Wd γ} {ρ : Rho} {k : γ} {Φ : PyData → γ → Prop} {P : Ps γ} {ty tv te : TE} {i : Nat} {kvs : List (Key × PyData)}
/-- the dict of a slot, locked or not -/
def DSlot (kvs : List (Key × PyData)) (s : Slot) : Prop := s = .ownD kvs ∨ s = .lck kvs
theorem Stt.dict {L0 L : List Addr} {H0 H : Hp} {σ : L2.St} {s : Slot} (S : Stt K W L0 H0 L H σ ρ k) (h : ρ[i]? = some s) (hd : DSlot kvs s) : ∃ l vs, σ[i]? = some (some (.ref l)) ∧ l ∈ L ∧ Rd H l (.dK vs) ∧ KD K (L ++ W.M) H vs kvs := by
  have q := S.slots i s h
  rcases hd with rfl | rfl
  · obtain ⟨l, vs, h1, h2, h3, h4⟩ := q
    exact ⟨l, vs, h1, h2, .inl h3, h4⟩
  · obtain ⟨l, vs, od, h1, h2, h3, h4⟩ := q
    exact ⟨l, vs, h1, h2, .inr ⟨od, h3⟩, h4⟩
theorem ref_eq {o : Option (Option V)} {a b : Addr} (h1 : o = some (some (.ref a))) (h2 : o = some (some (.ref b))) : a = b := by
  rw [h1] at h2
  injection h2 with h2; injection h2 with h2; injection h2
/-- d[k], there -/
theorem ev_dget {s : Slot} (h0 : ρ[i]? = some s) (hd : DSlot kvs s) (h : EvW K W ty ρ k fun x k1 => ∃ key d, x = keyD key ∧ lookD kvs key = some d ∧ Φ d k1) : EvW K W (tDGet (tVar i) ty) ρ k Φ := fun L0 H0 L H σ S Q c => by
  obtain ⟨l, vs, e1, e2, e3, e4⟩ := S.dict h0 hd
  refine ⟨_, e1, h L0 H0 L H σ S _ fun v x k1 H1 S1 e t g => ?_⟩
  obtain ⟨key, d, rfl, hl, q⟩ := g
  obtain ⟨l', vs', f1, f2, f3, f4⟩ := S1.dict h0 hd
  obtain rfl := ref_eq e1 f1
  rcases f4.look key with ⟨_, z⟩ | ⟨u, d', h1, h2, h3⟩
  · rw [z] at hl; cases hl
  · rw [h2] at hl
    cases hl
    exact ⟨l, u, rfl, .inl ⟨vs', key, f3, keyD_T t, h1.symm⟩, c u d k1 H1 S1 e h3 q⟩
/-- d.get(k) -/
theorem ev_dget1 {s : Slot} (h0 : ρ[i]? = some s) (hd : DSlot kvs s) (h : EvW K W ty ρ k fun x k1 => ∃ key, x = keyD key ∧ Φ ((lookD kvs key).getD .none) k1) : EvW K W (tDGet1 (tVar i) ty) ρ k Φ := fun L0 H0 L H σ S Q c => by
  obtain ⟨l, vs, e1, e2, e3, e4⟩ := S.dict h0 hd
  refine ⟨_, e1, l, rfl, .inl ⟨vs, e3⟩, h L0 H0 L H σ S _ fun v x k1 H1 S1 e t g => ?_⟩
  obtain ⟨key, rfl, q⟩ := g
  obtain ⟨l', vs', f1, f2, f3, f4⟩ := S1.dict h0 hd
  obtain rfl := ref_eq e1 f1
  rcases f4.look key with ⟨h1, z⟩ | ⟨u, d', h1, h2, h3⟩
  · refine ⟨none, .inl ⟨vs', key, f3, keyD_T t, h1.symm⟩, c .non .none k1 H1 S1 e .non ?_⟩
    rw [z] at q
    exact q
  · refine ⟨some u, .inl ⟨vs', key, f3, keyD_T t, h1.symm⟩, c u d' k1 H1 S1 e h3 ?_⟩
    rw [h2] at q
    exact q
/-- k in d -/
theorem ev_din {s : Slot} (h0 : ρ[i]? = some s) (hd : DSlot kvs s) (h : EvW K W ty ρ k fun x k1 => ∃ key, x = keyD key ∧ Φ (.bool (lookD kvs key).isSome) k1) : EvW K W (tDIn ty (tVar i)) ρ k Φ := fun L0 H0 L H σ S Q c =>
  h L0 H0 L H σ S _ fun v x k1 H1 S1 e t g => by
    obtain ⟨key, rfl, q⟩ := g
    obtain ⟨l', vs', f1, f2, f3, f4⟩ := S1.dict h0 hd
    rcases f4.look key with ⟨h1, z⟩ | ⟨u, d', h1, h2, h3⟩
    · refine ⟨_, f1, l', none, rfl, .inl ⟨vs', key, f3, keyD_T t, h1.symm⟩, c _ _ k1 H1 S1 e (.bl _) ?_⟩
      rw [z] at q
      exact q
    · refine ⟨_, f1, l', some u, rfl, .inl ⟨vs', key, f3, keyD_T t, h1.symm⟩, c _ _ k1 H1 S1 e (.bl _) ?_⟩
      rw [h2] at q
      exact q
theorem ev_dnin {s : Slot} (h0 : ρ[i]? = some s) (hd : DSlot kvs s) (h : EvW K W ty ρ k fun x k1 => ∃ key, x = keyD key ∧ Φ (.bool (!(lookD kvs key).isSome)) k1) : EvW K W (tDNotIn ty (tVar i)) ρ k Φ := fun L0 H0 L H σ S Q c =>
  h L0 H0 L H σ S _ fun v x k1 H1 S1 e t g => by
    obtain ⟨key, rfl, q⟩ := g
    obtain ⟨l', vs', f1, f2, f3, f4⟩ := S1.dict h0 hd
    rcases f4.look key with ⟨h1, z⟩ | ⟨u, d', h1, h2, h3⟩
    · refine ⟨_, f1, l', none, rfl, .inl ⟨vs', key, f3, keyD_T t, h1.symm⟩, c _ _ k1 H1 S1 e (.bl _) ?_⟩
      rw [z] at q
      exact q
    · refine ⟨_, f1, l', some u, rfl, .inl ⟨vs', key, f3, keyD_T t, h1.symm⟩, c _ _ k1 H1 S1 e (.bl _) ?_⟩
      rw [h2] at q
      exact q
/-- d[k] = v -/
theorem sw_dput (h0 : ρ[i]? = some (.ownD kvs)) (h : EvW K W tv ρ k fun d k1 => EvW K W ty ρ k1 fun x k2 => ∃ key, x = keyD key ∧ kvs.length < 100000 ∧ P.nx (ρ.set i (.ownD (putD kvs key d))) k2) : SW K W (sDPut (tVar i) ty tv) ρ k P := fun L0 H0 L H σ D S nx _ _ _ =>
  h L0 H0 L H σ S _ fun v d k1 H1 S1 ee t g => by
    obtain ⟨l, vs, e1, e2, e3, e4⟩ := S1.slots i _ h0
    refine ⟨_, e1, g L0 H0 L H1 σ S1 _ fun u x k2 H2 S2 ee2 t2 g2 => ?_⟩
    obtain ⟨key, rfl, hl, q⟩ := g2
    obtain ⟨l', vs', f1, f2, f3, f4⟩ := S2.slots i _ h0
    obtain rfl := ref_eq e1 f1
    refine ⟨l, _, rfl, .inl ⟨vs', key, f3, keyD_T t2, Nat.lt_of_le_of_lt (show vs'.length ≤ 99999 by rw [f4.len]; omega) (by decide), rfl⟩, ?_⟩
    exact nx _ _ _ _ _ (S2.put (s1 := .ownD (putD kvs key d)) h0 rfl rfl f1 f2 ⟨l, _, rfl, f2, upd_same, (f4.put key (t.ext (eM ee2))).map fun _ _ t => t.ext (Ext.put (List.mem_append_left _ f2))⟩) q
/-- x = {k: v} -/
theorem sw_disp1 {tk : TE} {key : Key} (htk : tk = tC (kV key)) (h : EvW K W tv ρ k fun d k1 => P.nx (ρ.set i (.ownD [(key, d)])) k1) : SW K W (tAsg (tDisp [(tk, tv)]) (gName i)) ρ k P := fun L0 H0 L H σ D S nx _ _ _ => by
  intro p hp
  subst htk
  obtain ⟨S1, nat⟩ := S.hide (o := .dK []) hp
  refine h L0 H0 (p :: L) _ σ S1 _ fun v d k1 H1 S2 e t g => ?_
  have npM : p ∉ W.M := fun z => S.nin hp (List.mem_append_right _ z)
  have hp1 : H1 p = some (.dK []) := e p _ npM upd_same
  refine ⟨hp1, [(key, v)], rfl, (show 1 ≤ 15 by decide), ?_⟩
  have S3 := S2.putHid (o := .dK [(key, v)]) nat
  have tv' : T K (p :: L ++ W.M) (upd H1 p (.dK [(key, v)])) v d := t.ext (Ext.put (by simp))
  have eqs : (mergeK [] [(key, v)]) = [(key, v)] := rfl
  rw [eqs]
  have il : ∀ {s : Slot}, (ρ.set i (.ownD [(key, d)]))[i]? = some s → s = .ownD [(key, d)] ∧ i < σ.length := fun {s} hs => by
    rw [List.getElem?_set_self'] at hs
    cases q : ρ[i]? with
    | none => rw [q] at hs; cases hs
    | some u =>
      rw [q] at hs
      have hs' : Slot.ownD [(key, d)] = s := by simpa using hs
      exact ⟨hs'.symm, by rw [← S.len]; exact (List.getElem?_eq_some_iff.mp q).1⟩
  refine nx _ _ _ _ _ ⟨S3.base, S3.fresh, S3.offM, S3.trk, S3.wd, by rw [List.length_set, List.length_set]; exact S.len, fun j s hs => ?_, fun j m s u hs hu h1 h2 h3 => ?_⟩ g
  · by_cases ej : j = i
    · subst ej
      obtain ⟨rfl, hl⟩ := il hs
      have : (σ.set j (some (V.ref p)))[j]? = some (some (.ref p)) := by simp [hl]
      rw [this]
      exact ⟨p, _, rfl, by simp, upd_same, .cons tv' .nil⟩
    · rw [List.getElem?_set_ne (fun z => ej z.symm)] at hs ⊢
      exact S3.slots j s hs
  · by_cases ej : j = i
    · by_cases em : m = i
      · rw [ej, em]
      · exfalso
        subst ej
        obtain ⟨_, hl⟩ := il hs
        rw [List.getElem?_set_ne (fun z => em z.symm)] at hu h3
        rw [show (σ.set j (some (V.ref p)))[j]? = some (some (.ref p)) by simp [hl]] at h3
        exact nat m u hu h2 h3.symm
    · by_cases em : m = i
      · exfalso
        subst em
        obtain ⟨_, hl⟩ := il hu
        rw [List.getElem?_set_ne (fun z => ej z.symm)] at hs h3
        rw [show (σ.set m (some (V.ref p)))[m]? = some (some (.ref p)) by simp [hl]] at h3
        exact nat j s hs h1 h3
      · rw [List.getElem?_set_ne (fun z => ej z.symm)] at hs h3
        rw [List.getElem?_set_ne (fun z => em z.symm)] at hu h3
        exact S3.dis j m s u hs hu h1 h2 h3
/-- a comprehension over the keys: the dict is locked meanwhile -/
theorem ev_lock (h0 : ρ[i]? = some (.ownD kvs)) (h : EvW K W te (ρ.set i (.lck kvs)) k Φ) : EvW K W (tLockE te) ρ k Φ := fun L0 H0 L H σ S Q c => by
  obtain ⟨l, vs, e1, e2, e3, e4⟩ := S.slots i _ h0
  refine ⟨l, .dK vs, e3, trivial, fun od => ?_⟩
  have nM := S.offM l e2
  have S1 : Stt K W L0 H0 L (upd H l (.frz od (.dK vs))) σ (ρ.set i (.lck kvs)) k := S.put (s1 := .lck kvs) h0 rfl rfl e1 e2 ⟨l, vs, od, rfl, e2, upd_same, e4.map fun _ _ t => t.ext (Ext.put (List.mem_append_left _ e2))⟩
  refine h L0 H0 L _ σ S1 _ fun v d k1 H1 S2 e t q => ?_
  have h1 : H1 l = some (.frz od (.dK vs)) := e l _ nM upd_same
  refine ⟨h1, ?_⟩
  have hi1 : (ρ.set i (.lck kvs))[i]? = some (.lck kvs) := by simp [(List.getElem?_eq_some_iff.mp h0).1]
  have f4 : KD K (L ++ W.M) H1 vs kvs := e4.map fun _ _ t => (t.ext (Ext.put (List.mem_append_left _ e2))).ext (eM e)
  have S3 := S2.put (o := .dK vs) (s1 := .ownD kvs) hi1 rfl rfl e1 e2 ⟨l, vs, rfl, e2, upd_same, f4.map fun _ _ t => t.ext (Ext.put (List.mem_append_left _ e2))⟩
  have back : (ρ.set i (.lck kvs)).set i (.ownD kvs) = ρ := by
    rw [List.set_set]
    apply List.ext_getElem?
    intro j
    by_cases ej : i = j
    · subst ej
      rw [List.getElem?_set_self', h0]
      rfl
    · rw [List.getElem?_set_ne ej]
  rw [back] at S3
  refine c v d k1 _ S3 (fun b o nb hb => ?_) (t.ext (Ext.put (List.mem_append_left _ e2))) q
  by_cases eb : b = l
  · subst eb
    rw [upd_same, ← hb, e3]
  · rw [upd_ne eb]
    refine e b o nb ?_
    rw [upd_ne eb]
    exact hb
/-- x = [.. for k in d ..] -/
theorem sw_lockA {j : Nat} (hij : i ≠ j) (h0 : ρ[i]? = some (.ownD kvs)) (h : EvW K W te (ρ.set i (.lck kvs)) k fun d k1 => P.nx (ρ.set j (.dat d)) k1) : SW K W (tLock (tAsg te (gName j))) ρ k P := fun L0 H0 L H σ D S nx _ _ _ => by
  obtain ⟨l, vs, e1, e2, e3, e4⟩ := S.slots i _ h0
  refine ⟨l, .dK vs, e3, trivial, fun od => ?_⟩
  have nM := S.offM l e2
  have S1 : Stt K W L0 H0 L (upd H l (.frz od (.dK vs))) σ (ρ.set i (.lck kvs)) k := S.put (s1 := .lck kvs) h0 rfl rfl e1 e2 ⟨l, vs, od, rfl, e2, upd_same, e4.map fun _ _ t => t.ext (Ext.put (List.mem_append_left _ e2))⟩
  refine h L0 H0 L _ σ S1 _ fun v d k1 H1 S2 e t q => ?_
  have h1 : H1 l = some (.frz od (.dK vs)) := e l _ nM upd_same
  refine ⟨h1, ?_⟩
  have hi1 : (ρ.set i (.lck kvs))[i]? = some (.lck kvs) := by simp [(List.getElem?_eq_some_iff.mp h0).1]
  have f4 : KD K (L ++ W.M) H1 vs kvs := e4.map fun _ _ t => (t.ext (Ext.put (List.mem_append_left _ e2))).ext (eM e)
  have S3 := S2.put (o := .dK vs) (s1 := .ownD kvs) hi1 rfl rfl e1 e2 ⟨l, vs, rfl, e2, upd_same, f4.map fun _ _ t => t.ext (Ext.put (List.mem_append_left _ e2))⟩
  have back : (ρ.set i (.lck kvs)).set i (.ownD kvs) = ρ := by
    rw [List.set_set]
    apply List.ext_getElem?
    intro j
    by_cases ej : i = j
    · subst ej
      rw [List.getElem?_set_self', h0]
      rfl
    · rw [List.getElem?_set_ne ej]
  rw [back] at S3
  exact nx _ _ _ _ _ (S3.set j (t.ext (Ext.put (List.mem_append_left _ e2)))) q
theorem ex_keys {Ω : Nat → (Nat → PyData) → γ → Prop} (h0 : ρ[i]? = some (.lck kvs)) (q : Ω kvs.length (fun j => (kvs[j]?.map fun p => keyD p.1).getD .none) k) : EvX K W (iKeys (tVar i)) ρ k Ω := fun L0 H0 L H σ S R c => by
  obtain ⟨l, vs, od, e1, e2, e3, e4⟩ := S.slots i _ h0
  have nM := S.offM l e2
  have hl := e4.len
  refine ⟨_, e1, l, od, rfl, .inl ⟨vs, e3, c _ _ _ k H S (Ext.refl _ _) ?_ q⟩⟩
  refine ⟨fun i' L' H' hi _ e => ⟨e l _ nM e3, by rw [hl]; exact hi⟩, fun L' H' _ e => ⟨e l _ nM e3, Nat.le_of_eq hl⟩, fun i' L' H' x H'' hi _ e y => ?_⟩
  obtain ⟨rfl, key, v, h1, rfl⟩ := y
  obtain ⟨d, h2⟩ := e4.at i' key v h1
  refine ⟨Same.refl _, ?_⟩
  show T K _ _ _ ((kvs[i']?.map fun p => keyD p.1).getD .none)
  rw [h2]
  exact T_keyD key
theorem rc_min {ds : List PyData} (ns : List Int) (h : ds = ns.map .int) (hl : 0 < ns.length) (q : ∀ m, m ∈ ns → (∀ y, y ∈ ns → m ≤ y) → Φ (.int m) k) : RCD K W (rMin K) [.list ds] ρ k Φ := fun L0 H0 L H σ vs S t Q c => by
  subst h
  obtain ⟨v, rfl, t1⟩ := t.one_
  cases t1 with
  | lst n ha t2 =>
    have e := t2.ints_
    subst e
    exact ⟨_, ns, rfl, SqL.of ha, hl, fun m h1 h2 => c _ _ k H S (Ext.refl _ _) (.int m) (q m h1 h2)⟩
theorem rc_max {ds : List PyData} (ns : List Int) (h : ds = ns.map .int) (hl : 0 < ns.length) (q : ∀ m, m ∈ ns → (∀ y, y ∈ ns → y ≤ m) → Φ (.int m) k) : RCD K W (rMax K) [.list ds] ρ k Φ := fun L0 H0 L H σ vs S t Q c => by
  subst h
  obtain ⟨v, rfl, t1⟩ := t.one_
  cases t1 with
  | lst n ha t2 =>
    have e := t2.ints_
    subst e
    exact ⟨_, ns, rfl, SqL.of ha, hl, fun m h1 h2 => c _ _ k H S (Ext.refl _ _) (.int m) (q m h1 h2)⟩
theorem ev_joinT (h : EvW K W te ρ k fun a k1 => ∃ s : Str, a = .str s ∧ EvW K W ty ρ k1 fun d k2 => ∃ ys : List Str, d = .tuple (ys.map .str) ∧ (ys.map (·.length)).sum + ys.length * s.length ≤ 16777216 ∧ Φ (.str (Txt.join s ys)) k2) :
    EvW K W (tM1 (rJoin K) te ty) ρ k Φ := fun L0 H0 L H σ S Q c =>
  h L0 H0 L H σ S _ fun v a k1 H1 S1 e1 t1 g => by
    obtain ⟨s, rfl, g⟩ := g
    cases t1
    refine ⟨⟨s, rfl⟩, g L0 H0 L H1 σ S1 _ fun u d k2 H2 S2 e2 t2 g2 => ?_⟩
    obtain ⟨ys, rfl, hz, q⟩ := g2
    cases t2 with
    | tup n ha t =>
      have e := t.strs_
      subst e
      exact ⟨s, _, ys, rfl, rfl, .inr (SqT.of ha), hz, c _ _ k2 H2 S2 (e1.trans e2) (.str _) q⟩
/-- a text among texts -/
theorem inV_str (z : Str) : ∀ l : List Str, inV (.str z) (l.map V.str) = decide (z ∈ l)
  | [] => by simp [inV]
  | x :: xs => by
    have ih := inV_str z xs
    unfold inV at ih ⊢
    rw [List.map_cons, List.any_cons, ih]
    show ((x == z) || _) = _
    by_cases e : z = x
    · subst e; simp
    · have e2 : ¬ x = z := fun q => e q.symm
      simp [e, e2]
theorem flat_strs : ∀ l : List Str, (l.map V.str).all flatV = true
  | [] => rfl
  | _ :: xs => by rw [List.map_cons, List.all_cons, flat_strs xs]; rfl
theorem rd_inStrsT {z : Str} {l : List Str} (q : Φ (.bool (decide (z ∈ l))) k) : RD K W (rIn K false) (.str z) (.tuple (l.map .str)) ρ k Φ := rd_ q fun N H vx vy tx ty Q c => by
  cases tx
  cases ty with
  | tup n ha t =>
    have e := t.strs_
    subst e
    exact ⟨_, _, rfl, .inr (SqT.of ha), rfl, flat_strs l, by simp only [Bool.false_eq_true, if_false]; rw [inV_str]; exact c _ (.bl _)⟩
/-- == [] -/
theorem rd_eqNilL {ds : List PyData} (q : Φ (.bool ds.isEmpty) k) : RD K W (rNil K false) (.list ds) (.list []) ρ k Φ := rd_ q fun N H vx vy tx ty Q c => by
  cases tx with
  | lst n ha t =>
    cases ty with
    | lst n2 hb t2 =>
      cases t2
      exact ⟨_, _, _, rfl, rfl, .inl ⟨SqL.of ha, SqL.of hb⟩, by simp only [Bool.false_eq_true, if_false]; rw [← t.emp]; exact c _ (.bl _)⟩
theorem rd_neNilL {ds : List PyData} (q : Φ (.bool (!ds.isEmpty)) k) : RD K W (rNil K true) (.list ds) (.list []) ρ k Φ := rd_ q fun N H vx vy tx ty Q c => by
  cases tx with
  | lst n ha t =>
    cases ty with
    | lst n2 hb t2 =>
      cases t2
      exact ⟨_, _, _, rfl, rfl, .inl ⟨SqL.of ha, SqL.of hb⟩, by simp only [if_true]; rw [← t.emp]; exact c _ (.bl _)⟩
theorem rd_eqNilT {ds : List PyData} (q : Φ (.bool ds.isEmpty) k) : RD K W (rNil K false) (.tuple ds) (.tuple []) ρ k Φ := rd_ q fun N H vx vy tx ty Q c => by
  cases tx with
  | tup n ha t =>
    cases ty with
    | tup n2 hb t2 =>
      cases t2
      exact ⟨_, _, _, rfl, rfl, .inr ⟨SqT.of ha, SqT.of hb⟩, by simp only [Bool.false_eq_true, if_false]; rw [← t.emp]; exact c _ (.bl _)⟩
theorem rd_neNilT {ds : List PyData} (q : Φ (.bool (!ds.isEmpty)) k) : RD K W (rNil K true) (.tuple ds) (.tuple []) ρ k Φ := rd_ q fun N H vx vy tx ty Q c => by
  cases tx with
  | tup n ha t =>
    cases ty with
    | tup n2 hb t2 =>
      cases t2
      exact ⟨_, _, _, rfl, rfl, .inr ⟨SqT.of ha, SqT.of hb⟩, by simp only [if_true]; rw [← t.emp]; exact c _ (.bl _)⟩
end
end U

set_option Elab.async false
set_option linter.all false
set_option maxRecDepth 100000
set_option maxHeartbeats 2000000
namespace U
open PySem PySem.Spec PyProof.Rows L2 NdefX LamX

/-! ### things that are called, and cells that are lent to them -/
/-- what a call of the thing at f promises -/
structure CloOk (P : Program) (w : World) (K : PySem.W.Frag) (mg : Str → Option Value) (base : Heap) (k : Nat) (f : Addr) (sp : Sp) : Prop where
  run : ∀ (A : Around) (outer : List Env) (s : Shared) (H : Hp) (us : List Value) (vs : List V) (Q : VK) (E : XK), Room k A → Env0 P w K mg base A outer s H → Vals vs us → sp vs H Q E →
    codeAny (model P w) A (.call (.ref f) ⟨us, []⟩) (CR CX0 outer P w H s Q E) s
theorem CloOk.more {P : Program} {w : World} {K : PySem.W.Frag} {mg : Str → Option Value} {base : Heap} {j k : Nat} {f : Addr} {sp : Sp} (C : CloOk P w K mg base j f sp) (h : j ≤ k) : CloOk P w K mg base k f sp :=
  ⟨fun A o s H us vs Q E hr => C.run A o s H us vs Q E (hr.mono h)⟩
theorem CloOk.imp {P : Program} {w : World} {K : PySem.W.Frag} {mg : Str → Option Value} {base : Heap} {k : Nat} {f : Addr} {sp sp' : Sp} (C : CloOk P w K mg base k f sp) (h : ∀ vs H Q E, sp' vs H Q E → sp vs H Q E) : CloOk P w K mg base k f sp' :=
  ⟨fun A o s H us vs Q E hr e r q => C.run A o s H us vs Q E hr e r (h _ _ _ _ q)⟩
def IsFn (H : Hp) (f : Addr) : Prop := ∃ F, H f = some (FnO f F)

def offL (cs : List Addr) (H : Hp) : Hp := fun b => if b ∈ cs then none else H b
def backL (cs : List Addr) (H H' : Hp) : Hp := fun b => if b ∈ cs then H b else H' b
theorem offL_in {cs : List Addr} {H : Hp} {b : Addr} (h : b ∈ cs) : offL cs H b = none := if_pos h
theorem offL_out {cs : List Addr} {H : Hp} {b : Addr} (h : b ∉ cs) : offL cs H b = H b := if_neg h
theorem backL_in {cs : List Addr} {H H' : Hp} {b : Addr} (h : b ∈ cs) : backL cs H H' b = H b := if_pos h
theorem backL_out {cs : List Addr} {H H' : Hp} {b : Addr} (h : b ∉ cs) : backL cs H H' b = H' b := if_neg h
theorem offL_none {cs : List Addr} {H : Hp} {b : Addr} (h : H b = none) : offL cs H b = none := by
  by_cases hb : b ∈ cs
  · exact offL_in hb
  · rw [offL_out hb]; exact h
theorem offL_some {cs : List Addr} {H : Hp} {b : Addr} {o : HO} (h : offL cs H b = some o) : b ∉ cs ∧ H b = some o := by
  by_cases hb : b ∈ cs
  · rw [offL_in hb] at h; cases h
  · rw [offL_out hb] at h; exact ⟨hb, h⟩
/-- the cells at cs stand in H, known and not written -/
def LentC (cs : List Addr) (H : Hp) : Prop := ∀ c ∈ cs, ∃ o v, H c = some (.frz o (.own 0)) ∧ o.data = .cell v
theorem LentC.not {cs : List Addr} {H : Hp} (l : LentC cs H) {b : Addr} {u : HO} (h : H b = some u) (hu : ∀ o, u ≠ .frz o (.own 0)) : b ∉ cs := fun hb => by
  obtain ⟨o, v, e, _⟩ := l b hb
  rw [h] at e
  exact hu o (Option.some.inj e)
theorem LentC.ne {cs : List Addr} {H : Hp} (l : LentC cs H) {b : Addr} (h : H b = none) : b ∉ cs := fun hb => by
  obtain ⟨o, v, e, _⟩ := l b hb
  rw [h] at e
  cases e
theorem hok_off {P : Program} {w : World} {cs : List Addr} {H : Hp} {h : Heap} (hok : HOk P w H h) (l : LentC cs H) : HOk P w (offL cs H) h := fun b u q => by
  obtain ⟨nb, q'⟩ := offL_some q
  exact (hok b u q').stay (fun _ _ _ r => r) (fun c r => by rw [offL_out (l.not r fun o z => by cases z)]; exact r) fun c xs r => by rw [offL_out (l.not r fun o z => by cases z)]; exact r
/-- .. for the function F, fr its captured names, ws what they hold -/
structure Lent (cl : List (Str × Addr)) (fr : List Str) (ws : List (Option V)) (cs : List Addr) (H : Hp) : Prop where
  len : ws.length = fr.length
  mem : ∀ y c, cl.lookup y = some c → c ∈ cs
  all : LentC cs H
  inj : ∀ x y c, cl.lookup x = some c → cl.lookup y = some c → x = y
  has : ∀ (i : Nat) (y : Str), fr[i]? = some y → ∃ c, cl.lookup y = some c ∧ ∀ v, ws[i]? = some (some v) → ∃ u o, L2.RelV v u ∧ H c = some (.frz o (.own 0)) ∧ o.data = .cell (some u)
theorem Lent.of {cl : List (Str × Addr)} {fr : List Str} {ws : List (Option V)} {cs : List Addr} {H H' : Hp} (l : Lent cl fr ws cs H) (e : ∀ c ∈ cs, H' c = H c) : Lent cl fr ws cs H' :=
  ⟨l.len, l.mem, fun c hc => by rw [e c hc]; exact l.all c hc, l.inj, fun i y h => by
    obtain ⟨c, h1, h2⟩ := l.has i y h
    exact ⟨c, h1, fun v hv => by rw [e c (l.mem _ _ h1)]; exact h2 v hv⟩⟩
theorem Lent.cells {P : Program} {w : World} {cl : List (Str × Addr)} {fr : List Str} {ws : List (Option V)} {cs : List Addr} {H : Hp} {h : Heap} (l : Lent cl fr ws cs H) (hok : HOk P w H h) : CellsAt cl fr ws h (offL cs H) := by
  refine ⟨l.len, fun y c e => ⟨offL_in (l.mem y c e), ?_⟩, l.inj, fun i y e => ?_⟩
  · obtain ⟨o, v, e1, e2⟩ := l.all c (l.mem y c e)
    exact ⟨v, o, (hok c _ e1).1, e2⟩
  · obtain ⟨c, h1, h2⟩ := l.has i y e
    refine ⟨c, h1, fun v hv => ?_⟩
    obtain ⟨u, o, r, e1, e2⟩ := h2 v hv
    exact ⟨u, r, o, (hok c _ e1).1, e2⟩
/-- an inner def's promise, told where its cells are lent -/
def lentSp (f : Addr) (F : NF) (fr : List Str) (spn : List (Option V) → Sp) : Sp := fun vs H Q E => H f = some (FnO f F) ∧ H F.c = some (CodeO F.c F.qual) ∧ ∃ cs ws, Lent F.cl fr ws cs H ∧ spn ws vs (offL cs H) (fun v H' => (∀ c ∈ cs, H' c = none) → Q v (backL cs H H')) E
section
variable {P : Program} {w : World} {K : PySem.W.Frag} {mg : Str → Option Value} {base : Heap} {k : Nat} {f : Addr} {F : NF} {ps fr : List Str} {spn : List (Option V) → Sp}
theorem clo_of (Fn : NOk P w K mg base CX0 k f F ps fr spn) : CloOk P w K mg base k f (lentSp f F fr spn) := by
  refine ⟨fun A outer s H us vs Q E hr e0 r q => ?_⟩
  obtain ⟨hf, hco, cs, ws, l, q⟩ := q
  have nfr : ∀ b ∈ frs outer, b ∉ cs := fun b hb => l.all.ne (e0.frf b hb)
  have e1 : Env0 P w K mg base A outer s (offL cs H) := ⟨e0.frames, e0.mod, fun b o e => ⟨(e0.bs b o e).1, offL_none (e0.bs b o e).2⟩, e0.bsz, e0.funs, fun b hb => offL_none (e0.frf b hb), hok_off e0.hok l.all, e0.bare⟩
  have hf1 : offL cs H f = some (FnO f F) := by rw [offL_out (l.all.not hf fun o z => by unfold FnO at z; cases z)]; exact hf
  have hc1 : offL cs H F.c = some (CodeO F.c F.qual) := by rw [offL_out (l.all.not hco fun o z => by unfold CodeO at z; cases z)]; exact hco
  refine codeAny_mono (Fn.run A outer s (offL cs H) us vs ws _ E hr e1 hf1 hc1 (l.cells e0.hok) r q) fun res s' h => ?_
  match res, h with
  | .error _, h => exact False.elim h
  | .ok .next, h => exact False.elim h
  | .ok .brk, h => exact False.elim h
  | .ok .cont, h => exact False.elim h
  | .ok (.ret u), h =>
    obtain ⟨v, H', os, bare, un, hok, rv, q⟩ := h
    have cell : ∀ c ∈ cs, ∃ o v, H c = some (.frz o (.own 0)) ∧ o.data = .cell v ∧ s.heap.get? c = some o ∧ s'.heap.get? c = some o ∧ H' c = none := fun c hc => by
      obtain ⟨o, v, e1, e2⟩ := l.all c hc
      have g := (e0.hok c _ e1).1
      exact ⟨o, v, e1, e2, g, un.keep c o g (offL_in hc) (fun z => nfr c z hc) (by simp), un.free c o g (offL_in hc) (by simp)⟩
    refine ⟨v, backL cs H H', os, bare, ⟨fun b o e n hb hx => un.keep b o e (offL_none n) hb hx, fun b o e n hb hx => un.slot b o e (offL_none n) hb hx, fun b o e n hx => ?_, fun b o e hx => un.there b o e hx, fun b xs e => ?_, fun b o u e => ?_, fun b ps e => ?_⟩, fun b u e => ?_, rv, q fun c hc => ?_⟩
    · rw [backL_out (l.all.ne n)]
      exact un.free b o e (offL_none n) hx
    · have nb := l.all.not e fun o z => by cases z
      rw [backL_out nb]
      exact un.tups b xs (by rw [offL_out nb]; exact e)
    · by_cases hb : b ∈ cs
      · rw [backL_in hb]; exact e
      · rw [backL_out hb]
        exact un.frzs b o u (by rw [offL_out hb]; exact e)
    · have nb := l.all.not e fun o z => by cases z
      rw [backL_out nb]
      exact un.tbls b ps (by rw [offL_out nb]; exact e)
    · by_cases hb : b ∈ cs
      · rw [backL_in hb] at e
        obtain ⟨o, v, e1, e2, g1, g2, _⟩ := cell b hb
        rw [e1] at e
        cases e
        exact ⟨g2, o, g2⟩
      · rw [backL_out hb] at e
        refine (hok b u e).stay (fun _ _ _ r => r) (fun c r => ?_) fun c xs r => ?_
        · have nc : c ∉ cs := fun z => by
            obtain ⟨_, _, _, _, _, _, n⟩ := cell c z
            rw [n] at r; cases r
          rw [backL_out nc]; exact r
        · have nc : c ∉ cs := fun z => by
            obtain ⟨_, _, _, _, _, _, n⟩ := cell c z
            rw [n] at r; cases r
          rw [backL_out nc]; exact r
    · obtain ⟨_, _, _, _, _, _, n⟩ := cell c hc
      exact n
end

/-! ### f(..), f a parameter that holds such a thing -/
def tCallC (f : Addr) (i : Nat) (sp : Sp) (t : L2.TA) : TE := fun σ H Q => σ[i]? = some (some (.ref f)) ∧ IsFn H f ∧ t σ H fun vs H1 => IsFn H1 f ∧ sp vs H1 Q E0
section
variable {X : Cx} {i j k : Nat} {x : Str} {sp : Sp} {t : L2.TA} {e : Expr} {es : List Expr} {p pos : Pos} {f : Addr}
theorem pe_callC (C : CloOk X.prog X.w X.K X.mg X.base k f sp) (hr : Room k X.A) (hN : X.N[i]? = some x) (hv : Vis X.env.scope x) (ha : PA X (e :: es) t)
    (hd : (x == ("__debug__" : Str)) = false := by decide) (hcd : (x == ("__classdict__" : Str)) = false := by decide)
    (he : starEach (e :: es) X.env = (false, eval e X.env) :: starEach es X.env := by rfl) (hpl : (backTo pos (starEach es X.env)).any (·.1) = false := by rfl) :
    PE X (.Call (.Name x p) (e :: es) [] pos) (tCallC f i sp t) := by
  refine ⟨fun pins s σ H Q I h => ?_⟩
  obtain ⟨hs, ⟨F, hf⟩, ht⟩ := h
  refine wpAny_Call_Name_kw (thn ((pe_var (pos := p) hN hv hd hcd).run pins s σ H (fun v H1 => v = .ref f ∧ H1 = H) I ⟨.ref f, hs, rfl, rfl⟩) fun u s1 ⟨v, H1, I1, r1, q1⟩ => ?_)
  obtain ⟨ev, eH⟩ := q1
  subst ev
  rw [eH] at I1
  obtain rfl : u = Value.ref f := r1
  refine PySem.W.callWith_F (first := []) (fnAt_of I1 hf) (thn (ha.run pos pins s1 σ H _ I1 ht) fun us s2 ⟨vs, H2, I2, r, ⟨F2, h1⟩, q⟩ => ⟨fnAt_of I2 h1, ?_⟩) he hpl
  show wpAny _ _ (call (.ref f) us) _ _ _
  refine wpAny_call (codeAny_mono (C.run X.A X.stack s2 H2 us vs Q E0 hr I2.env0 r q) fun r s' hq => ?_)
  cases r with
  | error e => exact False.elim hq
  | ok fl =>
    cases fl with
    | ret u => exact I2.after hq
    | next => exact False.elim hq
    | brk => exact False.elim hq
    | cont => exact False.elim hq
end

/-! ### a def that is handed inner defs: the frame's cells are lent while it runs -/
def tCallL (l : List (List (Str × Addr) × List Str × List Nat)) (sp : Sp) (t : L2.TA) : TE := fun σ H Q => t σ H fun vs H1 => ∀ (cs : List Addr) (H2 : Hp), (∀ b, b ∉ cs → H2 b = H1 b) → (∀ c ∈ cs, H1 c = none) → LentC cs H2 →
  (∀ p ∈ l, Lent p.1 p.2.1 (p.2.2.map (slotAt σ)) cs H2) → sp vs H2 (fun v H' => (∀ c ∈ cs, H' c = H2 c) → Q v (offL cs H')) E0
section
variable {X : Cx} {k : Nat} {f : Addr} {fd : FuncData} {ps : List Str} {sp : Sp} {x : Str} {p pos : Pos} {e : Expr} {es : List Expr} {t : L2.TA} {l : List (List (Str × Addr) × List Str × List Nat)}
theorem pe_callL (hfn : ∀ y, X.fn y = true) (F : FnOk X.prog X.w X.K X.mg X.base CX0 k f fd ps sp) (hr : Room k X.A) (hg : Gl X x) (hm : X.mg x = some (.ref f)) (hk : PySem.W.keepIn X.K (.ref f) = true) (hb : Binds X.K fd ps [])
    (cp : X.Ok → ∀ p ∈ l, Caps X p.1 p.2.1 p.2.2) (ha : PA X (e :: es) t) (hdb : (x == ("__debug__" : Str)) = false := by decide) (he : starEach (e :: es) X.env = (false, eval e X.env) :: starEach es X.env := by rfl) (hpl : (backTo pos (starEach es X.env)).any (·.1) = false := by rfl) :
    PE X (.Call (.Name x p) (e :: es) [] pos) (tCallL l sp t) := by
  constructor
  intro pins s σ H Q I h
  apply wpAny_Call_Name_kw
  apply ld_glob I hg hm _ hdb
  apply PySem.W.callWith_K (h₀ := X.base) I.ok.mod.kin hk _ he hpl
  refine thn (ha.run pos pins s σ H _ I h) ?_
  rintro us s1 ⟨vs, H1, I1, r, q⟩
  refine ⟨I1.kIn, ?_⟩
  -- the cells
  generalize hcs : (X.env.cells.filterMap fun p => X.env.cells.lookup p.1) = cs at *
  have inCs : ∀ y c, X.env.cells.lookup y = some c → c ∈ cs := fun y c z => by
    rw [← hcs]
    exact List.mem_filterMap.mpr ⟨(y, c), PySem.mem_of_lookup z, z⟩
  have ofCs : ∀ c ∈ cs, ∃ y, X.env.cells.lookup y = some c := fun c hc => by
    rw [← hcs] at hc
    obtain ⟨p, _, hp⟩ := List.mem_filterMap.mp hc
    exact ⟨_, hp⟩
  have free : ∀ c ∈ cs, H1 c = none := fun c hc => by
    obtain ⟨y, hy⟩ := ofCs c hc
    exact I1.freeC y c hy
  have big : ∀ c ∈ cs, X.s_0.heap.objs.size ≤ c := fun c hc => by
    obtain ⟨y, hy⟩ := ofCs c hc
    exact I1.ok.cab y c (hfn y) hy
  have isC : ∀ c ∈ cs, ∃ o v, s1.heap.get? c = some o ∧ o.data = .cell v := fun c hc => by
    obtain ⟨y, hy⟩ := ofCs c hc
    obtain ⟨v, o, h1, h2⟩ := I1.cell y c hy
    exact ⟨o, v, h1, h2⟩
  generalize hH2 : (fun b => if b ∈ cs then (s1.heap.get? b).map (fun o => HO.frz o (.own 0)) else H1 b : Hp) = H2
  have out2 : ∀ b, b ∉ cs → H2 b = H1 b := fun b hb => by rw [← hH2]; exact if_neg hb
  have in2 : ∀ c o, c ∈ cs → s1.heap.get? c = some o → H2 c = some (.frz o (.own 0)) := fun c o hc e => by
    rw [← hH2]
    show (if c ∈ cs then _ else _) = _
    rw [if_pos hc, e]
    rfl
  have lentC : LentC cs H2 := fun c hc => by
    obtain ⟨o, v, h1, h2⟩ := isC c hc
    exact ⟨o, v, in2 c o hc h1, h2⟩
  have nfr : ∀ b ∈ frs X.stack, b ∉ cs := fun b hb hc => by
    rcases List.mem_cons.mp (I1.stkSub b hb) with z | z
    · obtain ⟨y, hy⟩ := ofCs b hc
      exact I1.cne y b hy z
    · obtain ⟨_, o, ho, _⟩ := I1.ok.funs.mem z
      exact absurd (Heap.lt_size ho) (Nat.not_lt.mpr (big b hc))
  have hok2 : HOk X.prog X.w H2 s1.heap := fun b u q => by
    by_cases hb : b ∈ cs
    · obtain ⟨o, v, h1, h2⟩ := isC b hb
      rw [in2 b o hb h1] at q
      cases q
      exact ⟨h1, o, h1⟩
    · rw [out2 b hb] at q
      have up : ∀ c v, H1 c = some v → H2 c = some v := fun c v z => by
        rw [out2 c fun hc => by rw [free c hc] at z; cases z]
        exact z
      exact (I1.hok b u q).stay (fun _ _ _ r => r) (fun c r => up c _ r) fun c xs r => up c _ r
  have e1 := I1.env0
  have e2 : Env0 X.prog X.w X.K X.mg X.base X.A X.stack s1 H2 := by
    refine ⟨e1.frames, e1.mod, fun b o e => ⟨(e1.bs b o e).1, ?_⟩, e1.bsz, e1.funs, fun b hb => ?_, hok2, e1.bare⟩
    · rw [out2 b fun hc => absurd (Heap.lt_size e) (Nat.not_lt.mpr (Nat.le_trans I1.ok.bsz (big b hc)))]
      exact (e1.bs b o e).2
    · rw [out2 b (nfr b hb)]
      exact e1.frf b hb
  have lents : ∀ p ∈ l, Lent p.1 p.2.1 (p.2.2.map (slotAt σ)) cs H2 := fun p hp => by
    have C := cells_of I1 (cp I1.ok p hp)
    refine ⟨C.len, fun y c z => inCs y c ((cp I1.ok p hp).sub y c z), lentC, C.inj, fun i y hy => ?_⟩
    obtain ⟨c, h1, h2⟩ := C.has i y hy
    refine ⟨c, h1, fun v hv => ?_⟩
    obtain ⟨u, ru, o, g1, g2⟩ := h2 v hv
    exact ⟨u, o, ru, in2 c o (inCs y c ((cp I1.ok p hp).sub y c h1)) g1, g2⟩
  have q2 := q cs H2 out2 free lentC lents
  have nargs : (us ++ []).length = ps.length := by
    rw [List.append_nil, ← r.length]
    exact F.len _ _ _ _ q2
  have bd := hb s1 us I1.kIn nargs
  rw [List.append_nil] at bd
  apply wpAny_call
  refine codeAny_mono (F.run X.A X.stack s1 H2 ⟨us, []⟩ us vs _ E0 hr e2 bd r q2) ?_
  intro res s' hres
  match res, hres with
  | .error _, hres => exact False.elim hres
  | .ok .next, hres => exact False.elim hres
  | .ok .brk, hres => exact False.elim hres
  | .ok .cont, hres => exact False.elim hres
  | .ok (.ret u), hres =>
    obtain ⟨v, H', os, bare, un, hok, rv, q⟩ := hres
    have stay : ∀ c ∈ cs, H' c = H2 c := fun c hc => by
      obtain ⟨o, v, h1, h2⟩ := isC c hc
      rw [in2 c o hc h1]
      exact un.frzs c o _ (in2 c o hc h1)
    refine I1.after ⟨v, offL cs H', os, bare, ⟨fun b o e n hb hx => ?_, fun b o e n hb hx => ?_, fun b o e n hx => ?_, fun b o e hx => un.there b o e hx, fun b xs e => ?_, fun b o u e => ?_, fun b ps e => ?_⟩, hok_off hok fun c hc => ?_, rv, q stay⟩
    · by_cases hc : b ∈ cs
      · have z := stay b hc
        rw [in2 b o hc e] at z
        exact (hok b _ z).1
      · exact un.keep b o e (by rw [out2 b hc]; exact n) hb hx
    · exact un.slot b o e (by rw [out2 b (nfr b hb)]; exact n) hb hx
    · by_cases hc : b ∈ cs
      · exact offL_in hc
      · exact offL_none (un.free b o e (by rw [out2 b hc]; exact n) hx)
    · have hc : b ∉ cs := fun z => by rw [free b z] at e; cases e
      rw [offL_out hc]
      exact un.tups b xs (by rw [out2 b hc]; exact e)
    · have hc : b ∉ cs := fun z => by rw [free b z] at e; cases e
      rw [offL_out hc]
      exact un.frzs b o u (by rw [out2 b hc]; exact e)
    · have hc : b ∉ cs := fun z => by rw [free b z] at e; cases e
      rw [offL_out hc]
      exact un.tbls b ps (by rw [out2 b hc]; exact e)
    · rw [stay c hc]
      exact lentC c hc
end
end U

set_option Elab.async false
set_option linter.all false
set_option maxRecDepth 100000
set_option maxHeartbeats 2000000
namespace U
open PySem PySem.Spec PyProof.Rows L2 NdefX LamX

/-! ### off places that hold no data -/
def NoData : Option HO → Prop
  | some (.lst _) => False
  | some (.tup _) => False
  | some (.dK _) => False
  | _ => True
section
variable {K : PySem.W.Frag} {N N' : List Addr} {H : Hp}
mutual
theorem T.plusX (s : ∀ b ∈ N', b ∈ N ∨ NoData (H b)) : ∀ {v : V} {d : PyData}, T K N H v d → T K N' H v d
  | _, _, .non => .non
  | _, _, .bl b => .bl b
  | _, _, .int i => .int i
  | _, _, .str x => .str x
  | _, _, .lst n h t => .lst (fun z => (s _ z).elim n fun q => by rw [h] at q; exact q) h (TA.plusX s t)
  | _, _, .tup n h t => .tup (fun z => (s _ z).elim n fun q => by rw [h] at q; exact q) h (TA.plusX s t)
  | _, _, .dct n h t => .dct (fun z => (s _ z).elim n fun q => by rw [h] at q; exact q) h (TK.plusX s t)
theorem TA.plusX (s : ∀ b ∈ N', b ∈ N ∨ NoData (H b)) : ∀ {vs : List V} {ds : List PyData}, TA K N H vs ds → TA K N' H vs ds
  | _, _, .nil => .nil
  | _, _, .cons h t => .cons (T.plusX s h) (TA.plusX s t)
theorem TK.plusX (s : ∀ b ∈ N', b ∈ N ∨ NoData (H b)) : ∀ {kvs : List (Key × V)} {es : List (PyData × PyData)}, TK K N H kvs es → TK K N' H kvs es
  | _, _, .nil => .nil
  | _, _, .cons h g t => .cons (T.plusX s h) (T.plusX s g) (TK.plusX s t)
end
end

/-! ### boxes: a thing at l that is written -/
structure Box (l : Addr) (γ : Type) where
  B : γ → List Addr → Hp → Prop
  loc : ∀ k N H H', H' l = H l → Ext N H H' → B k N H → B k N H'
  plus : ∀ k N N' H, (∀ b, b ∈ N' → b ∈ N ∨ NoData (H b)) → B k N H → B k N' H
  trk : ∀ k N H, B k N H → H l ≠ none
  nofrz : ∀ k N H, B k N H → ∀ o u, H l ≠ some (.frz o u)
def listBox (K : PySem.W.Frag) (l : Addr) : Box l (List PyData) where
  B := fun ds N H => ∃ xs, H l = some (.lst xs) ∧ TA K N H xs ds
  loc := fun _ _ _ _ e x ⟨xs, h, t⟩ => ⟨xs, e.trans h, t.ext x⟩
  plus := fun _ _ _ _ s ⟨xs, h, t⟩ => ⟨xs, h, t.plusX s⟩
  trk := fun _ _ _ ⟨_, h, _⟩ z => by rw [h] at z; cases z
  nofrz := fun _ _ _ ⟨_, h, _⟩ o u z => by rw [h] at z; cases z
theorem KN.mapT {K : PySem.W.Frag} {M M' : List Addr} {H H' : Hp} (f : ∀ v d, T K M H v d → T K M' H' v d) {xs : List (NestedKey × Addr × V)} {ds : List (NestedKey × PyData)} (h : KN K M H xs ds) : KN K M' H' xs ds := h.map f
/-- D tells a dict's object -/
structure IsDN (D : Addr → List (NestedKey × Addr × V) → HO) : Prop where
  nofrz : ∀ l xs o u, D l xs ≠ .frz o u
def nestBox (K : PySem.W.Frag) (D : Addr → List (NestedKey × Addr × V) → HO) (hD : IsDN D) (l : Addr) : Box l (List (NestedKey × PyData)) where
  B := fun kvs N H => ∃ xs, H l = some (D l xs) ∧ KN K N H xs kvs
  loc := fun _ _ _ _ e x ⟨xs, h, t⟩ => ⟨xs, e.trans h, t.map fun _ _ t => t.ext x⟩
  plus := fun _ _ _ _ s ⟨xs, h, t⟩ => ⟨xs, h, t.map fun _ _ t => t.plusX s⟩
  trk := fun _ _ _ ⟨_, h, _⟩ z => by rw [h] at z; cases z
  nofrz := fun _ _ _ ⟨_, h, _⟩ o u z => by rw [h] at z; exact hD.nofrz _ _ _ _ (Option.some.inj z)
/-- nothing is written -/
def stillBox (l : Addr) (o : HO) (ho : ∀ c u, o ≠ .frz c u) : Box l Unit where
  B := fun _ _ H => H l = some o
  loc := fun _ _ _ _ e _ h => e.trans h
  plus := fun _ _ _ _ _ h => h
  trk := fun _ _ _ h z => by rw [h] at z; cases z
  nofrz := fun _ _ _ h c u z => by rw [h] at z; exact ho _ _ (Option.some.inj z)
/-- the world of a box: nothing else at M is written; caps: what else is known -/
def boxW (K : PySem.W.Frag) {l : Addr} {γ : Type} (M : List Addr) (Hs : Hp) (tr : Trk M Hs) (hl : l ∈ M) (bx : Box l γ) (caps : List (V × PyData)) : Wd γ where
  M := M
  I := fun k N H => (∀ b, b ∈ M → b ≠ l → H b = Hs b) ∧ bx.B k N H ∧ ∀ p ∈ caps, T K N H p.1 p.2
  loc := fun k N H H' e x ⟨h1, h2, h3⟩ => ⟨fun b hb n => (e b hb).trans (h1 b hb n), bx.loc k N H H' (e l hl) x h2, fun p hp => (h3 p hp).ext x⟩
  plus := fun k N N' H s _ ⟨h1, h2, h3⟩ => ⟨h1, bx.plus k N N' H (fun b hb => (s b hb).imp_right fun z => by rw [z]; trivial) h2, fun p hp => (h3 p hp).plusAll s⟩
  trk := fun k N H ⟨h1, h2, _⟩ b hb z => by
    by_cases e : b = l
    · rw [e] at z; exact bx.trk k N H h2 z
    · rw [h1 b hb e] at z; exact tr b hb z

/-! ### what a call of a thing promises, in a world -/
def cloSp (K : PySem.W.Frag) {γ : Type} (W : Wd γ) (n : Nat) (R : γ → List PyData → (PyData → γ → Prop) → Prop) : Sp := fun vs H Q _ => ∃ (N : List Addr) (k : γ) (ds : List PyData) (Φ : PyData → γ → Prop),
  (∀ b ∈ W.M, b ∈ N) ∧ Trk N H ∧ W.I k N H ∧ TA K N H vs ds ∧ ds.length = n ∧ R k ds Φ ∧ ∀ v d k' H', Ext W.M H H' → W.I k' N H' → T K N H' v d → Φ d k' → Q v H'
section
variable {K : PySem.W.Frag} {γ : Type} {W : Wd γ} {ρ : Rho} {k : γ} {Φ : PyData → γ → Prop} {tr : L2.TA} {f : Addr} {i n : Nat} {R : γ → List PyData → (PyData → γ → Prop) → Prop}
theorem ev_callC (h0 : ρ[i]? = some (.raw (.ref f))) (hf : ∀ k N H, W.I k N H → IsFn H f) (h : EvA K W tr ρ k fun ds k1 => ds.length = n ∧ R k1 ds Φ) : EvW K W (tCallC f i (cloSp K W n R) tr) ρ k Φ := fun L0 H0 L H σ S Q c =>
  ⟨S.slots i _ h0, hf _ _ _ S.wd, h L0 H0 L H σ S _ fun vs ds k1 H1 S1 e1 ta ⟨hl, hR⟩ => ⟨hf _ _ _ S1.wd, L ++ W.M, k1, ds, Φ, (fun b hb => List.mem_append_right _ hb), S1.trk, S1.wd, ta, hl, hR, fun v d k' H' e wi t q => c v d k' H' (S1.ext e wi) (e1.trans e) t q⟩⟩
end

/-! ### inner defs: the captured names stand behind the parameters; the box, where there is one, behind them -/
def spB (K : PySem.W.Frag) {γ : Type} (n : Nat) (Bx : (l : Addr) → Box l γ) (R : γ → List PyData → (PyData → γ → Prop) → Prop) : Sp := fun vs H Q _ => ∃ (N : List Addr) (l : Addr) (us : List V) (k : γ) (ds : List PyData) (Φ : PyData → γ → Prop),
  vs = us ++ [.ref l] ∧ l ∈ N ∧ Trk N H ∧ (Bx l).B k N H ∧ TA K N H us ds ∧ ds.length + 1 = n ∧ R k ds Φ ∧ ∀ v d k' H', (Bx l).B k' N H' → Ext [l] H H' → T K N H' v d → Φ d k' → Q v H'
/-- an inner def's promise by one of a plain def that takes the captured names behind the parameters -/
def spN (n : Nat) (sp : Sp) : List (Option V) → Sp := fun ws vs H Q E => vs.length = n ∧ ∃ us : List V, ws = us.map some ∧ sp (vs ++ us) H Q E
theorem startF_eq {N : List Str} {vs us : List V} : startF N vs (us.map some) = L2.start N (vs ++ us) := by
  unfold startF L2.start
  rw [List.map_append, List.append_assoc, List.length_map, List.length_append, Nat.sub_sub]
section
variable {K : PySem.W.Frag} {γ : Type} {l : Addr} {M : List Addr} {Hs : Hp} {tr : Trk M Hs} {hl : l ∈ M} {bx : Box l γ} {caps : List (V × PyData)} {f : Addr} {F : NF} {fr : List Str} {n : Nat} {cs : List Addr} {cws : List V} {cds : List PyData}
/-- at a call: what the stripped heap is -/
theorem box_off {N : List Addr} {H : Hp} {k : γ} (hcs : ∀ c ∈ cs, c ∈ M) (hlc : l ∉ cs) (lent : LentC cs Hs) (hM : ∀ b ∈ M, b ∈ N) (trk : Trk N H) (wi : (boxW K M Hs tr hl bx caps).I k N H) :
    LentC cs H ∧ Ext N H (offL cs H) ∧ Trk (N.filter fun b => decide (b ∉ cs)) (offL cs H) ∧ bx.B k (N.filter fun b => decide (b ∉ cs)) (offL cs H) ∧ ∀ vs ds, TA K N H vs ds → TA K (N.filter fun b => decide (b ∉ cs)) (offL cs H) vs ds := by
  have sub : ∀ b ∈ N.filter (fun b => decide (b ∉ cs)), b ∈ N := fun b hb => (List.mem_filter.mp hb).1
  have ex : Ext N H (offL cs H) := fun b o nb hb => by rw [offL_out fun z => nb (hM b (hcs b z))]; exact hb
  refine ⟨fun c hc => ?_, ex, fun b hb z => ?_, bx.plus k N _ _ (fun b hb => .inl (sub b hb)) (bx.loc k N H _ (offL_out hlc) ex wi.2.1), fun vs ds t => (t.ext ex).off sub⟩
  · rw [wi.1 c (hcs c hc) fun e => hlc (e ▸ hc)]
    exact lent c hc
  · have nc : b ∉ cs := by simpa using (List.mem_filter.mp hb).2
    rw [offL_out nc] at z
    exact trk b (sub b hb) z
/-- behind it: what the whole heap is -/
theorem box_back {N : List Addr} {H H' : Hp} {k k' : γ} (hcs : ∀ c ∈ cs, c ∈ M) (hlc : l ∉ cs) (hM : ∀ b ∈ M, b ∈ N) (wi : (boxW K M Hs tr hl bx caps).I k N H) (e : Ext [l] (offL cs H) H') (nn : ∀ c ∈ cs, H' c = none)
    (hb : bx.B k' (N.filter fun b => decide (b ∉ cs)) H') : Ext M H (backL cs H H') ∧ (boxW K M Hs tr hl bx caps).I k' N (backL cs H H') ∧ ∀ v d, T K (N.filter fun b => decide (b ∉ cs)) H' v d → T K N (backL cs H H') v d := by
  have up : ∀ b, b ∈ N → b ∈ N.filter (fun b => decide (b ∉ cs)) ∨ H' b = none := fun b hb => by
    by_cases hc : b ∈ cs
    · exact .inr (nn b hc)
    · exact .inl (List.mem_filter.mpr ⟨hb, by simpa using hc⟩)
  have exB : Ext N H' (backL cs H H') := fun b o nb h => by rw [backL_out fun z => nb (hM b (hcs b z))]; exact h
  have stays : ∀ b o, b ≠ l → H b = some o → backL cs H H' b = some o := fun b o nl h => by
    by_cases hc : b ∈ cs
    · rw [backL_in hc]; exact h
    · rw [backL_out hc]
      exact e b o (by simp [nl]) (by rw [offL_out hc]; exact h)
  have exM : Ext M H (backL cs H H') := fun b o nb h => stays b o (fun z => nb (z ▸ hl)) h
  refine ⟨exM, ⟨fun b hb nl => ?_, bx.loc k' N H' _ (backL_out hlc) exB (bx.plus k' _ N H' (fun b hb => (up b hb).imp_right fun z => by rw [z]; trivial) hb), fun p hp => (wi.2.2 p hp).ext (exM.sub hM)⟩, fun v d t => (t.plusAll up).ext exB⟩
  have w1 := wi.1 b hb nl
  cases q : H b with
  | none => exact absurd q ((boxW K M Hs tr hl bx caps).trk k N H wi b hb)
  | some o => rw [stays b o nl q, ← q, w1]
theorem clo_box {Bx : (l : Addr) → Box l γ} {R : γ → List PyData → (PyData → γ → Prop) → Prop} (ebx : bx = Bx l) (hcs : ∀ c ∈ cs, c ∈ M) (hf : f ∈ M) (hfl : f ≠ l) (hlc : l ∉ cs) (ef : Hs f = some (FnO f F)) (hcM : F.c ∈ M) (hcl : F.c ≠ l) (ec : Hs F.c = some (CodeO F.c F.qual)) (lent : Lent F.cl fr ((cws ++ [V.ref l]).map some) cs Hs) (caps_ : ∀ k N H, (boxW K M Hs tr hl bx caps).I k N H → TA K N H cws cds) :
    ∀ vs H Q E, cloSp K (boxW K M Hs tr hl bx caps) n (fun k ds Φ => R k (ds ++ cds) Φ) vs H Q E → lentSp f F fr (spN n (spB K (n + cds.length + 1) Bx R)) vs H Q E := by
  subst ebx
  rintro vs H Q E ⟨N, k, ds, Φ, hM, trk, wi, ta, hn, hR, q⟩
  have hM' : ∀ b ∈ M, b ∈ N := hM
  obtain ⟨lc, ex, tk, hb, tta⟩ := box_off hcs hlc lent.all hM' trk wi
  refine ⟨(wi.1 f hf hfl).trans ef, (wi.1 _ hcM hcl).trans ec, cs, (cws ++ [V.ref l]).map some, lent.of fun c hc => wi.1 c (hcs c hc) fun e => hlc (e ▸ hc), ta.len.trans hn, cws ++ [V.ref l], rfl, N.filter (fun b => decide (b ∉ cs)), l, vs ++ cws, k, ds ++ cds, Φ, by rw [List.append_assoc], List.mem_filter.mpr ⟨hM' l hl, by simpa using hlc⟩, tk, hb,
    tta _ _ (ta.app (caps_ k N H wi)), by rw [List.length_append, hn], hR, fun v d k' H' hb' e t hq nn => ?_⟩
  obtain ⟨a, b, c⟩ := box_back hcs hlc hM' wi e nn hb'
  exact q v d k' _ a b (c v d t) hq
theorem clo_pure {R : List PyData → PyData → Prop} (hcs : ∀ c ∈ cs, c ∈ M) (hf : f ∈ M) (ef : ∀ k N H, (boxW K M Hs tr hl bx caps).I k N H → H f = some (FnO f F) ∧ H F.c = some (CodeO F.c F.qual)) (hlc : l ∉ cs) (lent : Lent F.cl fr (cws.map some) cs Hs) (caps_ : ∀ k N H, (boxW K M Hs tr hl bx caps).I k N H → TA K N H cws cds) :
    ∀ vs H Q E, cloSp K (boxW K M Hs tr hl bx caps) n (fun k ds Φ => ∃ r, R (ds ++ cds) r ∧ Φ r k) vs H Q E → lentSp f F fr (spN n (spP K (n + cds.length) R)) vs H Q E := by
  rintro vs H Q E ⟨N, k, ds, Φ, hM, trk, wi, ta, hn, ⟨r, hR, hr⟩, q⟩
  have hM' : ∀ b ∈ M, b ∈ N := hM
  obtain ⟨lc, ex, tk, hb, tta⟩ := box_off hcs hlc lent.all hM' trk wi
  refine ⟨(ef k N H wi).1, (ef k N H wi).2, cs, cws.map some, lent.of fun c hc => wi.1 c (hcs c hc) fun e => hlc (e ▸ hc), ta.len.trans hn, cws, rfl, N.filter (fun b => decide (b ∉ cs)), ds ++ cds, r, tta _ _ (ta.app (caps_ k N H wi)), tk, by rw [List.length_append, hn], hR, fun v H' sm t nn => ?_⟩
  have el : H' l = offL cs H l := by
    cases z : offL cs H l with
    | none => exact absurd z (tk l (List.mem_filter.mpr ⟨hM' l hl, by simpa using hlc⟩))
    | some o => exact sm l o z
  obtain ⟨a, b, c⟩ := box_back (k' := k) hcs hlc hM' wi (Ext.same sm) nn (bx.loc k _ _ _ el (Ext.same sm) hb)
  exact q v r k _ a b (c v r t) hr
end
end U

set_option Elab.async false
set_option linter.all false
set_option maxRecDepth 100000
set_option maxHeartbeats 2000000
namespace U
open PySem PySem.Spec PyProof.Rows L2 NdefX LamX

/-! ### arguments that are data or inner defs -/
inductive AY (K : PySem.W.Frag) (N : List Addr) (H : Hp) : List V → List (PyData ⊕ (Addr → NF)) → Prop
  | nil : AY K N H [] []
  | dat {v : V} {d : PyData} {vs : List V} {as : List (PyData ⊕ (Addr → NF))} : T K N H v d → AY K N H vs as → AY K N H (v :: vs) (.inl d :: as)
  | fn {f c : Addr} {F : Addr → NF} {vs : List V} {as : List (PyData ⊕ (Addr → NF))} : f ∉ N → c ∉ N → H f = some (FnO f (F c)) → H c = some (CodeO c (F c).qual) → AY K N H vs as → AY K N H (.ref f :: vs) (.inr F :: as)
theorem AY.ext {K : PySem.W.Frag} {N : List Addr} {H H' : Hp} (e : Ext N H H') : ∀ {vs : List V} {as : List (PyData ⊕ (Addr → NF))}, AY K N H vs as → AY K N H' vs as
  | _, _, .nil => .nil
  | _, _, .dat h t => .dat (h.ext e) (AY.ext e t)
  | _, _, .fn n m h g t => .fn n m (e _ _ n h) (e _ _ m g) (AY.ext e t)
def EvY (K : PySem.W.Frag) {γ : Type} (W : Wd γ) (ta : L2.TA) (ρ : Rho) (k : γ) (Φ : List (PyData ⊕ (Addr → NF)) → γ → Prop) : Prop :=
  ∀ (L0 : List Addr) (H0 : Hp) (L : List Addr) (H : Hp) (σ : L2.St), Stt K W L0 H0 L H σ ρ k → ∀ Q : List V → Hp → Prop, (∀ vs as k' H2, Stt K W L0 H0 L H2 σ ρ k' → Ext W.M H H2 → AY K (L ++ W.M) H2 vs as → Φ as k' → Q vs H2) → ta σ H Q
section
variable {K : PySem.W.Frag} {γ : Type} {W : Wd γ} {ρ : Rho} {k : γ} {tr : L2.TA} {te : TE} {Α : List (PyData ⊕ (Addr → NF)) → γ → Prop}
theorem ey_nil (q : Α [] k) : EvY K W tNil ρ k Α := fun _ _ _ H _ S _ c => c [] [] k H S (Ext.refl _ _) .nil q
theorem ey_dat (h : EvW K W te ρ k fun d k1 => EvY K W tr ρ k1 fun as k2 => Α (.inl d :: as) k2) : EvY K W (tCons te tr) ρ k Α := fun L0 H0 L H σ S Q c =>
  h L0 H0 L H σ S _ fun v d k1 H1 S1 e1 t1 g => g L0 H0 L H1 σ S1 _ fun vs as k2 H2 S2 e2 t2 q => c _ _ k2 H2 S2 (e1.trans e2) (.dat (t1.ext (eM e2)) t2) q
theorem ey_fn {i : Nat} {F : Addr → NF} (h0 : ρ[i]? = some (.fn F)) (h : EvY K W tr ρ k fun as k2 => Α (.inr F :: as) k2) : EvY K W (tCons (tVar i) tr) ρ k Α := fun L0 H0 L H σ S Q c => by
  obtain ⟨f, cc, e, nf, ncc, hf, hcc⟩ := S.slots i _ h0
  exact ⟨.ref f, e, h L0 H0 L H σ S _ fun vs as k2 H2 S2 e2 t2 q => c _ _ k2 H2 S2 e2 (.fn nf ncc (e2 f _ (fun z => nf (List.mem_append_right _ z)) hf) (e2 cc _ (fun z => ncc (List.mem_append_right _ z)) hcc) t2) q⟩
end

/-! ### the promise of a def that takes data and things that are called -/
inductive AX (K : PySem.W.Frag) (N : List Addr) (H : Hp) : List V → List (PyData ⊕ Addr) → Prop
  | nil : AX K N H [] []
  | dat {v : V} {d : PyData} {vs : List V} {as : List (PyData ⊕ Addr)} : T K N H v d → AX K N H vs as → AX K N H (v :: vs) (.inl d :: as)
  | fn {f : Addr} {vs : List V} {as : List (PyData ⊕ Addr)} : AX K N H vs as → AX K N H (.ref f :: vs) (.inr f :: as)
theorem AX.len {K : PySem.W.Frag} {N : List Addr} {H : Hp} : ∀ {vs : List V} {as : List (PyData ⊕ Addr)}, AX K N H vs as → vs.length = as.length
  | _, _, .nil => rfl
  | _, _, .dat _ t => by rw [List.length_cons, List.length_cons, t.len]
  | _, _, .fn t => by rw [List.length_cons, List.length_cons, t.len]
def spX (K : PySem.W.Frag) (n : Nat) (R : List (PyData ⊕ Addr) → (γ : Type) → Wd γ → γ → (PyData → γ → Prop) → Prop) : Sp := fun vs H Q _ => ∃ (γ : Type) (W : Wd γ) (k : γ) (as : List (PyData ⊕ Addr)) (Φ : PyData → γ → Prop),
  AX K W.M H vs as ∧ as.length = n ∧ W.I k W.M H ∧ R as γ W k Φ ∧ ∀ v d k' H', Ext W.M H H' → W.I k' W.M H' → T K W.M H' v d → Φ d k' → Q v H'
theorem spX.len {K : PySem.W.Frag} {n : Nat} {R : List (PyData ⊕ Addr) → (γ : Type) → Wd γ → γ → (PyData → γ → Prop) → Prop} {vs : List V} {H : Hp} {Q : VK} {E : XK} (h : spX K n R vs H Q E) : vs.length = n := by
  obtain ⟨γ, W, k, as, Φ, ax, hn, _⟩ := h
  rw [ax.len, hn]
def slotX : PyData ⊕ Addr → Slot | .inl d => .dat d | .inr f => .raw (.ref f)
def restX (N : List Str) (as : List (PyData ⊕ Addr)) : Rho := as.map slotX ++ List.replicate (N.length - as.length) .no
theorem AX.get {K : PySem.W.Frag} {N : List Addr} {H : Hp} : ∀ {vs : List V} {as : List (PyData ⊕ Addr)} {i : Nat} {a : PyData ⊕ Addr}, AX K N H vs as → as[i]? = some a → ∃ v, vs[i]? = some v ∧ ∀ L, SlotOk K N L H (some (some v)) (slotX a)
  | _, _, 0, _, .dat h t, e => by
    cases (by simpa using e : _ = _)
    exact ⟨_, rfl, fun L => ⟨_, rfl, h⟩⟩
  | _, _, 0, _, .fn t, e => by
    cases (by simpa using e : _ = _)
    exact ⟨_, rfl, fun L => rfl⟩
  | _, _, i + 1, _, .dat h t, e => by
    rw [List.getElem?_cons_succ] at e
    obtain ⟨v, a, b⟩ := AX.get t e
    exact ⟨v, by rw [List.getElem?_cons_succ]; exact a, b⟩
  | _, _, i + 1, _, .fn t, e => by
    rw [List.getElem?_cons_succ] at e
    obtain ⟨v, a, b⟩ := AX.get t e
    exact ⟨v, by rw [List.getElem?_cons_succ]; exact a, b⟩
theorem stt_startX {K : PySem.W.Frag} {γ : Type} {W : Wd γ} {N : List Str} {vs : List V} {as : List (PyData ⊕ Addr)} {H : Hp} {k : γ} (t : AX K W.M H vs as) (wd : W.I k W.M H) : Stt K W [] H [] H (L2.start N vs) (restX N as) k := by
  have get_ : ∀ (i : Nat) (s : Slot), (restX N as)[i]? = some s → s = .no ∨ ∃ a, as[i]? = some a ∧ s = slotX a := fun i s hs => by
    unfold restX at hs
    by_cases hi : i < as.length
    · rw [List.getElem?_append_left (by simpa using hi), List.getElem?_map] at hs
      obtain ⟨d, h1, h2⟩ := Option.map_eq_some_iff.mp hs
      exact .inr ⟨d, h1, h2.symm⟩
    · rw [List.getElem?_append_right (by simpa using hi)] at hs
      exact .inl (List.eq_of_mem_replicate (List.mem_of_getElem? hs))
  have no_ : ∀ a : PyData ⊕ Addr, (slotX a).isOwn = false := fun a => by cases a <;> rfl
  refine ⟨Ext.refl _ _, (fun l hl => nomatch hl), (fun l hl => nomatch hl), W.trk k _ H wd, wd, ?_, fun i s hs => ?_, fun i j s u hs hu h1 _ _ => ?_⟩
  · rw [start_len]
    unfold restX
    have := t.len
    simp [this]
  · rcases get_ i s hs with rfl | ⟨a, ha, rfl⟩
    · trivial
    · obtain ⟨v, h1, h2⟩ := t.get ha
      have := h2 []
      rw [start_get h1]
      exact this
  · rcases get_ i s hs with rfl | ⟨a, ha, rfl⟩
    · cases h1
    · rw [no_] at h1; cases h1
theorem spX.ok {K : PySem.W.Frag} {γ : Type} {W : Wd γ} {N : List Str} {vs : List V} {as : List (PyData ⊕ Addr)} {H : Hp} {k : γ} {Φ : PyData → γ → Prop} {Q : VK} {t : TS} (ax : AX K W.M H vs as) (wi : W.I k W.M H)
    (q : ∀ v d k' H', Ext W.M H H' → W.I k' W.M H' → T K W.M H' v d → Φ d k' → Q v H')
    (hb : SW K W t (restX N as) k ⟨fun _ k' => Φ .none k', Φ, fun _ _ => False, fun _ _ => False⟩) : t { nx := fun _ H' => Q .non H', rt := Q } (L2.start N vs) H :=
  hb [] H [] H _ _ (stt_startX ax wi) (fun L' H' σ' ρ' k' S' g => q .non .none k' H' S'.base S'.wdM .non g) (fun v d k' H' e wi t' g => q v d k' H' e wi t' g) (fun _ _ _ _ _ _ z => z.elim) (fun _ _ _ _ _ _ z => z.elim)

/-! ### the call in the maker -/
/-- a thing that is tracked, and no data -/
def IsNd (H : Hp) (b : Addr) : Prop := ∃ φ, H b = some (.ext φ)
section
variable {K : PySem.W.Frag} {N cs fs : List Addr} {H1 H2 : Hp}
/-- what the lent heap is -/
theorem lend_trk (trk : Trk N H1) (out : ∀ b, b ∉ cs → H2 b = H1 b) (lent : LentC cs H2) (fn : ∀ f ∈ fs, IsNd H1 f) (free : ∀ c ∈ cs, H1 c = none) : Trk (cs ++ (fs ++ N)) H2 := fun b hb z => by
  by_cases hc : b ∈ cs
  · obtain ⟨o, v, e, _⟩ := lent b hc
    rw [e] at z; cases z
  · rw [out b hc] at z
    rcases List.mem_append.mp hb with h | h
    · exact hc h
    · rcases List.mem_append.mp h with h | h
      · obtain ⟨F, e⟩ := fn b h
        rw [e] at z; cases z
      · exact trk b h z
theorem lend_up (out : ∀ b, b ∉ cs → H2 b = H1 b) (free : ∀ c ∈ cs, H1 c = none) (fn : ∀ f ∈ fs, IsNd H1 f) {v : V} {d : PyData} (t : T K N H1 v d) : T K (cs ++ (fs ++ N)) H2 v d := by
  have t1 : T K (cs ++ (fs ++ N)) H1 v d := t.plusX fun b hb => by
    rcases List.mem_append.mp hb with h | h
    · exact .inr (by rw [free b h]; trivial)
    · rcases List.mem_append.mp h with h | h
      · obtain ⟨F, e⟩ := fn b h
        exact .inr (by rw [e]; trivial)
      · exact .inl h
  exact t1.ext fun b o nb h => by rw [out b fun z => nb (List.mem_append_left _ z)]; exact h
theorem lend_upA (out : ∀ b, b ∉ cs → H2 b = H1 b) (free : ∀ c ∈ cs, H1 c = none) (fn : ∀ f ∈ fs, IsNd H1 f) : ∀ {vs : List V} {ds : List PyData}, TA K N H1 vs ds → TA K (cs ++ (fs ++ N)) H2 vs ds
  | _, _, .nil => .nil
  | _, _, .cons h t => .cons (lend_up out free fn h) (lend_upA out free fn t)
end
/-- which thing stands for which inner def -/
inductive Mt (isf : Addr → (Addr → NF) → Prop) : List (PyData ⊕ (Addr → NF)) → List (PyData ⊕ Addr) → Prop
  | nil : Mt isf [] []
  | dat {d : PyData} {as : List (PyData ⊕ (Addr → NF))} {ax : List (PyData ⊕ Addr)} : Mt isf as ax → Mt isf (.inl d :: as) (.inl d :: ax)
  | fn {f : Addr} {F : Addr → NF} {as : List (PyData ⊕ (Addr → NF))} {ax : List (PyData ⊕ Addr)} : isf f F → Mt isf as ax → Mt isf (.inr F :: as) (.inr f :: ax)
theorem AY.x {K : PySem.W.Frag} {N : List Addr} {H : Hp} : ∀ {vs : List V} {as : List (PyData ⊕ (Addr → NF))}, AY K N H vs as →
    ∃ (ax : List (PyData ⊕ Addr)) (fs : List Addr), Mt (fun f F => ∃ c, f ∈ fs ∧ c ∈ fs ∧ H f = some (FnO f (F c)) ∧ H c = some (CodeO c (F c).qual)) as ax ∧ (∀ f ∈ fs, f ∉ N ∧ IsNd H f) ∧ AX K N H vs ax := by
  have mono : ∀ {as : List (PyData ⊕ (Addr → NF))} {ax : List (PyData ⊕ Addr)} {p q : Addr → (Addr → NF) → Prop}, (∀ f F, p f F → q f F) → Mt p as ax → Mt q as ax := by
    intro as ax p q h m
    induction m with
    | nil => exact .nil
    | dat _ ih => exact .dat ih
    | fn h1 _ ih => exact .fn (h _ _ h1) ih
  intro vs as h
  induction h with
  | nil => exact ⟨[], [], .nil, (fun _ h => nomatch h), .nil⟩
  | dat h t ih =>
    obtain ⟨ax, fs, m, a, x⟩ := ih
    exact ⟨_, fs, .dat m, a, .dat h x⟩
  | @fn f c F vs as n nc e ec t ih =>
    obtain ⟨ax, fs, m, a, x⟩ := ih
    refine ⟨_, f :: c :: fs, .fn ⟨c, by simp, by simp, e, ec⟩ (mono (fun g G ⟨c', z1, z2, z3⟩ => ⟨c', List.mem_cons_of_mem _ (List.mem_cons_of_mem _ z1), List.mem_cons_of_mem _ (List.mem_cons_of_mem _ z2), z3⟩) m), fun g hg => ?_, .fn x⟩
    rcases List.mem_cons.mp hg with rfl | hg
    · exact ⟨n, _, e⟩
    · rcases List.mem_cons.mp hg with rfl | hg
      · exact ⟨nc, _, ec⟩
      · exact a g hg
theorem Mt.mem {isf : Addr → (Addr → NF) → Prop} : ∀ {as : List (PyData ⊕ (Addr → NF))} {ax : List (PyData ⊕ Addr)}, Mt isf as ax → ∀ F, Sum.inr F ∈ as → ∃ f, isf f F
  | _, _, .nil, F, h => nomatch h
  | _, _, .dat t, F, h => by
    rcases List.mem_cons.mp h with e | h
    · cases e
    · exact t.mem F h
  | _, _, .fn h1 t, F, h => by
    rcases List.mem_cons.mp h with e | h
    · cases e; exact ⟨_, h1⟩
    · exact t.mem F h
theorem AX.lend {K : PySem.W.Frag} {N cs fs : List Addr} {H1 H2 : Hp} (out : ∀ b, b ∉ cs → H2 b = H1 b) (free : ∀ c ∈ cs, H1 c = none) (fn : ∀ f ∈ fs, IsNd H1 f) : ∀ {vs : List V} {ax : List (PyData ⊕ Addr)}, AX K N H1 vs ax → AX K (cs ++ (fs ++ N)) H2 vs ax
  | _, _, .nil => .nil
  | _, _, .dat h t => .dat (lend_up out free fn h) (AX.lend out free fn t)
  | _, _, .fn t => .fn (AX.lend out free fn t)
/-- the data that stand in slots -/
def capsOf (σ : L2.St) (ρ : Rho) : List (V × PyData) := (List.range σ.length).filterMap fun j => match σ[j]?, ρ[j]? with
  | some (some v), some (Slot.dat d) => some (v, d)
  | _, _ => none
theorem caps_mem {σ : L2.St} {ρ : Rho} {j : Nat} {v : V} {d : PyData} (h1 : σ[j]? = some (some v)) (h2 : ρ[j]? = some (.dat d)) : (v, d) ∈ capsOf σ ρ :=
  List.mem_filterMap.mpr ⟨j, List.mem_range.mpr (List.getElem?_eq_some_iff.mp h1).1, by rw [h1, h2]⟩
theorem caps_T {K : PySem.W.Frag} {γ : Type} {W : Wd γ} {L0 L : List Addr} {H0 H : Hp} {σ : L2.St} {ρ : Rho} {k : γ} (S : Stt K W L0 H0 L H σ ρ k) : ∀ p ∈ capsOf σ ρ, T K (L ++ W.M) H p.1 p.2 := fun p hp => by
  obtain ⟨j, _, hj⟩ := List.mem_filterMap.mp hp
  cases h1 : σ[j]? with
  | none => rw [h1] at hj; simp at hj
  | some o =>
    cases h2 : ρ[j]? with
    | none => rw [h1, h2] at hj; simp at hj
    | some s =>
      cases o with
      | none => rw [h1, h2] at hj; simp at hj
      | some v =>
        cases s <;> (rw [h1, h2] at hj; simp at hj)
        subst hj
        obtain ⟨u, e, t⟩ := S.slots j _ h2
        rw [h1] at e
        cases e
        exact t
theorem slotAt_of {σ : L2.St} {j : Nat} {v : V} (h : σ[j]? = some (some v)) : NdefX.slotAt σ j = some v := by
  unfold NdefX.slotAt
  rw [h]
theorem caps_js {K : PySem.W.Frag} {γ : Type} {W : Wd γ} {L0 L : List Addr} {H0 H : Hp} {σ : L2.St} {ρ : Rho} {k : γ} (S : Stt K W L0 H0 L H σ ρ k) : ∀ (js : List Nat) (cds : List PyData), js.map (fun j => ρ[j]?) = cds.map (fun d => some (Slot.dat d)) →
    ∃ cws : List V, js.map (NdefX.slotAt σ) = cws.map some ∧ ∀ (N : List Addr) (H : Hp), (∀ p ∈ capsOf σ ρ, T K N H p.1 p.2) → TA K N H cws cds
  | [], [], _ => ⟨[], rfl, fun _ _ _ => .nil⟩
  | [], _ :: _, h => by simp at h
  | _ :: _, [], h => by simp at h
  | j :: js, d :: cds, h => by
    simp only [List.map_cons, List.cons.injEq] at h
    obtain ⟨cws, e, t⟩ := caps_js S js cds h.2
    obtain ⟨v, h1, _⟩ := S.slots j _ h.1
    exact ⟨v :: cws, by rw [List.map_cons, List.map_cons, e, slotAt_of h1], fun N H c => .cons (c _ (caps_mem h1 h.1)) (t N H c)⟩

section
variable {K : PySem.W.Frag} {γ : Type} {W : Wd γ} {ρ : Rho} {k : γ} {Φ : PyData → γ → Prop} {tr : L2.TA} {l : List (List (Str × Addr) × List Str × List Nat)} {n : Nat} {R : List (PyData ⊕ Addr) → (γ : Type) → Wd γ → γ → (PyData → γ → Prop) → Prop}
/-- what a pure inner def is to the def that it is handed to -/
def PureAt (K : PySem.W.Frag) {δ : Type} (Wc : Wd δ) (f : Addr) (F : NF) (fr : List Str) (cds : List PyData) : Prop :=
  ∀ (n : Nat) (R0 : List PyData → PyData → Prop) (vs : List V) (H : Hp) (Q : VK) (E : XK), cloSp K Wc n (fun k ds Φ => ∃ r, R0 (ds ++ cds) r ∧ Φ r k) vs H Q E → lentSp f F fr (spN n (spP K (n + cds.length) R0)) vs H Q E
/-- .. one with a box -/
def BoxAt (K : PySem.W.Frag) {δ : Type} (Bx : (l : Addr) → Box l δ) (Wc : Wd δ) (f : Addr) (F : NF) (fr : List Str) (cds : List PyData) : Prop :=
  ∀ (n : Nat) (R0 : δ → List PyData → (PyData → δ → Prop) → Prop) (vs : List V) (H : Hp) (Q : VK) (E : XK), cloSp K Wc n (fun k ds Φ => R0 k (ds ++ cds) Φ) vs H Q E → lentSp f F fr (spN n (spB K (n + cds.length + 1) Bx R0)) vs H Q E
/-- the call, where no inner def writes -/
theorem ev_callLP (h : EvY K W tr ρ k fun as k1 => (∃ F, Sum.inr F ∈ as) ∧ as.length = n ∧ ∀ (ax : List (PyData ⊕ Addr)) (Wc : Wd Unit) (isf : Addr → (Addr → NF) → Prop), Mt isf as ax →
      (∀ f F, isf f F → ∀ k N H, Wc.I k N H → IsFn H f) → (∀ p ∈ l, ∀ cds, p.2.2.map (fun j => ρ[j]?) = cds.map (fun d => some (Slot.dat d)) → ∀ f F, isf f F → (∀ c, (F c).cl = p.1 ∧ (F c).c = c) → ∃ c, PureAt K Wc f (F c) p.2.1 cds) →
      R ax Unit Wc () fun d _ => Φ d k1) : EvW K W (tCallL l (spX K n R) tr) ρ k Φ := fun L0 H0 L H σ S Q c =>
  h L0 H0 L H σ S _ fun vs as k1 H1 S1 e1 ay g => by
    obtain ⟨⟨F0, hF0⟩, hn, g⟩ := g
    intro cs H2 out free lentC lents
    obtain ⟨ax, fs, mt, hfs, axx⟩ := ay.x
    obtain ⟨f0, c0, hf0, _, ef0, _⟩ := mt.mem F0 hF0
    have isFn : ∀ f ∈ fs, IsNd H1 f := fun f hf => (hfs f hf).2
    have trk2 := lend_trk S1.trk out lentC isFn free
    have nc : ∀ b o, H1 b = some o → b ∉ cs := fun b o e z => by rw [free b z] at e; cases e
    have hl0 : f0 ∈ cs ++ (fs ++ (L ++ W.M)) := List.mem_append_right _ (List.mem_append_left _ hf0)
    have e20 : H2 f0 = some (FnO f0 (F0 c0)) := by rw [out f0 (nc f0 _ ef0)]; exact ef0
    have caps2 : ∀ p ∈ capsOf σ ρ, T K (cs ++ (fs ++ (L ++ W.M))) H2 p.1 p.2 := fun p hp => lend_up out free isFn (caps_T S1 p hp)
    have len_ : ax.length = as.length := by
      clear g hn hF0 caps2 e20 axx ay
      induction mt with
      | nil => rfl
      | dat _ ih => simp [ih]
      | fn _ _ ih => simp [ih]
    refine ⟨Unit, boxW K (cs ++ (fs ++ (L ++ W.M))) H2 trk2 hl0 (stillBox f0 (FnO f0 (F0 c0)) fun c u z => by unfold FnO at z; cases z) (capsOf σ ρ), (), ax, fun d _ => Φ d k1, AX.lend out free isFn axx, len_.trans hn, ⟨fun _ _ _ => rfl, e20, caps2⟩, ?_, fun v d k' H' e wi t q => ?_⟩
    · have at_ : ∀ b ∈ fs, ∀ o, H1 b = some o → ∀ k N H, (boxW K (cs ++ (fs ++ (L ++ W.M))) H2 trk2 hl0 (stillBox f0 (FnO f0 (F0 c0)) fun c u z => by unfold FnO at z; cases z) (capsOf σ ρ)).I k N H → H b = some o := fun b hb o ho k N H wi => by
        by_cases ef : b = f0
        · subst ef
          rw [ef0] at ho
          rw [wi.2.1, ho]
        · rw [wi.1 b (List.mem_append_right _ (List.mem_append_left _ hb)) ef, out b (nc b _ ho)]
          exact ho
      refine g ax _ _ mt (fun f F ⟨c, hf, _, ef, _⟩ k N H wi => ⟨_, at_ f hf _ ef k N H wi⟩) fun p hp cds ecd f F ⟨c, hf, hc, ef, ec⟩ hF => ⟨c, ?_⟩
      obtain ⟨cws, ecw, tcw⟩ := caps_js S1 p.2.2 cds ecd
      have lp := lents p hp
      rw [ecw, ← (hF c).1] at lp
      exact fun m R0 => clo_pure (fun c hc => List.mem_append_left _ hc) (List.mem_append_right _ (List.mem_append_left _ hf)) (fun k N H wi => ⟨at_ f hf _ ef k N H wi, by rw [(hF c).2]; exact at_ c hc _ ec k N H wi⟩) (nc f0 _ ef0) lp fun k N H wi => tcw N H wi.2.2
    · intro stay
      have all : ∀ b ∈ cs ++ (fs ++ (L ++ W.M)), H' b = H2 b := fun b hb => by
        by_cases eb : b = f0
        · rw [eb, e20]; exact wi.2.1
        · exact wi.1 b hb eb
      have same : Same H1 (offL cs H') := fun b o hb => by
        have hc := nc b o hb
        rw [offL_out hc]
        have h2 : H2 b = some o := by rw [out b hc]; exact hb
        by_cases hm : b ∈ cs ++ (fs ++ (L ++ W.M))
        · rw [all b hm]; exact h2
        · exact e b o hm h2
      refine c v d k1 _ (S1.same same) (e1.trans (Ext.same same)) ?_ q
      have t1 : T K (cs ++ (fs ++ (L ++ W.M))) (offL cs H') v d := t.ext fun b o nb hb => by rw [offL_out fun z => nb (List.mem_append_left _ z)]; exact hb
      exact t1.off fun b hb => List.mem_append_right _ (List.mem_append_right _ hb)
/-- return the call's value, where an inner def writes the own thing of slot i -/
theorem sw_retLB {P : Ps γ} {δ : Type} {i : Nat} {s0 : Slot} {kb : δ} (hi : ρ[i]? = some s0) (ho : s0.isOwn = true) (Bx : (l : Addr) → Box l δ)
    (hbx : ∀ (o : Option (Option V)) (L N : List Addr) (H : Hp), SlotOk K N L H o s0 → ∃ l, o = some (some (.ref l)) ∧ l ∈ L ∧ (Bx l).B kb N H)
    (h : EvY K W tr ρ k fun as k1 => as.length = n ∧ ∀ (ax : List (PyData ⊕ Addr)) (Wc : Wd δ) (isf : Addr → (Addr → NF) → Prop), Mt isf as ax →
      (∀ f F, isf f F → ∀ k N H, Wc.I k N H → IsFn H f) → (∀ p ∈ l, ∀ cds, p.2.2.map (fun j => ρ[j]?) = cds.map (fun d => some (Slot.dat d)) → ∀ f F, isf f F → (∀ c, (F c).cl = p.1 ∧ (F c).c = c) → ∃ c, PureAt K Wc f (F c) p.2.1 cds) →
      (∀ p ∈ l, ∀ js cds, p.2.2 = js ++ [i] → js.map (fun j => ρ[j]?) = cds.map (fun d => some (Slot.dat d)) → ∀ f F, isf f F → (∀ c, (F c).cl = p.1 ∧ (F c).c = c) → ∃ c, BoxAt K Bx Wc f (F c) p.2.1 cds) →
      R ax δ Wc kb fun d _ => P.rt d k1) : SW K W (tRet (tCallL l (spX K n R) tr)) ρ k P := fun L0 H0 L H σ D S nx rt bk ct =>
  h L0 H0 L H σ S _ fun vs as k1 H1 S1 e1 ay g => by
    obtain ⟨hn, g⟩ := g
    intro cs H2 out free lentC lents
    obtain ⟨ax, fs, mt, hfs, axx⟩ := ay.x
    obtain ⟨b0, es, hbL, hB1⟩ := hbx _ _ _ _ (S1.slots i _ hi)
    have isFn : ∀ f ∈ fs, IsNd H1 f := fun f hf => (hfs f hf).2
    have trk2 := lend_trk S1.trk out lentC isFn free
    have nc : ∀ b o, H1 b = some o → b ∉ cs := fun b o e z => by rw [free b z] at e; cases e
    have bN : b0 ∈ L ++ W.M := List.mem_append_left _ hbL
    have bM : b0 ∉ W.M := S1.offM b0 hbL
    have bcs : b0 ∉ cs := fun z => (Bx b0).trk _ _ _ hB1 (free b0 z)
    have hl0 : b0 ∈ cs ++ (fs ++ (L ++ W.M)) := List.mem_append_right _ (List.mem_append_right _ bN)
    have caps2 : ∀ p ∈ capsOf σ ρ, T K (cs ++ (fs ++ (L ++ W.M))) H2 p.1 p.2 := fun p hp => lend_up out free isFn (caps_T S1 p hp)
    have ex12 : Ext (L ++ W.M) H1 H2 := fun b o _ e => by rw [out b (nc b o e)]; exact e
    have hB2 : (Bx b0).B kb (cs ++ (fs ++ (L ++ W.M))) H2 := (Bx b0).plus kb _ _ H2 (fun b hb => by
      rcases List.mem_append.mp hb with hb | hb
      · obtain ⟨o, v, e, _⟩ := lentC b hb
        exact .inr (by rw [e]; trivial)
      · rcases List.mem_append.mp hb with hb | hb
        · obtain ⟨F, e⟩ := isFn b hb
          exact .inr (by rw [out b (nc b _ e), e]; trivial)
        · exact .inl hb) ((Bx b0).loc kb _ H1 H2 (out b0 bcs) ex12 hB1)
    have len_ : ax.length = as.length := by
      clear g hn axx ay
      induction mt with
      | nil => rfl
      | dat _ ih => simp [ih]
      | fn _ _ ih => simp [ih]
    refine ⟨δ, boxW K (cs ++ (fs ++ (L ++ W.M))) H2 trk2 hl0 (Bx b0) (capsOf σ ρ), kb, ax, fun d _ => P.rt d k1, AX.lend out free isFn axx, len_.trans hn, ⟨fun _ _ _ => rfl, hB2, caps2⟩, ?_, fun v d k' H' e wi t q => ?_⟩
    · have fne : ∀ b ∈ fs, b ≠ b0 := fun b hb z => (hfs b hb).1 (z ▸ bN)
      have fe2 : ∀ b o, H1 b = some o → H2 b = some o := fun b o ho => by
        rw [out b (nc b _ ho)]
        exact ho
      have at_ : ∀ b ∈ fs, ∀ o, H1 b = some o → ∀ k N H, (boxW K (cs ++ (fs ++ (L ++ W.M))) H2 trk2 hl0 (Bx b0) (capsOf σ ρ)).I k N H → H b = some o := fun b hb o ho k N H wi => by
        rw [wi.1 b (List.mem_append_right _ (List.mem_append_left _ hb)) (fne b hb)]
        exact fe2 b o ho
      refine g ax _ _ mt (fun f F ⟨c, hf, _, ef, _⟩ k N H wi => ⟨_, at_ f hf _ ef k N H wi⟩) (fun p hp cds ecd f F ⟨c, hf, hc, ef, ec⟩ hF => ⟨c, ?_⟩) fun p hp js cds ejs ecd f F ⟨c, hf, hc, ef, ec⟩ hF => ⟨c, ?_⟩
      · obtain ⟨cws, ecw, tcw⟩ := caps_js S1 p.2.2 cds ecd
        have lp := lents p hp
        rw [ecw, ← (hF c).1] at lp
        exact fun m R0 => clo_pure (fun c hc => List.mem_append_left _ hc) (List.mem_append_right _ (List.mem_append_left _ hf)) (fun k N H wi => ⟨at_ f hf _ ef k N H wi, by rw [(hF c).2]; exact at_ c hc _ ec k N H wi⟩) bcs lp fun k N H wi => tcw N H wi.2.2
      · obtain ⟨cws, ecw, tcw⟩ := caps_js S1 js cds ecd
        have lp := lents p hp
        rw [ejs, List.map_append, ecw, List.map_cons, List.map_nil, slotAt_of es, ← (hF c).1] at lp
        have lp' : Lent (F c).cl p.2.1 ((cws ++ [V.ref b0]).map some) cs H2 := by
          rw [List.map_append]
          exact lp
        exact fun m R0 => clo_box rfl (fun c hc => List.mem_append_left _ hc) (List.mem_append_right _ (List.mem_append_left _ hf)) (fne f hf) bcs (fe2 f _ ef) (by rw [(hF c).2]; exact List.mem_append_right _ (List.mem_append_left _ hc)) (by rw [(hF c).2]; exact fne c hc) (by rw [(hF c).2]; exact fe2 c _ ec) lp' fun k N H wi => tcw N H wi.2.2
    · intro stay
      have same : ∀ b o, b ≠ b0 → H1 b = some o → offL cs H' b = some o := fun b o nb hb => by
        have hc := nc b o hb
        rw [offL_out hc]
        have h2 : H2 b = some o := by rw [out b hc]; exact hb
        by_cases hm : b ∈ cs ++ (fs ++ (L ++ W.M))
        · rw [wi.1 b hm nb]; exact h2
        · exact e b o hm h2
      have exL : Ext (L ++ W.M) H1 (offL cs H') := fun b o nb hb => same b o (fun z => nb (z ▸ bN)) hb
      refine rt v d k1 _ (fun b o nb hb => ?_) ?_ ?_ q
      · refine same b o (fun z => ?_) (S1.base b o nb hb)
        subst z
        rcases S1.fresh b hbL with q | q
        · exact nb (List.mem_append_left _ q)
        · rw [q] at hb; cases hb
      · refine W.plus k1 (L ++ W.M) _ _ (fun b hb => .inl (List.mem_append_right _ hb)) (fun _ hb => hb) (W.loc k1 _ H1 _ (fun b hb => ?_) exL S1.wd)
        have nb : b ≠ b0 := fun z => bM (z ▸ hb)
        cases q : H1 b with
        | none => exact absurd q (S1.trk b (List.mem_append_right _ hb))
        | some o => exact same b o nb q
      · have t1 : T K (cs ++ (fs ++ (L ++ W.M))) (offL cs H') v d := t.ext fun b o nb hb => by rw [offL_out fun z => nb (List.mem_append_left _ z)]; exact hb
        exact t1.off fun b hb => List.mem_append_right _ (List.mem_append_right _ (List.mem_append_right _ hb))
theorem own_box {ds : List PyData} (o : Option (Option V)) (L N : List Addr) (H : Hp) (h : SlotOk K N L H o (.own ds)) : ∃ l, o = some (some (.ref l)) ∧ l ∈ L ∧ (listBox K l).B ds N H := by
  obtain ⟨l, xs, h1, h2, h3, h4⟩ := h
  exact ⟨l, h1, h2, xs, h3, h4⟩
theorem ownN_box {D : Addr → List (NestedKey × Addr × V) → HO} (hD : IsDN D) {kvs : List (NestedKey × PyData)} (o : Option (Option V)) (L N : List Addr) (H : Hp) (h : SlotOk K N L H o (.ownN D kvs)) : ∃ l, o = some (some (.ref l)) ∧ l ∈ L ∧ (nestBox K D hD l).B kvs N H := by
  obtain ⟨l, xs, h1, h2, h3, h4⟩ := h
  exact ⟨l, h1, h2, xs, h3, h4⟩
end
end U

set_option Elab.async false
set_option linter.all false
set_option maxRecDepth 100000
set_option maxHeartbeats 2000000
namespace U
open PySem PySem.Spec PyProof.Rows L2

/-! ### data that are keys -/
section
variable {P : Program} {w : World} {K : PySem.W.Frag} {N : List Addr} {H : Hp} {h : Heap}
mutual
theorem T.nested (hok : HOk P w H h) : ∀ {v : V} {d : PyData} {k : NestedKey} {u : Value}, T K N H v d → nkey d = some k → RelV v u → NestedIs h k u
  | _, _, _, u, .non, e, r => by
    simp only [nkey, Option.some.injEq] at e
    subst e
    cases (show u = Value.none from r)
    exact .none
  | _, _, _, u, .bl b, e, r => by simp [nkey] at e
  | _, _, _, u, .int i, e, r => by
    simp only [nkey, Option.some.injEq] at e
    subst e
    obtain ⟨t, rfl⟩ := (show ∃ t, u = Value.int i t from r)
    exact .int i t
  | _, _, _, u, .str x, e, r => by
    simp only [nkey, Option.some.injEq] at e
    subst e
    obtain ⟨t, rfl⟩ := (show ∃ t, u = Value.str x t from r)
    exact .text x t
  | _, _, _, u, .tup (a := a) (xs := xs) n ha t, e, r => by
    simp only [nkey, Option.map_eq_some_iff] at e
    obtain ⟨ks, ek, rfl⟩ := e
    cases (show u = Value.ref a from r)
    obtain ⟨_, its, rs, o, h1, h2, m, h3⟩ := (show ObjOk P w H h a (.tup xs) from hok a _ ha)
    exact .tup h1 h2 h3 (TA.nested hok t ek rs)
  | _, _, _, _, .lst _ _ _, e, _ => by simp [nkey] at e
  | _, _, _, _, .dct _ _ _, e, _ => by simp [nkey] at e
theorem TA.nested (hok : HOk P w H h) : ∀ {vs : List V} {ds : List PyData} {ks : List NestedKey} {us : List Value}, TA K N H vs ds → nkeys ds = some ks → Vals vs us → NestedAll h ks us
  | _, _, _, _, .nil, e, r => by
    simp only [nkeys, Option.some.injEq] at e
    subst e
    cases r
    exact .nil
  | _, _, _, _, .cons (d := d) (ds := ds) hd t, e, r => by
    cases r with
    | cons r1 r2 =>
      cases e1 : nkey d with
      | none => simp [nkeys, e1] at e
      | some k =>
        cases e2 : nkeys ds with
        | none => simp [nkeys, e1, e2] at e
        | some ks' =>
          simp only [nkeys, e1, e2, Option.some.injEq] at e
          subst e
          exact .cons (T.nested hok hd e1 r1) (TA.nested hok t e2 r2)
end
end

/-! ### the dict's object -/
abbrev NR : List (NestedKey × Addr × V) → List (NestedKey × Addr × Value) → Prop := Paired fun p q => p.1 = q.1 ∧ p.2.1 = q.2.1 ∧ RelV p.2.2 q.2.2
def DN (P : Program) (w : World) (l : Addr) (xs : List (NestedKey × Addr × V)) : HO := .ext fun h => xs.length ≤ sizeLine ∧ (l == sysModules) = false ∧ ∃ us, NR xs us ∧
  ∃ o es ep, h.get? l = some o ∧ o.ExactDict ∧ o.data = .dict es ep ∧ es.toList = us.map (entryOfKey (nestedKind P w)) ∧ (us.map (·.1)).Nodup
theorem isDN (P : Program) (w : World) : IsDN (DN P w) := ⟨fun l xs o u z => by unfold DN at z; cases z⟩
def valN (xs : List (NestedKey × Addr × V)) (k : NestedKey) : Option V := (xs.find? fun x => decide (x.1 = k)).map (·.2.2)
def putNV (xs : List (NestedKey × Addr × V)) (k : NestedKey) (b : Addr) (v : V) : List (NestedKey × Addr × V) := if (valN xs k).isSome then xs.map (fun x => if x.1 = k then (x.1, x.2.1, v) else x) else xs ++ [(k, b, v)]
def lookN (kvs : List (NestedKey × PyData)) (k : NestedKey) : Option PyData := (kvs.find? fun x => decide (x.1 = k)).map (·.2)
def putN (kvs : List (NestedKey × PyData)) (k : NestedKey) (d : PyData) : List (NestedKey × PyData) := if (lookN kvs k).isSome then kvs.map (fun x => if x.1 = k then (x.1, d) else x) else kvs ++ [(k, d)]
theorem NR.val {xs : List (NestedKey × Addr × V)} {us : List (NestedKey × Addr × Value)} (r : NR xs us) (k : NestedKey) : (valN xs k = none ∧ atKey us k = none) ∨ ∃ v u b, valN xs k = some v ∧ atKey us k = some (b, u) ∧ RelV v u := by
  induction r with
  | nil => exact .inl ⟨rfl, rfl⟩
  | @cons p q ps qs h t ih =>
    by_cases e : q.1 = k
    · have e' : p.1 = k := h.1.trans e
      exact .inr ⟨p.2.2, q.2.2, q.2.1, by simp [valN, e'], by simp [atKey, e], h.2.2⟩
    · have e' : ¬ p.1 = k := fun z => e (h.1.symm.trans z)
      have a : valN (p :: ps) k = valN ps k := by simp [valN, e']
      have b : atKey (q :: qs) k = atKey qs k := by simp [atKey, e]
      rw [a, b]
      exact ih
theorem NR.some_eq {xs : List (NestedKey × Addr × V)} {us : List (NestedKey × Addr × Value)} (r : NR xs us) (k : NestedKey) : (atKey us k).isSome = (valN xs k).isSome := by
  rcases r.val k with ⟨a, b⟩ | ⟨v, u, b, h1, h2, _⟩
  · rw [a, b]; rfl
  · rw [h1, h2]; rfl
theorem NR.put {xs : List (NestedKey × Addr × V)} {us : List (NestedKey × Addr × Value)} (r : NR xs us) (k : NestedKey) (b : Addr) {v : V} {u : Value} (rv : RelV v u) : NR (putNV xs k b v) (storedH us k b u) := by
  unfold putNV storedH
  rw [r.some_eq k]
  by_cases q : (valN xs k).isSome = true
  · rw [if_pos q, if_pos q]
    clear q
    induction r with
    | nil => exact .nil
    | @cons p q ps qs h t ih =>
      rw [List.map_cons, List.map_cons]
      refine .cons ?_ ih
      unfold putAt
      by_cases e : q.1 = k
      · rw [if_pos e, if_pos (h.1.trans e)]
        exact ⟨h.1, h.2.1, rv⟩
      · rw [if_neg e, if_neg fun z => e (h.1.symm.trans z)]
        exact h
  · rw [if_neg q, if_neg q]
    exact Paired.snoc r ⟨rfl, rfl, rv⟩
theorem putNV_len (xs : List (NestedKey × Addr × V)) (k : NestedKey) (b : Addr) (v : V) : (putNV xs k b v).length ≤ xs.length + 1 := by
  unfold putNV
  split <;> simp
section
variable {K : PySem.W.Frag} {N : List Addr} {H : Hp}
theorem KN.len : ∀ {xs : List (NestedKey × Addr × V)} {kvs : List (NestedKey × PyData)}, KN K N H xs kvs → xs.length = kvs.length
  | _, _, .nil => rfl
  | _, _, .cons _ _ _ _ t => by rw [List.length_cons, List.length_cons, t.len]
theorem KN.look {xs : List (NestedKey × Addr × V)} {kvs : List (NestedKey × PyData)} (t : KN K N H xs kvs) (k : NestedKey) : (valN xs k = none ∧ lookN kvs k = none) ∨ ∃ v d, valN xs k = some v ∧ lookN kvs k = some d ∧ T K N H v d := by
  induction t with
  | nil => exact .inl ⟨rfl, rfl⟩
  | @cons k' a v e d xs ds _ _ _ tv t ih =>
    by_cases e : k' = k
    · exact .inr ⟨v, d, by simp [valN, e], by simp [lookN, e], tv⟩
    · have a1 : valN ((k', a, v) :: xs) k = valN xs k := by simp [valN, e]
      have a2 : lookN ((k', d) :: ds) k = lookN ds k := by simp [lookN, e]
      rw [a1, a2]
      exact ih
theorem KN.snoc {k : NestedKey} {a : Addr} {v : V} {e d : PyData} (h1 : nkey e = some k) (h2 : k.depth ≤ 8) (h3 : T K N H (.ref a) e) (h4 : T K N H v d) : ∀ {xs : List (NestedKey × Addr × V)} {kvs : List (NestedKey × PyData)}, KN K N H xs kvs → KN K N H (xs ++ [(k, a, v)]) (kvs ++ [(k, d)])
  | _, _, .nil => .cons h1 h2 h3 h4 .nil
  | _, _, .cons a b c d t => .cons a b c d (KN.snoc h1 h2 h3 h4 t)
theorem KN.put {xs : List (NestedKey × Addr × V)} {kvs : List (NestedKey × PyData)} (t : KN K N H xs kvs) {k : NestedKey} {a : Addr} {v : V} {e d : PyData} (h1 : nkey e = some k) (h2 : k.depth ≤ 8) (h3 : T K N H (.ref a) e) (h4 : T K N H v d) : KN K N H (putNV xs k a v) (putN kvs k d) := by
  unfold putNV putN
  have e : (valN xs k).isSome = (lookN kvs k).isSome := by
    rcases t.look k with ⟨a, b⟩ | ⟨v, d, a, b, _⟩ <;> rw [a, b] <;> rfl
  rw [e]
  by_cases q : (lookN kvs k).isSome = true
  · rw [if_pos q, if_pos q]
    clear q e
    induction t with
    | nil => exact .nil
    | @cons k' a' v' e' d' xs ds b1 b2 b3 b4 t ih =>
      rw [List.map_cons, List.map_cons]
      by_cases e : k' = k
      · rw [if_pos e, if_pos e]
        exact .cons b1 b2 b3 h4 ih
      · rw [if_neg e, if_neg e]
        exact .cons b1 b2 b3 b4 ih
  · rw [if_neg q, if_neg q]
    exact KN.snoc h1 h2 h3 h4 t
end

/-! ### the operations: of dicts of the kit's kinds, or of these -/
/-- y is the key k -/
def KeyY (K : PySem.W.Frag) (H : Hp) (y : V) (k : NestedKey) : Prop := ∃ N b e, y = .ref b ∧ T K N H (.ref b) e ∧ nkey e = some k ∧ k.depth ≤ 8
def NGet (P : Program) (w : World) (K : PySem.W.Frag) (H : Hp) (a : Addr) (y : V) (r : Option V) : Prop := DGet H a y r ∨ ∃ N xs kvs k, H a = some (DN P w a xs) ∧ KN K N H xs kvs ∧ KeyY K H y k ∧ r = valN xs k
def NPut (P : Program) (w : World) (K : PySem.W.Frag) (H : Hp) (a : Addr) (y v : V) (H' : Hp) : Prop := DPut H a y v H' ∨ ∃ N xs kvs k b, H a = some (DN P w a xs) ∧ KN K N H xs kvs ∧ y = .ref b ∧ KeyY K H y k ∧ xs.length < sizeLine ∧ H' = upd H a (DN P w a (putNV xs k b v))
section
variable {X : Cx} {pins : List (Addr × Obj)} {σ : L2.St} {H H' : Hp} {s : Shared} {a : Addr} {y v : V} {u r : Value} {o : Option V} {A : Around} {E : Value → Shared → Prop} {K : PySem.W.Frag}
theorem dn_at {N : List Addr} {xs : List (NestedKey × Addr × V)} {kvs : List (NestedKey × PyData)} (I : Inv X pins σ H s) (e : H a = some (DN X.prog X.w a xs)) (t : KN K N H xs kvs) :
    xs.length ≤ sizeLine ∧ (a == sysModules) = false ∧ ∃ us, NR xs us ∧ s.heap.DictOfH (nestedKind X.prog X.w) a us := by
  obtain ⟨⟨z, hd, us, rel, ob, es, ep, h1, h2, h3, h4, h5⟩, _, _⟩ := I.hok a _ e
  refine ⟨z, hd, us, rel, ob, es, ep, h1, h2, h3, h4, fun x hx => ?_, h5⟩
  have key : ∀ {xs : List (NestedKey × Addr × V)} {us : List (NestedKey × Addr × Value)} {kvs : List (NestedKey × PyData)}, NR xs us → KN K N H xs kvs → ∀ x ∈ us, (nestedKind X.prog X.w).is s.heap x.1 x.2.1 := by
    intro xs us kvs r
    induction r generalizing kvs with
    | nil => intro _ x hx; exact nomatch hx
    | @cons p q ps qs h t ih =>
      intro kn x hx
      cases kn with
      | @cons k' a' v' e' d' _ ds b1 b2 b3 b4 t' =>
        rcases List.mem_cons.mp hx with rfl | hx
        · have h1 : k' = x.1 := h.1
          have h2 : a' = x.2.1 := h.2.1
          subst h1 h2
          exact ⟨T.nested I.hok b3 b1 rfl, b2⟩
        · exact ih t' x hx
  exact key rel t x hx
theorem key_at {k : NestedKey} (I : Inv X pins σ H s) (ky : KeyY K H y k) (ry : RelV y u) : ∃ b, u = .ref b ∧ y = .ref b ∧ (nestedKind X.prog X.w).is s.heap k b := by
  obtain ⟨N, b, e, rfl, t, hk, hd⟩ := ky
  cases (show u = Value.ref b from ry)
  exact ⟨b, rfl, rfl, T.nested I.hok t hk rfl, hd⟩
theorem nroom (hu : A.units + 9 < cLine) : (nestedKind X.prog X.w).room A.in1 := by
  show A.in1.units + 8 < cLine
  rw [Around.in1_units]
  omega
theorem n_getItem {Q : Value → Shared → Prop} (hu : A.units + 9 < cLine) (I : Inv X pins σ H s) (g : NGet X.prog X.w K H a y (some v)) (ry : RelV y u) (h : ∀ w' s', Inv X pins σ H s' → RelV v w' → Q w' s') :
    wpAny (model X.prog X.w) A (getItem (.ref a) u) Q E s := by
  rcases g with g | ⟨N, xs, kvs, k, e, t, ky, l⟩
  · exact d_getItem (by omega) I g ry h
  · obtain ⟨b, rfl, _, hk⟩ := key_at I ky ry
    obtain ⟨z, hd, us, rel, dd⟩ := dn_at I e t
    rcases rel.val k with ⟨q, _⟩ | ⟨v', u', b', h1, h2, rv⟩
    · rw [q] at l; cases l
    · rw [h1] at l
      cases l
      exact wpAny_getItem_heap (nroom hu) hk dd h2 (h u' _ (I.tok _) rv)
theorem n_in {Q : Value → Shared → Prop} (hu : A.units + 9 < cLine) (I : Inv X pins σ H s) (g : NGet X.prog X.w K H a y o) (ry : RelV y u) (h : ∀ s', Inv X pins σ H s' → Q (.bool o.isSome) s') :
    wpAny (model X.prog X.w) A (compareOp .In u (.ref a)) Q E s := by
  rcases g with g | ⟨N, xs, kvs, k, e, t, ky, l⟩
  · exact d_in (by omega) I g ry h
  · obtain ⟨b, rfl, _, hk⟩ := key_at I ky ry
    obtain ⟨z, hd, us, rel, dd⟩ := dn_at I e t
    refine wpAny_in_heap (nroom hu) hk hd dd ?_
    rw [rel.some_eq k, ← l]
    exact h _ (I.tok _)
theorem n_notIn {Q : Value → Shared → Prop} (hu : A.units + 9 < cLine) (I : Inv X pins σ H s) (g : NGet X.prog X.w K H a y o) (ry : RelV y u) (h : ∀ s', Inv X pins σ H s' → Q (.bool (!o.isSome)) s') :
    wpAny (model X.prog X.w) A (compareOp .NotIn u (.ref a)) Q E s := by
  rcases g with g | ⟨N, xs, kvs, k, e, t, ky, l⟩
  · exact d_notIn (by omega) I g ry h
  · obtain ⟨b, rfl, _, hk⟩ := key_at I ky ry
    obtain ⟨z, hd, us, rel, dd⟩ := dn_at I e t
    refine wpAny_notIn_heap (nroom hu) hk hd dd ?_
    rw [rel.some_eq k, ← l]
    exact h _ (I.tok _)
theorem dn_new {P : Program} {w : World} {H' : Hp} {h' : Heap} {xs : List (NestedKey × Addr × V)} {us : List (NestedKey × Addr × Value)} (z : xs.length ≤ sizeLine) (hd : (a == sysModules) = false) (rel : NR xs us) (dd : h'.DictOfH (nestedKind P w) a us) :
    ObjOk P w H' h' a (DN P w a xs) := by
  obtain ⟨ob, es, ep, h1, h2, h3, h4, h5, h6⟩ := dd
  exact ⟨⟨z, hd, us, rel, ob, es, ep, h1, h2, h3, h4, h6⟩, ⟨_, h1⟩, fun g1 g2 ⟨c1, c2, us', r', ob', es', ep', d1, d2⟩ k => ⟨c1, c2, us', r', ob', es', ep', k _ d1, d2⟩⟩
theorem n_setItem {Q : Unit → Shared → Prop} (hu : A.units + 9 < cLine) (I : Inv X pins σ H s) (g : NPut X.prog X.w K H a y v H') (ry : RelV y u) (rv : RelV v r) (h : ∀ s', Inv X pins σ H' s' → Q () s') :
    wpAny (model X.prog X.w) A (setItem (.ref a) u r) Q E s := by
  rcases g with g | ⟨N, xs, kvs, k, b, e, t, rfl, ky, l, eH⟩
  · exact d_setItem (by omega) I g ry rv h
  · subst eH
    obtain ⟨b', rfl, eb, hk⟩ := key_at I ky ry
    cases eb
    obtain ⟨z, hd, us, rel, dd⟩ := dn_at I e t
    have hz : us.length ≤ sizeLine := by rw [← rel.length]; exact z
    refine wpAny_setItem_heap (hsz := hz) (nroom hu) hk dd fun h' dd' hs => h _ ?_
    have he : ∃ q, h'.get? a = some q := let ⟨q, _, _, hq, _⟩ := dd'; ⟨q, hq⟩
    have hl : (putNV xs k b v).length ≤ sizeLine := by have := putNV_len xs k b v; omega
    exact d_write I (by rw [e]; exact True.intro) hs he (dn_new hl hd (rel.put k b rv) dd')
theorem ndict_typeIs (I : Inv X pins σ H s) (g : NGet X.prog X.w K H a y o) : s.TypeIs (.ref a) "dict" := by
  rcases g with g | ⟨N, xs, kvs, k, e, t, ky, l⟩
  · exact dict_typeIs I g
  · obtain ⟨_, _, us, _, dd⟩ := dn_at I e t
    exact dd.typeIs
end
def tNGet (P : Program) (w : World) (K : PySem.W.Frag) (td ty : TE) : TE := fun σ H Q => td σ H fun x H1 => ty σ H1 fun y H2 => ∃ a v, x = .ref a ∧ NGet P w K H2 a y (some v) ∧ Q v H2
def tNIn (P : Program) (w : World) (K : PySem.W.Frag) (ty td : TE) : TE := fun σ H Q => ty σ H fun y H1 => td σ H1 fun x H2 => ∃ a o, x = .ref a ∧ NGet P w K H2 a y o ∧ Q (.bl o.isSome) H2
def tNNotIn (P : Program) (w : World) (K : PySem.W.Frag) (ty td : TE) : TE := fun σ H Q => ty σ H fun y H1 => td σ H1 fun x H2 => ∃ a o, x = .ref a ∧ NGet P w K H2 a y o ∧ Q (.bl (!o.isSome)) H2
def sNPut (P : Program) (w : World) (K : PySem.W.Frag) (td ty tv : TE) : TS := fun D σ H => tv σ H fun v H1 => td σ H1 fun x H2 => ty σ H2 fun y H3 => ∃ a H4, x = .ref a ∧ NPut P w K H3 a y v H4 ∧ D.nx σ H4
section
variable {X : Cx} {K : PySem.W.Frag} {o i value : Expr} {pos pos' : Pos} {td ty tv : TE}
theorem pe_nget (hu : X.A.units + 9 < cLine) (ho : PE X o td) (hi : PE X i ty) (hs : NoSl i) : PE X (.Subscript o i pos) (tNGet X.prog X.w K td ty) := by
  constructor
  intro pins s σ H Q I h
  apply subD_of PySem.F.slot_dict_getitem.lookup hs
  refine thn (ho.run pins s σ H _ I h) ?_
  rintro u s1 ⟨x, H1, I1, rx, q1⟩
  refine thn (hi.run pins s1 σ H1 _ I1 q1) ?_
  rintro iv s2 ⟨y, H2, I2, ry, a, v, rfl, g, q2⟩
  cases (show u = Value.ref a from rx)
  exact ⟨ndict_typeIs I2 g, n_getItem hu I2 g ry fun w' s3 I3 rw' => ⟨v, H2, I3, rw', q2⟩⟩
theorem pc_nin (hu : X.A.units + 9 < cLine) (hi : PE X i ty) (ho : PE X o td) : PC X .In i o (tNIn X.prog X.w K ty td) := by
  constructor
  intro pins s σ H Q I h
  refine thn (hi.run pins s σ H _ I h) ?_
  rintro iv s1 ⟨y, H1, I1, ry, q1⟩
  refine thn (ho.run pins s1 σ H1 _ I1 q1) ?_
  rintro u s2 ⟨x, H2, I2, rx, a, ov, rfl, g, q2⟩
  cases (show u = Value.ref a from rx)
  exact n_in hu I2 g ry fun s3 I3 => ⟨.bl ov.isSome, H2, I3, rfl, q2⟩
theorem pc_nnotin (hu : X.A.units + 9 < cLine) (hi : PE X i ty) (ho : PE X o td) : PC X .NotIn i o (tNNotIn X.prog X.w K ty td) := by
  constructor
  intro pins s σ H Q I h
  refine thn (hi.run pins s σ H _ I h) ?_
  rintro iv s1 ⟨y, H1, I1, ry, q1⟩
  refine thn (ho.run pins s1 σ H1 _ I1 q1) ?_
  rintro u s2 ⟨x, H2, I2, rx, a, ov, rfl, g, q2⟩
  cases (show u = Value.ref a from rx)
  exact n_notIn hu I2 g ry fun s3 I3 => ⟨.bl (!ov.isSome), H2, I3, rfl, q2⟩
theorem ps_nput (hu : X.A.units + 9 < cLine) (ho : PE X o td) (hi : PE X i ty) (hv : PE X value tv) (hs : swapsWith value (some (.Subscript o i pos')) pos.line X.env = pure false) :
    PS X (.Assign [.Subscript o i pos'] value pos) (sNPut X.prog X.w K td ty tv) := by
  constructor
  intro pins s σ H D I h
  refine wpAny_Assign_Subscript (thn (hv.run pins s σ H _ I h) ?_) hs
  rintro r s1 ⟨v, H1, I1, rv, q1⟩
  refine thn (ho.run pins s1 σ H1 _ I1 q1) ?_
  rintro u s2 ⟨x, H2, I2, rx, q2⟩
  refine thn (hi.run pins s2 σ H2 _ I2 q2) ?_
  rintro iv s3 ⟨y, H3, I3, ry, a, H4, rfl, g, q3⟩
  cases (show u = Value.ref a from rx)
  exact n_setItem hu I3 g ry rv fun s4 I4 => ⟨σ, H4, I4, q3⟩
/-- {} for such a dict -/
def tDNewN (P : Program) (w : World) : TE := fun _ H Q => ∀ p, H p = none → Q (.ref p) (upd H p (DN P w p []))
theorem pe_dnewN : PE X (.Dict [] [] pos) (tDNewN X.prog X.w) := by
  constructor
  intro pins s σ H Q I h
  apply wpAny_Dict_empty
  have ok : ObjOk X.prog X.w (upd H s.heap.objs.size (DN X.prog X.w s.heap.objs.size [])) (s.heap.push { cls := .type "dict", data := .dict #[] }) s.heap.objs.size (DN X.prog X.w s.heap.objs.size []) :=
    dn_new (us := []) (Nat.zero_le _) (beq_eq_false_iff_ne.mpr (Ne.symm (Nat.ne_of_lt I.big))) .nil (Heap.DictOfH.new s.heap)
  exact ⟨.ref s.heap.objs.size, _, I.laid (a := s.heap.objs.size) (t' := s.toks) (fun _ _ q => Heap.get?_push_of_some _ q) (Nat.le_refl _) ok, rfl, h _ (I.hok.fresh (Nat.le_refl _))⟩
end
end U

set_option Elab.async false
set_option linter.all false
set_option maxRecDepth 100000
set_option maxHeartbeats 2000000
namespace U
open PySem PySem.Spec PyProof.Rows L2 NdefX LamX

/-! ### a def in a def: what is written -/
section
variable {X : Cx} {pins : List (Addr × Obj)} {σ : L2.St} {H : Hp} {s : Shared}
/-- a place's code object: it is new, its table grows by it; or the table has it -/
def NewFn (pos : Pos) (P : Addr) (mk : Addr → NF) (H : Hp) (Z : Addr → Hp → Prop) : Prop := ∃ ps : Array Value, H P = some (.tbl ps) ∧ TriplesOk ps.toList ∧
  (codeAmong pos ps.toList = none → ∀ c f, H c = none → H f = none → c ≠ f →
    Z f (upd (upd (upd H P (.tbl (ps ++ #[rawInt pos.line, rawInt pos.col, .ref c]))) c (CodeO c (mk c).qual)) f (FnO f (mk c)))) ∧
  ∀ cv, codeAmong pos ps.toList = some cv → ∃ c, cv = .ref c ∧ ∀ f, H f = none → Z f (upd H f (FnO f (mk c)))
theorem newFn {c P : Addr} {name : Str} {params : Arguments} {body : List Stmt} {scope : Scope} {pos : Pos} {E : Value → Shared → Prop} {Q : Value → Shared → Prop} (I : Inv X pins σ H s)
    (TB : TabB X.base X.mg c P) (hcode : X.env.code = .ref c) (hfree : ∀ y ∈ scope.names, y.2 = .free → ∃ c, X.env.cells.lookup y.1 = some c)
    (h : NewFn pos P (fun c' => ⟨name, X.env.qual ++ name, params, body, scope, cloFrom X.env.cells scope.names [], c'⟩) H fun f H1 => ∀ s', Inv X pins σ H1 s' → Q (.ref f) s') :
    wpAny (model X.prog X.w) X.A (makeFunction name (X.env.qual ++ name) params (.stmts body) scope X.env [] [] [] pos pos.line) Q E s := by
  obtain ⟨ps, hP, tri, new, old⟩ := h
  have atP : s.heap.get? P = some { cls := .none, data := .fields ps } := I.hok P _ hP
  have ns := I.mod.glob.keeps I.bk
  have hd := TB.code.keeps I.bk
  have bi := TB.bm.keeps I.bk
  cases am : codeAmong pos ps.toList with
  | some cv =>
    obtain ⟨c', rfl, go⟩ := old cv am
    apply PySem.W.makeFunction_hit (closure_ok hfree) I.ok.glob ns hcode hd atP tri am bi
    intro ctv doc h' tk keep size
    have J := I.kept (t' := tk) keep
    exact go _ (J.hok.fresh (Nat.le_refl _)) _ (inv_fn (t' := tk) (doc := doc) (ctv := ctv) J rfl)
  | none =>
    apply PySem.W.makeFunction_K (closure_ok hfree) I.ok.glob ns hcode hd atP tri am TB.gP bi
    intro c' ctv doc h' tk keep above below code tab
    obtain ⟨c2, oc, vs, t, e2, hoc, hdata, hv⟩ := code
    cases e2
    have nc : H c' = none := I.hok.fresh above
    have J := inv_table (t' := tk) (more := #[rawInt pos.line, rawInt pos.col, .ref c']) (h' := h') I hP (fun b o hb e => keep b o hb e) tab above ⟨oc, vs, t, hoc, hdata, hv⟩
    have nf : H h'.objs.size = none := by
      refine I.hok.fresh (Nat.le_trans above (Nat.le_of_lt below))
    exact new am c' _ nc nf (Nat.ne_of_lt below) _ (inv_fn (t' := tk) (doc := doc) (ctv := ctv) J rfl)
end
/-- the reading of «def name(..): ..» -/
def tNdefX (pos : Pos) (P : Addr) (i : Nat) (mk : Addr → NF) : TS := fun D σ H => NewFn pos P mk H fun f H1 => D.nx (σ.set i (some (.ref f))) H1
section
variable {X : Cx}
theorem ps_ndefX {st : Stmt} {c P : Addr} {name : Str} {pos : Pos} {i : Nat} (hst : st = .FunctionDef name (C8.fnArgs st) (C8.fnBody st) [] none [] (C8.fnScope st) none name pos) (TB : TabB X.base X.mg c P) (hcode : X.env.code = .ref c)
    (hfree : ∀ y ∈ (C8.fnScope st).names, y.2 = .free → X.env.scope.names.lookup y.1 = some .cell ∨ X.env.scope.names.lookup y.1 = some .free)
    (hd0 : (C8.fnArgs st).defaults = []) (hk0 : (C8.fnArgs st).kw_defaults = []) (ha : annTrees (C8.fnArgs st) none X.env = []) (hN : X.N.Nodup) (hi : X.N[i]? = some name) (hx : Loc X.env.scope name)
    (hf : X.fn name = true ∨ X.env.scope.names.lookup name = some .local) : PS X st (tNdefX pos P i (NF.of st name (X.env.qual ++ name) (cloFrom X.env.cells (C8.fnScope st).names []))) := by
  rw [hst]
  constructor
  intro pins s σ H D I h
  rw [← hst] at h
  have hq : qualnameIn X.env name name = X.env.qual ++ name := by
    have k : X.env.kindOf name = some .local ∨ X.env.kindOf name = some .cell := hx
    unfold qualnameIn
    cases k with
    | inl k => rw [k]; rfl
    | inr k => rw [k]; exact if_neg (by decide)
  apply PySem.W.nestDef_K hd0 hk0 ha
  rw [hq]
  apply newFn I TB hcode fun y hy e => (hfree y hy e).elim (fun z => I.ok.has _ (.inl z)) fun z => I.ok.has _ (.inr z)
  obtain ⟨ps, h1, h2, h3, h4⟩ := h
  refine ⟨ps, h1, h2, fun am c f hc hf' ne s' J => store_ok (v := .ref f) J hN hi hx rfl (fun s'' J' => ⟨_, _, J', h3 am c f hc hf' ne⟩) hf, fun cv am => ?_⟩
  obtain ⟨c, e, g⟩ := h4 cv am
  exact ⟨c, e, fun f hf' s' J => store_ok (v := .ref f) J hN hi hx rfl (fun s'' J' => ⟨_, _, J', g f hf'⟩) hf⟩
end
end U

set_option Elab.async false
set_option linter.all false
set_option maxRecDepth 100000
set_option maxHeartbeats 2000000
namespace U
open PySem PySem.Spec PyProof.Rows L2 NdefX LamX

/-! ### tables of code objects in a world -/
def TabsAt (T : List NTab) (N : List Addr) (H : Hp) : Prop := ∀ p ∈ T, ∃ ps : Array Value, H p.1 = some (.tbl ps) ∧ TriplesOk ps.toList ∧
  ∀ (pos : Pos) (cv : Value), codeAmong pos ps.toList = some cv → ∃ c, cv = .ref c ∧ c ∉ N ∧ H c = some (CodeO c (p.2 pos.line pos.col))
theorem TabsAt.loc {T : List NTab} {M N : List Addr} {H H' : Hp} (hM : ∀ p ∈ T, p.1 ∈ M) (e : ∀ b, b ∈ M → H' b = H b) (x : Ext N H H') (t : TabsAt T N H) : TabsAt T N H' := fun p hp => by
  obtain ⟨ps, h1, h2, h3⟩ := t p hp
  refine ⟨ps, (e _ (hM p hp)).trans h1, h2, fun pos cv hc => ?_⟩
  obtain ⟨c, rfl, nc, hcc⟩ := h3 pos cv hc
  exact ⟨c, rfl, nc, x c _ nc hcc⟩
theorem TabsAt.plus {T : List NTab} {N N' : List Addr} {H : Hp} (s : ∀ b, b ∈ N' → b ∈ N ∨ H b = none) (t : TabsAt T N H) : TabsAt T N' H := fun p hp => by
  obtain ⟨ps, h1, h2, h3⟩ := t p hp
  refine ⟨ps, h1, h2, fun pos cv hc => ?_⟩
  obtain ⟨c, rfl, nc, hcc⟩ := h3 pos cv hc
  exact ⟨c, rfl, fun z => (s c z).elim nc (fun q => by rw [hcc] at q; cases q), hcc⟩
theorem TabsAt.trk {T : List NTab} {N : List Addr} {H : Hp} (t : TabsAt T N H) {b : Addr} (hb : b ∈ T.map Prod.fst) : H b ≠ none := by
  obtain ⟨p, hp, rfl⟩ := List.mem_map.mp hb
  obtain ⟨ps, h1, _⟩ := t p hp
  rw [h1]
  simp
theorem TabsAt.nil {T : List NTab} {N : List Addr} {H : Hp} (h : ∀ p ∈ T, H p.1 = some (.tbl #[])) : TabsAt T N H := fun p hp => ⟨#[], h p hp, trivial, fun pos cv hc => by
  have z : codeAmong pos [] = some cv := hc
  simp [codeAmong] at z⟩
class HasT {γ : Type} (W : Wd γ) (T : outParam (List NTab)) : Prop where
  mem : ∀ p ∈ T, p.1 ∈ W.M
  get : ∀ k N H, (∀ b ∈ W.M, b ∈ N) → W.I k N H → TabsAt T N H
  put : ∀ k N H H', (∀ b ∈ W.M, b ∈ N) → W.I k N H → Ext (T.map Prod.fst) H H' → TabsAt T N H' → W.I k N H'
theorem tabs_sub {γ : Type} {W : Wd γ} {T : List NTab} (h : ∀ p ∈ T, p.1 ∈ W.M) : ∀ b ∈ T.map Prod.fst, b ∈ W.M := fun b hb => by
  obtain ⟨p, hp, rfl⟩ := List.mem_map.mp hb
  exact h p hp
/-- nothing but the tables is written at M -/
def tabW (M : List Addr) (Hs : Hp) (t : Trk M Hs) (T : List NTab) (hT : ∀ p ∈ T, p.1 ∈ M) : Wd Nat where
  M := M
  I := fun _ N H => (∀ b, b ∈ M → b ∉ T.map Prod.fst → H b = Hs b) ∧ TabsAt T N H
  loc := fun _ N H H' e x ⟨h1, h2⟩ => ⟨fun b hb n => (e b hb).trans (h1 b hb n), h2.loc hT e x⟩
  plus := fun _ N N' H s _ ⟨h1, h2⟩ => ⟨h1, h2.plus s⟩
  trk := fun _ N H ⟨h1, h2⟩ b hb z => by
    by_cases e : b ∈ T.map Prod.fst
    · exact h2.trk e z
    · rw [h1 b hb e] at z
      exact t b hb z
instance {M : List Addr} {Hs : Hp} {t : Trk M Hs} {T : List NTab} {hT : ∀ p ∈ T, p.1 ∈ M} : HasT (tabW M Hs t T hT) T where
  mem := hT
  get := fun k N H _ h => h.2
  put := fun k N H H' _ h e ht => ⟨fun b hb n => by
    have w := h.1 b hb n
    cases z : H b with
    | none => exact absurd z ((tabW M Hs t T hT).trk k N H h b hb)
    | some o => rw [← w, z]; exact e b o n z, ht⟩
/-- the law's world: a deck and tables -/
def deckT (M : List Addr) (p q : Addr) (Hs : Hp) (t : Trk M Hs) (hp : p ∈ M) (hq : q ∈ M) (T : List NTab) (hT : ∀ x ∈ T, x.1 ∈ M) (hn : p ∉ T.map Prod.fst ∧ q ∉ T.map Prod.fst) : Wd Nat where
  M := M
  I := fun k N H => (∃ n, n ≤ k ∧ Deck H p q n) ∧ (∀ b, b ∈ M → b ≠ p → b ≠ q → b ∉ T.map Prod.fst → H b = Hs b) ∧ TabsAt T N H
  loc := fun k N H H' e x ⟨⟨n, h0, d⟩, h1, h2⟩ => ⟨⟨n, h0, d.of (e p hp) (e q hq)⟩, fun b hb a c n => (e b hb).trans (h1 b hb a c n), h2.loc hT e x⟩
  plus := fun _ N N' H s _ ⟨h0, h1, h2⟩ => ⟨h0, h1, h2.plus s⟩
  trk := fun _ N H ⟨⟨n, _, d⟩, h1, h2⟩ b hb z => by
    by_cases e : b ∈ T.map Prod.fst
    · exact h2.trk e z
    · by_cases e1 : b = p
      · rw [e1, d.top] at z; cases z
      · by_cases e2 : b = q
        · obtain ⟨cs, hc, _⟩ := d.cells
          rw [e2, hc] at z; cases z
        · rw [h1 b hb e1 e2 e] at z
          exact t b hb z
section
variable {M : List Addr} {p q : Addr} {Hs : Hp} {t : Trk M Hs} {hp : p ∈ M} {hq : q ∈ M} {T : List NTab} {hT : ∀ x ∈ T, x.1 ∈ M} {hn : p ∉ T.map Prod.fst ∧ q ∉ T.map Prod.fst}
instance : HasT (deckT M p q Hs t hp hq T hT hn) T where
  mem := hT
  get := fun k N H _ h => h.2.2
  put := fun k N H H' _ h e ht => by
    obtain ⟨⟨n, h0, d⟩, h1, h2⟩ := h
    have keep : ∀ b, b ∈ M → b ∉ T.map Prod.fst → H' b = H b := fun b hb n => by
      cases z : H b with
      | none => exact absurd z ((deckT M p q Hs t hp hq T hT hn).trk k N H ⟨⟨_, h0, d⟩, h1, h2⟩ b hb)
      | some o => exact e b o n z
    exact ⟨⟨n, h0, d.of (keep p hp hn.1) (keep q hq hn.2)⟩, fun b hb a c n => (keep b hb n).trans (h1 b hb a c n), ht⟩
instance : HasD (deckT M p q Hs t hp hq T hT hn) p q where
  memp := hp
  memq := hq
  get := fun k N H h => h.1
  put := fun k k' N H H' n' pN qN h e d hn' => by
    obtain ⟨⟨n, h0, d0⟩, h1, h2⟩ := h
    have keep : ∀ b, b ∈ M → b ≠ p → b ≠ q → H' b = H b := fun b hb a c => by
      cases z : H b with
      | none => exact absurd z ((deckT M p q Hs t hp hq T hT hn).trk k N H ⟨⟨_, h0, d0⟩, h1, h2⟩ b hb)
      | some o => exact e b o (by simp [a, c]) z
    refine ⟨⟨n', hn', d⟩, fun b hb a c n => (keep b hb a c).trans (h1 b hb a c n), fun x hx => ?_⟩
    obtain ⟨ps, g1, g2, g3⟩ := h2 x hx
    have xm : x.1 ∈ T.map Prod.fst := List.mem_map.mpr ⟨x, hx, rfl⟩
    refine ⟨ps, (keep _ (hT x hx) (fun z => hn.1 (z ▸ xm)) fun z => hn.2 (z ▸ xm)).trans g1, g2, fun pos cv hc => ?_⟩
    obtain ⟨c, rfl, nc, hcc⟩ := g3 pos cv hc
    exact ⟨c, rfl, nc, e c _ (by simp only [List.mem_cons, List.not_mem_nil, or_false, not_or]; exact ⟨fun z => nc (z ▸ pN), fun z => nc (z ▸ qN)⟩) hcc⟩
end
section
variable {K : PySem.W.Frag} {γ : Type} {W : Wd γ} {T : List NTab} {ρ : Rho} {k : γ} {Φ : PyData → γ → Prop} {tr : L2.TA} {n : Nat} {R : List PyData → PyData → Prop}
/-- def name(..): .. -/
theorem sw_ndef [hT : HasT W T] {P : Ps γ} {i : Nat} {pos : Pos} {A : Addr} {nm : Nat → Nat → Str} {mk : Addr → NF} (hm : (A, nm) ∈ T) (hu : ∀ p ∈ T, p.1 = A → p.2 = nm) (hn : ∀ c, (mk c).qual = nm pos.line pos.col)
    (q : P.nx (ρ.set i (.fn mk)) k) : SW K W (tNdefX pos A i mk) ρ k P := fun L0 H0 L H σ D S nx _ _ _ => by
  have hM : ∀ b ∈ W.M, b ∈ L ++ W.M := fun b hb => List.mem_append_right _ hb
  have tabs := hT.get _ _ _ hM S.wd
  obtain ⟨ps, h1, h2, h3⟩ := tabs _ hm
  refine ⟨ps, h1, h2, fun am c f hc hf ne => ?_, fun cv am => ?_⟩
  · have hcP : c ≠ A := fun z => by rw [z, h1] at hc; cases hc
    have hfP : f ≠ A := fun z => by rw [z, h1] at hf; cases hf
    have eL : (ps ++ #[rawInt pos.line, rawInt pos.col, .ref c]).toList = ps.toList ++ [rawInt pos.line, rawInt pos.col, .ref c] := by simp
    generalize hG : upd (upd (upd H A (.tbl (ps ++ #[rawInt pos.line, rawInt pos.col, .ref c]))) c (CodeO c (mk c).qual)) f (FnO f (mk c)) = G
    have gf : G f = some (FnO f (mk c)) := by rw [← hG, upd_same]
    have gc : G c = some (CodeO c (mk c).qual) := by rw [← hG, upd_ne ne, upd_same]
    have gA : G A = some (.tbl (ps ++ #[rawInt pos.line, rawInt pos.col, .ref c])) := by rw [← hG, upd_ne hfP.symm, upd_ne hcP.symm, upd_same]
    have go : ∀ b o, b ≠ A → H b = some o → G b = some o := fun b o nb hb => by
      rw [← hG, upd_ne (ne_of_none hb hf), upd_ne (ne_of_none hb hc), upd_ne nb]
      exact hb
    have AT : A ∈ T.map Prod.fst := List.mem_map.mpr ⟨_, hm, rfl⟩
    have ext : Ext (T.map Prod.fst) H G := fun b o nb hb => go b o (fun z => nb (z ▸ AT)) hb
    have tabs' : TabsAt T (L ++ W.M) G := fun p hp => by
      by_cases e : p.1 = A
      · have enm := hu p hp e
        rw [e, enm]
        refine ⟨_, gA, by rw [eL]; exact PySem.TriplesOk_snoc _ _ _ _ h2, fun pos' cv hcv => ?_⟩
        rw [eL] at hcv
        rcases among_app2 _ h2 hcv with z | ⟨z, z1, z2⟩
        · obtain ⟨c0, e1, nc0, e2⟩ := h3 pos' cv z
          refine ⟨c0, e1, nc0, go c0 _ (fun z => ?_) e2⟩
          rw [z, h1] at e2
          cases e2
        · refine ⟨c, z, S.nin hc, ?_⟩
          rw [gc, hn c, z1, z2]
      · obtain ⟨ps', a1, a2, a3⟩ := tabs p hp
        refine ⟨ps', go _ _ e a1, a2, fun pos' cv hcv => ?_⟩
        obtain ⟨c0, e1, nc0, e2⟩ := a3 pos' cv hcv
        refine ⟨c0, e1, nc0, go c0 _ (fun z => ?_) e2⟩
        rw [z, h1] at e2
        cases e2
    have S1 : Stt K W L0 H0 L G σ ρ k := S.ext (ext.sub (tabs_sub hT.mem)) (hT.put _ _ _ _ hM S.wd ext tabs')
    exact nx _ _ _ _ _ (S1.setFn i (S.nin hf) (S.nin hc) gf gc) q
  · obtain ⟨c, rfl, nc, hcc⟩ := h3 pos cv am
    refine ⟨c, rfl, fun f hf => ?_⟩
    have S1 := S.new (o := FnO f (mk c)) hf
    exact nx _ _ _ _ _ (S1.setFn i (S.nin hf) nc upd_same (by rw [upd_ne (ne_of_none hcc hf), hcc, hn c])) q
/-- a def that writes nothing but tables -/
def spT (K : PySem.W.Frag) (T : List NTab) (n : Nat) (R : List PyData → PyData → Prop) : Sp := fun vs H Q _ => ∃ (M : List Addr) (ds : List PyData) (r : PyData), TA K M H vs ds ∧ Trk M H ∧ (∀ p ∈ T, p.1 ∈ M) ∧ TabsAt T M H ∧ ds.length = n ∧ R ds r ∧
  ∀ v H', Ext (T.map Prod.fst) H H' → TabsAt T M H' → U.T K M H' v r → Q v H'
theorem ev_callT [hT : HasT W T] (h : EvA K W tr ρ k fun ds k1 => ds.length = n ∧ ∃ r, R ds r ∧ Φ r k1) : EvW K W (tCall (spT K T n R) [] E0 tr) ρ k Φ := fun L0 H0 L H σ S Q c =>
  h L0 H0 L H σ S _ fun vs ds k1 H1 S1 e1 ta g => by
    obtain ⟨hl, r, hR, q⟩ := g
    have hM : ∀ b ∈ W.M, b ∈ L ++ W.M := fun b hb => List.mem_append_right _ hb
    rw [List.append_nil]
    refine ⟨L ++ W.M, ds, r, ta, S1.trk, fun p hp => List.mem_append_right _ (hT.mem p hp), hT.get _ _ _ hM S1.wd, hl, hR, fun v H' ext tabs t => ?_⟩
    have e2 : Ext W.M H1 H' := ext.sub (tabs_sub hT.mem)
    exact c v r k1 H' (S1.ext e2 (hT.put _ _ _ _ hM S1.wd ext tabs)) (e1.trans e2) t q
theorem spT.len {vs : List V} {H : Hp} {Q : VK} {E : XK} (h : spT K T n R vs H Q E) : vs.length = n := by
  obtain ⟨M, ds, r, ta, tr, _, _, hl, hR, q⟩ := h
  rw [ta.len]
  exact hl
theorem spT.ok {N : List Str} {vs : List V} {H : Hp} {Q : VK} {E : XK} {t : TS} (h : spT K T n R vs H Q E)
    (hb : ∀ (W : Wd Nat) [HasT W T] (ds : List PyData) (r : PyData), R ds r → SW K W t (rest0 N ds) 0 ⟨fun _ _ => r = .none, fun d _ => d = r, fun _ _ => False, fun _ _ => False⟩) : t { nx := fun _ H' => Q .non H', rt := Q } (L2.start N vs) H := by
  obtain ⟨M, ds, r, ta, tr, hT, tabs, _, hr, q⟩ := h
  have fin : ∀ k' H', Ext ([] ++ (tabW M H tr T hT).M) H H' → (tabW M H tr T hT).I k' M H' → Ext (T.map Prod.fst) H H' := fun k' H' e wi b o nb hb => by
    by_cases hm : b ∈ M
    · rw [wi.1 b hm nb]; exact hb
    · exact e b o hm hb
  refine hb (tabW M H tr T hT) ds r hr [] H [] H (L2.start N vs) _ (stt_start ta ⟨fun b _ _ => rfl, tabs⟩) (fun L' H' σ' ρ' k' S' e => ?_) (fun v d k' H' e wi t' hd => ?_) (fun _ _ _ _ _ _ z => z.elim) (fun _ _ _ _ _ _ z => z.elim)
  · subst e
    exact q .non H' (fin k' H' S'.base S'.wdM) S'.wdM.2 .non
  · subst hd
    exact q v H' (fin k' H' e wi) wi.2 t'
end
end U

set_option Elab.async false
set_option linter.all false
set_option maxRecDepth 100000
set_option maxHeartbeats 2000000
namespace U
open PySem PySem.Spec PyProof.Rows L2
/-! ### the end of a law that comes to makers: the tables of their code are empty at its start -/
/-- what is tracked at the start: the script (where it is no object of the module's own) and the tables -/
structure Begun (K : PySem.W.Frag) (cs : List (Addr × Addr)) (a : Addr) (heap : Heap) (H : Hp) : Prop where
  tab : ∀ t, t ∈ cs → H t.2 = some (.tbl #[])
  only : ∀ b u, H b = some u → b ∈ cs.map Prod.snd ∨ (b = a ∧ K.lookup a = none ∧ ∃ o xs, u = .frz o (.lst xs))
section
variable {P : Program} {w : World} {K : PySem.W.Frag} {mg mb : Str → Option Value} {k : Nat} {fa a : Addr} {cs : List (Addr × Addr)} {fd : FuncData} {x : Str} {sp : Sp} {s₁ : Shared} {vs : List Value} {ns : List Int}
theorem begun_is (inK : K.In s₁.heap) (scr : s₁.heap.get? a = some { cls := .type "list", data := .seq vs.toArray }) (nums : IntsAre vs ns) (small : ns.length ≤ sizeLine)
    (empty : ∀ t, t ∈ cs → s₁.heap.get? t.2 = some { cls := .none, data := .fields #[] }) : ∃ H : Hp, Begun K cs a s₁.heap H ∧ SqL K H a (ns.map V.int) ∧ HOk P w H s₁.heap := by
  have rel : Vals (ns.map V.int) vs := vals_ints nums
  have many : vs.length = ns.length := nums.length
  have tabAt : ∀ b, b ∈ cs.map Prod.snd → s₁.heap.get? b = some { cls := .none, data := .fields #[] } := fun b hb => by
    obtain ⟨t, ht, rfl⟩ := List.mem_map.mp hb
    exact empty t ht
  cases own : K.lookup a with
  | some o =>
    have e := inK a o own
    rw [scr] at e
    cases e
    refine ⟨fun b => if b ∈ cs.map Prod.snd then some (.tbl #[]) else none, ⟨fun t ht => if_pos (List.mem_map_of_mem ht), fun b u z => ?_⟩, Or.inr ⟨_, vs.toArray, _, own, rfl, rfl, rfl, by rw [List.size_toArray, many]; exact small, by simpa using rel⟩, fun b u z => ?_⟩
    · by_cases hb : b ∈ cs.map Prod.snd
      · exact .inl hb
      · exact nomatch (if_neg hb).symm.trans z
    · by_cases hb : b ∈ cs.map Prod.snd
      · cases (if_pos hb).symm.trans z
        exact tabAt b hb
      · exact nomatch (if_neg hb).symm.trans z
  | none =>
    have apart : a ∉ cs.map Prod.snd := fun z => by
      have q := tabAt a z
      rw [scr] at q
      exact nomatch (show Data.seq vs.toArray _ = Data.fields #[] from congrArg Obj.data (Option.some.inj q))
    refine ⟨fun b => if b = a then some (.frz { cls := .type "list", data := .seq vs.toArray } (.lst (ns.map V.int))) else if b ∈ cs.map Prod.snd then some (.tbl #[]) else none, ⟨fun t ht => ?_, fun b u z => ?_⟩, Or.inl (Or.inr ⟨_, if_pos rfl⟩), fun b u z => ?_⟩
    · have m := List.mem_map_of_mem (f := Prod.snd) ht
      exact (if_neg (show ¬ t.2 = a from fun e => apart (by rw [← e]; exact m))).trans (if_pos m)
    · by_cases hb : b = a
      · exact .inr ⟨hb, own, _, _, (Option.some.inj ((if_pos hb).symm.trans z)).symm⟩
      · by_cases hc : b ∈ cs.map Prod.snd
        · exact .inl hc
        · exact nomatch (if_neg hc).symm.trans ((if_neg hb).symm.trans z)
    · by_cases hb : b = a
      · cases (if_pos hb).symm.trans z
        subst hb
        exact ⟨scr, by rw [List.length_map]; exact small, vs, _, rel, scr⟩
      · by_cases hc : b ∈ cs.map Prod.snd
        · cases (if_pos hc).symm.trans ((if_neg hb).symm.trans z)
          exact tabAt b hc
        · exact nomatch (if_neg hc).symm.trans ((if_neg hb).symm.trans z)
theorem lawGT (inK : K.In s₁.heap) (glo : s₁.heap.Ns mainGlobals mg) (blt : s₁.heap.Ns builtinsNs mb) (boot : ∀ x : Str, x ≠ "__name__" → mb x = bootBuiltins x) (noLim : s₁.heap.NoLimit) (noGen : s₁.gens = #[])
    (empty : ∀ t, t ∈ cs → s₁.heap.get? t.2 = some { cls := .none, data := .fields #[] }) (free : ∀ t, t ∈ cs → K.lookup t.2 = none) (code : ∀ t, t ∈ cs → PySem.W.CodeHd s₁.heap t.1 t.2)
    (bim : ∃ (m : Addr) (o : Obj), mg "__builtins__" = some (.ref m) ∧ m ≠ builtinsNs ∧ s₁.heap.get? m = some o ∧ o.cls = .type "module" ∧ o.dict = some builtinsNs ∧ o.data = .plain)
    (scr : s₁.heap.get? a = some { cls := .type "list", data := .seq vs.toArray }) (nums : IntsAre vs ns) (small : ns.length ≤ sizeLine) (room : Room k callerA)
    (F : ∀ base : Heap, K.In base → base.Ns mainGlobals mg → (∀ t, t ∈ cs → LamX.TabB base mg t.1 t.2) → FnG P w K mg base k fa fd [x] sp) (bind : ∀ (s : Shared) (u : Value), BindsTo s fd ⟨[u], []⟩ [(x, u)])
    (hsp : ∀ H : Hp, (∀ t, t ∈ cs → H t.2 = some (.tbl #[])) → SqL K H a (ns.map V.int) → sp [.ref a] H (fun v _ => v = .bl true) E0) :
    codeAny (model P w) callerA (.call (.ref fa) ⟨[.ref a], []⟩) (fun r s' => r = .ok (.ret (.bool true)) ∧ OldK s₁.heap s'.heap ∧ s'.os = s₁.os ∧ AllBare s'.gens) s₁ := by
  obtain ⟨H, B, hScr, hOk⟩ := begun_is (P := P) (w := w) inK scr nums small empty
  have tabAt : ∀ b, b ∈ cs.map Prod.snd → s₁.heap.get? b = some { cls := .none, data := .fields #[] } := fun b hb => by
    obtain ⟨t, ht, rfl⟩ := List.mem_map.mp hb
    exact empty t ht
  -- what is neither the script nor a table is not tracked
  have off : ∀ {b : Addr} {o : Obj}, s₁.heap.get? b = some o → (∀ us n, o.data = .seq us n → False) → (o.data = .fields #[] → False) → H b = none := fun {b o} e n1 n2 => by
    cases q : H b with
    | none => rfl
    | some u =>
      rcases B.only b u q with hb | ⟨rfl, _⟩
      · have t := tabAt b hb
        rw [e] at t
        cases t
        exact (n2 rfl).elim
      · rw [scr] at e
        cases e
        exact (n1 _ _ rfl).elim
  have nsKeep : ∀ {b : Addr} {m : Str → Option Value}, s₁.heap.Ns b m → (hidT s₁.heap H).Ns b m := by
    rintro b m ⟨o, es, ep, e, d, r⟩
    exact ⟨o, es, ep, hidT_get e (off e (fun us n z => by rw [d] at z; cases z) fun z => by rw [d] at z; cases z), d, r⟩
  have inB : K.In (hidT s₁.heap H) := by
    intro b o e
    refine hidT_get (inK b o e) ?_
    cases q : H b with
    | none => rfl
    | some u =>
      rcases B.only b u q with hb | ⟨rfl, hn, _⟩
      · obtain ⟨t, ht, rfl⟩ := List.mem_map.mp hb
        rw [free t ht] at e
        cases e
      · rw [hn] at e
        cases e
  have M : Mod K mg (hidT s₁.heap H) := by
    obtain ⟨mc, h1, h2⟩ := noLim
    exact ⟨inB, nsKeep glo, ⟨mb, nsKeep blt, boot⟩, ⟨mc, nsKeep h1, h2⟩⟩
  have TB : ∀ t, t ∈ cs → LamX.TabB (hidT s₁.heap H) mg t.1 t.2 := by
    intro t ht
    have at_ := empty t ht
    constructor
    · obtain ⟨o, us, fl, tf, fg, tg, ib, tx, tt, e1, c1, c2, c3, more⟩ := code t ht
      refine ⟨o, us, fl, tf, fg, tg, ib, tx, tt, hidT_get e1 (off e1 (fun _ _ z => by rw [c2] at z; cases z) fun z => ?_), c1, c2, c3, more⟩
      rw [c2] at z
      cases z
      simp at c3
    · obtain ⟨m, o, b1, b2, b3, b4, b5, b6⟩ := bim
      have d : o.data ≠ .fields #[] := fun z => by rw [b6] at z; cases z
      refine ⟨m, o, b1, b2, fun z => ?_, fun z => ?_, hidT_get b3 (off b3 (fun _ _ z => by rw [b6] at z; cases z) d), b4, b5, b6⟩
      · obtain ⟨o', es, ep, e, hd, _⟩ := glo
        rw [← z, b3] at e
        cases e
        rw [b6] at hd
        cases hd
      · rw [z, at_] at b3
        cases b3
        cases b6
    · intro z
      obtain ⟨o', es, ep, e, hd, _⟩ := glo
      rw [z, at_] at e
      cases e
      cases hd
  have env : Env0 P w K mg (hidT s₁.heap H) callerA [] s₁ H := by
    refine ⟨rfl, M, fun b o e => of_hidT e, Nat.le_of_eq (hidT_size _ _), trivial, fun b hb => ?_, hOk, .of_eq noGen⟩
    exact nomatch (show b ∈ ([] : List Addr) from hb)
  refine codeAny_mono ((F _ inB (nsKeep glo) TB).runs callerA [] s₁ H ⟨[.ref a], []⟩ [.ref a] [.ref a] _ _ rfl room env (bind s₁ (.ref a)) (.cons rfl .nil) (hsp H B.tab hScr)) ?_
  intro res s' hres
  match res, hres with
  | .error _, hres => exact False.elim hres
  | .ok .next, hres => exact False.elim hres
  | .ok .brk, hres => exact False.elim hres
  | .ok .cont, hres => exact False.elim hres
  | .ok (.ret u), hres =>
    obtain ⟨v, H', os, bare, un, ok', rv, q⟩ := hres
    cases (show v = .bl true from q)
    cases (show u = Value.bool true from rv)
    have stays : ∀ b o, b ∉ cs.map Prod.snd → s₁.heap.get? b = some o → s'.heap.get? b = some o := fun b o nb e => by
      cases q : H b with
      | none => exact un.keep b o e q (fun z => nomatch (show b ∈ ([] : List Addr) from z)) (by simp)
      | some u =>
        rcases B.only b u q with hb | ⟨_, _, ob, xs, rfl⟩
        · exact absurd hb nb
        · have before := (hOk b _ q).1
          have after := (ok' b _ (un.frzs b ob _ q)).1
          rw [e] at before
          cases before
          exact after
    have grows : ∀ t, t ∈ cs → ∃ more : Array Value, s'.heap.get? t.2 = some { cls := .none, data := .fields more } := fun t ht => by
      obtain ⟨more, z⟩ := un.tbls t.2 #[] (B.tab t ht)
      exact ⟨_, ok' t.2 _ z⟩
    refine ⟨rfl, ⟨fun b o e => ?_, fun b o e => ?_⟩, os, bare⟩
    · by_cases hb : b ∈ cs.map Prod.snd
      · obtain ⟨t, ht, rfl⟩ := List.mem_map.mp hb
        obtain ⟨more, g⟩ := grows t ht
        rw [empty t ht] at e
        cases e
        exact .inr (.inl ⟨((code t ht).tab (empty t ht)).isCodeTable, rfl, #[], more, rfl, by rw [Array.empty_append]; exact g⟩)
      · exact .inl (stays b o hb e)
    · by_cases hb : b ∈ cs.map Prod.snd
      · obtain ⟨t, ht, rfl⟩ := List.mem_map.mp hb
        obtain ⟨more, g⟩ := grows t ht
        exact ⟨_, g⟩
      · exact ⟨o, stays b o hb e⟩
end
/-- the law's def, where the makers' tables are empty -/
def LawT (l : PySem.W.OpenLaw) (w : World) (K : PySem.W.Frag) (k n : Nat) (x : Str) (mg : Str → Option Value) (fa : Addr) (h : Heap) : Prop :=
  ∃ (fd : FuncData) (cs : List (Addr × Addr)) (sp : Sp), (∀ t, t ∈ cs → h.get? t.2 = some { cls := .none, data := .fields #[] } ∧ K.lookup t.2 = none ∧ PySem.W.CodeHd h t.1 t.2) ∧ (∀ (s : Shared) (u : Value), BindsTo s fd ⟨[u], []⟩ [(x, u)]) ∧
    (∀ (H : Hp) (a : Addr) (ns : List Int), ns.length ≤ n → (∀ t, t ∈ cs → H t.2 = some (.tbl #[])) → SqL K H a (ns.map V.int) → sp [.ref a] H (fun v _ => v = .bl true) E0) ∧
    ∀ base : Heap, K.In base → base.Ns mainGlobals mg → (∀ t, t ∈ cs → LamX.TabB base mg t.1 t.2) → FnG l.prog w K mg base k fa fd [x] sp
theorem walkGT {l : PySem.W.OpenLaw} {n k : Nat} {q : Program} {loose : List Str} {XP : (Str → Option Value) → Heap → Prop} {YP : World → Heap → Prop} {d : DefRec} {K : Params → PySem.W.Frag} {x : Str}
    (many : l.most = some n) (small : n ≤ sizeLine) (noDef : d.params.defaults = []) (room : Room k callerA) (inK : ∀ (w : World) (h : Heap), YP w h → (K w.params).In h)
    (F : ∀ (w : World) (mg : Str → Option Value) (fa : Addr) (h : Heap), YP w h → (K w.params).In h → h.Ns mainGlobals mg → mg d.name = some (.ref fa) → LawT l w (K w.params) k n x mg fa h) :
    PySem.W.WalkO q loose XP YP l.row.toRowW d [] (fun f vs => PySem.call f vs) := by
  apply Att.attach_callB many noDef
  intro w s₀ s₁ mg mb fa o pm cd doc a vs ns G Y ho hd hcd hmg hobj hints hlen hbits hg
  have KX := inK w _ Y
  obtain ⟨fd, cs, sp, hT, hb, hsp, hF⟩ := F w mg fa _ Y KX G.T.g hmg
  exact lawGT KX G.T.g G.T.b G.T.builtins G.T.nolimit hg (fun t ht => (hT t ht).1) (fun t ht => (hT t ht).2.1) (fun t ht => (hT t ht).2.2) G.T.bmain hobj hints (Nat.le_trans hlen small) room hF hb fun H hH hS => hsp H a ns hlen hH hS
/-! ### a law with a deck and tables -/
def spLawT (K : PySem.W.Frag) (T : List NdefX.NTab) : Sp := fun vs H Q _ => ∃ (a : Addr) (ns : List Int), vs = [.ref a] ∧ SqL K H a (ns.map V.int) ∧ ns.length ≤ 63 ∧ (∀ t, t ∈ T → H t.1 = some (.tbl #[])) ∧ ∀ H', Q (.bl true) H'
section
variable {K : PySem.W.Frag} {T : List NdefX.NTab}
theorem spLawT.len {vs : List V} {H : Hp} {Q : VK} {E : XK} (h : spLawT K T vs H Q E) : vs.length = 1 := by
  obtain ⟨_, _, rfl, _⟩ := h
  rfl
theorem spLawT.ok {N : List Str} {vs : List V} {H : Hp} {Q : VK} {E : XK} {rest : TS} (n : Nat) (hN : N.length = n + 2) (h : spLawT K T vs H Q E)
    (hb : ∀ (M : List Addr) (p q : Addr) (hp : p ∈ M) (hq : q ∈ M) (Hs : Hp) (tr : Trk M Hs) (hT : ∀ x ∈ T, x.1 ∈ M) (hn : p ∉ T.map Prod.fst ∧ q ∉ T.map Prod.fst),
      SW K (deckT M p q Hs tr hp hq T hT hn) rest (.no :: .raw (.ref p) :: List.replicate n .no) 0 ⟨fun _ _ => False, fun d _ => d = .bool true, fun _ _ => False, fun _ _ => False⟩) :
    tSeq (tAsg (tCall (spDeck K) [] E0 (tCons (tVar 0) tNil)) (gName 1)) rest { nx := fun _ H' => Q .non H', rt := Q } (L2.start N vs) H := by
  obtain ⟨a, ns, rfl, hS, hl, h0, fin⟩ := h
  refine ⟨.ref a, start_get (by simp), a, ns, rfl, hS, hl, fun H' p q hp0 hq0 dk sm => ?_⟩
  have outT : ∀ {b : Addr}, H b = none → b ∉ T.map Prod.fst := fun {b} hb z => by
    obtain ⟨t, ht, rfl⟩ := List.mem_map.mp z
    rw [h0 t ht] at hb
    cases hb
  have tabs : ∀ t, t ∈ T → H' t.1 = some (.tbl #[]) := fun t ht => sm _ _ (h0 t ht)
  have tr : Trk (p :: q :: T.map Prod.fst) H' := fun b hb z => by
    rcases List.mem_cons.mp hb with rfl | hb
    · rw [dk.top] at z; cases z
    · rcases List.mem_cons.mp hb with rfl | hb
      · obtain ⟨cs, hc, _⟩ := dk.cells
        rw [hc] at z; cases z
      · obtain ⟨t, ht, rfl⟩ := List.mem_map.mp hb
        rw [tabs t ht] at z; cases z
  have es : L2.start N [.ref a] = some (.ref a) :: none :: List.replicate n none := by
    unfold L2.start
    rw [hN]
    show some (V.ref a) :: List.replicate (n + 1) none = _
    rfl
  show rest _ ((L2.start N [.ref a]).set 1 (some (.ref p))) H'
  rw [es]
  have hT : ∀ x ∈ T, x.1 ∈ p :: q :: T.map Prod.fst := fun x hx => List.mem_cons_of_mem _ (List.mem_cons_of_mem _ (List.mem_map_of_mem hx))
  have S : Stt K (deckT (p :: q :: T.map Prod.fst) p q H' tr (by simp) (by simp) T hT ⟨outT hp0, outT hq0⟩) [] H' [] H' (some (.ref a) :: some (.ref p) :: List.replicate n none) (.no :: .raw (.ref p) :: List.replicate n .no) 0 := by
    have get_ : ∀ (i : Nat) (s : Slot), (Slot.no :: Slot.raw (.ref p) :: List.replicate n Slot.no)[i]? = some s → s = .no ∨ (i = 1 ∧ s = .raw (.ref p)) := fun i s hs => by
      match i, hs with
      | 0, hs => left; simpa using hs.symm
      | 1, hs => right; exact ⟨rfl, by simpa using hs.symm⟩
      | i + 2, hs => left; exact List.eq_of_mem_replicate (List.mem_of_getElem? (by simpa using hs))
    refine ⟨Ext.refl _ _, (fun l hl => nomatch hl), (fun l hl => nomatch hl), tr, ⟨⟨0, Nat.le_refl _, dk⟩, fun b _ _ _ _ => rfl, TabsAt.nil tabs⟩, by simp, fun i s hs => ?_, fun i j s u hs hu h1 _ _ => ?_⟩
    · rcases get_ i s hs with rfl | ⟨rfl, rfl⟩
      · trivial
      · rfl
    · rcases get_ i s hs with rfl | ⟨rfl, rfl⟩ <;> cases h1
  refine hb _ p q (by simp) (by simp) H' tr hT _ [] H' [] H' _ _ S (fun _ _ _ _ _ _ z => z.elim) (fun v d k' H2 _ _ t e => ?_) (fun _ _ _ _ _ _ z => z.elim) (fun _ _ _ _ _ _ z => z.elim)
  subst e
  cases t
  exact fin H2
theorem splawT_end {H : Hp} {a : Addr} {ns : List Int} (hl : ns.length ≤ 63) (hT : ∀ t, t ∈ T → H t.1 = some (.tbl #[])) (hS : SqL K H a (ns.map V.int)) : spLawT K T [.ref a] H (fun v _ => v = .bl true) E0 :=
  ⟨a, ns, rfl, hS, hl, hT, fun _ => rfl⟩
end
end U

set_option Elab.async false
set_option linter.all false
set_option maxRecDepth 100000
set_option maxHeartbeats 2000000
namespace U
open PySem PySem.Spec PyProof.Rows L2 NdefX LamX

/-! ### the body of an inner def that writes a box -/
theorem AX.of {K : PySem.W.Frag} {N : List Addr} {H : Hp} {l : Addr} : ∀ {us : List V} {ds : List PyData}, TA K N H us ds → AX K N H (us ++ [.ref l]) (ds.map Sum.inl ++ [.inr l])
  | _, _, .nil => .fn .nil
  | _, _, .cons h t => .dat h (AX.of t)
section
variable {K : PySem.W.Frag} {γ : Type} {Bx : (l : Addr) → Box l γ} {R : γ → List PyData → (PyData → γ → Prop) → Prop} {n : Nat} {N : List Str} {vs : List V} {H : Hp} {Q : VK} {E : XK} {t : TS}
theorem spB.ok (h : spB K n Bx R vs H Q E)
    (hb : ∀ (l : Addr) (M : List Addr) (Hs : Hp) (tr : Trk M Hs) (hl : l ∈ M) (ds : List PyData) (k : γ) (Φ : PyData → γ → Prop), R k ds Φ → SW K (boxW K M Hs tr hl (Bx l) []) t (restX N (ds.map Sum.inl ++ [.inr l])) k ⟨fun _ k' => Φ .none k', Φ, fun _ _ => False, fun _ _ => False⟩) :
    t { nx := fun _ H' => Q .non H', rt := Q } (L2.start N vs) H := by
  obtain ⟨M, l, us, k, ds, Φ, rfl, hl, tr, b, ta, _, hR, q⟩ := h
  refine spX.ok (W := boxW K M H tr hl (Bx l) []) (Φ := Φ) (AX.of ta) ⟨fun _ _ _ => rfl, b, fun _ h => nomatch h⟩ (fun v d k' H' e wi t' g => q v d k' H' wi.2.1 (fun b o nb hb => ?_) t' g) (hb l M H tr hl ds k Φ hR)
  have nl : b ≠ l := by simpa using nb
  by_cases hm : b ∈ M
  · rw [wi.1 b hm nl]; exact hb
  · exact e b o hm hb
theorem spB.len (h : spB K n Bx R vs H Q E) : vs.length = n := by
  obtain ⟨M, l, us, k, ds, Φ, rfl, hl, tr, b, ta, hn, _⟩ := h
  rw [List.length_append, ta.len]
  exact hn
end
/-! ### lists in a box -/
section
variable {K : PySem.W.Frag} {l : Addr} {M : List Addr} {Hs : Hp} {tr : Trk M Hs} {hl : l ∈ M} {caps : List (V × PyData)} {ρ : Rho} {k : List PyData} {Φ : PyData → List PyData → Prop} {te ti : TE} {i : Nat}
theorem ev_bix (h0 : ρ[i]? = some (.raw (.ref l))) (h : EvW K (boxW K M Hs tr hl (listBox K l) caps) te ρ k fun x k1 => ∃ j : Nat, x = .int (j : Int) ∧ ∃ d, k1[j]? = some d ∧ Φ d k1) :
    EvW K (boxW K M Hs tr hl (listBox K l) caps) (tOp (rIxL K) (tVar i) te) ρ k Φ := fun L0 H0 L H σ S Q c => by
  refine ⟨_, S.slots i _ h0, h L0 H0 L H σ S _ fun v x k1 H1 S1 e1 t1 g => ?_⟩
  obtain ⟨j, rfl, d, hd, q⟩ := g
  cases t1
  obtain ⟨xs, h3, h4⟩ := S1.wd.2.1
  obtain ⟨v, e1', t⟩ := h4.at hd
  exact ⟨_, _, _, v, rfl, rfl, SqL.of h3, atI_nat e1', c v d k1 H1 S1 e1 t q⟩
theorem sw_bset {P : Ps (List PyData)} (h0 : ρ[i]? = some (.raw (.ref l))) (h : EvW K (boxW K M Hs tr hl (listBox K l) caps) te ρ k fun d k1 => EvW K (boxW K M Hs tr hl (listBox K l) caps) ti ρ k1 fun x k2 => ∃ j : Nat, x = .int (j : Int) ∧ j < k2.length ∧ P.nx ρ (k2.set j d)) :
    SW K (boxW K M Hs tr hl (listBox K l) caps) (tAsg te (gSub (tVar i) ti rSetL)) ρ k P := fun L0 H0 L H σ D S nx _ _ _ =>
  h L0 H0 L H σ S _ fun v d k1 H1 S1 e1 t g => by
    refine ⟨.ref l, S1.slots i _ h0, g L0 H0 L H1 σ S1 _ fun vi x k2 H2 S2 e2 t2 g2 => ?_⟩
    obtain ⟨j, rfl, hj, q⟩ := g2
    cases t2
    obtain ⟨oth, ⟨xs, h3, h4⟩, cp⟩ := S2.wd
    refine ⟨l, xs, (j : Int), j, rfl, rfl, h3, ?_, ?_⟩
    · have : j < xs.length := by rw [h4.len]; exact hj
      unfold ixN
      rw [if_pos (by omega), if_pos (by omega)]
      simp
    · have eM' : Ext M H2 (upd H2 l (.lst (xs.set j v))) := Ext.put hl
      have eN : Ext (L ++ M) H2 (upd H2 l (.lst (xs.set j v))) := Ext.put (List.mem_append_right _ hl)
      exact nx _ _ _ _ _ (S2.ext eM' ⟨fun b hb nb => by rw [upd_ne nb]; exact oth b hb nb, ⟨_, upd_same, (TA.set j h4 (t.ext (eM (M := M) e2))).ext eN⟩, fun p hp => (cp p hp).ext eN⟩) q
end
/-! ### dicts with tuples as keys: one's own, or in a box -/
def AtN (P : Program) (w : World) (K : PySem.W.Frag) {γ : Type} (W : Wd γ) (ρ : Rho) (i : Nat) (kv : γ → List (NestedKey × PyData)) : Prop :=
  ∃ f : L2.St → Option Addr, ∀ (L0 : List Addr) (H0 : Hp) (L : List Addr) (H : Hp) (σ : L2.St) (k : γ), Stt K W L0 H0 L H σ ρ k → ∃ l xs, σ[i]? = some (some (.ref l)) ∧ H l = some (DN P w l xs) ∧ KN K (L ++ W.M) H xs (kv k)
section
variable {P : Program} {w : World} {K : PySem.W.Frag} {γ : Type} {W : Wd γ} {ρ : Rho} {k : γ} {Φ : PyData → γ → Prop} {ty te tv : TE} {i : Nat} {kv : γ → List (NestedKey × PyData)}
theorem atN_own {kvs : List (NestedKey × PyData)} (h0 : ρ[i]? = some (.ownN (DN P w) kvs)) : AtN P w K W ρ i (fun _ => kvs) := ⟨fun _ => none, fun L0 H0 L H σ k S => by
  obtain ⟨l, xs, h1, _, h3, h4⟩ := S.slots i _ h0
  exact ⟨l, xs, h1, h3, h4⟩⟩
theorem atN_box {l : Addr} {M : List Addr} {Hs : Hp} {tr : Trk M Hs} {hl : l ∈ M} {caps : List (V × PyData)} {hD : IsDN (DN P w)} (h0 : ρ[i]? = some (.raw (.ref l))) : AtN P w K (boxW K M Hs tr hl (nestBox K (DN P w) hD l) caps) ρ i id := ⟨fun _ => none, fun L0 H0 L H σ k S => by
  obtain ⟨_, ⟨xs, h3, h4⟩, _⟩ := S.wd
  exact ⟨l, xs, S.slots i _ h0, h3, h4⟩⟩
/-- x is the key -/
def IsK (x : PyData) (key : NestedKey) : Prop := (∃ ds, x = .tuple ds) ∧ nkey x = some key ∧ key.depth ≤ 8
theorem keyY_of {N : List Addr} {H : Hp} {v : V} {x : PyData} {key : NestedKey} (t : T K N H v x) (h : IsK x key) : KeyY K H v key := by
  obtain ⟨⟨ds, rfl⟩, h2, h3⟩ := h
  cases t with
  | tup n ha ts => exact ⟨N, _, _, rfl, .tup n ha ts, h2, h3⟩
theorem ev_nget (hat : AtN P w K W ρ i kv) (h : EvW K W ty ρ k fun x k1 => ∃ key d, IsK x key ∧ lookN (kv k1) key = some d ∧ Φ d k1) : EvW K W (tNGet P w K (tVar i) ty) ρ k Φ := fun L0 H0 L H σ S Q c => by
  obtain ⟨_, hat⟩ := hat
  obtain ⟨l, _, e1, _, _⟩ := hat _ _ _ _ _ _ S
  refine ⟨_, e1, h L0 H0 L H σ S _ fun v x k1 H1 S1 e t g => ?_⟩
  obtain ⟨key, d, hk, hl, q⟩ := g
  obtain ⟨l', xs, f1, f2, f3⟩ := hat _ _ _ _ _ _ S1
  rw [e1] at f1
  cases f1
  rcases f3.look key with ⟨_, z⟩ | ⟨u, d', h1, h2, h3⟩
  · rw [z] at hl; cases hl
  · rw [h2] at hl
    cases hl
    exact ⟨l, u, rfl, .inr ⟨_, xs, _, key, f2, f3, keyY_of t hk, h1.symm⟩, c u d k1 H1 S1 e h3 q⟩
theorem look_some {N : List Addr} {H : Hp} {xs : List (NestedKey × Addr × V)} {kvs : List (NestedKey × PyData)} (t : KN K N H xs kvs) (key : NestedKey) : (valN xs key).isSome = (lookN kvs key).isSome := by
  rcases t.look key with ⟨a, b⟩ | ⟨v, d, a, b, _⟩ <;> rw [a, b] <;> rfl
theorem ev_nnotin (hat : AtN P w K W ρ i kv) (h : EvW K W ty ρ k fun x k1 => ∃ key, IsK x key ∧ Φ (.bool (!(lookN (kv k1) key).isSome)) k1) : EvW K W (tNNotIn P w K ty (tVar i)) ρ k Φ := fun L0 H0 L H σ S Q c => by
  obtain ⟨_, hat⟩ := hat
  refine h L0 H0 L H σ S _ fun v x k1 H1 S1 e t g => ?_
  obtain ⟨key, hk, q⟩ := g
  obtain ⟨l, xs, f1, f2, f3⟩ := hat _ _ _ _ _ _ S1
  refine ⟨_, f1, l, valN xs key, rfl, .inr ⟨_, xs, _, key, f2, f3, keyY_of t hk, rfl⟩, ?_⟩
  rw [look_some f3 key]
  exact c _ _ k1 H1 S1 e (.bl _) q
theorem ev_nin (hat : AtN P w K W ρ i kv) (h : EvW K W ty ρ k fun x k1 => ∃ key, IsK x key ∧ Φ (.bool (lookN (kv k1) key).isSome) k1) : EvW K W (tNIn P w K ty (tVar i)) ρ k Φ := fun L0 H0 L H σ S Q c => by
  obtain ⟨_, hat⟩ := hat
  refine h L0 H0 L H σ S _ fun v x k1 H1 S1 e t g => ?_
  obtain ⟨key, hk, q⟩ := g
  obtain ⟨l, xs, f1, f2, f3⟩ := hat _ _ _ _ _ _ S1
  refine ⟨_, f1, l, valN xs key, rfl, .inr ⟨_, xs, _, key, f2, f3, keyY_of t hk, rfl⟩, ?_⟩
  rw [look_some f3 key]
  exact c _ _ k1 H1 S1 e (.bl _) q
theorem tup_ref {N : List Addr} {H : Hp} {v : V} {x : PyData} {key : NestedKey} (t : T K N H v x) (h : IsK x key) : ∃ b, v = .ref b := by
  obtain ⟨⟨ds, rfl⟩, _, _⟩ := h
  cases t with
  | tup n ha ts => exact ⟨_, rfl⟩
theorem putN_len (kvs : List (NestedKey × PyData)) (key : NestedKey) (d : PyData) : (putN kvs key d).length ≤ kvs.length + 1 := by
  unfold putN
  split <;> simp
/-- d[k] = v, d one's own -/
theorem sw_nput {Z : Ps γ} {kvs : List (NestedKey × PyData)} (h0 : ρ[i]? = some (.ownN (DN P w) kvs)) (h : EvW K W tv ρ k fun d k1 => EvW K W ty ρ k1 fun x k2 => ∃ key, IsK x key ∧ kvs.length < 100000 ∧ Z.nx (ρ.set i (.ownN (DN P w) (putN kvs key d))) k2) : SW K W (sNPut P w K (tVar i) ty tv) ρ k Z := fun L0 H0 L H σ D S nx _ _ _ =>
  h L0 H0 L H σ S _ fun v d k1 H1 S1 ee t g => by
    obtain ⟨l, _, e1, _, _, _⟩ := S1.slots i _ h0
    refine ⟨_, e1, g L0 H0 L H1 σ S1 _ fun u x k2 H2 S2 ee2 t2 g2 => ?_⟩
    obtain ⟨key, hk, hz, q⟩ := g2
    obtain ⟨l', xs, f1, f2, f3, f4⟩ := S2.slots i _ h0
    rw [e1] at f1
    cases f1
    obtain ⟨b, rfl⟩ := tup_ref t2 hk
    refine ⟨l, _, rfl, .inr ⟨_, xs, _, key, b, f3, f4, rfl, keyY_of t2 hk, Nat.lt_of_le_of_lt (show xs.length ≤ 99999 by rw [f4.len]; omega) (by decide), rfl⟩, ?_⟩
    exact nx _ _ _ _ _ (S2.put (s1 := .ownN (DN P w) (putN kvs key d)) h0 rfl rfl e1 f2 ⟨l, _, rfl, f2, upd_same, (f4.put hk.2.1 hk.2.2 t2 (t.ext (eM ee2))).map fun _ _ t => t.ext (Ext.put (List.mem_append_left _ f2))⟩) q
/-- .. in a box -/
theorem sw_nputB {l : Addr} {M : List Addr} {Hs : Hp} {tr : Trk M Hs} {hl : l ∈ M} {caps : List (V × PyData)} {hD : IsDN (DN P w)} {k : List (NestedKey × PyData)} {Z : Ps (List (NestedKey × PyData))} (h0 : ρ[i]? = some (.raw (.ref l)))
    (h : EvW K (boxW K M Hs tr hl (nestBox K (DN P w) hD l) caps) tv ρ k fun d k1 => EvW K (boxW K M Hs tr hl (nestBox K (DN P w) hD l) caps) ty ρ k1 fun x k2 => ∃ key, IsK x key ∧ k2.length < 100000 ∧ Z.nx ρ (putN k2 key d)) :
    SW K (boxW K M Hs tr hl (nestBox K (DN P w) hD l) caps) (sNPut P w K (tVar i) ty tv) ρ k Z := fun L0 H0 L H σ D S nx _ _ _ =>
  h L0 H0 L H σ S _ fun v d k1 H1 S1 ee t g => by
    refine ⟨_, S1.slots i _ h0, g L0 H0 L H1 σ S1 _ fun u x k2 H2 S2 ee2 t2 g2 => ?_⟩
    obtain ⟨key, hk, hz, q⟩ := g2
    obtain ⟨oth, ⟨xs, f3, f4⟩, cp⟩ := S2.wd
    obtain ⟨b, rfl⟩ := tup_ref t2 hk
    refine ⟨l, _, rfl, .inr ⟨_, xs, _, key, b, f3, f4, rfl, keyY_of t2 hk, Nat.lt_of_le_of_lt (show xs.length ≤ 99999 by rw [f4.len]; omega) (by decide), rfl⟩, ?_⟩
    have eM' : Ext M H2 (upd H2 l (DN P w l (putNV xs key b v))) := Ext.put hl
    have eN : Ext (L ++ M) H2 (upd H2 l (DN P w l (putNV xs key b v))) := Ext.put (List.mem_append_right _ hl)
    exact nx _ _ _ _ _ (S2.ext eM' ⟨fun b hb nb => by rw [upd_ne nb]; exact oth b hb nb, ⟨_, upd_same, (f4.put hk.2.1 hk.2.2 t2 (t.ext (eM (M := M) ee2))).map fun _ _ t => t.ext eN⟩, fun p hp => (cp p hp).ext eN⟩) q
/-- x = {} -/
theorem sw_newN {Z : Ps γ} (q : Z.nx (ρ.set i (.ownN (DN P w) [])) k) : SW K W (tAsg (tDNewN P w) (gName i)) ρ k Z := fun L0 H0 L H σ D S nx _ _ _ =>
  fun p hp => nx _ _ _ _ _ (S.setOwn i (s0 := .ownN (DN P w) []) rfl hp ⟨p, [], rfl, by simp, upd_same, .nil⟩) q
end
/-! ### a def whose code object is known (it makes inner defs) -/
structure FunC (K : PySem.W.Frag) (x qual : Str) (st : Stmt) (f : Addr) (fd : FuncData) (c : Addr) : Prop where
  ex : ∃ (oc kV doc pm ct : Value) (od an : Option Addr) (osl : Array (Option Value)), fd = PySem.W.fnOf x qual (defArgs st) (defBody st) (defScope st) .none kV doc pm an (.ref c) ct ∧ K.lookup f = some ⟨oc, od, .func fd, osl⟩ ∧ PySem.W.codeIn K (.ref c) qual = true
theorem FunC.ok {P : Program} {w : World} {K : PySem.W.Frag} {mg : Str → Option Value} {base : Heap} {x qual : Str} {st : Stmt} {f c : Addr} {fd : FuncData} {N ps : List Str} {k : Nat} {sp : Sp} (F : FunC K x qual st f fd c) (S : FnScope N ps (defScope st)) (len : ∀ vs H Q E, sp vs H Q E → vs.length = ps.length)
    (hbody : ∀ (A : Around) (outer : List Env) (s : Shared) (H : Hp) (vs : List V) (Q : VK) (E : XK), Room k (A.deeper (envOfC qual (defScope st) s.heap.objs.size f (.ref c))) → sp vs H Q E →
      ∃ t, PSs (cxOf L2.CX0 P w K mg base N qual (defScope st) f (.ref c) A outer s H E) (defBody st) t ∧ t { nx := fun _ H' => Q .non H', rt := Q } (L2.start N vs) H) : FnOk P w K mg base L2.CX0 (k + 1) f fd ps sp := by
  obtain ⟨oc, kV, doc, pm, ct, od, an, osl, rfl, lk, hcd⟩ := F.ex
  exact fn_of lk hcd S len hbody
/-- an inner def by its body; vs: the arguments and what is captured -/
theorem innerOk {P : Program} {w : World} {K : PySem.W.Frag} {mg : Str → Option Value} {base : Heap} {F : NF} {f : Addr} {N ps fr : List Str} {k : Nat} {sp : Sp} (S : NScope N ps fr F.scope)
    (hb : ∀ (doc pm ctv : Value) (us : List Value), us.length = ps.length → bindArgs (F.fd doc pm ctv) ⟨us, []⟩ = pure (ps.zip us))
    (hbody : ∀ (A : Around) (outer : List Env) (s : Shared) (H : Hp) (vs : List V) (Q : VK) (E : XK), Room k (A.deeper (envF F f s.heap.objs.size)) → sp vs H Q E →
      ∃ t, PSs (ncx L2.CX0 P w K mg base N F f A outer s H E) F.body t ∧ t { nx := fun _ H' => Q .non H', rt := Q } (L2.start N vs) H) : NOk P w K mg base L2.CX0 (k + 1) f F ps fr (spN ps.length sp) := by
  refine nok_of S hb (fun ws vs H Q E h => h.1) fun A outer s H vs ws Q E hr _ _ _ h => ?_
  obtain ⟨_, us, rfl, h⟩ := h
  obtain ⟨t, h1, h2⟩ := hbody A outer s H (vs ++ us) Q E hr h
  exact ⟨t, h1, by rw [startF_eq]; exact h2⟩
theorem room9 {k : Nat} {A : Around} (r : Room k A) : A.units + 9 < cLine := by
  have := r.units
  omega
def posOf : Stmt → Pos
  | .FunctionDef _ _ _ _ _ _ _ _ _ p => p
  | _ => ⟨0, 0, 0, 0⟩
/-- a module's text -/
theorem pe_gs {X : Cx} {x z : Str} {pos : Pos} (hg : Gl X x) (h : ∃ t, X.mg x = some (.str z t)) (hd : (x == ("__debug__" : Str)) = false := by decide) : PE X (.Name x pos) (tC (.str z)) := by
  obtain ⟨t, e⟩ := h
  exact pe_glob hg e ⟨t, rfl⟩ hd
/-! ### x = [d] * n, a list of its own -/
theorem flat_rep {α : Type} (v : α) : ∀ n : Nat, (List.replicate n [v]).flatten = List.replicate n v
  | 0 => rfl
  | n + 1 => by rw [List.replicate_succ, List.flatten_cons, flat_rep v n, List.replicate_succ]; rfl
theorem TA.rep {K : PySem.W.Frag} {N : List Addr} {H : Hp} {v : V} {d : PyData} (t : T K N H v d) : ∀ n : Nat, TA K N H (List.replicate n v) (List.replicate n d)
  | 0 => .nil
  | n + 1 => by rw [List.replicate_succ, List.replicate_succ]; exact .cons t (TA.rep t n)
section
variable {K : PySem.W.Frag} {γ : Type} {W : Wd γ} {ρ : Rho} {k : γ} {P : Ps γ} {ta tb : TE} {i : Nat}
theorem sw_ownRep (h : EvW K W ta ρ k fun x k1 => ∃ d, x = .list [d] ∧ EvW K W tb ρ k1 fun y k2 => ∃ n : Nat, y = .int (n : Int) ∧ n ≤ 100000 ∧ P.nx (ρ.set i (.own (List.replicate n d))) k2) : SW K W (tAsg (tOp rRep ta tb) (gName i)) ρ k P := fun L0 H0 L H σ D S nx _ _ _ =>
  h L0 H0 L H σ S _ fun v x k1 H1 S1 e1 t1 g => by
    obtain ⟨d, rfl, g⟩ := g
    refine g L0 H0 L H1 σ S1 _ fun u y k2 H2 S2 e2 t2 g2 => ?_
    obtain ⟨n, rfl, hn, q⟩ := g2
    cases t2
    cases t1.ext (eM e2) with
    | @lst a xs _ na ha ts =>
      obtain ⟨v, rfl, tv⟩ := ts.one_
      refine ⟨a, (n : Int), [v], rfl, rfl, ha, by omega, by omega, ?_, fun p hp => ?_⟩
      · show 1 * (n : Int).toNat ≤ sizeLine
        rw [Int.toNat_natCast, Nat.one_mul]
        exact Nat.le_trans hn (by decide)
      · rw [Int.toNat_natCast, flat_rep]
        exact nx _ _ _ _ _ (S2.setOwn i (s0 := .own (List.replicate n d)) rfl hp ⟨p, _, rfl, by simp, upd_same, ((TA.rep tv n).plus hp).ext (Ext.put (by simp))⟩) q
end
end U

set_option Elab.async false
set_option linter.all false
set_option maxRecDepth 100000
set_option maxHeartbeats 2000000
namespace U
open PySem PySem.Spec PyProof.Rows L2
/-! ### z[::-1], xs[::-1] -/
def revS (z : Str) : Str := ⟨((List.range z.length).map fun k => z.cps.getD (z.length - 1 - k) 0).toArray⟩
def tRevS (te : TE) : TE := fun σ H Q => te σ H fun x H1 => ∃ z, x = .str z ∧ z.length ≤ sizeLine ∧ Q (.str (revS z)) H1
section
variable {X : Cx}
theorem pe_revS {te : TE} {e : Expr} {k : Nat} {p1 p2 p3 pos : Pos} (pe : PE X e te) : PE X (.Subscript e (.Slice none none (some (.UnaryOp .USub (.Constant (.int 1) k p1) p2)) p3) pos) (tRevS te) := by
  have hst : PO X (some (.UnaryOp .USub (.Constant (.int 1) k p1) p2)) (tPart (tUn (rU fun i => .int (-i)) (tC (.int 1)))) := po_some (pe_un un_neg pe_int)
  refine ⟨fun pins s σ H Q I hz => Subscript_ (thn (pe.run pins s σ H _ I hz) fun u0 s1 ⟨y, H1, I1, ry, got⟩ => ?_)⟩
  obtain ⟨z, rfl, hz, q⟩ := got
  obtain ⟨t, rfl⟩ := ry
  refine wpAny_Slice (thn (po_none.run pins s1 σ H1 (fun x F => x = none ∧ F = H1) I1 ⟨rfl, rfl⟩) fun vl s2 ⟨o2, H2, I2, pl, eo, eH⟩ => ?_)
  subst eo eH
  refine thn (po_none.run pins s2 σ H2 (fun x F => x = none ∧ F = H2) I2 ⟨rfl, rfl⟩) fun vu s3 ⟨o3, H3, I3, pu, eo, eH⟩ => ?_
  subst eo eH
  refine thn (hst.run pins s3 σ H3 (fun x F => x = some (-1) ∧ F = H3) I3 ⟨1, rfl, -1, rfl, rfl, rfl⟩) fun vs s4 ⟨o4, H4, I4, ps, eo, eH⟩ => ?_
  subst eo eH
  obtain ⟨l1, rfl, hl1⟩ := IsPart.raw pl
  obtain ⟨u1, rfl, hu1⟩ := IsPart.raw pu
  obtain ⟨w1, rfl, hw1⟩ := IsPart.raw ps
  cases l1 with
  | some q => cases hl1
  | none =>
  cases u1 with
  | some q => cases hu1
  | none =>
  cases w1 with
  | none => cases hw1
  | some q =>
  obtain ⟨n, tk⟩ := q
  have hn : n = -1 := by
    have : some n = some (-1 : Int) := hw1
    injection this
  subst hn
  have I5 : Inv X pins σ H4 { s4 with heap := s4.heap.push { cls := .type "slice", data := .fields #[partValue none, partValue none, partValue (some (-1, tk))] } } := I4.kept (t' := s4.toks) fun b ob q => Heap.get?_push_of_some _ q
  refine tail_any (ops := [.str z t, .ref s4.heap.objs.size]) (T := "str") (typeIs_str _ _ _) (PySem.F.slot_str_getitem.lookup) ?_ (by with_unfolding_all rfl)
  refine wpAny_getItem_str_slice (l := none) (u := none) (st := some (-1, tk)) ⟨_, Heap.get?_push_size _ rfl, rfl, rfl⟩ rfl ?_
  have e : Txt.sliceBy z none none (-1, tk) = revS z := by
    have h := step_rev_list z tk
    generalize Txt.sliceBy z none none (-1, tk) = y at h
    obtain ⟨⟨cs⟩⟩ := y
    show Str.mk _ = Str.mk _
    rw [← h]
  have len : (revS z).length ≤ sizeLine := by
    show (List.toArray _).size ≤ _
    rw [List.size_toArray, List.length_map, List.length_range]
    exact hz
  unfold Txt.sliceBy at e
  unfold sliceMade
  rw [if_neg (by simp)] at e ⊢
  rw [e]
  exact ⟨len, .str _, H4, I5.tok _, ⟨_, rfl⟩, q⟩
end
section
variable {K : PySem.W.Frag} {γ : Type} {W : Wd γ} {ρ : Rho} {k : γ} {Φ : PyData → γ → Prop} {te ta tb : TE} {N : List Addr} {H : Hp}
theorem kRevL (K : PySem.W.Frag) {X : Cx} {e : Expr} {te : TE} {k : Nat} {p1 p2 p3 pos : Pos} (he : PE X e te) (h : X.K = K := by rfl) : PE X (.Subscript e (.Slice none none (some (.UnaryOp .USub (.Constant (.int 1) k p1) p2)) p3) pos) (tRevL K te) := by subst h; exact pe_revL he
theorem kIndexL (K : PySem.W.Frag) {X : Cx} {e : Expr} {to : TE} {ts : L2.TA} (p : PE X e (tBM X.K "list" (rIndex X.K) to ts)) (h : X.K = K := by rfl) : PE X e (tBM K "list" (rIndex K) to ts) := by subst h; exact p
theorem revS_txt (ws : List Nat) : revS (txt ws) = txt ws.reverse := by
  unfold revS txt
  congr 1
  apply congrArg List.toArray
  apply List.ext_getElem?
  intro i
  by_cases h : i < ws.length
  · have hl : (Str.mk (List.map (fun x => 97 + x) ws).toArray).length = ws.length := by simp [Str.length]
    rw [hl]
    have hi : ws.length - 1 - i < ws.length := by omega
    simp [h, hi, List.getElem?_reverse]
  · have hl : (Str.mk (List.map (fun x => 97 + x) ws).toArray).length = ws.length := by simp [Str.length]
    rw [hl]
    simp [h]
theorem ev_revX (h : EvW K W te ρ k fun d k1 => ∃ ws : List Nat, d = .str (txt ws) ∧ ws.length ≤ 100000 ∧ Φ (.str (txt ws.reverse)) k1) : EvW K W (tRevS te) ρ k Φ := fun L0 H0 L H σ S Q c =>
  h L0 H0 L H σ S _ fun v x k1 H1 S1 e1 t1 g => by
    obtain ⟨ws, rfl, hz, q⟩ := g
    cases t1
    refine ⟨_, rfl, by rw [txt_len]; exact Nat.le_trans hz (by decide), ?_⟩
    rw [revS_txt]
    exact c _ _ k1 H1 S1 e1 (.str _) q
theorem TA.rev : ∀ {vs : List V} {ds : List PyData}, TA K N H vs ds → TA K N H vs.reverse ds.reverse
  | _, _, .nil => .nil
  | _, _, .cons h t => by
    rw [List.reverse_cons, List.reverse_cons]
    exact t.rev.app (.cons h .nil)
theorem ev_revL (h : EvW K W te ρ k fun d k1 => ∃ ds, d = .list ds ∧ Φ (.list ds.reverse) k1) : EvW K W (tRevL K te) ρ k Φ := fun L0 H0 L H σ S Q c =>
  h L0 H0 L H σ S _ fun v x k1 H1 S1 e1 t1 g => by
    obtain ⟨ds, rfl, q⟩ := g
    cases t1 with
    | @lst a xs _ n ha t =>
      refine ⟨a, xs, rfl, SqL.of ha, newL S1.trk t.rev fun p H' hp s _ _ t' => c _ _ k1 H' (S1.same s) (e1.trans (Ext.same s)) t' q⟩
/-- a list of one's own from behind -/
theorem ev_ownLast {i : Nat} {ds : List PyData} {d : PyData} (h : ρ[i]? = some (.own ds)) (hd : ds.getLast? = some d) (q : Φ d k) : EvW K W (tOp (rIxL K) (tVar i) (tUn (rU fun i => .int (-i)) (tC (.int 1)))) ρ k Φ := fun L0 H0 L H σ S Q c => by
  obtain ⟨l, xs, h1, h3, h4⟩ := S.own_at h
  have hl := h4.len
  rw [List.getLast?_eq_getElem?] at hd
  obtain ⟨v, e, t⟩ := h4.at hd
  have h0 : 0 < ds.length := by
    have := (List.getElem?_eq_some_iff.mp hd).1
    omega
  refine ⟨_, h1, 1, rfl, _, _, _, v, rfl, rfl, SqL.of h3, ?_, c v d k H S (Ext.refl _ _) t q⟩
  unfold atI
  rw [hl]
  have : ixN ds.length (-1) = some (ds.length - 1) := by
    unfold ixN
    rw [if_neg (by decide), if_pos (by omega)]
    congr 1
    omega
  rw [this]
  exact e
/-- xs.index(int), int in xs -/
theorem eqV_int (a b : Int) : eqV (.int a) (.int b) = decide (a = b) := by
  show (a == b) = _
  by_cases e : a = b <;> simp [e]
theorem flat_ints : ∀ l : List Int, (l.map V.int).all flatV = true
  | [] => rfl
  | _ :: xs => by rw [List.map_cons, List.all_cons, flat_ints xs]; rfl
theorem ev_lindex (h : EvW K W ta ρ k fun d k1 => ∃ ns : List Int, d = .list (ns.map .int) ∧ EvW K W tb ρ k1 fun e k2 => ∃ (i : Int) (j : Nat), e = .int i ∧ ns[j]? = some i ∧ (∀ m, m < j → ns[m]? ≠ some i) ∧ Φ (.int (j : Int)) k2) :
    EvW K W (tBM K "list" (rIndex K) ta (tCons tb tNil)) ρ k Φ := fun L0 H0 L H σ S Q c =>
  h L0 H0 L H σ S _ fun v x k1 H1 S1 e1 t1 g => by
    obtain ⟨ns, rfl, g⟩ := g
    cases t1 with
    | @lst a xs _ n ha t =>
      have e := t.ints_
      subst e
      refine ⟨.inl ⟨rfl, _, SqL.of ha⟩, g L0 H0 L H1 σ S1 _ fun u y k2 H2 S2 e2 t2 g2 => ?_⟩
      obtain ⟨i, j, rfl, hj, hm, q⟩ := g2
      cases t2
      have ha2 := e2 a _ (fun hz => n (List.mem_append_right _ hz)) ha
      refine ⟨a, ns.map V.int, .int i, j, .int i, rfl, rfl, SqL.of ha2, rfl, flat_ints _, by rw [List.getElem?_map, hj]; rfl, by rw [eqV_int]; simp, fun m z hmj hz => ?_, c _ _ k2 H2 S2 (e1.trans e2) (.int _) q⟩
      rw [List.getElem?_map] at hz
      obtain ⟨b, hb, rfl⟩ := Option.map_eq_some_iff.mp hz
      rw [eqV_int]
      refine decide_eq_false fun hbi => hm m hmj ?_
      rw [hb, hbi]
theorem inV_int (z : Int) : ∀ l : List Int, inV (.int z) (l.map V.int) = decide (z ∈ l)
  | [] => by simp [inV]
  | x :: xs => by
    have ih := inV_int z xs
    unfold inV at ih ⊢
    rw [List.map_cons, List.any_cons, ih, eqV_int]
    by_cases e : x = z
    · subst e; simp
    · have e2 : ¬ z = x := fun q => e q.symm
      simp [e, e2]
theorem rd_inIntsL {z : Int} {l : List Int} (q : Φ (.bool (decide (z ∈ l))) k) : RD K W (rIn K false) (.int z) (.list (l.map .int)) ρ k Φ := rd_ q fun N H vx vy tx ty Q c => by
  cases tx
  cases ty with
  | lst n ha t =>
    have e := t.ints_
    subst e
    exact ⟨_, _, rfl, .inl (SqL.of ha), rfl, flat_ints l, by simp only [Bool.false_eq_true, if_false]; rw [inV_int]; exact c _ (.bl _)⟩
mutual
theorem T.dp : ∀ {d : PyData} {v : V}, d.canLay0 = true → T K N H v d → Dp K H v d
  | .none, _, _, t => by cases t; exact .non
  | .bool b, _, _, t => by cases t; exact .bl b
  | .int b, _, _, t => by cases t; exact .int b
  | .str b, _, _, t => by cases t; exact .str b
  | .list ds, _, h, t => by
    cases t with
    | lst n ha t => exact .lst (SqL.of ha) (TA.dp (by simpa [PyData.canLay0] using h) t)
  | .tuple ds, _, h, t => by
    cases t with
    | tup n ha t => exact .tup (SqT.of ha) (TA.dp (by simpa [PyData.canLay0] using h) t)
  | .dict es, _, h, _ => by simp [PyData.canLay0] at h
theorem TA.dp : ∀ {ds : List PyData} {vs : List V}, PyData.canLayAll0 ds = true → TA K N H vs ds → DpAll K H vs ds
  | [], _, _, t => by cases t; exact .nil
  | d :: ds, _, h, t => by
    have h' : d.canLay0 = true ∧ PyData.canLayAll0 ds = true := by simpa [PyData.canLayAll0] using h
    cases t with
    | cons t1 t2 => exact .cons (T.dp h'.1 t1) (TA.dp h'.2 t2)
end
theorem rd_neSame {x : PyData} (h : SeqAt.shaped x = true) (q : Φ (.bool false) k) : RD K W (rNeD K) x x ρ k Φ := rd_ q fun N H vx vy tx ty Q c => by
  have h1 := SeqAt.canLay_of_shaped h
  refine ⟨x, x, tx.dp h1, ty.dp h1, h, h, ?_⟩
  rw [SeqAt.eqv_refl x h1]
  exact c _ (.bl _)
end
end U

set_option Elab.async false
set_option linter.all false
set_option maxRecDepth 100000
set_option maxHeartbeats 2000000
namespace U
open PySem PySem.Spec PyProof.Rows L2
/-! ### a list of lists of one's own: back = [[] for _ in xs], back[i].append(x) -/
section
variable {K : PySem.W.Frag} {γ : Type} {W : Wd γ} {L0 L1 L L' N N' : List Addr} {H0 H1 H2 H H' : Hp} {σ σ' : L2.St} {ρ ρ' : Rho} {k k' : γ} {v : V} {d : PyData} {o : Option (Option V)}
theorem SlotOk.off (sub : ∀ b ∈ N', b ∈ N) {s : Slot} (q : SlotOk K N L H o s) : SlotOk K N' L H o s := by
  cases s with
  | no => trivial
  | dat d =>
    obtain ⟨v, h1, h2⟩ := q
    exact ⟨v, h1, h2.off sub⟩
  | own ds =>
    obtain ⟨l, xs, h1, h2, h3, h4⟩ := q
    exact ⟨l, xs, h1, h2, h3, h4.off sub⟩
  | ownD kvs =>
    obtain ⟨l, xs, h1, h2, h3, h4⟩ := q
    exact ⟨l, xs, h1, h2, h3, h4.map fun _ _ t => t.off sub⟩
  | lck kvs =>
    obtain ⟨l, xs, od, h1, h2, h3, h4⟩ := q
    exact ⟨l, xs, od, h1, h2, h3, h4.map fun _ _ t => t.off sub⟩
  | raw v => exact q
  | fn F =>
    obtain ⟨f, c, h1, h2, h3, h4, h5⟩ := q
    exact ⟨f, c, h1, fun z => h2 (sub _ z), fun z => h3 (sub _ z), h4, h5⟩
  | ownN D kvs =>
    obtain ⟨l, xs, h1, h2, h3, h4⟩ := q
    exact ⟨l, xs, h1, h2, h3, h4.map fun _ _ t => t.off sub⟩
theorem SlotOk.up (su : ∀ b ∈ N', b ∈ N ∨ H b = none) (e : Same H H') {s : Slot} (q : SlotOk K N L H o s) : SlotOk K N' L H' o s := by
  have tt : ∀ v d, T K N H v d → T K N' H' v d := fun v d t => (t.plusAll su).same e
  cases s with
  | no => trivial
  | dat d =>
    obtain ⟨v, h1, h2⟩ := q
    exact ⟨v, h1, tt _ _ h2⟩
  | own ds =>
    obtain ⟨l, xs, h1, h2, h3, h4⟩ := q
    exact ⟨l, xs, h1, h2, e _ _ h3, h4.mapT tt⟩
  | ownD kvs =>
    obtain ⟨l, xs, h1, h2, h3, h4⟩ := q
    exact ⟨l, xs, h1, h2, e _ _ h3, h4.map tt⟩
  | lck kvs =>
    obtain ⟨l, xs, od, h1, h2, h3, h4⟩ := q
    exact ⟨l, xs, od, h1, h2, e _ _ h3, h4.map tt⟩
  | raw v => exact q
  | fn F =>
    obtain ⟨f, c, h1, h2, h3, h4, h5⟩ := q
    exact ⟨f, c, h1, fun z => (su _ z).elim h2 (fun y => by rw [h4] at y; cases y), fun z => (su _ z).elim h3 (fun y => by rw [h5] at y; cases y), e _ _ h4, e _ _ h5⟩
  | ownN D kvs =>
    obtain ⟨l, xs, h1, h2, h3, h4⟩ := q
    exact ⟨l, xs, h1, h2, e _ _ h3, h4.map tt⟩
structure LLat (K : PySem.W.Frag) (N : List Addr) (H : Hp) (l : Addr) (as : List Addr) (dss : List (List PyData)) : Prop where
  top : H l = some (.lst (as.map V.ref))
  len : as.length = dss.length
  row : ∀ (i : Nat) (a : Addr) (ds : List PyData), as[i]? = some a → dss[i]? = some ds → ∃ xs, H a = some (.lst xs) ∧ TA K N H xs ds
theorem LLat.some_ {l : Addr} {as : List Addr} {dss : List (List PyData)} (h : LLat K N H l as dss) : ∀ b ∈ l :: as, H b ≠ none := fun b hb z => by
  rcases List.mem_cons.mp hb with rfl | hb
  · rw [h.top] at z; cases z
  · obtain ⟨i, hi, e⟩ := List.mem_iff_getElem.mp hb
    have hd : i < dss.length := by rw [← h.len]; exact hi
    obtain ⟨xs, hx, _⟩ := h.row i b dss[i] (by rw [List.getElem?_eq_getElem hi, e]) (List.getElem?_eq_getElem hd)
    rw [hx] at z; cases z
structure LLok (W : Wd γ) (l : Addr) (as : List Addr) : Prop where
  nd : (l :: as).Nodup
  off : ∀ b ∈ l :: as, b ∉ W.M
def llW (K : PySem.W.Frag) {γ : Type} (W : Wd γ) (l : Addr) (as : List Addr) : Wd (γ × List (List PyData)) where
  M := (l :: as) ++ W.M
  I := fun k N H => W.I k.1 N H ∧ LLat K N H l as k.2
  loc := fun k N H H' e x ⟨h1, h2⟩ => ⟨W.loc k.1 N H H' (fun b hb => e b (List.mem_append_right _ hb)) x h1, ⟨(e l (by simp)).trans h2.top, h2.len, fun i a ds ha hd => by
    obtain ⟨xs, g1, g2⟩ := h2.row i a ds ha hd
    exact ⟨xs, (e a (by simp [List.mem_of_getElem? ha])).trans g1, g2.ext x⟩⟩⟩
  plus := fun k N N' H s m ⟨h1, h2⟩ => ⟨W.plus k.1 N N' H s (fun b hb => m b (List.mem_append_right _ hb)) h1, ⟨h2.top, h2.len, fun i a ds ha hd => by
    obtain ⟨xs, g1, g2⟩ := h2.row i a ds ha hd
    exact ⟨xs, g1, g2.plusAll s⟩⟩⟩
  trk := fun k N H ⟨h1, h2⟩ b hb => by
    rcases List.mem_append.mp hb with hb | hb
    · exact h2.some_ b hb
    · exact W.trk k.1 N H h1 b hb
/-- into the world of the list of lists -/
theorem Stt.enterLL (S : Stt K W L0 H0 L H1 σ ρ k) {l : Addr} {as : List Addr} {dss : List (List PyData)} (new : ∀ b ∈ l :: as, H1 b = none) (sm : Same H1 H2) (at_ : ∀ N, LLat K N H2 l as dss) : Stt K (llW K W l as) L H2 L H2 σ ρ (k, dss) := by
  have su : ∀ b ∈ L ++ ((l :: as) ++ W.M), b ∈ L ++ W.M ∨ H1 b = none := fun b hb => by
    rcases List.mem_append.mp hb with hb | hb
    · exact .inl (List.mem_append_left _ hb)
    · rcases List.mem_append.mp hb with hb | hb
      · exact .inr (new b hb)
      · exact .inl (List.mem_append_right _ hb)
  have S2 := S.same sm
  refine ⟨Ext.refl _ _, fun _ h => .inl h, fun b hb z => ?_, fun b hb => ?_, ⟨?_, at_ _⟩, S.len, fun j s hs => (S.slots j s hs).up su sm, S.dis⟩
  · rcases List.mem_append.mp z with z | z
    · exact S.trk b (List.mem_append_left _ hb) (new b z)
    · exact S.offM b hb z
  · rcases List.mem_append.mp hb with hb | hb
    · exact S2.trk b (List.mem_append_left _ hb)
    · rcases List.mem_append.mp hb with hb | hb
      · exact (at_ []).some_ b hb
      · exact S2.trk b (List.mem_append_right _ hb)
  · have w1 : W.I k (L ++ ((l :: as) ++ W.M)) H1 := W.plus k _ _ H1 su (fun b hb => List.mem_append_right _ (List.mem_append_right _ hb)) S.wd
    refine W.loc k _ H1 H2 (fun b hb => ?_) (Ext.same sm) w1
    cases q : H1 b with
    | none => exact absurd q (S.trk b (List.mem_append_right _ hb))
    | some o => exact sm b o q
/-- .. and out of it -/
theorem Stt.leaveLL {l : Addr} {as : List Addr} {i : Nat} {kk : γ × List (List PyData)} (ok : LLok W l as) (new : ∀ b ∈ l :: as, H1 b = none) (sm : Same H1 H2) (S : Stt K (llW K W l as) L H2 L' H' σ' ρ' kk) (hi : ρ'[i]? = some (.raw (.ref l))) :
    Stt K W L H1 L' H' σ' (ρ'.set i (.dat (.list (kk.2.map PyData.list)))) kk.1 := by
  have sub : ∀ b ∈ L' ++ W.M, b ∈ L' ++ (llW K W l as).M := fun b hb => by
    rcases List.mem_append.mp hb with hb | hb
    · exact List.mem_append_left _ hb
    · exact List.mem_append_right _ (List.mem_append_right _ hb)
  obtain ⟨w1, at_⟩ := S.wd
  have offL : ∀ b ∈ l :: as, b ∉ L' ++ W.M := fun b hb z => by
    rcases List.mem_append.mp z with z | z
    · exact S.offM b z (List.mem_append_left _ hb)
    · exact ok.off b hb z
  refine ⟨fun b o nb hb => ?_, fun b hb => ?_, fun b hb z => S.offM b hb (List.mem_append_right _ z), fun b hb => S.trk b (sub b hb), W.plus _ _ _ _ (fun b hb => .inl (sub b hb)) (fun b hb => List.mem_append_right _ hb) w1, by rw [List.length_set]; exact S.len, fun j s hs => ?_, fun j t s s' hs ht h1 h2 h3 => ?_⟩
  · refine S.base b o (fun z => ?_) (sm b o hb)
    rcases List.mem_append.mp z with z | z
    · exact nb (List.mem_append_left _ z)
    · rcases List.mem_append.mp z with z | z
      · rw [new b z] at hb; cases hb
      · exact nb (List.mem_append_right _ z)
  · rcases S.fresh b hb with h | h
    · exact .inl h
    · refine .inr ?_
      cases q : H1 b with
      | none => rfl
      | some o => rw [sm b o q] at h; cases h
  · by_cases e : i = j
    · subst e
      have il : i < ρ'.length := (List.getElem?_eq_some_iff.mp hi).1
      rw [List.getElem?_set_self il] at hs
      cases hs
      have h0 : σ'[i]? = some (some (.ref l)) := S.slots i _ hi
      refine ⟨.ref l, h0, .lst (offL l (by simp)) at_.top ?_⟩
      have gen : ∀ (bs : List Addr) (dss : List (List PyData)), bs.length = dss.length → (∀ (i : Nat) (a : Addr) (ds : List PyData), bs[i]? = some a → dss[i]? = some ds → T K (L' ++ W.M) H' (.ref a) (.list ds)) → TA K (L' ++ W.M) H' (bs.map V.ref) (dss.map PyData.list) := by
        intro bs
        induction bs with
        | nil =>
          intro dss hl _
          cases dss with
          | nil => exact .nil
          | cons => cases hl
        | cons b bs ih =>
          intro dss hl f
          cases dss with
          | nil => cases hl
          | cons ds dss => exact .cons (f 0 b ds rfl rfl) (ih dss (by simpa using hl) fun i a d h1 h2 => f (i + 1) a d (by simpa using h1) (by simpa using h2))
      refine gen as kk.2 at_.len fun t a ds ha hd => ?_
      obtain ⟨xs, g1, g2⟩ := at_.row t a ds ha hd
      exact .lst (offL a (by simp [List.mem_of_getElem? ha])) g1 (g2.off sub)
    · rw [List.getElem?_set_ne e] at hs
      exact (S.slots j s hs).off sub
  · have own_ : ∀ (j : Nat) (s : Slot), (ρ'.set i (.dat (.list (kk.2.map PyData.list))))[j]? = some s → s.isOwn = true → ρ'[j]? = some s := fun j s hs hh => by
      by_cases e : i = j
      · subst e
        rw [List.getElem?_set_self (List.getElem?_eq_some_iff.mp hi).1] at hs
        cases hs
        cases hh
      · rw [List.getElem?_set_ne e] at hs
        exact hs
    exact S.dis j t s s' (own_ j s hs h1) (own_ t s' ht h2) h1 h2 h3
variable {wi : TI} {g : TG} {vs : List Nat} {i : Nat} {body rest : TS} {P : Ps γ}
theorem sw_ll (h : EvI K W wi ρ k fun n f k1 => n ≤ 100000 ∧ (∀ j, j < n → TgW K W g (fun i => i ∈ vs) (f j) (wipeR ρ vs) fun _ => True) ∧ i < ρ.length ∧ ∀ (l : Addr) (as : List Addr), LLok W l as → as.length = n →
      SW K (llW K W l as) body (ρ.set i (.raw (.ref l))) (k1, List.replicate n []) ⟨fun ρ' k' => ρ'[i]? = some (.raw (.ref l)) ∧ SW K W rest (ρ'.set i (.dat (.list (k'.2.map PyData.list)))) k'.1 P, fun _ _ => False, fun _ _ => False, fun _ _ => False⟩) :
    SW K W (tSeq (tAsg (tLc wi g tYes (tLst tNil) vs) (gName i)) (tSeq body rest)) ρ k P := fun L0 H0 L H σ D S nx rt bk ct =>
  h L0 H0 L H σ S _ fun J n f k1 H1 S1 e wd q => by
    obtain ⟨hn, tg, hil, q⟩ := q
    intro A hA
    have later : ∀ H2, Same H1 H2 → Later W L H1 L H2 := fun H2 sm => ⟨Ext.same sm, fun l hl => .inl hl, S1.trk.same sm⟩
    refine ⟨fun j m H2 => m = n - j ∧ j ≤ n ∧ Same H1 H2 ∧ ∃ as : List Addr, as.length = j ∧ (A :: as).Nodup ∧ (∀ b ∈ A :: as, H1 b = none) ∧ H2 A = some (.lst (as.map V.ref)) ∧ ∀ b ∈ as, H2 b = some (.lst []),
      ⟨n, rfl, Nat.zero_le _, Same.new hA, [], rfl, by simp, by simp [hA], upd_same, fun _ h => nomatch h⟩, ?_⟩
    rintro j m H2 ⟨rfl, hj, sm, as, hl, nd, new, hA2, has⟩
    by_cases hlt : j < n
    · refine .inr ⟨wd.goes j _ H2 hlt (later H2 sm), fun H' => Same H1 H' ∧ ∃ as : List Addr, as.length = j + 1 ∧ (A :: as).Nodup ∧ (∀ b ∈ A :: as, H1 b = none) ∧ H' A = some (.lst (as.map V.ref)) ∧ ∀ b ∈ as, H' b = some (.lst []),
        fun H' ⟨a1, as, a2⟩ => ⟨n - (j + 1), by omega, rfl, hlt, a1, as, a2⟩, fun x H' y => ?_⟩
      obtain ⟨sm2, tx⟩ := wd.yields j _ H2 x H' hlt (later H2 sm) y
      have S3 := (S1.same sm).same sm2
      refine tg j hlt L0 H0 L H' _ k1 x (S3.wipe vs) tx _ fun σ3 ρ3 S4 hl4 ag _ => ⟨wipe_of hl4 ag, ?_⟩
      show ([] : List V).length ≤ sizeLine ∧ _
      refine ⟨Nat.zero_le _, fun a ha => ?_⟩
      have hA3 : H' A = some (.lst (as.map V.ref)) := sm2 _ _ hA2
      have aA : A ≠ a := ne_of_none hA3 ha
      have anew : H1 a = none := by
        cases q : H1 a with
        | none => rfl
        | some o => rw [sm2 _ _ (sm a o q)] at ha; cases ha
      have aas : a ∉ as := fun z => by
        have := sm2 _ _ (has a z)
        rw [ha] at this; cases this
      refine ⟨as.map V.ref, by rw [upd_ne aA]; exact hA3, ?_, ?_, as ++ [a], by rw [List.length_append, hl]; rfl, ?_, ?_, ?_, ?_⟩
      · rw [List.length_map, hl]
        exact Nat.lt_of_le_of_lt (show j ≤ 100000 by omega) (by decide)
      · intro b o hb
        have b1 : b ≠ A := ne_of_none hb hA
        have b2 : b ≠ a := ne_of_none hb anew
        rw [upd_ne b1, upd_ne b2]
        exact sm2 _ _ (sm b o hb)
      · rw [List.nodup_cons] at nd ⊢
        refine ⟨fun z => ?_, ?_⟩
        · rcases List.mem_append.mp z with z | z
          · exact nd.1 z
          · exact aA (List.mem_singleton.mp z)
        · rw [List.nodup_append]
          exact ⟨nd.2, by simp, fun x hx y hy => by
            rw [List.mem_singleton.mp hy]
            rintro rfl
            exact aas hx⟩
      · intro b hb
        rcases List.mem_cons.mp hb with rfl | hb
        · exact new b (by simp)
        · rcases List.mem_append.mp hb with hb | hb
          · exact new b (by simp [hb])
          · rw [List.mem_singleton.mp hb]; exact anew
      · rw [upd_same, List.map_append]; rfl
      · intro b hb
        have bA : b ≠ A := by
          rintro rfl
          rcases List.mem_append.mp hb with hb | hb
          · exact (List.nodup_cons.mp nd).1 hb
          · exact aA (List.mem_singleton.mp hb)
        rw [upd_ne bA]
        rcases List.mem_append.mp hb with hb2 | hb2
        · have ne : b ≠ a := fun z => aas (by rw [← z]; exact hb2)
          rw [upd_ne ne]
          exact sm2 _ _ (has b hb2)
        · rw [List.mem_singleton.mp hb2, upd_same]
    · have ej : j = n := by omega
      subst ej
      refine .inl ⟨wd.stops _ H2 (later H2 sm), ?_⟩
      have ok : LLok W A as := ⟨nd, fun b hb z => S1.trk b (List.mem_append_right _ z) (new b hb)⟩
      have at_ : ∀ N, LLat K N H2 A as (List.replicate j []) := fun N => ⟨hA2, by rw [hl, List.length_replicate], fun t a ds ha hd => by
        have : ds = [] := List.eq_of_mem_replicate (List.mem_of_getElem? hd)
        subst this
        exact ⟨[], has a (List.mem_of_getElem? ha), .nil⟩⟩
      have S5 := (S1.enterLL (K := K) new sm at_).setRaw (v := .ref A) i
      refine q A as ok hl L H2 L H2 _ _ S5 (fun L' H' σ' ρ' k' S' ⟨hi', hr⟩ => ?_) (fun _ _ _ _ _ _ _ z => z.elim) (fun _ _ _ _ _ _ z => z.elim) (fun _ _ _ _ _ _ z => z.elim)
      exact hr L0 H0 L' H' σ' D (S1.back (Stt.leaveLL ok new sm S' hi')) nx rt bk ct
/-- back[j].append(d) -/
theorem sw_llappend {ti te : TE} {l : Addr} {as : List Addr} {kk : γ × List (List PyData)} {Z : Ps (γ × List (List PyData))} (ok : LLok W l as) (hi : ρ[i]? = some (.raw (.ref l)))
    (h : EvW K (llW K W l as) ti ρ kk fun x k1 => ∃ j : Nat, x = .int (j : Int) ∧ j < as.length ∧ EvW K (llW K W l as) te ρ k1 fun d k2 => (k2.2.getD j []).length < 100000 ∧ Z.nx ρ (k2.1, k2.2.set j (k2.2.getD j [] ++ [d]))) :
    SW K (llW K W l as) (tDrop (tBM K "list" rAppend (tOp (rIxL K) (tVar i) ti) (tCons te tNil))) ρ kk Z := fun L0 H0 L H σ D S nx rt bk ct => by
  have h0 : σ[i]? = some (some (.ref l)) := S.slots i _ hi
  refine ⟨_, h0, h L0 H0 L H σ S _ fun v x k1 H1 S1 e1 t1 g => ?_⟩
  obtain ⟨j, rfl, hj, g⟩ := g
  cases t1
  obtain ⟨_, a1⟩ := S1.wd
  have ha : as[j]? = some as[j] := List.getElem?_eq_getElem hj
  have hrow : ∀ {N : List Addr} {H : Hp} {dss : List (List PyData)}, LLat K N H l as dss → ∃ xs, H as[j] = some (.lst xs) ∧ TA K N H xs (dss.getD j []) := fun {N H dss} a => by
    have jl : j < dss.length := by rw [← a.len]; exact hj
    obtain ⟨xs, g1, g2⟩ := a.row j as[j] dss[j] ha (List.getElem?_eq_getElem jl)
    refine ⟨xs, g1, ?_⟩
    have e : dss.getD j [] = dss[j] := by rw [List.getD_eq_getElem?_getD, List.getElem?_eq_getElem jl]; rfl
    rw [e]; exact g2
  obtain ⟨xs1, b1, _⟩ := hrow a1
  refine ⟨_, _, _, .ref as[j], rfl, rfl, SqL.of a1.top, atI_nat (by rw [List.getElem?_map, ha]; rfl), tyList b1, g L0 H0 L H1 σ S1 _ fun u d k2 H2 S2 e2 t2 q => ?_⟩
  obtain ⟨hl, q⟩ := q
  obtain ⟨w2, a2⟩ := S2.wd
  obtain ⟨xs, b2, b3⟩ := hrow a2
  have mem : as[j] ∈ l :: as := List.mem_cons_of_mem _ (List.getElem_mem hj)
  have memM : as[j] ∈ (llW K W l as).M := List.mem_append_left _ mem
  have nl : l ≠ as[j] := fun z => (List.nodup_cons.mp ok.nd).1 (z ▸ List.getElem_mem hj)
  refine ⟨as[j], xs, u, rfl, rfl, b2, Nat.lt_of_le_of_lt (show xs.length ≤ 99999 by rw [b3.len]; omega) (by decide), ?_⟩
  have ex : Ext (L ++ (llW K W l as).M) H2 (upd H2 as[j] (.lst (xs ++ [u]))) := Ext.put (List.mem_append_right _ memM)
  refine nx _ _ _ _ (k2.1, k2.2.set j (k2.2.getD j [] ++ [d])) (S2.ext (Ext.put memM) ⟨?_, ?_⟩) q
  · refine W.loc k2.1 _ H2 _ (fun b hb => ?_) ex w2
    rw [upd_ne (fun z => ok.off as[j] mem (z ▸ hb))]
  · refine ⟨by rw [upd_ne nl]; exact a2.top, by rw [List.length_set]; exact a2.len, fun t a ds hta hd => ?_⟩
    by_cases e : j = t
    · subst e
      rw [ha] at hta
      have : a = as[j] := (Option.some.inj hta).symm
      subst this
      have jl : j < k2.2.length := by rw [← a2.len]; exact hj
      rw [List.getElem?_set_self jl] at hd
      cases hd
      exact ⟨_, upd_same, (b3.app (.one t2)).ext ex⟩
    · rw [List.getElem?_set_ne e] at hd
      obtain ⟨ys, c1, c2⟩ := a2.row t a ds hta hd
      have na : a ≠ as[j] := fun z => by
        obtain ⟨tl, et⟩ := List.getElem?_eq_some_iff.mp hta
        have pw := List.pairwise_iff_getElem.mp (List.nodup_cons.mp ok.nd).2
        rcases Nat.lt_or_gt_of_ne e with lt | gt
        · exact pw j t hj tl lt (by rw [et, z])
        · exact pw t j tl hj gt (by rw [et, z])
      exact ⟨ys, by rw [upd_ne na]; exact c1, c2.ext ex⟩
end
end U
namespace U
open PySem PySem.Spec PyProof.Rows L2
/-- what is put at each place, in order -/
def backD (es : List (Nat × PyData)) (n : Nat) : List (List PyData) := (List.range n).map fun s => (es.filter fun e => decide (e.1 = s)).map (·.2)
theorem backD_nil (n : Nat) : backD [] n = List.replicate n [] := by
  unfold backD
  apply List.ext_getElem?
  intro i
  by_cases h : i < n
  · simp [h]
  · simp [h]
theorem backD_len (es : List (Nat × PyData)) (n : Nat) : (backD es n).length = n := by simp [backD]
theorem backD_get {es : List (Nat × PyData)} {n t : Nat} (h : t < n) : (backD es n).getD t [] = (es.filter fun e => decide (e.1 = t)).map (·.2) := by
  simp [backD, h]
theorem backD_row {es : List (Nat × PyData)} {n t : Nat} (h : t < n) : ((backD es n).getD t []).length ≤ es.length := by
  rw [backD_get h, List.length_map]
  exact List.length_filter_le _ _
theorem backD_app {es : List (Nat × PyData)} {n t : Nat} {d : PyData} (h : t < n) : (backD es n).set t ((backD es n).getD t [] ++ [d]) = backD (es ++ [(t, d)]) n := by
  rw [backD_get h]
  apply List.ext_getElem?
  intro i
  by_cases e : t = i
  · subst e
    rw [List.getElem?_set_self (by rw [backD_len]; exact h)]
    simp [backD, h]
  · rw [List.getElem?_set_ne e]
    unfold backD
    rw [List.getElem?_map, List.getElem?_map]
    by_cases hi : i < n
    · rw [List.getElem?_range hi]
      simp [e]
    · have : (List.range n)[i]? = none := by simp; omega
      rw [this]
      rfl
end U

set_option Elab.async false
set_option linter.all false
set_option maxRecDepth 100000
set_option maxHeartbeats 2000000
namespace U
open PySem PySem.Spec PyProof.Rows L2
/-! ### zip of two sequences, each a tuple (true) or a list (false) -/
def SqB (K : PySem.W.Frag) : Bool → Hp → Addr → List V → Prop | true => SqT K | false => SqL K
def ObB : Bool → Heap → Addr → Array Value → Prop | true => fun h a its => h.IsTuple a its | false => fun h a its => h.IsList a its
def ItB : Bool → Heap → Addr → Addr → Nat → Prop | true => fun h it a i => h.IsTupleIter it a i | false => fun h it a i => h.IsListIter it a i
def itObj (t : Bool) (a : Addr) : Obj := { cls := .type (match t with | true => "tuple_iterator" | false => "list_iterator"), data := .fields #[.ref a, .int 0 0] }
section
variable {X : Cx} {pins : List (Addr × Obj)} {σ : L2.St} {H : Hp} {s : Shared} {a it : Addr} {xs ys : List V}
theorem seqB (I : Inv X pins σ H s) : ∀ {t : Bool}, SqB X.K t H a xs → ∃ its : List Value, Vals xs its ∧ ObB t s.heap a its.toArray
  | true, h => let ⟨its, r, p, _⟩ := I.tuple h; ⟨its, r, p⟩
  | false, h => let ⟨its, r, p, _⟩ := I.list h; ⟨its, r, p.isList⟩
theorem injB (I : Inv X pins σ H s) : ∀ {t : Bool}, SqB X.K t H a xs → SqB X.K t H a ys → xs = ys
  | true, h, g => I.tuple_inj h g
  | false, h, g => I.list_inj h g
theorem ObB.keep {h h' : Heap} {its : Array Value} (k : ∀ o, h.get? a = some o → h'.get? a = some o) : ∀ {t : Bool}, ObB t h a its → ObB t h' a its
  | true, x => (show h.IsTuple a its from x).at k
  | false, x => (show h.IsList a its from x).at k
theorem ItB.keep {h h' : Heap} {i : Nat} (k : ∀ o, h.get? it = some o → h'.get? it = some o) : ∀ {t : Bool}, ItB t h it a i → ItB t h' it a i
  | true, x => (show h.IsTupleIter it a i from x).at k
  | false, x => (show h.IsListIter it a i from x).at k
theorem ItB.obj {h : Heap} {i : Nat} : ∀ {t : Bool}, ItB t h it a i → ∃ o, h.get? it = some o ∧ ∀ v, o.data ≠ .cell v
  | true, ⟨o, e, _, d⟩ => ⟨o, e, fun v q => by rw [d] at q; cases q⟩
  | false, ⟨o, e, _, d⟩ => ⟨o, e, fun v q => by rw [d] at q; cases q⟩
theorem drawB {prog : Program} {w : World} {A : Around} (hh : A.handled = none) (ne : a ≠ it) (its : Array Value) : ∀ t : Bool, Draws prog w A it [it, a] its.size (fun i v => its[i]? = some v) (fun i h => ItB t h it a i ∧ ObB t h a its)
  | true => Draws.tuple hh it a ne its
  | false => Draws.list hh it a ne its
theorem beginB (a : Addr) (its : Array Value) : ∀ t : Bool, Begins (.ref a) (itObj t a) fun h => ObB t h a its
  | true => begins_tuple a its
  | false => begins_list a its
theorem itB_new {h : Heap} : ∀ {t : Bool}, h.get? it = some (itObj t a) → ItB t h it a 0
  | true, e => ⟨_, e, rfl, rfl⟩
  | false, e => ⟨_, e, rfl, rfl⟩
theorem obB_lt {h : Heap} {its : Array Value} : ∀ {t : Bool}, ObB t h a its → a < h.objs.size
  | true, ⟨_, e, _⟩ => Heap.lt_size e
  | false, ⟨_, e, _⟩ => Heap.lt_size e
end
def sepOf {z TI TO i1 i2 a b : Addr} (D : ZipApart z TI TO i1 i2 a b) : ZipSep2 z TI TO i1 i2 [i1, a] [i2, b] where
  TIz := D.TIz
  TOz := D.TOz
  TITO := D.TITO
  TIi1 := D.TIi1
  mem1 := by simp
  zf1 := by simp [D.i1z.symm, D.l1z.symm]
  Tf1 := by simp [D.TOi1, D.l1TO.symm]
  TIi2 := D.TIi2
  mem2 := by simp
  zf2 := by simp [D.i2z.symm, D.l2z.symm]
  Tf2 := by simp [D.TOi2, D.l2TO.symm]
  sep1_2 := by simp [D.i12, D.l2i1.symm]
  sep2_1 := by simp [D.i12.symm, D.l1i2.symm]
def ItZ (K : PySem.W.Frag) (t1 t2 : Bool) (a b : Addr) : It :=
  ⟨fun i H => ∃ (xs ys : List V) (x y : V), SqB K t1 H a xs ∧ SqB K t2 H b ys ∧ xs[i]? = some x ∧ ys[i]? = some y,
    fun i H v H' => ∃ p x y, v = .ref p ∧ H p = none ∧ H' = upd H p (.tup [x, y]) ∧ (∀ xs, SqB K t1 H a xs → xs[i]? = some x) ∧ ∀ ys, SqB K t2 H b ys → ys[i]? = some y,
    fun i H => ∃ xs ys : List V, SqB K t1 H a xs ∧ SqB K t2 H b ys ∧ i ≤ xs.length ∧ i ≤ ys.length ∧ (i = xs.length ∨ i = ys.length)⟩
theorem turnZ {P : Program} {w : World} {K : PySem.W.Frag} {elts : List Expr} {kk : Nat} {tpos : Pos} {t1 t2 : Bool} {a b z TI TO i1 i2 : Addr} (D : ZipApart z TI TO i1 i2 a b) :
    L2.Turn P w K (.Tuple elts kk tpos) (ItZ K t1 t2 a b) [z, TI, TO, i1, i2] z (fun i h => IsZip h z TI TO .none ∧ IsTupOf2 h TI (.ref i1) (.ref i2) ∧ (∃ x y, IsTupOf2 h TO x y) ∧ ItB t1 h i1 a i ∧ ItB t2 h i2 b i) where
  mem := List.mem_cons_self
  obj := fun i h st c hc => by
    obtain ⟨hz, hTI, ⟨x, y, hTO⟩, h1, h2⟩ := st
    simp only [List.mem_cons, List.not_mem_nil, or_false] at hc
    rcases hc with rfl | rfl | rfl | rfl | rfl
    · exact ⟨_, hz, fun v q => nomatch q⟩
    · exact ⟨_, hTI, fun v q => nomatch q⟩
    · exact ⟨_, hTO, fun v q => nomatch q⟩
    · exact h1.obj
    · exact h2.obj
  keep := fun i h h' st k => by
    obtain ⟨hz, hTI, ⟨x, y, hTO⟩, h1, h2⟩ := st
    exact ⟨k _ (by simp) _ hz, k _ (by simp) _ hTI, ⟨x, y, k _ (by simp) _ hTO⟩, h1.keep fun o q => k _ (by simp) o q, h2.keep fun o q => k _ (by simp) o q⟩
  item := by
    rintro X rfl rfl rfl hc i pins s σ H E I hf ⟨hz, hTI, ⟨x0, y0, hTO⟩, h1, h2⟩ ⟨xs, ys, x, y, qx, qy, ex, ey⟩
    obtain ⟨its, rv, ox⟩ := seqB I qx
    obtain ⟨jts, rw_, oy⟩ := seqB I qy
    obtain ⟨u, hu, ru⟩ := rv.get ex
    obtain ⟨v, hv, rv2⟩ := rw_.get ey
    have zl : z < s.heap.objs.size := Heap.lt_size hz
    have l1 : i < its.toArray.size := by simpa using (List.getElem?_eq_some_iff.mp hu).1
    have l2 : i < jts.toArray.size := by simpa using (List.getElem?_eq_some_iff.mp hv).1
    refine wpAny_pyNext_zipD2_item (sepOf D) (drawB (A := X.A.in1) (I.ok.hd hc) D.l1i1 its.toArray t1) (drawB (A := X.A.in1) (I.ok.hd hc) D.l2i2 jts.toArray t2) hz hTI hTO ⟨h1, ox⟩ ⟨h2, oy⟩ l1 l2 fun u' v' h' tk eu ev nz nTO n1 n2 nT nsz nk => ?_
    have : u' = u := by
      have g : its.toArray[i]? = some u := by simpa using hu
      rw [g] at eu; exact (Option.some.inj eu).symm
    subst this
    have : v' = v := by
      have g : jts.toArray[i]? = some v := by simpa using hv
      rw [g] at ev; exact (Option.some.inj ev).symm
    subst this
    refine ⟨_, rfl, wpAny_letOwnedTupleGo_zip (s := { s with heap := h', toks := tk }) nz fun h2' nz2 sb => ?_⟩
    have nT2 : h2'.get? s.heap.objs.size = some { cls := .type "tuple", data := .seq #[u', v'] } := (sb.2 _ (Nat.ne_of_gt zl)).trans nT
    have made : ObjOk X.prog X.w (upd H s.heap.objs.size (.tup [x, y])) h2' s.heap.objs.size (.tup [x, y]) :=
      ⟨(show 2 ≤ sizeLine by decide), [u', v'], .cons ru (.cons rv2 .nil), ⟨_, nT2, rfl, _, rfl⟩⟩
    have J : Inv X pins σ (upd H s.heap.objs.size (.tup [x, y])) { s with heap := h2', toks := tk } :=
      I.turnedNew (ch := [z, TI, TO, i1, i2]) (fun c o nc q => (sb.2 c fun e => nc (by simp [e])).trans (nk c o (fun e => nc (by simp [e])) (fun e => nc (by simp [e])) (fun e => nc (by simp [e])) (fun e => nc (by simp [e])) q)) hf (Nat.le_refl _) made
    refine ⟨.ref s.heap.objs.size, _, J, rfl, ⟨_, x, y, rfl, I.hok.fresh (Nat.le_refl _), rfl, fun l hl => by rw [injB I hl qx]; exact ex, fun l hl => by rw [injB I hl qy]; exact ey⟩, ⟨nz2, ?_, ⟨u', v', ?_⟩, ?_, ?_⟩, fun c hcm => ?_⟩
    · exact (sb.2 _ D.TIz).trans (nk _ _ D.TIz D.TITO D.TIi1 D.TIi2 hTI)
    · exact (sb.2 _ D.TOz).trans nTO
    · exact n1.1.keep fun o q => (sb.2 _ D.i1z).trans q
    · exact n2.1.keep fun o q => (sb.2 _ D.i2z).trans q
    · have lt : c < s.heap.objs.size := by
        have lt1 : i1 < s.heap.objs.size := by obtain ⟨_, q, _⟩ := h1.obj; exact Heap.lt_size q
        have lt2 : i2 < s.heap.objs.size := by obtain ⟨_, q, _⟩ := h2.obj; exact Heap.lt_size q
        have hcm2 := hcm
        simp only [List.mem_cons, List.not_mem_nil, or_false] at hcm2
        rcases hcm2 with rfl | rfl | rfl | rfl | rfl
        · exact zl
        · exact Heap.lt_size hTI
        · exact Heap.lt_size hTO
        · exact lt1
        · exact lt2
      rw [upd_ne (Nat.ne_of_lt lt)]
      exact (hf c hcm).1
  done := by
    rintro X rfl rfl rfl hc i pins s σ H E I hf ⟨hz, hTI, ⟨x0, y0, hTO⟩, h1, h2⟩ ⟨xs, ys, qx, qy, le1, le2, en⟩
    obtain ⟨its, rv, ox⟩ := seqB I qx
    obtain ⟨jts, rw_, oy⟩ := seqB I qy
    have e1 := rv.length
    have e2 := rw_.length
    refine wpAny_pyNext_zipD2_end (sepOf D) (drawB (A := X.A.in1) (I.ok.hd hc) D.l1i1 its.toArray t1) (drawB (A := X.A.in1) (I.ok.hd hc) D.l2i2 jts.toArray t2) hz hTI hTO ⟨h1, ox⟩ ⟨h2, oy⟩ (by simp; omega) (by simp; omega) (by simp; omega) fun h' tk nk => ?_
    exact ⟨rfl, I.turnedL (ch := [z, TI, TO, i1, i2]) (fun c o nc q => nk c o (fun e => nc (by simp [e])) (fun e => nc (by simp [e])) (fun e => nc (by simp [e])) (fun e => nc (by simp [e])) q) hf⟩
  self := fun _ _ _ _ _ st h => wpAny_pyIter_zip st.1 h
def iZipB (K : PySem.W.Frag) (t1 t2 : Bool) (ta : L2.TA) : TI := fun σ H R => ta σ H fun vs H1 => ∃ a b xs ys, vs = [.ref a, .ref b] ∧ SqB K t1 H1 a xs ∧ SqB K t2 H1 b ys ∧ R (ItZ K t1 t2 a b) H1
theorem kZip (K : PySem.W.Frag) (t1 t2 : Bool) {X : Cx} {e e2 : Expr} {ta : L2.TA} {p pos tpos : Pos} {elts : List Expr} {kk : Nat} (hg : Gl X "zip") (hm : X.mg "zip" = none) (ha : PA X [e, e2] ta) (hK : X.K = K := by rfl)
    (st : starEach [e, e2] X.env = (false, eval e X.env) :: starEach [e2] X.env := by rfl) (pl : (backTo pos (starEach [e2] X.env)).any (·.1) = false := by rfl) :
    PI X (.Tuple elts kk tpos) (.Call (.Name "zip" p) [e, e2] [] pos) (iZipB K t1 t2 ta) := by
  subst hK
  refine ⟨fun pins s σ H R I h => Call_ (ld_blt I hg hm PyProof.Rows.boot_zip (PyProof.Rows.callWith_type1 (thn (ha.run pos pins s σ H _ I h) fun us s1 ⟨vs, H1, I1, r1, a, b, xs, ys, ex, qx, qy, q⟩ => ?_) st pl))⟩
  subst ex
  cases r1 with
  | cons r rr =>
    cases rr with
    | cons r' rr =>
      cases rr
      cases r
      cases r'
      obtain ⟨its, rv, ox⟩ := seqB I1 qx
      obtain ⟨jts, rw_, oy⟩ := seqB I1 qy
      refine zip_begins2 (beginB a its.toArray t1) (beginB b jts.toArray t2) ox oy fun h' nz nTI nTO n1 n2 nsz nk => wpAny_pyIter_zip nz ?_
      have J : Inv X pins σ H1 { s1 with heap := h' } := I1.kept (t' := s1.toks) nk
      refine ⟨s1.heap.objs.size + 4, [s1.heap.objs.size + 4, s1.heap.objs.size + 2, s1.heap.objs.size + 3, s1.heap.objs.size, s1.heap.objs.size + 1], _, _, H1, rfl, J, turnZ (PySem.W.ktu_apart s1.heap.objs.size a b (obB_lt ox) (obB_lt oy)), ⟨nz, nTI, ⟨_, _, nTO⟩, itB_new n1, itB_new n2⟩, fun c hcm => ?_, q⟩
      have le : s1.heap.objs.size ≤ c := by
        simp only [List.mem_cons, List.not_mem_nil, or_false] at hcm
        rcases hcm with rfl | rfl | rfl | rfl | rfl
        · exact Nat.le_add_right _ _
        · exact Nat.le_add_right _ _
        · exact Nat.le_add_right _ _
        · exact Nat.le_refl _
        · exact Nat.le_add_right _ _
      exact I1.fpOk le (I1.hok.fresh le)
/-! over data -/
def seqD : Bool → List PyData → PyData | true => .tuple | false => .list
section
variable {K : PySem.W.Frag} {γ : Type} {W : Wd γ} {ρ : Rho} {k : γ} {L1 L : List Addr} {H1 H : Hp}
theorem T.seqB {N : List Addr} {v : V} : ∀ {t : Bool} {ds : List PyData}, T K N H v (seqD t ds) → ∃ a xs, v = .ref a ∧ a ∉ N ∧ SqB K t H a xs ∧ (∀ H', Ext N H H' → SqB K t H' a xs ∧ TA K N H' xs ds)
  | true, _, .tup n ha t => ⟨_, _, rfl, n, SqT.of ha, fun H' e => ⟨SqT.of (e _ _ n ha), t.ext e⟩⟩
  | false, _, .lst n ha t => ⟨_, _, rfl, n, SqL.of ha, fun H' e => ⟨SqL.of (e _ _ n ha), t.ext e⟩⟩
theorem later_seqB {t : Bool} {a : Addr} {ds : List PyData} (l : Later W L1 H1 L H) (h : T K (L1 ++ W.M) H1 (.ref a) (seqD t ds)) : ∃ xs, SqB K t H a xs ∧ TA K (L ++ W.M) H xs ds := by
  cases t with
  | true =>
    obtain ⟨xs, h1, h2⟩ := later_tup l h
    exact ⟨xs, SqT.of h1, h2⟩
  | false =>
    obtain ⟨xs, h1, h2⟩ := later_seq l h
    exact ⟨xs, SqL.of h1, h2⟩
theorem seqB_at {N : List Addr} {t : Bool} {a : Addr} {ds : List PyData} {xs ys : List V} (h1 : SqB K t H a xs) (tx : TA K N H xs ds) : xs.length = ds.length := tx.len
theorem walkD_zip {t1 t2 : Bool} {a b : Addr} {ds es : List PyData} (hl : ds.length = es.length) (ta : T K (L1 ++ W.M) H1 (.ref a) (seqD t1 ds)) (tb : T K (L1 ++ W.M) H1 (.ref b) (seqD t2 es)) :
    WalkD K W (ItZ K t1 t2 a b) ds.length (fun i => .tuple [itemD ds i, itemD es i]) L1 H1 where
  goes := fun i L H hi l => by
    obtain ⟨xs, h1, h2⟩ := later_seqB l ta
    obtain ⟨ys, g1, g2⟩ := later_seqB l tb
    have lx := h2.len
    have ly := g2.len
    exact ⟨xs, ys, xs[i], ys[i], h1, g1, List.getElem?_eq_getElem (by omega), List.getElem?_eq_getElem (by omega)⟩
  stops := fun L H l => by
    obtain ⟨xs, h1, h2⟩ := later_seqB l ta
    obtain ⟨ys, g1, g2⟩ := later_seqB l tb
    have lx := h2.len
    have ly := g2.len
    exact ⟨xs, ys, h1, g1, by omega, by omega, .inl lx.symm⟩
  yields := fun i L H x H' hi l y => by
    obtain ⟨xs, h1, h2⟩ := later_seqB l ta
    obtain ⟨ys, g1, g2⟩ := later_seqB l tb
    obtain ⟨p, x1, y1, rfl, hp, rfl, f1, f2⟩ := y
    have tx := h2.itemD (f1 xs h1)
    have ty := g2.itemD (f2 ys g1)
    exact ⟨Same.new hp, .tup (l.trk.new hp) upd_same (.cons (tx.ext (Ext.new hp)) (.one (ty.ext (Ext.new hp))))⟩
theorem ei_zip {t1 t2 : Bool} {tr : L2.TA} {Ω : Nat → (Nat → PyData) → γ → Prop} (h : EvA K W tr ρ k fun es k1 => ∃ ds es', es = [seqD t1 ds, seqD t2 es'] ∧ ds.length = es'.length ∧ Ω ds.length (fun i => .tuple [itemD ds i, itemD es' i]) k1) : EvI K W (iZipB K t1 t2 tr) ρ k Ω := fun L0 H0 L H σ S R c =>
  h L0 H0 L H σ S _ fun vs es k1 H1 S1 e t g => by
    obtain ⟨ds, es', rfl, hl, q⟩ := g
    obtain ⟨u, v, rfl, tu, tv⟩ := t.two_
    obtain ⟨a, xs, rfl, _, h1, _⟩ := tu.seqB
    obtain ⟨b, ys, rfl, _, g1, _⟩ := tv.seqB
    exact ⟨a, b, xs, ys, rfl, h1, g1, c _ _ _ k1 H1 S1 e (walkD_zip hl tu tv) q⟩
end
end U

set_option Elab.async false
set_option linter.all false
set_option maxRecDepth 100000
set_option maxHeartbeats 2000000
namespace U
open PySem PySem.Spec PyProof.Rows L2
/-! ### {k: v} with a tuple as key -/
def tDispN (P : Program) (w : World) (K : PySem.W.Frag) (tk tv : TE) : TE := fun σ H Q => ∀ p, H p = none → tPairs [(tk, tv)] σ (upd H p (DN P w p [])) fun ps H2 => H2 p = some (DN P w p []) ∧ ∃ y v k b, ps = [(y, v)] ∧ y = .ref b ∧ KeyY K H2 y k ∧ Q (.ref p) (upd H2 p (DN P w p [(k, b, v)]))
theorem wp_dispH {prog : Program} {w : World} {Y : Type} [DecidableEq Y] {knd : HeapKind prog w Y} {A : Around} {E : Value → Shared → Prop} {s : Shared} {env : Env} {keys : List (Option Expr)} {values : List Expr} {pos : Pos} {Q : Value → Shared → Prop}
    (room : knd.room A) (hall : keys.all (·.isSome) = true) (hl : keys.length = values.length) (h0 : pairTrees keys values env pos ≠ []) (h15 : (pairTrees keys values env pos).length ≤ 15)
    (h : wpAny (model prog w) A (evalPairs (pairTrees keys values env pos)) (fun vs z => ∃ ps, CarriesH knd z.heap vs ps ∧ z.heap.DictOfH knd s.heap.objs.size [] ∧
      ∀ h' tk, h'.DictOfH knd s.heap.objs.size (storedAllH [] ps) → Heap.SameBut s.heap.objs.size z.heap h' → Q (.ref s.heap.objs.size) { z with heap := h', toks := tk }) E
      { s with heap := s.heap.push { cls := .type "dict", data := .dict #[] } }) : wpAny (model prog w) A (eval (.Dict keys values pos) env) Q E s := by
  have e := zip_pairTrees keys values env pos hall hl
  rw [arm_eval_Dict, e, dictDisplay_pairs _ h0 (by omega)]
  refine wpAny_bind (wpAny_standAt (wpAny_bind (wpAny_subDictH (knd := knd) room h15 (wpAny_mono h (fun vs z g => ?_) fun _ _ e => e))))
  obtain ⟨ps, c, d, q⟩ := g
  exact ⟨ps, c, d, fun h' tk a b => wpAny_pure (q h' tk a b)⟩
theorem pe_dispN {X : Cx} {K : PySem.W.Frag} {pos : Pos} {key value : Expr} {tk tv : TE} (hu : X.A.units + 9 < cLine) (hk : PE X key tk) (hv : PE X value tv) : PE X (.Dict [some key] [value] pos) (tDispN X.prog X.w K tk tv) := by
  constructor
  intro pins s σ H Q I q
  have fresh := I.hok.fresh (Nat.le_refl s.heap.objs.size)
  have ok : ObjOk X.prog X.w (upd H s.heap.objs.size (DN X.prog X.w s.heap.objs.size [])) (s.heap.push { cls := .type "dict", data := .dict #[] }) s.heap.objs.size (DN X.prog X.w s.heap.objs.size []) :=
    dn_new (us := []) (Nat.zero_le _) (beq_eq_false_iff_ne.mpr (Ne.symm (Nat.ne_of_lt I.big))) .nil (Heap.DictOfH.new s.heap)
  have J := I.laid (a := s.heap.objs.size) (t' := s.toks) (fun _ _ e => Heap.get?_push_of_some _ e) (Nat.le_refl _) ok
  have room : (nestedKind X.prog X.w).room X.A := by
    show X.A.units + 8 < cLine
    omega
  refine wp_dispH (knd := nestedKind X.prog X.w) room rfl rfl (fun z => by cases z) (show 1 ≤ 15 by decide) (thn ((pps_cons hk hv pps_nil).run pins _ σ _ _ J (q _ fresh)) fun ws z g => ?_)
  obtain ⟨ps, H2, I2, rel, e2, y, v, k, b, rfl, rfl, ky, q2⟩ := g
  cases rel with
  | cons r rr =>
    cases rr
    rename_i w0
    obtain ⟨w1, w2⟩ := w0
    obtain ⟨b', eb, eb2, hkey⟩ := key_at I2 ky r.1
    cases eb2
    have eb : w1 = .ref b := eb
    subst eb
    obtain ⟨zz, hd, us0, r0, dd⟩ := dn_at (K := K) (N := []) (kvs := []) I2 e2 .nil
    cases r0
    refine ⟨[(k, b, w2)], ⟨rfl, rfl, hkey, trivial⟩, dd, fun h' tk dd' hs => ?_⟩
    have he : ∃ o, h'.get? s.heap.objs.size = some o := let ⟨o, _, _, ho, _⟩ := dd'; ⟨o, ho⟩
    exact ⟨.ref s.heap.objs.size, _, d_write I2 (by rw [e2]; exact True.intro) hs he (dn_new (xs := [(k, b, v)]) (us := [(k, b, w2)]) (show 1 ≤ sizeLine by decide) hd (.cons ⟨rfl, rfl, r.2⟩ .nil) dd'), rfl, q2⟩
section
variable {K : PySem.W.Frag} {γ : Type} {W : Wd γ} {L0 L : List Addr} {H0 H : Hp} {σ : L2.St} {ρ : Rho} {k : γ} {p : Addr}
theorem Stt.takeHid (S : Stt K W L0 H0 (p :: L) H σ ρ k) (nat : NoAt ρ σ p) (i : Nat) {s0 : Slot} (ok : SlotOk K (p :: L ++ W.M) (p :: L) H (some (some (.ref p))) s0) : Stt K W L0 H0 (p :: L) H (σ.set i (some (.ref p))) (ρ.set i s0) k := by
  have il : ∀ {s : Slot}, (ρ.set i s0)[i]? = some s → s = s0 ∧ i < σ.length := fun {s} hs => by
    rw [List.getElem?_set_self'] at hs
    cases q : ρ[i]? with
    | none => rw [q] at hs; cases hs
    | some u =>
      rw [q] at hs
      have hs' : s0 = s := by simpa using hs
      exact ⟨hs'.symm, by rw [← S.len]; exact (List.getElem?_eq_some_iff.mp q).1⟩
  refine ⟨S.base, S.fresh, S.offM, S.trk, S.wd, by rw [List.length_set, List.length_set]; exact S.len, fun j s hs => ?_, fun j m s u hs hu h1 h2 h3 => ?_⟩
  · by_cases ej : j = i
    · subst ej
      obtain ⟨rfl, hl⟩ := il hs
      rw [show (σ.set j (some (V.ref p)))[j]? = some (some (.ref p)) by simp [hl]]
      exact ok
    · rw [List.getElem?_set_ne (fun z => ej z.symm)] at hs ⊢
      exact S.slots j s hs
  · by_cases ej : j = i
    · by_cases em : m = i
      · rw [ej, em]
      · exfalso
        subst ej
        obtain ⟨_, hl⟩ := il hs
        rw [List.getElem?_set_ne (fun z => em z.symm)] at hu h3
        rw [show (σ.set j (some (V.ref p)))[j]? = some (some (.ref p)) by simp [hl]] at h3
        exact nat m u hu h2 h3.symm
    · by_cases em : m = i
      · exfalso
        subst em
        obtain ⟨_, hl⟩ := il hu
        rw [List.getElem?_set_ne (fun z => ej z.symm)] at hs h3
        rw [show (σ.set m (some (V.ref p)))[m]? = some (some (.ref p)) by simp [hl]] at h3
        exact nat j s hs h1 h3
      · rw [List.getElem?_set_ne (fun z => ej z.symm)] at hs h3
        rw [List.getElem?_set_ne (fun z => em z.symm)] at hu h3
        exact S.dis j m s u hs hu h1 h2 h3
/-- x = {key: v}, the key a tuple -/
theorem sw_dispN {P : Program} {w : World} {tk tv : TE} {i : Nat} {Z : Ps γ} (h : EvW K W tk ρ k fun e k1 => ∃ key es, e = .tuple es ∧ nkey e = some key ∧ key.depth ≤ 8 ∧ EvW K W tv ρ k1 fun d k2 => Z.nx (ρ.set i (.ownN (DN P w) [(key, d)])) k2) :
    SW K W (tAsg (tDispN P w K tk tv) (gName i)) ρ k Z := fun L0 H0 L H σ D S nx _ _ _ => by
  intro p hp
  obtain ⟨S1, nat⟩ := S.hide (o := DN P w p []) hp
  have npM : p ∉ W.M := fun z => S.nin hp (List.mem_append_right _ z)
  refine h L0 H0 (p :: L) _ σ S1 _ fun y e k1 H1 S2 e1 t1 g => ?_
  obtain ⟨key, es, rfl, hk, hd, g⟩ := g
  refine g L0 H0 (p :: L) H1 σ S2 _ fun v d k2 H2 S3 e2 t2 q => ?_
  have hp2 : H2 p = some (DN P w p []) := (e1.trans e2) p _ npM upd_same
  have t1' := t1.ext (eM e2)
  cases t1 with
  | @tup b xs _ nb hb tb =>
    refine ⟨hp2, .ref b, v, key, b, rfl, rfl, ⟨_, b, _, rfl, t1', hk, hd⟩, ?_⟩
    have ex : Ext (p :: L ++ W.M) H2 (upd H2 p (DN P w p [(key, b, v)])) := Ext.put (by simp)
    refine nx _ _ _ _ _ ((S3.putHid (o := DN P w p [(key, b, v)]) nat).takeHid nat i (s0 := .ownN (DN P w) [(key, d)]) ?_) q
    exact ⟨p, _, rfl, by simp, upd_same, .cons hk hd (t1'.ext ex) (t2.ext ex) .nil⟩
end
end U

set_option Elab.async false
set_option linter.all false
set_option maxRecDepth 100000
set_option maxHeartbeats 2000000
namespace U
open PySem PySem.Spec PyProof.Rows L2
/-! ### a def that writes nothing, of whose value is known what G says -/
def spQ (K : PySem.W.Frag) (n : Nat) (R : List PyData → (PyData → Prop) → Prop) : Sp := fun vs H Q _ => ∃ (M : List Addr) (ds : List PyData) (G : PyData → Prop), TA K M H vs ds ∧ Trk M H ∧ ds.length = n ∧ R ds G ∧ ∀ v r H', G r → Same H H' → T K M H' v r → Q v H'
section
variable {K : PySem.W.Frag} {γ : Type} {W : Wd γ} {ρ : Rho} {k : γ} {Φ : PyData → γ → Prop} {P : Ps γ} {te tk tv : TE} {i : Nat}
theorem rc_q {n : Nat} {R : List PyData → (PyData → Prop) → Prop} {ds : List PyData} {G : PyData → Prop} (hl : ds.length = n) (h : R ds G) (q : ∀ r, G r → Φ r k) : RCD K W (fun vs H Q => spQ K n R vs H Q E0) ds ρ k Φ := fun L0 H0 L H σ vs S tx Q c =>
  ⟨_, ds, G, tx, S.trk, hl, h, fun v r H' g s t => c v r k H' (S.same s) (Ext.same s) t (q r g)⟩
theorem spQ.ok {R : List PyData → (PyData → Prop) → Prop} {n : Nat} {N : List Str} {vs : List V} {H : Hp} {Q : VK} {E : XK} {t : TS} (h : spQ K n R vs H Q E)
    (hb : ∀ (W : Wd Nat) (ds : List PyData) (G : PyData → Prop), R ds G → SW K W t (rest0 N ds) 0 ⟨fun _ _ => G .none, fun d _ => G d, fun _ _ => False, fun _ _ => False⟩) : t { nx := fun _ H' => Q .non H', rt := Q } (start N vs) H := by
  obtain ⟨M, ds, G, ta, tr, _, hr, q⟩ := h
  have fin : ∀ k' H', Ext ([] ++ (pureW M H tr).M) H H' → (pureW M H tr).I k' M H' → Same H H' := fun k' H' e wi b o hb => by
    by_cases hm : b ∈ M
    · rw [wi b hm]; exact hb
    · exact e b o hm hb
  refine hb (pureW M H tr) ds G hr [] H [] H (start N vs) _ (stt_start ta fun b _ => rfl) (fun L' H' σ' ρ' k' S' e => ?_) (fun v d k' H' e wi t' hd => ?_) (fun _ _ _ _ _ _ z => z.elim) (fun _ _ _ _ _ _ z => z.elim)
  · exact q .non .none H' e (fin k' H' S'.base S'.wdM) .non
  · exact q v d H' hd (fin k' H' e wi) t'
theorem spQ.len {R : List PyData → (PyData → Prop) → Prop} {n : Nat} {vs : List V} {H : Hp} {Q : VK} {E : XK} (h : spQ K n R vs H Q E) : vs.length = n := by
  obtain ⟨M, ds, r, ta, tr, hl, hR, q⟩ := h
  rw [ta.len]
  exact hl
/-- x = {k: v} -/
theorem sw_dispE (h : EvW K W tk ρ k fun e k1 => ∃ key, e = keyD key ∧ EvW K W tv ρ k1 fun d k2 => P.nx (ρ.set i (.ownD [(key, d)])) k2) : SW K W (tAsg (tDisp [(tk, tv)]) (gName i)) ρ k P := fun L0 H0 L H σ D S nx _ _ _ => by
  intro p hp
  obtain ⟨S1, nat⟩ := S.hide (o := .dK []) hp
  have npM : p ∉ W.M := fun z => S.nin hp (List.mem_append_right _ z)
  refine h L0 H0 (p :: L) _ σ S1 _ fun y e k1 H1 S2 e1 t1 g => ?_
  obtain ⟨key, rfl, g⟩ := g
  refine g L0 H0 (p :: L) H1 σ S2 _ fun v d k2 H2 S3 e2 t2 q => ?_
  have hp2 : H2 p = some (.dK []) := (e1.trans e2) p _ npM upd_same
  have ey := keyD_T t1
  subst ey
  refine ⟨hp2, [(key, v)], rfl, (show 1 ≤ 15 by decide), ?_⟩
  rw [show mergeK [] [(key, v)] = [(key, v)] from rfl]
  have ex : Ext (p :: L ++ W.M) H2 (upd H2 p (.dK [(key, v)])) := Ext.put (by simp)
  refine nx _ _ _ _ _ ((S3.putHid (o := .dK [(key, v)]) nat).takeHid nat i (s0 := .ownD [(key, d)]) ?_) q
  exact ⟨p, _, rfl, by simp, upd_same, .cons (t2.ext ex) .nil⟩
/-- x = list(xs) -/
theorem sw_ownOf (h : EvW K W te ρ k fun x k1 => ∃ ds, (x = .list ds ∨ x = .tuple ds) ∧ P.nx (ρ.set i (.own ds)) k1) : SW K W (tAsg (tCB (rListOf K) (tCons te tNil)) (gName i)) ρ k P := fun L0 H0 L H σ D S nx _ _ _ =>
  h L0 H0 L H σ S _ fun v x k1 H1 S1 e1 t1 g => by
    obtain ⟨ds, hx, q⟩ := g
    have fin : ∀ (a : Addr) (xs : List V), TA K (L ++ W.M) H1 xs ds → ∀ p, H1 p = none → D.nx (σ.set i (some (.ref p))) (upd H1 p (.lst xs)) := fun a xs ts p hp =>
      nx _ _ _ _ _ (S1.setOwn i (s0 := .own ds) rfl hp ⟨p, xs, rfl, by simp, upd_same, (ts.plus hp).ext (Ext.put (by simp))⟩) q
    rcases hx with rfl | rfl
    · cases t1 with
      | @lst a xs _ na ha ts => exact ⟨a, xs, rfl, .inl (SqL.of ha), fun p hp => fin a xs ts p hp⟩
    · cases t1 with
      | @tup a xs _ na ha ts => exact ⟨a, xs, rfl, .inr (SqT.of ha), fun p hp => fin a xs ts p hp⟩
/-! (int, text) < (int, text) -/
def rLtP (K : PySem.W.Frag) : R2 := fun x y H Q => ∃ i j z u, Dp K H x (.tuple [.int i, .str z]) ∧ Dp K H y (.tuple [.int j, .str u]) ∧ Q (.bl (decide (i < j) || (decide (i = j) && decide (z.cps.toList < u.cps.toList)))) H
theorem op_ltP {X : Cx} (hu : X.A.units + 9 < cLine) : OpR X (compareOp .Lt) (rLtP X.K) := by
  intro pins s σ H x y v u Q I rx ry h
  obtain ⟨i, j, z, w, hd, he, q⟩ := h
  obtain ⟨as, r1⟩ := Dp.reads I _ x v hd rx
  obtain ⟨bs, r2⟩ := Dp.reads I _ y u he ry
  have al : PySem.W.alike (.tuple [.int i, .str z]) (.tuple [.int j, .str w]) = true := rfl
  have dp : X.A.units + min (PyData.depth (.tuple [.int i, .str z])) (PyData.depth (.tuple [.int j, .str w])) < cLine := by
    show X.A.units + 1 < cLine
    omega
  have key := PySem.W.rcLt_alike (.tuple [.int i, .str z]) (.tuple [.int j, .str w]) X.A s v u as bs r1 r2 al (by simp) dp X.prog X.w X.xe (EP X pins σ Q)
  have e : PySem.W.dataLt (.tuple [.int i, .str z]) (.tuple [.int j, .str w]) = (decide (i < j) || (decide (i = j) && decide (z.cps.toList < w.cps.toList))) := by
    rw [PySem.W.dataLt_pair rfl rfl, PySem.W.dataLt_int, PySem.W.dataLt_str]
    have e1 : PyData.eqv (.int i) (.int j) = decide (i = j) := by
      show (i == j) = _
      by_cases h : i = j <;> simp [h]
    have e2 : PyData.eqv (.str z) (.str w) = decide (z = w) := by
      show (z == w) = _
      by_cases h : z = w <;> simp [h]
    rw [e1, e2]
    by_cases h : i = j
    · subst h
      by_cases h2 : z = w
      · subst h2
        have irr : ¬ (z.cps.toList < z.cps.toList) := List.lt_irrefl _
        simp [irr]
      · simp [h2]
    · simp [h]
  rw [e] at key
  exact key ⟨.bl _, H, I, rfl, q⟩
theorem kLtP (K : PySem.W.Frag) {X : Cx} {k : Nat} (hr : Room k X.A) (h : X.K = K := by rfl) : OpR X (compareOp .Lt) (rLtP K) := by subst h; exact op_ltP (room9 hr)
theorem rd_ltP {i j : Int} {z u : Str} (q : Φ (.bool (decide (i < j) || (decide (i = j) && decide (z.cps.toList < u.cps.toList)))) k) : RD K W (rLtP K) (.tuple [.int i, .str z]) (.tuple [.int j, .str u]) ρ k Φ := rd_ q fun N H vx vy tx ty Q c => by
  cases tx with
  | tup n1 h1 t1 =>
    obtain ⟨a, b, rfl, a1, b1⟩ := t1.two_
    cases ty with
    | tup n2 h2 t2 =>
      obtain ⟨a', b', rfl, a2, b2⟩ := t2.two_
      cases a1; cases b1; cases a2; cases b2
      exact ⟨i, j, z, u, .tup (SqT.of h1) (.cons (.int _) (.cons (.str _) .nil)), .tup (SqT.of h2) (.cons (.int _) (.cons (.str _) .nil)), c _ (.bl _)⟩
end
end U
namespace U
open PySem PySem.Spec PyProof.Rows L2
section
variable {K : PySem.W.Frag} {γ : Type} {W : Wd γ} {ρ : Rho} {k : γ} {Φ : PyData → γ → Prop}
/-- (d,) * n -/
theorem rd_times {d : PyData} {n : Nat} (h1 : 1 ≤ n) (h2 : n ≤ 1000) (q : Φ (.tuple (List.replicate n d)) k) : RD K W (rTimes K) (.tuple [d]) (.int (n : Int)) ρ k Φ := rdN q fun N H vx vy tr tx ty Q c => by
  cases ty
  cases tx with
  | @tup a xs _ na ha ts =>
    obtain ⟨v, rfl, tv⟩ := ts.one_
    refine ⟨a, (n : Int), [v], rfl, rfl, SqT.of ha, by simp, by omega, by omega, by simp, fun e => ?_, fun e p hp => ?_⟩
    · have e1 : n = 1 := by omega
      subst e1
      exact c (.ref a) H (Same.refl _) (.tup na ha (.one tv))
    · rw [Int.toNat_natCast, flat_rep]
      refine c (.ref p) _ (Same.new hp) (.tup (tr.new hp) upd_same ?_)
      exact (TA.rep tv n).ext (Ext.new hp)
end
end U
namespace U
open PySem PySem.Spec PyProof.Rows L2
section
variable {K : PySem.W.Frag} {γ : Type} {W : Wd γ} {ρ : Rho} {k : γ} {tr : L2.TA} {Ω : Nat → (Nat → PyData) → γ → Prop}
theorem ei_zipTT (h : EvA K W tr ρ k fun es k1 => ∃ ds es', es = [.tuple ds, .tuple es'] ∧ ds.length = es'.length ∧ Ω ds.length (fun i => .tuple [itemD ds i, itemD es' i]) k1) : EvI K W (iZipB K true true tr) ρ k Ω := ei_zip (t1 := true) (t2 := true) h
theorem ei_zipTL (h : EvA K W tr ρ k fun es k1 => ∃ ds es', es = [.tuple ds, .list es'] ∧ ds.length = es'.length ∧ Ω ds.length (fun i => .tuple [itemD ds i, itemD es' i]) k1) : EvI K W (iZipB K true false tr) ρ k Ω := ei_zip (t1 := true) (t2 := false) h
end
end U
namespace U
open PySem PySem.Spec PyProof.Rows L2
section
variable {K : PySem.W.Frag} {γ : Type} {W : Wd γ} {ρ : Rho} {k : γ} {P : Ps γ} {i j : Nat}
/-- x, y = [], [] -/
theorem sw_parOO (q : P.nx ((ρ.set i (.own [])).set j (.own [])) k) : SW K W (tPar i j (tCons (tLst tNil) (tCons (tLst tNil) tNil))) ρ k P := fun L0 H0 L H σ D S nx _ _ _ => by
  refine ⟨Nat.zero_le _, fun p hp => ⟨Nat.zero_le _, fun p2 hp2 => ?_⟩⟩
  have S1 := S.setOwn i (s0 := .own []) (o := .lst []) rfl hp ⟨p, [], rfl, by simp, upd_same, .nil⟩
  have S2 := S1.setOwn j (s0 := .own []) (o := .lst []) rfl hp2 ⟨p2, [], rfl, by simp, upd_same, .nil⟩
  exact ⟨_, _, rfl, nx _ _ _ _ _ S2 q⟩
end
end U

set_option Elab.async false
set_option linter.all false
set_option maxRecDepth 100000
set_option maxHeartbeats 4000000
/-! sets of texts: set(list), sorted(set) -/
namespace U
open PySem PySem.Spec PyProof.Rows L2 PySem.Froz
local macro_rules | `(tactic| walk_at "wpw") => `(tactic| repeat (any_goals (first | assumption | wp_step)))

theorem ris_tail {ep : Nat} {es : Array (Int × Value)} {t : SetTable} {wd : Bool} (r : Ris t.place.toList) : Ris (tailTx ep es t wd).2.2.place.toList := by
  unfold tailTx
  split
  · exact relayAll_ris ..
  · exact r
theorem led_tail {ep : Nat} {es : Array (Int × Value)} {t : SetTable} {wd : Bool} : (tailTx ep es t wd).2.2.led = t.led := by
  unfold tailTx
  split
  · exact relayAll_led ..
  · rfl
theorem ris_addTx {h : Int} {v : Value} {D : SD} (r : Ris D.2.2.place.toList) : Ris (addTx h v D).2.2.place.toList := by
  have q := layNew_ris D.2.2 D.1 h v r
  unfold addTx
  refine ris_tail ?_
  split <;> exact q
theorem led_addTx {h : Int} {v : Value} {D : SD} : (addTx h v D).2.2.led = D.2.2.led := by
  have q := layNew_led D.2.2 D.1 h v
  unfold addTx
  rw [led_tail]
  split <;> exact q
/-- the set of the texts l at a, which can be walked -/
structure SetX (P : Program) (w : World) (h : Heap) (a : Addr) (l : List Str) : Prop where
  ex : ∃ D : SD, h.get? a = some (sObj "set" D) ∧ TxOk P w D l ∧ Ris D.2.2.place.toList ∧ (w.params.followText "set-order" = true ∨ D.2.2.led = true)
  nd : l.Nodup
theorem SetX.at {P : Program} {w : World} {h h' : Heap} {a : Addr} {l : List Str} (R : SetX P w h a l) (k : ∀ o, h.get? a = some o → h'.get? a = some o) : SetX P w h' a l := by
  obtain ⟨⟨D, h1, r⟩, nd⟩ := R
  exact ⟨⟨D, k _ h1, r⟩, nd⟩
section
variable {P : Program} {w : World} {A : Around} {E : Value → Shared → Prop} {s : Shared}
theorem dup_x {a : Addr} {D : SD} {l : List Str} {k : Str} {u : Tok} {Q : Bool → Shared → Prop} (ho : s.heap.get? a = some (sObj "set" D)) (F : TxOk P w D l) (hk : k ∈ l) (hb : l.length < scanBound) (q : Q false s) :
    wpAny (model P w) A (setAddHashed a (.str k u) (hashStr w k)) Q E s := by
  obtain ⟨es, ep, t⟩ := D
  have z0 : es.size = l.length := F.sz
  have hz : es.size < scanBound := z0 ▸ hb
  obtain ⟨j, hj⟩ : ∃ j, es.toList.findIdx? (fun e => (strKind P w).is k e.2) = some j := by
    cases c : es.toList.findIdx? (fun e => (strKind P w).is k e.2) with
    | some j => exact ⟨j, rfl⟩
    | none =>
      obtain ⟨e, he, z⟩ := (F.mem k).mp hk
      have := List.findIdx?_eq_none_iff.mp c e he
      simp [z] at this
  unfold setAddHashed setAddHashedIn
  refine wpAny_holding (wpAny_bind (wpAny_setState_of ho rfl F.fit ?_))
  dsimp only
  rw [byScan_of rfl hz F.el]
  simp only [↓reduceIte]
  unfold setAddByScan
  refine wpAny_bind (wpAny_bind (wpAny_rule (wpAny_bind (wpAny_setScan_of (knd := strKind P w) (k := k) (is_str k u) ho rfl F.fit F.el ?_))))
  rw [hj]
  dsimp only
  exact wpAny_pure (wpAny_pure q)
theorem SetX.add {a : Addr} {l : List Str} {k : Str} {u : Tok} {Q : Bool → Shared → Prop} (R : SetX P w s.heap a l) (hb : l.length + 1 < scanBound)
    (hQ : ∀ b h' l', Heap.SameBut a s.heap h' → SetX P w h' a l' → (∀ x, x ∈ l' ↔ x = k ∨ x ∈ l) → l'.length ≤ l.length + 1 → Q b { s with heap := h' }) : wpAny (model P w) A (setAddHashed a (.str k u) (hashStr w k)) Q E s := by
  obtain ⟨⟨D, ho, F, r, g⟩, nd⟩ := R
  by_cases hk : k ∈ l
  · refine dup_x ho F hk (by omega) (hQ false s.heap l (Heap.SameBut.refl ..) ⟨⟨D, ho, F, r, g⟩, nd⟩ (fun x => ⟨.inr, fun z => z.elim (fun e => e ▸ hk) id⟩) (by omega))
  · refine add_x ho F hk hb (hQ true _ (k :: l) (Heap.SameBut.update ..) ⟨⟨_, get_upd _ ho rfl, add_ok u F, ris_addTx r, by rw [led_addTx]; exact g⟩, List.nodup_cons.mpr ⟨hk, nd⟩⟩ (fun x => List.mem_cons) (by simp))

variable {I : Addr} {fp wr : List Addr} {G : Array GenState → Array GenState → Prop} {n : Nat} {Pv : Nat → Value → Prop} {St : Nat → Shared → Prop} {R : Result → Shared → Prop}
theorem loopX (W : WalksS P w A.in1 I fp wr G n Pv St) (S : Addr) (nS : S ∉ fp) (xs : List Str) (hn : n = xs.length) (hv : ∀ i v, Pv i v → ∃ t, v = .str (xs.getD i Str.empty) t) (hb : n + 1 < scanBound) :
    ∀ (c i : Nat) (s : Shared), n - i = c → i ≤ n → St i s → (∃ l, SetX P w s.heap S l ∧ (∀ x, x ∈ l ↔ x ∈ xs.take i) ∧ l.length ≤ i) →
      (∀ s', Moved (S :: wr) G s s' → (∃ l, SetX P w s'.heap S l ∧ (∀ x, x ∈ l ↔ x ∈ xs) ∧ l.length ≤ n) → R (.ok (.ret .none)) s') →
      codeAny (model P w) A (.builtin "set.update.loop" ⟨[.ref S, .ref I], []⟩) R s := by
  have nw : S ∉ wr := fun z => nS (W.sub _ z)
  have up : ∀ b ∈ wr, b ∈ S :: wr := fun b z => .tail _ z
  intro c
  induction c with
  | zero =>
    intro i s hc hi st ⟨l, X, m, ll⟩ out
    obtain rfl : i = n := by omega
    refine codeAny_builtin PyProof.Rows.F.entry_set_update_loop ?_
    rw [Around.under_plainId PyProof.Rows.F.plain_set_update_loop _]
    refine wpAny_bind (m := pyNext (.ref I)) (W.done s _ _ st fun s' mv => wpAny_pure (out s' (mv.mono up) ⟨l, X.at fun o e => mv.heap S o nw e, fun x => ?_, ll⟩))
    rw [m x, hn, List.take_length]
  | succ c ih =>
    intro i s hc hi st ⟨l, X, m, ll⟩ out
    have lt : i < n := by omega
    refine codeAny_builtin PyProof.Rows.F.entry_set_update_loop ?_
    rw [Around.under_plainId PyProof.Rows.F.plain_set_update_loop _]
    refine wpAny_bind (m := pyNext (.ref I)) (W.item i s _ _ lt st fun v s' pv st' mv => ?_)
    obtain ⟨t, rfl⟩ := hv i v pv
    have X' := X.at (h' := s'.heap) fun o e => mv.heap S o nw e
    refine wpAny_bind (m := holding [Value.str (xs.getD i Str.empty) t] (setAdd S (.str (xs.getD i Str.empty) t))) (wpAny_holding ?_)
    unfold setAdd
    refine wpAny_holding (wpAny_bind ((PySem.strKind P w).pyHash (k := xs.getD i Str.empty) (is_str _ _) ?_))
    refine SetX.add (s := { s' with toks := s'.toks + 1 }) X' (by omega) fun b h' l' sb X2 m2 l2 => ?_
    refine wpAny_pure ⟨plainId_quiet PyProof.Rows.F.plain_set_update_loop _, ih (i + 1) _ (by omega) lt (W.frame _ s' _ _ st' (Nat.le_succ _) fun b hb o e => ?_) ⟨l', X2, fun x => ?_, by omega⟩ fun s2 mv2 X3 => ?_⟩
    · exact (sb.2 b (by rintro rfl; exact nS hb)).trans e
    · rw [m2 x, m x, List.take_succ]
      have : xs[i]? = some (xs.getD i Str.empty) := by rw [List.getD_eq_getElem?_getD, List.getElem?_eq_getElem (hn ▸ lt)]; rfl
      rw [this, List.mem_append, Option.toList, List.mem_singleton]
      exact Or.comm
    · refine out s2 (Moved.trans W.gtrans ((mv.mono up).then_heap (Nat.le_succ _) fun b o hb e => ?_) mv2) X3
      exact (sb.2 b (by rintro rfl; exact hb (.head _))).trans e

abbrev nuS (w : World) : Obj := { cls := .type "set", dict := none, data := .set #[] 0 (.fresh 0 0 (!w.params.followText "set-order")) }
theorem setX_nu {h : Heap} {a : Addr} (ho : h.get? a = some (nuS w)) : SetX P w h a [] := by
  refine ⟨⟨(#[], 0, .fresh 0 0 (!w.params.followText "set-order")), ho, TxOk.nil rfl, List.Pairwise.nil, ?_⟩, List.nodup_nil⟩
  show _ ∨ (!w.params.followText "set-order") = true
  cases w.params.followText "set-order"
  · exact .inr rfl
  · exact .inl rfl
theorem strs_getD : ∀ {vs : List Value} {xs : List Str}, StrsAre vs xs → ∀ (i : Nat) (v : Value), vs[i]? = some v → ∃ t, v = .str (xs.getD i Str.empty) t
  | _, _, .nil, i, v, h => by simp at h
  | _, _, .cons n t r, 0, v, h => ⟨t, by simp at h; rw [← h]; rfl⟩
  | _, _, .cons n t r, i + 1, v, h => by
    obtain ⟨u, e⟩ := strs_getD r i v (by simpa using h)
    exact ⟨u, by rw [e]; rfl⟩
/-- what set(xs) leaves -/
def MadeX (P : Program) (w : World) (s : Shared) (xs : List Str) (h' : Heap) : Prop :=
  (∃ l, SetX P w h' s.heap.objs.size l ∧ (∀ x, x ∈ l ↔ x ∈ xs) ∧ l.length ≤ xs.length) ∧ ∀ b o, s.heap.get? b = some o → h'.get? b = some o
theorem call_setX {l : Addr} {items : Array Value} {xs : List Str} {Q : Value → Shared → Prop} (hh : A.handled = none) (hl : s.heap.IsList l items) (hi : StrsAre items.toList xs) (hb : xs.length + 1 < scanBound)
    (q : ∀ h' tk, MadeX P w s xs h' → Q (.ref s.heap.objs.size) { s with heap := h', toks := tk }) : wpAny (model P w) A (call (.type "set") [.ref l]) Q E s := by
  have hz : items.size = xs.length := by rw [← Array.length_toList]; exact StrsAre.len_eq hi
  obtain ⟨c, tl, mro⟩ := PySem.F.called_set.mro
  have g1 := PySem.F.called_set.made
  have g2 := PySem.F.called_set.sub
  refine wpAny_call (codeAny_of_tree ?_)
  show wpAny _ _ (callAny (.type "set") _) _ _ _
  refine wpAny_pure ⟨Code.quiet_builtin _ (by decide +kernel), codeAny_builtin PySem.F.entry_type_call ?_⟩
  rw [Around.under_plain (weight_type_call_type "set" [.ref l] []) rfl]
  have g3 := PySem.F.called_set.notType
  have g4 := PySem.F.called_set.canCreate
  have g5 := PySem.F.typeCall_set_1 (.ref l)
  walk_at "wpw"
  refine codeAny_mono (code_set_led1 (.ref l) (E := E) (Q₁ := fun v t => v = .ref s.heap.objs.size ∧ t = { s with heap := s.heap.push (nuS w) }) ⟨rfl, rfl⟩) fun r t ht => ?_
  rcases r with er | fl
  · exact ht
  cases fl with
  | ret v =>
    obtain ⟨rfl, rfl⟩ := ht
    have o0 : (s.heap.push (nuS w)).get? s.heap.objs.size = some (nuS w) := Heap.get?_push_size _ rfl
    have ty : Shared.TypeIs { s with heap := s.heap.push (nuS w) } (.ref s.heap.objs.size) "set" := ⟨_, o0, rfl⟩
    have g6 := PySem.F.called_set.init.lookup
    have g7 := PySem.F.called_set.init.bind (.ref s.heap.objs.size)
    walk_at "wpw"
    refine codeAny_mono (codeAny_call_builtin (R := wants (fun r t => r = .none ∧ ∃ h' tk, t = { s with heap := h', toks := tk } ∧ MadeX P w s xs h') E) PySem.F.called_set.init.plain PySem.F.entry_set_init (check_set_init_1 ty ?_)) fun r2 t2 ht2 => ?_
    · obtain ⟨⟨ocls, odict, odata, oslots⟩, hol, hcl, nl, hdl⟩ := hl
      simp only at hcl hdl
      subst hcl
      subst hdl
      have ol : (s.heap.push (nuS w)).get? l = some { cls := .type "list", dict := odict, data := .seq items nl, slots := oslots } := Heap.get?_push_of_some _ hol
      have g8 := PySem.F.sub_list_set
      have g9 := PySem.F.sub_list_frozenset
      have g10 : (Value.type "list" == Value.type "dict") = false := by decide
      have isl : (s.heap.push (nuS w)).IsList l items := ⟨_, ol, rfl, nl, rfl⟩
      unfold Builtin.«set.__init__» noKeywords Builtin.Frozenset.updateFrom
      generalize hPI : pyIter = PI
      wp_walk
      subst hPI
      refine wpAny_pyIter_list isl (wpAny_bind (wpAny_runValue ?_))
      have lS : l < s.heap.objs.size := Heap.lt_size hol
      have sz : (s.heap.push (nuS w)).objs.size = s.heap.objs.size + 1 := Heap.size_push ..
      have nl' : l ≠ (s.heap.push (nuS w)).objs.size := by rw [sz]; exact Nat.ne_of_lt (Nat.lt_succ_of_lt lS)
      have nS : s.heap.objs.size ∉ [(s.heap.push (nuS w)).objs.size, l] := by
        simp only [List.mem_cons, List.not_mem_nil, or_false, not_or]
        rw [sz]; exact ⟨Nat.ne_of_lt (Nat.lt_succ_self _), Nat.ne_of_gt lS⟩
      refine loopX ((Walks.list (by simp [hh]) _ l nl' items).toS) s.heap.objs.size nS xs hz (fun i v hv => strs_getD hi i v (by rw [Array.getElem?_toList]; exact hv)) (by omega) (items.size - 0) 0 _ (by omega) (Nat.zero_le _) ⟨⟨_, Heap.get?_push_size _ rfl, rfl, rfl⟩, isl.push _⟩ ⟨[], setX_nu (Heap.get?_push_of_some _ o0), by simp, by simp⟩ fun t mv ⟨l', X, m, ll⟩ => ?_
      obtain ⟨h', g', d', tk', os'⟩ := t
      obtain rfl : g' = s.gens := mv.gens
      obtain rfl : d' = s.drawn := mv.drawn
      obtain rfl : os' = s.os := mv.os
      show wpAny _ _ _ _ _ _
      refine wpAny_pure ?_
      show wpAny _ _ (ret Value.none) _ _ _
      refine wpAny_pure ⟨rfl, h', tk', rfl, ⟨l', X, m, by omega⟩, fun b o e => ?_⟩
      have bl := Heap.lt_size e
      refine mv.heap b o ?_ (Heap.get?_push_of_some _ (Heap.get?_push_of_some _ e))
      simp only [List.mem_cons, List.not_mem_nil, or_false, not_or]
      rw [sz]; exact ⟨Nat.ne_of_lt bl, Nat.ne_of_lt (Nat.lt_succ_of_lt bl)⟩
    · rcases r2 with er | fl2
      · exact ht2
      cases fl2 with
      | ret r =>
        obtain ⟨rfl, h', tk, rfl, mk⟩ := ht2
        walk_at "wpw"
        exact q _ _ mk
      | _ => exact ht2.elim
  | _ => exact ht.elim

theorem isStr_at {v : Value} {k : Str} (h : (strKind P w).is k v = true) : ∃ t, v = .str k t := by
  have h' : Value.isStrOf k v = true := h
  cases v <;> simp [Value.isStrOf] at h'
  exact ⟨_, by rw [h']⟩
theorem strs_of : ∀ (vs : List Value), (∀ v ∈ vs, ∃ k t, v = Value.str k t) → ∃ ss, StrsAre vs ss ∧ ss.length = vs.length
  | [], _ => ⟨[], .nil, rfl⟩
  | v :: vs, h => by
    obtain ⟨k, t, rfl⟩ := h v (.head _)
    obtain ⟨ss, a, b⟩ := strs_of vs fun u hu => h u (.tail _ hu)
    exact ⟨k :: ss, .cons k t a, by simp [b]⟩
theorem strs_mem : ∀ {vs : List Value} {ss : List Str}, StrsAre vs ss → ∀ x : Str, x ∈ ss ↔ ∃ t, Value.str x t ∈ vs
  | _, _, .nil, x => by simp
  | _, _, .cons n t r, x => by
    rw [List.mem_cons, strs_mem r x]
    constructor
    · rintro (rfl | ⟨u, h⟩)
      · exact ⟨t, .head _⟩
      · exact ⟨u, .tail _ h⟩
    · rintro ⟨u, h⟩
      rcases List.mem_cons.mp h with h | h
      · injection h with h1 h2
        exact .inl h1
      · exact .inr ⟨u, h⟩
theorem sorted_setX {a : Addr} {l : List Str} {Q : Value → Shared → Prop} (R : SetX P w s.heap a l) (hh : A.handled = none) (hb : l.length < scanBound)
    (q : ∀ s' p (out : Array Value) (c : Nat) (ss : List Str), (∀ b o, s.heap.get? b = some o → s'.heap.get? b = some o) → s'.gens = s.gens → s'.os = s.os → s.heap.objs.size ≤ p → s'.heap.get? p = some (seqObj "list" out c) →
      StrsAre out.toList ss → sortedS ss = true → (∀ x, x ∈ ss ↔ x ∈ l) → ss.length = l.length → Q (.ref p) s') :
    wpAny (model P w) A (call (.builtin "sorted") [.ref a]) Q E s := by
  obtain ⟨⟨⟨es, ep, t⟩, ho, F, r, g⟩, nd⟩ := R
  have z : es.size = l.length := F.sz
  refine Calls.call_function_entry kind_sorted plain_sorted entry_sorted (args_sorted1 _) ?_
  unfold Builtin.«sorted»
  refine wpAny_bind (m := checkCount "sorted" 1 1 _) (wpAny_pure (wpAny_bind (collect_set (A := A.in1) hh ⟨_, ho, rfl, rfl⟩ F.fit (z ▸ hb) r g fun s1 vs k1 z1 g1 o1 pm => ?_)))
  have vl : vs.length = l.length := by rw [pm.length_eq, List.length_map, Array.length_toList]; exact z
  have at1 : ∀ v ∈ vs, ∃ k t, v = Value.str k t := fun v hv => by
    obtain ⟨e, he, rfl⟩ := List.mem_map.mp (pm.mem_iff.mp hv)
    obtain ⟨⟨k, h1, h2⟩, h3⟩ := F.el e he
    obtain ⟨t, h4⟩ := isStr_at h1
    exact ⟨k, t, h4⟩
  obtain ⟨ss, S, sl⟩ := strs_of vs at1
  have ms : ∀ x, x ∈ ss ↔ x ∈ l := fun x => by
    rw [strs_mem S x, F.mem x]
    constructor
    · rintro ⟨t, h⟩
      obtain ⟨e, he, h1⟩ := List.mem_map.mp (pm.mem_iff.mp h)
      exact ⟨e, he, by rw [h1]; exact is_str _ _⟩
    · rintro ⟨e, he, h1⟩
      obtain ⟨t, h4⟩ := isStr_at h1
      exact ⟨t, pm.mem_iff.mpr (List.mem_map.mpr ⟨e, he, h4⟩)⟩
  have lz : vs.length ≤ sizeLine := by rw [vl]; exact fits_of_scanBound hb
  refine wpAny_bind (wpAny_newList ?_ lz)
  have oL : (s1.heap.push (seqObj "list" vs.toArray 0)).get? s1.heap.objs.size = some (seqObj "list" vs.toArray 0) := Heap.get?_push_size _ rfl
  refine wpAny_bind (wpAny_holding (wpAny_call_entry slot_list_sort ⟨_, oL, rfl⟩ entry_list_sort (list_sort_treeKAny strKind_oneLt oL S.keysOf (fun v₁ v₂ rest e => keyKind_strs (by rw [← e]; exact S)) lz fun st p1 p2 => ⟨_, rfl, ?_⟩) (args_list_sort _)))
  obtain ⟨ss', h1, h2, h3⟩ := sorted_out_str S p1 p2
  obtain ⟨c, hc⟩ := sortedHeap_at (vs := vs) (out := (arrOf st).map (·.2)) oL
  refine wpAny_pure ⟨_, rfl, q _ s1.heap.objs.size _ c ss' (fun b u e => ?_) g1 o1 z1 hc h1 h3 (fun x => by rw [h2.mem_iff, ms x]) (by rw [h2.length_eq, sl, vl])⟩
  have k2 := k1 b u e
  have lt := Heap.lt_size k2
  refine (sortedHeap_old (Nat.ne_of_lt lt) ?_).trans (Heap.get?_push_of_some _ k2)
  rw [size_push']
  exact Nat.lt_succ_of_lt lt
end
end U

set_option Elab.async false
set_option linter.all false
set_option maxRecDepth 100000
set_option maxHeartbeats 4000000
namespace U
open PySem PySem.Spec PyProof.Rows L2 PySem.Froz
/-- sorted(set(xs)), xs a list of texts -/
def rSrtSet (K : PySem.W.Frag) : V → Hp → VK → Prop := fun v H Q => ∃ (a : Addr) (ss : List Str), v = .ref a ∧ SqL K H a (ss.map V.str) ∧ ss.length < 1000 ∧
  ∀ (out : List Str) (p : Addr) (H2 : Hp), sortedS out = true → (∀ x, x ∈ out ↔ x ∈ ss) → out.Nodup → Same H H2 → H2 p = none → Q (.ref p) (upd H2 p (.lst (out.map V.str)))
theorem nodup_from : ∀ (l ss : List Str), l.Nodup → (∀ x ∈ l, x ∈ ss) → ss.length ≤ l.length → ss.Perm l
  | [], ss, _, _, h => by
    have : ss = [] := List.length_eq_zero_iff.mp (Nat.le_zero.mp h)
    rw [this]
  | x :: l, ss, nd, hs, h => by
    obtain ⟨n1, n2⟩ := List.nodup_cons.mp nd
    have p1 := List.perm_cons_erase (hs x (.head _))
    have l1 := p1.length_eq
    rw [List.length_cons] at l1
    rw [List.length_cons] at h
    have p2 := nodup_from l (ss.erase x) n2 (fun y hy => by
      rcases List.mem_cons.mp (p1.mem_iff.mp (hs y (.tail _ hy))) with e | e
      · exact absurd (e ▸ hy) n1
      · exact e) (by omega)
    exact p1.trans (p2.cons x)
section
variable {X : Cx}
theorem strs_vals : ∀ {ss : List Str} {us : List Value}, Vals (ss.map V.str) us → StrsAre us ss
  | [], _, .nil => .nil
  | n :: k, _, .cons r t => by
    obtain ⟨tk, rfl⟩ := r
    exact .cons n tk (strs_vals t)
theorem vals_strs : ∀ {ss : List Str} {us : List Value}, StrsAre us ss → Vals (ss.map V.str) us
  | _, _, .nil => .nil
  | _, _, .cons n t r => .cons ⟨t, rfl⟩ (vals_strs r)
theorem pe_srtSet (K : PySem.W.Frag) {a : Expr} {ta : TE} {p p2 q pos : Pos} (hc : X.calm = true) (hg : Gl X "sorted") (hm : X.mg "sorted" = none) (hv : bootBuiltins "sorted" = some (.builtin "sorted"))
    (hg2 : Gl X "set") (hm2 : X.mg "set" = none) (hv2 : bootBuiltins "set" = some (.type "set")) (ha : PE X a ta)
    (na : starEach [a] X.env = (false, eval a X.env) :: starEach [] X.env := by rfl) (h : X.K = K := by rfl) : PE X (.Call (.Name "sorted" p) [.Call (.Name "set" p2) [a] [] q] [] pos) (tUn (rSrtSet K) ta) := by
  subst h
  refine ⟨fun pins s σ H Q I h => ?_⟩
  refine Call_ (ld_blt I hg hm hv ?_)
  refine PyProof.Rows.callWith_builtin1 (PyProof.Rows.args_cons ?_ rfl) rfl rfl
  refine Call_ (ld_blt I hg2 hm2 hv2 ?_)
  refine PyProof.Rows.callWith_type1 (PyProof.Rows.args_cons (thn (ha.run pins s σ H _ I h) fun v s1 ⟨x, H1, I1, r1, q1⟩ => PyProof.Rows.args_nil ?_) na) na rfl
  obtain ⟨l, ss, rfl, hq, h1, q1⟩ := q1
  cases r1
  obtain ⟨its, r, pl, hz⟩ := I1.list hq
  refine call_setX (I1.ok.hd hc) pl.isList (xs := ss) (by simpa using strs_vals r) (by unfold scanBound; omega) fun h' tk ⟨⟨l', S, m, ll⟩, hk⟩ => PyProof.Rows.args_nil ?_
  have I2 : Inv X pins σ H1 { s1 with heap := h', toks := tk } := I1.kept fun b o e => hk b o e
  replace S : SetX X.prog X.w ({ s1 with heap := h', toks := tk } : Shared).heap s1.heap.objs.size l' := S
  revert I2 S
  generalize ({ s1 with heap := h', toks := tk } : Shared) = s2
  intro I2 S
  refine sorted_setX S (I2.ok.hd hc) (by unfold scanBound; omega) fun s' b out c ts k g o hp hg3 hi hs hm3 hl => ?_
  have hn : H1 b = none := I2.hok.fresh hp
  have hlen : (ts.map V.str).length ≤ sizeLine := by rw [List.length_map, hl, sizeLine_eq]; omega
  have J : Inv X pins σ (upd H1 b (.lst (ts.map V.str))) { s2 with heap := s'.heap, gens := s'.gens, drawn := s'.drawn, toks := s'.toks } :=
    (I2.call (ch := []) (Un.laid k hp hn) (I2.hok.laid k hp ⟨hlen, out.toList, c, vals_strs hi, hg3⟩) (by rw [g]; exact I2.bare) (fun _ z => nomatch z))
  have e : s' = { s2 with heap := s'.heap, gens := s'.gens, drawn := s'.drawn, toks := s'.toks } := by
    cases s'
    cases s2
    cases o
    rfl
  rw [e]
  have pm := nodup_from l' ts S.nd (fun x hx => (hm3 x).mpr hx) (Nat.le_of_eq hl)
  exact ⟨.ref b, _, J, rfl, q1 ts b H1 hs (fun x => (hm3 x).trans (m x)) (pm.nodup_iff.mpr S.nd) (Same.refl _) hn⟩
end
section
variable {K : PySem.W.Frag} {γ : Type} {W : Wd γ} {ρ : Rho} {k : γ} {Φ : PyData → γ → Prop}
theorem TA.strsE_ {N : List Addr} {H : Hp} : ∀ {vs : List V} {ss : List Str}, TA K N H vs (ss.map .str) → vs = ss.map V.str
  | _, [], .nil => rfl
  | _, x :: ss, .cons h t => by
    cases h
    rw [List.map_cons, TA.strsE_ t]
theorem TA.ofStrs {N : List Addr} {H : Hp} : ∀ (ss : List Str), TA K N H (ss.map V.str) (ss.map .str)
  | [] => .nil
  | x :: ss => .cons (.str x) (TA.ofStrs ss)
/-- what sorted(set(ss)) is -/
structure SrtOf (out ss : List Str) : Prop where
  srt : sortedS out = true
  mem : ∀ x, x ∈ out ↔ x ∈ ss
  nd : out.Nodup
theorem ru_srtSet {ss : List Str} (hl : ss.length < 1000) (q : ∀ out, SrtOf out ss → Φ (.list (out.map .str)) k) : RU K W (rSrtSet K) (.list (ss.map .str)) ρ k Φ := fun L0 H0 L H σ vx S tx Q c => by
  cases tx with
  | lst n ha t =>
    have e := t.strsE_
    subst e
    refine ⟨_, ss, rfl, SqL.of ha, hl, fun out p H2 h1 h2 h3 sm hp => ?_⟩
    have S2 := S.same sm
    refine c _ _ k _ (S2.new hp) ((Ext.same sm).trans (Ext.new hp)) (.lst (S2.nin hp) upd_same (TA.ofStrs out)) (q out ⟨h1, h2, h3⟩)
/-- xs == ys, lists of texts -/
theorem eqv_strs : ∀ a b : List Str, PyData.eqvAll (a.map .str) (b.map .str) = decide (a = b)
  | [], [] => by simp [PyData.eqvAll]
  | [], y :: b => by simp [PyData.eqvAll]
  | x :: a, [] => by simp [PyData.eqvAll]
  | x :: a, y :: b => by
    rw [List.map_cons, List.map_cons, PyData.eqvAll, eqv_strs a b, PyData.eqv]
    by_cases h : x = y
    · subst h; simp
    · simp [h]
theorem shaped_strs : ∀ z : List Str, (∀ x ∈ z, PyData.strOk x = true) → SeqAt.shaped (.list (z.map .str)) = true := fun z hz => by
  have h1 : ∀ z : List Str, (∀ x ∈ z, PyData.strOk x = true) → PyData.canLayAll0 (z.map .str) = true := fun z => by
    induction z with
    | nil => intro _; rfl
    | cons x z ih =>
      intro h
      rw [List.map_cons, PyData.canLayAll0, PyData.canLay0, h x (.head _), ih fun y hy => h y (.tail _ hy)]
      rfl
  have h2 : ∀ z : List Str, PyData.depthAll (z.map .str) = 0 := fun z => by
    induction z with
    | nil => rfl
    | cons x z ih => rw [List.map_cons, PyData.depthAll, ih]; rfl
  rw [SeqAt.shaped, PyData.canLay0, h1 z hz, PyData.depth, h2 z]
  rfl
theorem rd_eqStrs {a b : List Str} (ha : ∀ x ∈ a, PyData.strOk x = true) (hb : ∀ x ∈ b, PyData.strOk x = true) (q : Φ (.bool (decide (a = b))) k) : RD K W (rEqD K) (.list (a.map .str)) (.list (b.map .str)) ρ k Φ := rd_ q fun N H vx vy tx ty Q c => by
  refine ⟨_, _, tx.dp (SeqAt.canLay_of_shaped (shaped_strs a ha)), ty.dp (SeqAt.canLay_of_shaped (shaped_strs b hb)), shaped_strs a ha, shaped_strs b hb, ?_⟩
  have e : PyData.eqv (.list (a.map .str)) (.list (b.map .str)) = decide (a = b) := by
    rw [PyData.eqv]
    exact eqv_strs a b
  rw [e]
  exact c _ (.bl _)
/-- a text < a text -/
theorem rd_ltS {i j : Str} (q : Φ (.bool (decide (i.cps.toList < j.cps.toList))) k) : RD K W (fun x y H Q => ∃ i j, x = .str i ∧ y = .str j ∧ Q (.bl (decide (i.cps.toList < j.cps.toList))) H) (.str i) (.str j) ρ k Φ := rd_ q fun N H vx vy tx ty Q c => by
  cases tx
  cases ty
  exact ⟨i, j, rfl, rfl, c _ (.bl _)⟩
end
end U

set_option Elab.async false
set_option linter.all false
set_option maxRecDepth 100000
set_option maxHeartbeats 2000000
/-! zip of two texts -/
namespace U
open PySem PySem.Spec PyProof.Rows L2
def ItZS (z u : Str) : It :=
  ⟨fun i _ => i < z.cps.size ∧ i < u.cps.size,
    fun i H v H' => ∃ p c d, v = .ref p ∧ H p = none ∧ H' = upd H p (.tup [.str ⟨#[c]⟩, .str ⟨#[d]⟩]) ∧ z.cps[i]? = some c ∧ u.cps[i]? = some d,
    fun i _ => i ≤ z.cps.size ∧ i ≤ u.cps.size ∧ (i = z.cps.size ∨ i = u.cps.size)⟩
structure ZS (z TI TO i1 i2 : Addr) : Prop where
  a1 : TI ≠ z
  a2 : TO ≠ z
  a3 : TI ≠ TO
  a4 : TI ≠ i1
  a5 : TI ≠ i2
  a6 : z ≠ i1
  a7 : z ≠ i2
  a8 : TO ≠ i1
  a9 : TO ≠ i2
  a10 : i1 ≠ i2
def ZS.sep {z TI TO i1 i2 : Addr} (D : ZS z TI TO i1 i2) : ZipSep2 z TI TO i1 i2 [i1] [i2] where
  TIz := D.a1
  TOz := D.a2
  TITO := D.a3
  TIi1 := D.a4
  mem1 := by simp
  zf1 := by simp [D.a6]
  Tf1 := by simp [D.a8]
  TIi2 := D.a5
  mem2 := by simp
  zf2 := by simp [D.a7]
  Tf2 := by simp [D.a9]
  sep1_2 := by simp [D.a10]
  sep2_1 := by simp [D.a10.symm]
theorem strIter_obj {h : Heap} {it : Addr} {T : String} {x : Str} {t : Tok} {i : Nat} (st : h.IsStrIter it T x t i) : ∃ o, h.get? it = some o ∧ ∀ v, o.data ≠ .cell v := by
  obtain ⟨o, e, _, d⟩ := st
  exact ⟨o, e, fun v q => by rw [d] at q; cases q⟩
theorem strIter_at {h h' : Heap} {it : Addr} {T : String} {x : Str} {t : Tok} {i : Nat} (st : h.IsStrIter it T x t i) (k : ∀ o, h.get? it = some o → h'.get? it = some o) : h'.IsStrIter it T x t i := by
  obtain ⟨o, e, r⟩ := st
  exact ⟨o, k o e, r⟩
theorem turnZS {P : Program} {w : World} {K : PySem.W.Frag} {elts : List Expr} {kk : Nat} {tpos : Pos} {x y : Str} {t1 t2 : Tok} {z TI TO i1 i2 : Addr} (D : ZS z TI TO i1 i2) :
    L2.Turn P w K (.Tuple elts kk tpos) (ItZS x y) [z, TI, TO, i1, i2] z (fun i h => IsZip h z TI TO .none ∧ IsTupOf2 h TI (.ref i1) (.ref i2) ∧ (∃ x y, IsTupOf2 h TO x y) ∧ h.IsStrIter i1 (strIterType x) x t1 i ∧ h.IsStrIter i2 (strIterType y) y t2 i) where
  mem := List.mem_cons_self
  obj := fun i h st c hc => by
    obtain ⟨hz, hTI, ⟨x, y, hTO⟩, h1, h2⟩ := st
    simp only [List.mem_cons, List.not_mem_nil, or_false] at hc
    rcases hc with rfl | rfl | rfl | rfl | rfl
    · exact ⟨_, hz, fun v q => nomatch q⟩
    · exact ⟨_, hTI, fun v q => nomatch q⟩
    · exact ⟨_, hTO, fun v q => nomatch q⟩
    · exact strIter_obj h1
    · exact strIter_obj h2
  keep := fun i h h' st k => by
    obtain ⟨hz, hTI, ⟨x, y, hTO⟩, h1, h2⟩ := st
    exact ⟨k _ (by simp) _ hz, k _ (by simp) _ hTI, ⟨x, y, k _ (by simp) _ hTO⟩, strIter_at h1 fun o q => k _ (by simp) o q, strIter_at h2 fun o q => k _ (by simp) o q⟩
  item := by
    rintro X rfl rfl rfl hc i pins s σ H E I hf ⟨hz, hTI, ⟨x0, y0, hTO⟩, h1, h2⟩ ⟨l1, l2⟩
    have zl : z < s.heap.objs.size := Heap.lt_size hz
    refine wpAny_pyNext_zipD2_item D.sep (Draws.text (A := X.A.in1) (I.ok.hd hc) i1 x t1) (Draws.text (A := X.A.in1) (I.ok.hd hc) i2 y t2) hz hTI hTO h1 h2 l1 l2 fun u' v' h' tk eu ev nz nTO n1 n2 nT nsz nk => ?_
    obtain ⟨c, tc, ec, rfl⟩ := eu
    obtain ⟨d, td, ed, rfl⟩ := ev
    refine ⟨_, rfl, wpAny_letOwnedTupleGo_zip (s := { s with heap := h', toks := tk }) nz fun h2' nz2 sb => ?_⟩
    have nT2 : h2'.get? s.heap.objs.size = some { cls := .type "tuple", data := .seq #[Value.str ⟨#[c]⟩ tc, Value.str ⟨#[d]⟩ td] } := (sb.2 _ (Nat.ne_of_gt zl)).trans nT
    have made : ObjOk X.prog X.w (upd H s.heap.objs.size (.tup [.str ⟨#[c]⟩, .str ⟨#[d]⟩])) h2' s.heap.objs.size (.tup [.str ⟨#[c]⟩, .str ⟨#[d]⟩]) :=
      ⟨(show 2 ≤ sizeLine by decide), [Value.str ⟨#[c]⟩ tc, Value.str ⟨#[d]⟩ td], .cons ⟨tc, rfl⟩ (.cons ⟨td, rfl⟩ .nil), ⟨_, nT2, rfl, _, rfl⟩⟩
    have J : Inv X pins σ (upd H s.heap.objs.size (.tup [.str ⟨#[c]⟩, .str ⟨#[d]⟩])) { s with heap := h2', toks := tk } :=
      I.turnedNew (ch := [z, TI, TO, i1, i2]) (fun c o nc q => (sb.2 c fun e => nc (by simp [e])).trans (nk c o (fun e => nc (by simp [e])) (fun e => nc (by simp [e])) (fun e => nc (by simp [e])) (fun e => nc (by simp [e])) q)) hf (Nat.le_refl _) made
    refine ⟨.ref s.heap.objs.size, _, J, rfl, ⟨_, c, d, rfl, I.hok.fresh (Nat.le_refl _), rfl, ec, ed⟩, ⟨nz2, ?_, ⟨Value.str ⟨#[c]⟩ tc, Value.str ⟨#[d]⟩ td, ?_⟩, ?_, ?_⟩, fun b hcm => ?_⟩
    · exact (sb.2 _ D.a1).trans (nk _ _ D.a1 D.a3 D.a4 D.a5 hTI)
    · exact (sb.2 _ D.a2).trans nTO
    · exact strIter_at n1 fun o q => (sb.2 _ D.a6.symm).trans q
    · exact strIter_at n2 fun o q => (sb.2 _ D.a7.symm).trans q
    · have lt : b < s.heap.objs.size := by
        have lt1 : i1 < s.heap.objs.size := by obtain ⟨_, q, _⟩ := h1; exact Heap.lt_size q
        have lt2 : i2 < s.heap.objs.size := by obtain ⟨_, q, _⟩ := h2; exact Heap.lt_size q
        have hcm2 := hcm
        simp only [List.mem_cons, List.not_mem_nil, or_false] at hcm2
        rcases hcm2 with rfl | rfl | rfl | rfl | rfl
        · exact zl
        · exact Heap.lt_size hTI
        · exact Heap.lt_size hTO
        · exact lt1
        · exact lt2
      rw [upd_ne (Nat.ne_of_lt lt)]
      exact (hf b hcm).1
  done := by
    rintro X rfl rfl rfl hc i pins s σ H E I hf ⟨hz, hTI, ⟨x0, y0, hTO⟩, h1, h2⟩ ⟨le1, le2, en⟩
    refine wpAny_pyNext_zipD2_end D.sep (Draws.text (A := X.A.in1) (I.ok.hd hc) i1 x t1) (Draws.text (A := X.A.in1) (I.ok.hd hc) i2 y t2) hz hTI hTO h1 h2 le1 le2 en fun h' tk nk => ?_
    exact ⟨rfl, I.turnedL (ch := [z, TI, TO, i1, i2]) (fun c o nc q => nk c o (fun e => nc (by simp [e])) (fun e => nc (by simp [e])) (fun e => nc (by simp [e])) (fun e => nc (by simp [e])) q) hf⟩
  self := fun _ _ _ _ _ st h => wpAny_pyIter_zip st.1 h
def iZipS (ta : L2.TA) : TI := fun σ H R => ta σ H fun vs H1 => ∃ z u, vs = [.str z, .str u] ∧ R (ItZS z u) H1
theorem pi_zipS {X : Cx} {e e2 : Expr} {ta : L2.TA} {p pos tpos : Pos} {elts : List Expr} {kk : Nat} (hg : Gl X "zip") (hm : X.mg "zip" = none) (ha : PA X [e, e2] ta)
    (st : starEach [e, e2] X.env = (false, eval e X.env) :: starEach [e2] X.env := by rfl) (pl : (backTo pos (starEach [e2] X.env)).any (·.1) = false := by rfl) :
    PI X (.Tuple elts kk tpos) (.Call (.Name "zip" p) [e, e2] [] pos) (iZipS ta) := by
  refine ⟨fun pins s σ H R I h => Call_ (ld_blt I hg hm PyProof.Rows.boot_zip (PyProof.Rows.callWith_type1 (thn (ha.run pos pins s σ H _ I h) fun us s1 ⟨vs, H1, I1, r1, z, u, ex, q⟩ => ?_) st pl))⟩
  subst ex
  cases r1 with
  | cons r rr =>
    cases rr with
    | cons r' rr =>
      cases rr
      obtain ⟨t1, rfl⟩ := r
      obtain ⟨t2, rfl⟩ := r'
      refine zip_begins2 (begins_text z t1) (begins_text u t2) trivial trivial fun h' nz nTI nTO n1 n2 nsz nk => wpAny_pyIter_zip nz ?_
      have J : Inv X pins σ H1 { s1 with heap := h' } := I1.kept (t' := s1.toks) nk
      refine ⟨s1.heap.objs.size + 4, [s1.heap.objs.size + 4, s1.heap.objs.size + 2, s1.heap.objs.size + 3, s1.heap.objs.size, s1.heap.objs.size + 1], _, _, H1, rfl, J, turnZS ⟨?_, ?_, ?_, ?_, ?_, ?_, ?_, ?_, ?_, ?_⟩, ⟨nz, nTI, ⟨_, _, nTO⟩, ⟨_, n1, rfl, rfl⟩, ⟨_, n2, rfl, rfl⟩⟩, fun c hcm => ?_, q⟩
      iterate 10 · exact fun e => absurd e (by simp [Addr])
      have le : s1.heap.objs.size ≤ c := by
        simp only [List.mem_cons, List.not_mem_nil, or_false] at hcm
        rcases hcm with rfl | rfl | rfl | rfl | rfl
        · exact Nat.le_add_right _ _
        · exact Nat.le_add_right _ _
        · exact Nat.le_add_right _ _
        · exact Nat.le_refl _
        · exact Nat.le_add_right _ _
      exact I1.fpOk le (I1.hok.fresh le)
section
variable {K : PySem.W.Frag} {γ : Type} {W : Wd γ} {ρ : Rho} {k : γ} {L1 : List Addr} {H1 : Hp}
theorem walkD_zipS {z u : Str} : WalkD K W (ItZS z u) (min z.cps.size u.cps.size) (fun i => .tuple [.str ⟨#[z.cps[i]?.getD 0]⟩, .str ⟨#[u.cps[i]?.getD 0]⟩]) L1 H1 where
  goes := fun i L H hi l => ⟨by omega, by omega⟩
  stops := fun L H l => ⟨by omega, by omega, by omega⟩
  yields := fun i L H x H' hi l y => by
    obtain ⟨p, c, d, rfl, hp, rfl, e1, e2⟩ := y
    rw [e1, e2]
    exact ⟨Same.new hp, .tup (l.trk.new hp) upd_same (.cons (.str _) (.one (.str _)))⟩
theorem ei_zipS {tr : L2.TA} {Ω : Nat → (Nat → PyData) → γ → Prop} (h : EvA K W tr ρ k fun es k1 => ∃ z u : Str, es = [.str z, .str u] ∧ Ω (min z.cps.size u.cps.size) (fun i => .tuple [.str ⟨#[z.cps[i]?.getD 0]⟩, .str ⟨#[u.cps[i]?.getD 0]⟩]) k1) : EvI K W (iZipS tr) ρ k Ω := fun L0 H0 L H σ S R c =>
  h L0 H0 L H σ S _ fun vs es k1 H1 S1 e t g => by
    obtain ⟨z, u, rfl, q⟩ := g
    obtain ⟨a, b, rfl, ta, tb⟩ := t.two_
    cases ta
    cases tb
    exact ⟨z, u, rfl, c _ _ _ k1 H1 S1 e walkD_zipS q⟩
end
end U

set_option Elab.async false
set_option linter.all false
set_option maxRecDepth 100000
set_option maxHeartbeats 4000000
namespace U
open PySem PySem.Spec PyProof.Rows L2
section
open AutoSeq1 (wpAny_loadPart')
theorem tupTimes0 (l : Addr) (n : Nat) (dd : Option Addr) (sl : Array (Option Value)) (u : Tok) :
    Meets (Builtin.«tuple.__mul__» ⟨[.ref l, .int 4 u], []⟩) (fun _ R z => z.heap.get? l = some { cls := .type "tuple", dict := dd, data := .seq (([] : List Value).toArray) n, slots := sl } ∧ R (.ok (.ret (Value.ref l))) z) :=
  .of_wp fun prog w A R z h => by
    obtain ⟨p0, g, d, k0, os⟩ := z
    obtain ⟨hl, h⟩ := h
    have f1 := AutoSeq1.idx_int
    wp_walk using wpAny_loadPart' hl
    exact ⟨_, rfl, h⟩
end
/-- a tuple k times, the empty one too -/
def rTimesA (K : PySem.W.Frag) : R2 := fun x y H Q => ∃ (l : Addr) (xs : List V), x = .ref l ∧ y = .int 4 ∧ SqT K H l xs ∧ xs.length ≤ 1000 ∧ (xs = [] → Q (.ref l) H) ∧ (xs ≠ [] → ∀ p, H p = none → Q (.ref p) (upd H p (.tup (List.replicate 4 xs).flatten)))
theorem op_timesA {X : Cx} : OpR X (binaryOp .Mult) (rTimesA X.K) := by
  intro pins z σ H x y v u Q I rx ry h
  obtain ⟨l, xs, rfl, rfl, hT, hz, q1, q2⟩ := h
  by_cases e : xs = []
  · subst e
    have q1 := q1 rfl
    have rx' : RelV (.ref l) v := rx
    cases rx
    obtain ⟨t, rfl⟩ := ry
    obtain ⟨its, r, ⟨⟨cls, dd, data, sl⟩, ho, hc, m, hd⟩, hs⟩ := I.tuple hT
    simp only at hc hd
    subst hc hd
    cases r
    exact wpAny_binaryOp_repeat_ref (T := "tuple") (U := "int") (by decide) ⟨_, ho, rfl⟩ (fun z' => typeIs_int z' 4 t) noFill_tuple_mul F.fills_int_mul F.slot_int_rmul repeat_tuple F.slot_int_index.lookup
      (call_meets F.slot_int_rmul (typeIs_int z 4 t) F.entry_int_rmul (F.args_int_rmul_2 _ _) (int_rmul_tuple 4 t l _ m dd sl) ⟨ho, rfl, ⟨_, ho, rfl⟩, call_meets F.slot_tuple_mul ⟨_, ho, rfl⟩ F.entry_tuple_mul (F.args_tuple_mul_2 _ _) (tupTimes0 l m dd sl t) ⟨ho, ⟨.ref l, H, I, rx', q1⟩⟩⟩)
  · exact op_repT pins z σ H (.ref l) (.int 4) v u Q I rx ry ⟨l, 4, xs, rfl, rfl, hT, e, by decide, by decide, hz, q2 e⟩
theorem kTimesA (K : PySem.W.Frag) {X : Cx} (h : X.K = K := by rfl) : OpR X (binaryOp .Mult) (rTimesA K) := by subst h; exact op_timesA
section
variable {K : PySem.W.Frag} {γ : Type} {W : Wd γ} {ρ : Rho} {k : γ} {Φ : PyData → γ → Prop}
theorem TA.flat {N : List Addr} {H : Hp} {xs : List V} {ds : List PyData} (t : TA K N H xs ds) : ∀ n : Nat, TA K N H (List.replicate n xs).flatten (List.replicate n ds).flatten
  | 0 => .nil
  | n + 1 => by
    rw [List.replicate_succ, List.flatten_cons, List.replicate_succ, List.flatten_cons]
    exact TA.app t (TA.flat t n)
/-- ds * 4 -/
theorem rd_times4 {ds : List PyData} (hl : ds.length ≤ 1000) (q : Φ (.tuple (List.replicate 4 ds).flatten) k) : RD K W (rTimesA K) (.tuple ds) (.int 4) ρ k Φ := rdN q fun N H vx vy tr tx ty Q c => by
  cases ty
  cases tx with
  | @tup a xs _ na ha ts =>
    refine ⟨a, xs, rfl, rfl, SqT.of ha, by rw [ts.len]; exact hl, fun e => ?_, fun e p hp => ?_⟩
    · subst e
      cases ts
      exact c (.ref a) H (Same.refl _) (.tup na ha .nil)
    · refine c (.ref p) _ (Same.new hp) (.tup (tr.new hp) upd_same ?_)
      exact (TA.flat ts 4).ext (Ext.new hp)
end
end U

set_option Elab.async false
set_option linter.all false
set_option maxRecDepth 100000
set_option maxHeartbeats 4000000
/-! name = {k: v for ..}, the keys tuples -/
namespace U
open PySem PySem.Spec PyProof.Rows L2
theorem n_dictSet {X : Cx} {K : PySem.W.Frag} {pins : List (Addr × Obj)} {σ : L2.St} {H : Hp} {s : Shared} {E : Value → Shared → Prop} {a b : Addr} {xs : List (NestedKey × Addr × V)} {N : List Addr} {kvs : List (NestedKey × PyData)} {k : NestedKey} {v : V} {u r : Value} {Q : Unit → Shared → Prop}
    (hu : X.A.units + 9 < cLine) (I : Inv X pins σ H s) (e : H a = some (DN X.prog X.w a xs)) (t : KN K N H xs kvs) (ky : KeyY K H (.ref b) k) (l : xs.length < sizeLine) (ry : RelV (.ref b) u) (rv : RelV v r)
    (h : ∀ s', Inv X pins σ (upd H a (DN X.prog X.w a (putNV xs k b v))) s' → Q () s') : wpAny (model X.prog X.w) X.A (dictSet a u r) Q E s := by
  obtain ⟨b', rfl, eb, hk⟩ := key_at I ky ry
  cases eb
  obtain ⟨z, hd, us, rel, dd⟩ := dn_at I e t
  have room : (nestedKind X.prog X.w).room X.A := by
    show X.A.units + 8 < cLine
    omega
  refine wpAny_dictSet_heap (hsz := by rw [← rel.length]; exact z) room hk dd fun h' dd' hs => h _ ?_
  have he : ∃ q, h'.get? a = some q := let ⟨q, _, _, hq, _⟩ := dd'; ⟨q, hq⟩
  have hl : (putNV xs k b v).length ≤ sizeLine := by have := putNV_len xs k b v; omega
  exact d_write I (by rw [e]; exact True.intro) hs he (dn_new hl hd (rel.put k b rv) dd')
/-- {k: v for target in iter if ..}: D the new dict -/
def tDcN (P : Program) (w : World) (K : PySem.W.Frag) (wi : TI) (g : TG) (tt : TT) (tk tv : TE) (vs : List Nat) : TE := fun σ H Q => wi σ H fun J H1 => ∀ D, H1 D = none → ∃ W : Nat → Nat → Hp → Prop, (∃ m, W 0 m (upd H1 D (DN P w D []))) ∧ ∀ i m H, W i m H →
  (J.stop i H ∧ Q (.ref D) H) ∨ (J.go i H ∧ ∃ Nx : Hp → Prop, (∀ H', Nx H' → ∃ m', m' < m ∧ W (i + 1) m' H') ∧ ∀ x H', J.yld i H x H' → g x (wipe σ vs) H' fun σ2 H2 => wipe σ2 vs = wipe σ vs ∧ tt σ2 H2 fun b H3 =>
    if b = true then tk σ2 H3 fun y H4 => tv σ2 H4 fun z H5 => ∃ N xs kvs k b, y = .ref b ∧ H5 D = some (DN P w D xs) ∧ KN K N H5 xs kvs ∧ KeyY K H5 y k ∧ xs.length < sizeLine ∧ Nx (upd H5 D (DN P w D (putNV xs k b z))) else Nx H3)
section
variable {X : Cx} {K : PySem.W.Frag}
theorem dcn_core {pins : List (Addr × Obj)} {s : Shared} {σ : L2.St} {H : Hp} {Q : VK} {kx vx tg iter : Expr} {ifs : List Expr} {scope : Scope} {own : List (Str × Nat)} {pos pos' : Pos} {wi : TI} {g : TG} {tt : TT} {tk tv : TE} {use : Option (Value → Sem Unit)} {Qf : Value → Shared → Prop}
    (hu : X.A.units + 9 < cLine) (hc : X.calm = true) (hN : X.N.Nodup) (I : Inv X pins σ H s) (hi : PI X tg iter wi) (ok : BlkOk X.N X.env.scope scope own)
    (hg : ∀ s H C cl fp, PG (X.blk s H scope (compEnvC scope cl C X.env) fp) tg g) (ht : ∀ s H C cl fp, PTs (X.blk s H scope (compEnvC scope cl C X.env) fp) ifs tt)
    (hk : ∀ s H C cl fp, PE (X.blk s H scope (compEnvC scope cl C X.env) fp) kx tk) (he : ∀ s H C cl fp, PE (X.blk s H scope (compEnvC scope cl C X.env) fp) vx tv) (hs : ∀ x, foldedSetIterable iter X.env x = pure x)
    (h : tDcN X.prog X.w K wi g tt tk tv (own.map (·.2)) σ H Q)
    (back : ∀ D C s' m H', Inv X pins σ H' s' → Q (.ref D) H' → s'.heap.Ns C m → FpOk X pins H' C → compPost (model X.prog X.w) X.A X.xe use Qf (.ref D) C (.ok .next) s') :
    wpAny (model X.prog X.w) X.A (comprehension (.DictComp kx vx [⟨tg, iter, ifs, 0⟩] scope pos) scope X.env pos' newDict false (eval iter X.env) use) Qf X.xe s := by
  have fr : ∀ y ∈ scope.names, y.2 = .free → ∃ c, X.env.cells.lookup y.1 = some c := fun y hy e => (ok.free y hy e).elim (fun k => I.ok.has _ (.inl k)) fun k => I.ok.has _ (.inr k)
  refine wpAny_comprehension_free (use := use) rfl hs (closure_ok fr) ok.kind (fun y hy e => by rw [ok.uniq y hy, e]) (thn (hi.run pins s σ H _ I h) fun xv s1 hx => thn hx fun itv s2 h2 => ?_)
  obtain ⟨it, fp, tn, J, H2, rfl, I2, T, st2, f2, q⟩ := h2
  refine wpAny_newObj_type (newEnv_comp ?_)
  have hDn : H2 s2.heap.objs.size = none := I2.hok.fresh (Nat.le_refl _)
  obtain ⟨W, ⟨m0, w0⟩, turn⟩ := q s2.heap.objs.size hDn
  have lt2 : ∀ b ∈ fp, b < s2.heap.objs.size := fun b hb => let ⟨_, e, _⟩ := T.obj _ _ st2 b hb; Heap.lt_size e
  have okD : ObjOk X.prog X.w (upd H2 s2.heap.objs.size (DN X.prog X.w s2.heap.objs.size [])) (s2.heap.push { cls := .type "dict", data := .dict #[] }) s2.heap.objs.size (DN X.prog X.w s2.heap.objs.size []) :=
    dn_new (us := []) (Nat.zero_le _) (beq_eq_false_iff_ne.mpr (Ne.symm (Nat.ne_of_lt I2.big))) .nil (Heap.DictOfH.new s2.heap)
  have I3 := I2.laid (a := s2.heap.objs.size) (t' := s2.toks) (fun _ _ e => Heap.get?_push_of_some _ e) (Nat.le_refl _) okD
  generalize hs3 : ({ s2 with heap := s2.heap.push { cls := .type "dict", data := .dict #[] }, toks := s2.toks } : Shared) = s3 at I3
  have h3 : s3.heap = s2.heap.push { cls := .type "dict", data := .dict #[] } := by rw [← hs3]
  have sz3 : s3.heap.objs.size = s2.heap.objs.size + 1 := by rw [h3]; exact Heap.size_push ..
  generalize hD : s2.heap.objs.size = D at hDn I3 lt2 w0 turn sz3 okD
  generalize hH3 : upd H2 D (DN X.prog X.w D []) = H3 at I3 w0
  have f3 : ∀ b ∈ fp, FpOk X pins H3 b ∧ b < s3.heap.objs.size := fun b hb => by
    have l := lt2 b hb
    refine ⟨⟨?_, (f2 b hb).2⟩, by rw [sz3]; exact Nat.lt_succ_of_lt l⟩
    rw [← hH3, upd_ne (Nat.ne_of_lt l)]
    exact (f2 b hb).1
  have st3 : tn 0 s3.heap := T.keep _ _ _ st2 fun b _ o e => by rw [h3]; exact Heap.get?_push_of_some _ e
  have I4 := block_start I3 ok hN f3
  show codeAny _ _ (.compStart _ 0 (.ref it) (.ref D) (compEnvC scope (cellsFrom (s3.heap.objs.size + 1) scope.names (cloFrom X.env.cells scope.names [])) s3.heap.objs.size X.env)) (compPost (model X.prog X.w) X.A X.xe use Qf (.ref D) s3.heap.objs.size) _
  generalize cellsFrom (s3.heap.objs.size + 1) scope.names (cloFrom X.env.cells scope.names []) = cl at I4 ⊢
  have pg := hg s3 H3 s3.heap.objs.size cl fp
  have pt := ht s3 H3 s3.heap.objs.size cl fp
  have pk := hk s3 H3 s3.heap.objs.size cl fp
  have pv := he s3 H3 s3.heap.objs.size cl fp
  have nfp : ∀ b ∈ fp, H3 b = none := fun b hb => (f3 b hb).1.1
  have cL : (compEnvC scope cl s3.heap.objs.size X.env).locals = s3.heap.objs.size := rfl
  generalize compEnvC scope cl s3.heap.objs.size X.env = ce at I4 pg pt pk pv cL ⊢
  have e4 : tn 0 (pushCells (s3.heap.push { cls := .type "dict", data := .dict #[] }) scope.names) := T.keep _ _ _ st3 fun b _ o e => pushCells_keeps _ _ _ _ (Heap.get?_push_of_some _ e)
  generalize hs4 : ({ s3 with heap := pushCells (s3.heap.push { cls := .type "dict", data := .dict #[] }) scope.names } : Shared) = s4 at I4 ⊢
  have st4 : tn 0 s4.heap := by rw [← hs4]; exact e4
  have still : ∀ {σ' : L2.St} {H' : Hp} {s' : Shared}, Inv (X.blk s3 H3 scope ce fp) [] σ' H' s' → (∀ b ∈ fp, H' b = none) → ∀ b ∈ fp, FpOk (X.blk s3 H3 scope ce fp) [] H' b := fun {σ' H' s'} I' hn b hb =>
    ⟨hn b hb, (I'.ok.exf b hb).1, I'.ok.exfs b hb, .inl hb, fun x c e => (I'.ok.exf b hb).2 x c e, fun p hp => absurd (show p ∈ ([] : List (Addr × Obj)) ++ [] from hp) (by simp)⟩
  have loop : codeAny (model X.prog X.w) X.A (.compLoop (.DictComp kx vx [⟨tg, iter, ifs, 0⟩] scope pos) 0 (.ref it) (.ref D) ce) (compPost (model X.prog X.w) X.A X.xe use Qf (.ref D) s3.heap.objs.size) s4 := by
    refine compLoop_anyD (fun n s' => ∃ i H', Inv (X.blk s3 H3 scope ce fp) [] (wipe σ (own.map (·.2))) H' s' ∧ tn i s'.heap ∧ (∀ b ∈ fp, H' b = none) ∧ W i n H') ?_ m0 ⟨0, H3, I4, st4, nfp, w0⟩
    rintro n s5 ⟨i, H5, I5, st5, n5, w5⟩
    rcases turn i n H5 w5 with ⟨stop, qq⟩ | ⟨go, Nx, hNx, step⟩
    · refine thnF (T.done (X.blk s3 H3 scope ce fp) rfl rfl rfl hc i [] s5 _ H5 (fun _ _ => False) I5 (still I5 n5) st5 stop) fun r s6 ⟨hr, I6⟩ => ?_
      subst hr
      have I7 : Inv X pins σ H5 s6 := I3.call' (ch := fp) I6.os I6.base I6.hok I6.bare fun b hb => ⟨(f3 b hb).1.2.2.2.1, (f3 b hb).1.2.1, (f3 b hb).1.2.2.2.2.1, (f3 b hb).1.2.2.2.2.2⟩
      have nC : H5 s3.heap.objs.size = none := by rw [← cL]; exact I6.free
      obtain ⟨m, hn, _⟩ := I6.loc
      have hn : s6.heap.Ns s3.heap.objs.size m := by rw [← cL]; exact hn
      exact back D s3.heap.objs.size s6 m H5 I7 qq hn (I3.fpOk (Nat.le_refl _) nC)
    · refine thnF (T.item (X.blk s3 H3 scope ce fp) rfl rfl rfl hc i [] s5 _ H5 (fun _ _ => False) I5 (still I5 n5) st5 go) fun r s6 ⟨u, hr, h6⟩ => ?_
      subst hr
      refine thnF h6 fun _ s7 ⟨x, H7, I7, r7, y7, st7, n7⟩ => ?_
      refine thnF (pg.run _ s7 _ H7 x u _ (I7.pinned (still I7 n7) (T.obj _ _ st7)) r7 (step x H7 y7)) fun _ s8 ⟨σ8, H8, I8, hw8, q8⟩ => ?_
      refine thnF (pt.run _ s8 σ8 H8 _ I8 q8) fun b s9 ⟨H9, I9, q9⟩ => ?_
      have fin : ∀ {s' : Shared} {H' : Hp}, Inv (X.blk s3 H3 scope ce fp) ([] ++ pinsAt fp s7.heap) σ8 H' s' → Nx H' → ∃ m, m < n ∧ ∃ i H', Inv (X.blk s3 H3 scope ce fp) [] (wipe σ (own.map (·.2))) H' s' ∧ tn i s'.heap ∧ (∀ b ∈ fp, H' b = none) ∧ W i m H' := fun {s' H'} I' nx => by
        obtain ⟨m', hm, w'⟩ := hNx H' nx
        have pin : ∀ b ∈ fp, ∀ o, s7.heap.get? b = some o → s'.heap.get? b = some o ∧ H' b = none := fun b hb o e =>
          have z := I'.pin (b, o) (List.mem_append_right _ (List.mem_append_right _ (mem_pinsAt hb e)))
          ⟨z.1, z.2.1⟩
        refine ⟨m', hm, i + 1, H', (I'.unpinned (pins := [])).weak (by rw [← hw8, wipe_length]) (fun j v e => ?_), T.keep _ _ _ st7 fun b hb o e => (pin b hb o e).1, fun b hb => ?_, w'⟩
        · rw [← hw8] at e
          exact (wipe_some e).1
        · obtain ⟨o, e, _⟩ := T.obj _ _ st7 b hb
          exact (pin b hb o e).2
      cases b with
      | false =>
        simp only [Bool.false_eq_true, if_false] at q9 ⊢
        exact fin I9 q9
      | true =>
        simp only [if_true] at q9 ⊢
        refine thnF (pk.run _ s9 σ8 H9 _ I9 q9) fun z s10 ⟨yk, H10, I10, r10, q10⟩ => ?_
        refine thnF (pv.run _ s10 σ8 H10 _ I10 q10) fun z2 s11 ⟨yv, H11, I11, r11, N, xs, kvs, k, b, ek, hD11, kn, ky, l11, nx⟩ => ?_
        subst ek
        exact n_dictSet (X := X.blk s3 H3 scope ce fp) hu I11 hD11 kn ky l11 r10 r11 fun s12 I12 => fin I12 nx
  exact codeAny_compStart_dict loop (T.self X.A 0 _ _ _ st4 loop)
/-- name = {k: v for target in iter if ..} -/
theorem ps_setDcN {i : Nat} {y : Str} {py : Pos} {kx vx tg iter : Expr} {ifs : List Expr} {scope : Scope} {own : List (Str × Nat)} {pos spos : Pos} {wi : TI} {g : TG} {tt : TT} {tk tv : TE} (hu : X.A.units + 9 < cLine) (hc : X.calm = true) (hN : X.N.Nodup) (hy : X.N[i]? = some y) (hyl : X.env.scope.names.lookup y = some .local)
    (hsw : swapsWith (.DictComp kx vx [⟨tg, iter, ifs, 0⟩] scope pos) (some (.Name y py)) spos.line X.env = pure true) (hi : PI X tg iter wi) (ok : BlkOk X.N X.env.scope scope own)
    (hg : ∀ s H C cl fp, PG (X.blk s H scope (compEnvC scope cl C X.env) fp) tg g) (ht : ∀ s H C cl fp, PTs (X.blk s H scope (compEnvC scope cl C X.env) fp) ifs tt)
    (hk : ∀ s H C cl fp, PE (X.blk s H scope (compEnvC scope cl C X.env) fp) kx tk) (he : ∀ s H C cl fp, PE (X.blk s H scope (compEnvC scope cl C X.env) fp) vx tv) (hs : ∀ x, foldedSetIterable iter X.env x = pure x := by intro _; rfl) :
    PS X (.Assign [.Name y py] (.DictComp kx vx [⟨tg, iter, ifs, 0⟩] scope pos) spos) (tAsg (tDcN X.prog X.w K wi g tt tk tv (own.map (·.2))) (gName i)) := by
  refine ⟨fun pins s σ H D I h => ?_⟩
  rw [exec_Assign_Name_used _ _ _ _ hsw]
  refine wpAny_bind (wpAny_standAt (wpAny_bind ?_))
  show wpAny _ X.A (do let _ ← comprehension (.DictComp kx vx [⟨tg, iter, ifs, 0⟩] scope pos) scope X.env (firstIterPos [⟨tg, iter, ifs, 0⟩] pos) newDict false (eval iter X.env) (some (assign (.Name y py) X.env))) _ _ s
  have h : tDcN X.prog X.w K wi g tt tk tv (own.map (·.2)) σ H (fun x H1 => gName i x σ H1 D.nx) := h
  refine wpAny_bind (thn (dcn_core (Qf := fun _ s' => SP X pins D .next s') hu hc hN I hi ok hg ht hk he hs h fun L C s' m H' I' q hn f => ?_) fun _ s' hq => wpAny_pure (wpAny_pure hq))
  show wpAny _ _ (assign (.Name y py) X.env (.ref L)) _ _ _
  refine wpAny_assign_Name (store_ok2 (v := V.ref L) I' hN hy (.inl hyl) rfl (fun s2 I2 ⟨a, sb, ha⟩ => ?_) (.inr hyl))
  obtain ⟨f0, f1, f2, f3, f4, f5⟩ := f
  have ne : C ≠ a := ha.elim (fun z => by rw [z]; exact f1) fun z e => f4 y a z e.symm
  exact ⟨m, hn.sameBut sb ne, fun h3 sb3 => ⟨_, H', I2.turned (t' := s2.toks) (fun b o hb e => (sb3.2 b hb).trans e) f0 f1 f3 f4 f5, q⟩⟩
theorem sw_trueD {kx vx : Expr} {gs : List Comprehension} {scope : Scope} {pos py : Pos} {y : Str} {l : Nat} {env : Env} (hk : env.scope.kind = .function) (hy : env.scope.names.lookup y = some .local) (hl : (py.line == pos.line) = true)
    (ha : (scope.names.any fun (n, k) => n == y && (k == .local || k == .cell)) = false) : swapsWith (.DictComp kx vx gs scope pos) (some (.Name y py)) l env = pure true := by
  have ky : env.kindOf y = some .local := hy
  have hb : env.blockKind = .function := by
    unfold Env.blockKind
    rw [hk] <;> rfl
  unfold swapsWith
  simp only [hb, ky, ha, Expr.pos, hl]
  rfl
end
end U

set_option Elab.async false
set_option linter.all false
set_option maxRecDepth 100000
set_option maxHeartbeats 2000000
namespace U
open PySem PySem.Spec PyProof.Rows L2
def kvN (key : Nat → NestedKey) (val : Nat → PyData) (n : Nat) : List (NestedKey × PyData) := (List.range n).foldl (fun kv t => putN kv (key t) (val t)) []
theorem kvN_succ (key : Nat → NestedKey) (val : Nat → PyData) (n : Nat) : kvN key val (n + 1) = putN (kvN key val n) (key n) (val n) := by
  unfold kvN
  rw [List.range_succ, List.foldl_append]
  rfl
theorem kvN_len (key : Nat → NestedKey) (val : Nat → PyData) : ∀ n, (kvN key val n).length ≤ n
  | 0 => Nat.le_refl _
  | n + 1 => by
    rw [kvN_succ]
    have := putN_len (kvN key val n) (key n) (val n)
    have := kvN_len key val n
    omega
section
variable {K : PySem.W.Frag} {γ : Type} {W : Wd γ} {ρ : Rho} {k : γ} {g : TG} {tt : TT} {tk tv : TE} {wi : TI} {vs : List Nat} {P : Program} {w : World} {Z : Ps γ} {i0 : Nat}
/-- name = {k: v for ..}, the keys tuples, no test -/
theorem sw_dcN (key : Nat → NestedKey) (val : Nat → PyData) (h : EvI K W wi ρ k fun n f k1 => n ≤ 100000 ∧
      (∀ i, i < n → TgW K W g (fun i => i ∈ vs) (f i) (wipeR ρ vs) fun ρ2 => EvT K W tt ρ2 k1 fun b k3 => b = true ∧ k3 = k1 ∧ EvW K W tk ρ2 k1 fun e k4 => k4 = k1 ∧ ((∃ es, e = .tuple es) ∧ nkey e = some (key i) ∧ (key i).depth ≤ 8) ∧ EvW K W tv ρ2 k1 fun d k5 => d = val i ∧ k5 = k1) ∧
      Z.nx (ρ.set i0 (.ownN (DN P w) (kvN key val n))) k1) : SW K W (tAsg (tDcN P w K wi g tt tk tv vs) (gName i0)) ρ k Z := fun L0 H0 L H σ DD S nx _ _ _ =>
  h.x L0 H0 L H σ S _ fun J n f k1 H1 S1 e wd g => by
    obtain ⟨hn, turn, done⟩ := g
    intro D hD
    obtain ⟨Sd, nD⟩ := S1.hide (o := DN P w D []) hD
    have nin := S1.nin hD
    have dM : D ∉ W.M := fun z => nin (List.mem_append_right _ z)
    refine ⟨fun i m H2 => m = n - i ∧ i ≤ n ∧ ∃ ys, Stt K W L0 H0 (D :: L) H2 σ ρ k1 ∧ Ext W.M H1 H2 ∧ H2 D = some (DN P w D ys) ∧ KN K (D :: L ++ W.M) H2 ys (kvN key val i),
      ⟨n, rfl, Nat.zero_le _, [], Sd, Ext.new hD, upd_same, .nil⟩, ?_⟩
    rintro i m H2 ⟨rfl, hi, ys, S2, e2, hy, ty⟩
    have l2 : Later W L H1 (D :: L) H2 := ⟨e2.sub fun b hb => List.mem_append_right _ hb, fun l hl => (List.mem_cons.mp hl).elim (fun q => .inr (by rw [q]; exact hD)) fun q => .inl q, S2.trk⟩
    by_cases hlt : i < n
    · refine .inr ⟨wd.goes i _ H2 hlt l2 e2, fun H' => ∃ ys, Stt K W L0 H0 (D :: L) H' σ ρ k1 ∧ Ext W.M H1 H' ∧ H' D = some (DN P w D ys) ∧ KN K (D :: L ++ W.M) H' ys (kvN key val (i + 1)),
        fun H' ⟨ys, a1, a2, a3, a4⟩ => ⟨n - (i + 1), by omega, rfl, hlt, ys, a1, a2, a3, a4⟩, fun x H' y => ?_⟩
      obtain ⟨sm, tx⟩ := wd.yields i _ H2 x H' hlt l2 e2 y
      have S3 := S2.same sm
      refine turn i hlt L0 H0 (D :: L) H' _ k1 x (S3.wipe vs) tx _ fun σ3 ρ3 S4 hl4 ag tst => ⟨wipe_of hl4 ag, ?_⟩
      refine (tst : EvT K W tt ρ3 k1 _) L0 H0 (D :: L) H' σ3 S4 _ fun b k3 H3 S5 e5 g5 => ?_
      obtain ⟨rfl, rfl, g5⟩ := g5
      refine (g5 : EvW K W tk ρ3 k3 _) L0 H0 (D :: L) H3 σ3 S5 _ fun vk dk k4 H4 S6 e6 t6 g6 => ?_
      obtain ⟨rfl, ⟨⟨es, rfl⟩, hk, hd⟩, g6⟩ := g6
      refine (g6 : EvW K W tv ρ3 k4 _) L0 H0 (D :: L) H4 σ3 S6 _ fun v d k5 H5 S7 e7 t7 g7 => ?_
      obtain ⟨rfl, rfl⟩ := g7
      have e57 := (e5.trans e6).trans e7
      have hy5 : H5 D = some (DN P w D ys) := e57 _ _ dM (sm _ _ hy)
      have tk5 := t6.ext (eM e7)
      have ty5 : KN K (D :: L ++ W.M) H5 ys (kvN key val i) := ty.map fun _ _ t => (t.same sm).ext (eM e57)
      cases t6 with
      | @tup b xs _ nb hb tb =>
        refine ⟨_, ys, _, key i, b, rfl, hy5, ty5, ⟨_, b, _, rfl, tk5, hk, hd⟩, ?_, putNV ys (key i) b v, (S3.ext e57 S7.wd).putHid nD, ?_, upd_same, ?_⟩
        · rw [ty5.len]
          exact Nat.lt_of_le_of_lt (kvN_len key val i) (Nat.lt_of_lt_of_le hlt (Nat.le_trans hn (by decide)))
        · intro b o nb hb
          rw [upd_ne (ne_of_none hb hD)]
          exact ((e2.trans (Ext.same sm)).trans e57) b o nb hb
        · rw [kvN_succ]
          exact (ty5.put hk hd tk5 t7).map fun _ _ t => t.ext (Ext.put (by simp))
    · have ei : i = n := by omega
      subst ei
      refine .inl ⟨wd.stops _ H2 l2 e2, ?_⟩
      exact nx _ _ _ _ _ (S2.takeHid nD i0 (s0 := .ownN (DN P w) (kvN key val i)) ⟨D, _, rfl, by simp, hy, ty⟩) done
end
end U

set_option Elab.async false
set_option linter.all false
set_option maxRecDepth 100000
set_option maxHeartbeats 2000000
/-! min of two texts -/
namespace U
open PySem PySem.Spec PyProof.Rows L2
theorem min_two_strs {prog : Program} {w : World} {A : Around} {E : Value → Shared → Prop} {s : Shared} {x y : Str} {t u : Tok} {Q : Value → Shared → Prop} (hh : A.handled = none)
    (h : ∀ h' tk, (∀ c o, s.heap.get? c = some o → h'.get? c = some o) → Q (if y.cps.toList < x.cps.toList then .str y u else .str x t) { s with heap := h', toks := tk }) : wpAny (model prog w) A (call (.builtin "min") [.str x t, .str y u]) Q E s := by
  have isT : (s.heap.push { cls := .type "tuple", data := .seq #[.str x t, .str y u] }).IsTuple s.heap.objs.size #[.str x t, .str y u] := ⟨_, Heap.get?_push_size _ rfl, rfl, 0, rfl⟩
  have sz : (s.heap.push { cls := .type "tuple", data := .seq #[.str x t, .str y u] }).objs.size = s.heap.objs.size + 1 := Heap.size_push ..
  refine call_min_two (wpAny_pyIter_tuple isT ⟨_, [_, s.heap.objs.size], [_], _, _, _, fun i j => decide ((if i = 0 then x else y).cps.toList < (if j = 0 then x else y).cps.toList), rfl,
    Walks.tuple (A := A.in1) hh _ s.heap.objs.size (by rw [sz]; exact Nat.ne_of_lt (Nat.lt_succ_self _)) #[.str x t, .str y u], ⟨⟨_, Heap.get?_push_size _ rfl, rfl, rfl⟩, isT.push _⟩, fun c hc => ?_, by simp, ?_, fun v h' tk hP hk => ?_⟩)
  · show c < ((s.heap.push _).push _).objs.size
    rw [Heap.size_push]
    rcases List.mem_cons.mp hc with rfl | hc
    · exact Nat.lt_succ_self _
    · rw [List.mem_singleton.mp hc, sz]; exact Nat.lt_succ_of_lt (Nat.lt_succ_self _)
  · intro i j vi vj s' Q' E' hi hj hQ
    have at_ : ∀ {i : Nat} {v : Value}, (#[Value.str x t, Value.str y u] : Array Value)[i]? = some v → ∃ tk, v = .str (if i = 0 then x else y) tk := fun {i v} e => by
      match i, e with
      | 0, e => exact ⟨t, by simpa using e.symm⟩
      | 1, e => exact ⟨u, by simpa using e.symm⟩
      | i + 2, e => simp at e
    obtain ⟨t1, rfl⟩ := at_ hi
    obtain ⟨t2, rfl⟩ := at_ hj
    exact lt_str (w := w) hQ
  · have old : ∀ c o, s.heap.get? c = some o → h'.get? c = some o := fun c o e => by
      refine hk c o (fun hm => ?_) (Heap.get?_push_of_some _ (Heap.get?_push_of_some _ e))
      have l := Heap.lt_size e
      rw [List.mem_singleton.mp hm, sz] at l
      exact Nat.lt_irrefl _ (Nat.lt_of_succ_lt l)
    have q := h h' tk old
    have ev : v = if y.cps.toList < x.cps.toList then Value.str y u else Value.str x t := by
      have hP : (#[Value.str x t, Value.str y u] : Array Value)[argBest (fun i j => decide ((if i = 0 then x else y).cps.toList < (if j = 0 then x else y).cps.toList)) 1]? = some v := hP
      by_cases c : y.cps.toList < x.cps.toList
      · have e : argBest (fun i j => decide ((if i = 0 then x else y).cps.toList < (if j = 0 then x else y).cps.toList)) 1 = 1 := by simp [argBest, c]
        rw [e] at hP
        rw [if_pos c]
        simpa using hP.symm
      · have e : argBest (fun i j => decide ((if i = 0 then x else y).cps.toList < (if j = 0 then x else y).cps.toList)) 1 = 0 := by simp [argBest, c]
        rw [e] at hP
        rw [if_neg c]
        simpa using hP.symm
    rw [ev]
    exact q
theorem call_minS {X : Cx} (hc : X.calm = true) : CallR X (.builtin "min") (fun xs H Q => ∃ i j, xs = [.str i, .str j] ∧ Q (.str (if j.cps.toList < i.cps.toList then j else i)) H) := by
  intro pins s σ H xs us Q I r h
  obtain ⟨i, j, rfl, q⟩ := h
  obtain ⟨u, w', rfl, ⟨t, rfl⟩, ⟨t', rfl⟩⟩ := vals2 r
  refine min_two_strs (I.ok.hd hc) fun h' tk k => ⟨_, H, I.kept k, ?_, q⟩
  by_cases hj : j.cps.toList < i.cps.toList
  · rw [if_pos hj, if_pos hj]; exact ⟨t', rfl⟩
  · rw [if_neg hj, if_neg hj]; exact ⟨t, rfl⟩
section
variable {K : PySem.W.Frag} {γ : Type} {W : Wd γ} {ρ : Rho} {k : γ} {Φ : PyData → γ → Prop}
theorem rc_minS {i j : Str} (q : Φ (.str (if j.cps.toList < i.cps.toList then j else i)) k) : RCD K W (fun xs H Q => ∃ i j, xs = [.str i, .str j] ∧ Q (.str (if j.cps.toList < i.cps.toList then j else i)) H) [.str i, .str j] ρ k Φ := rc_ q fun N H vs t Q c => by
  obtain ⟨a, b, rfl, t1, t2⟩ := t.two_
  cases t1
  cases t2
  exact ⟨i, j, rfl, c _ (.str _)⟩
end
end U

set_option Elab.async false
set_option linter.all false
set_option maxRecDepth 100000
set_option maxHeartbeats 2000000
namespace U
open PySem PySem.Spec PyProof.Rows L2
/-! ### a def that is handed a list of its caller's as the third of four, appends to it and returns it -/
def spO (K : PySem.W.Frag) (R : List PyData → List PyData → List PyData → Prop) : Sp := fun vs H Q _ => ∃ (N : List Addr) (l : Addr) (us : List V) (v0 v1 v3 : V) (d0 d1 d3 : PyData) (rs rs' : List PyData), vs = [v0, v1, .ref l, v3] ∧ l ∈ N ∧ Trk N H ∧ H l = some (.lst us) ∧ TA K N H us rs ∧
  T K N H v0 d0 ∧ T K N H v1 d1 ∧ T K N H v3 d3 ∧ R [d0, d1, d3] rs rs' ∧ ∀ us' H', Ext [l] H H' → H' l = some (.lst us') → TA K N H' us' rs' → Q (.ref l) H'
/-- a def that returns a new list -/
def spF (K : PySem.W.Frag) (n : Nat) (R : List PyData → List PyData → Prop) : Sp := fun vs H Q _ => ∃ (N : List Addr) (ds rs : List PyData), TA K N H vs ds ∧ Trk N H ∧ ds.length = n ∧ R ds rs ∧
  ∀ l us H', Same H H' → H l = none → H' l = some (.lst us) → TA K (l :: N) H' us rs → Q (.ref l) H'
section
variable {K : PySem.W.Frag} {R : List PyData → List PyData → List PyData → Prop} {F : List PyData → List PyData → Prop} {n : Nat} {N : List Str} {vs : List V} {H : Hp} {Q : VK} {E : XK} {t : TS}
theorem spO.len (h : spO K R vs H Q E) : vs.length = 4 := by
  obtain ⟨_, _, _, _, _, _, _, _, _, _, _, rfl, _⟩ := h
  rfl
theorem spF.len (h : spF K n F vs H Q E) : vs.length = n := by
  obtain ⟨_, _, _, ta, _, hl, _⟩ := h
  rw [ta.len]
  exact hl
theorem spO.ok (h : spO K R vs H Q E)
    (hb : ∀ (l : Addr) (M : List Addr) (Hs : Hp) (tr : Trk M Hs) (hl : l ∈ M) (d0 d1 d3 : PyData) (rs rs' : List PyData), R [d0, d1, d3] rs rs' →
      SW K (boxW K M Hs tr hl (listBox K l) []) t (restX N [.inl d0, .inl d1, .inr l, .inl d3]) rs ⟨fun ρ' k' => ρ'[2]? = some (.raw (.ref l)) ∧ k' = rs', fun _ _ => False, fun _ _ => False, fun _ _ => False⟩) :
    tSeq t (tRet (tVar 2)) { nx := fun _ H' => Q .non H', rt := Q } (L2.start N vs) H := by
  obtain ⟨M, l, us, v0, v1, v3, d0, d1, d3, rs, rs', rfl, hl, tr, h1, h2, t0, t1, t3, hR, q⟩ := h
  have S := stt_startX (W := boxW K M H tr hl (listBox K l) []) (N := N) (k := rs) (AX.dat t0 (.dat t1 (.fn (f := l) (.dat t3 .nil)))) ⟨fun _ _ _ => rfl, ⟨us, h1, h2⟩, fun _ h => nomatch h⟩
  refine hb l M H tr hl d0 d1 d3 rs rs' hR [] H [] H _ { nx := (tRet (tVar 2)) { nx := fun _ H' => Q .non H', rt := Q }, rt := Q } S (fun L' H' σ' ρ' k' S' g => ?_) (fun _ _ _ _ _ _ _ z => z.elim) (fun _ _ _ _ _ _ z => z.elim) (fun _ _ _ _ _ _ z => z.elim)
  obtain ⟨g1, rfl⟩ := g
  obtain ⟨xs, b1, b2⟩ := S'.wd.2.1
  refine ⟨_, S'.slots 2 _ g1, q xs H' (fun b o nb hb => ?_) b1 (b2.off fun b hb => List.mem_append_right _ hb)⟩
  have nl : b ≠ l := by simpa using nb
  by_cases hm : b ∈ M
  · rw [S'.wd.1 b hm nl]; exact hb
  · exact S'.base b o hm hb
/-- return f(a, b, [..], c) -/
theorem spF.okO {ta tb tn : TE} {tr : L2.TA} (h : spF K n F vs H Q E)
    (hb : ∀ (W : Wd Nat) (ds rs : List PyData), F ds rs → EvW K W ta (rest0 N ds) 0 fun d0 k0 => EvW K W tb (rest0 N ds) k0 fun d1 k1 => EvA K W tr (rest0 N ds) k1 fun es k2 => es.length ≤ 100000 ∧ EvW K W tn (rest0 N ds) k2 fun d3 _ => R [d0, d1, d3] es rs) :
    tRet (tCall (spO K R) [] E0 (tCons ta (tCons tb (tCons (tLst tr) (tCons tn tNil))))) { nx := fun _ H' => Q .non H', rt := Q } (L2.start N vs) H := by
  obtain ⟨M, ds, rs, ta', trk, _, hF, q⟩ := h
  have S : Stt K (pureW M H trk) [] H [] H (L2.start N vs) (rest0 N ds) 0 := stt_start ta' fun b _ => rfl
  refine hb (pureW M H trk) ds rs hF [] H [] H _ S _ fun v0 d0 k0 H0 S0 e0 t0 g0 => g0 [] H [] H0 _ S0 _ fun v1 d1 k1 H1 S1 e1 t1 g1 => g1 [] H [] H1 _ S1 _ fun xs es k2 H2 S2 e2 t2 g2 => ?_
  obtain ⟨hlen, g2⟩ := g2
  refine ⟨Nat.le_trans (show xs.length ≤ 100000 by rw [t2.len]; exact hlen) (by decide), fun p hp => ?_⟩
  have nin : p ∉ [] ++ M := S2.nin hp
  have nM : p ∉ M := fun z => nin (List.mem_append_right _ z)
  obtain ⟨S2', nat⟩ := S2.hide (o := .lst xs) hp
  refine g2 [] H [p] _ _ S2' _ fun v3 d3 k3 H3 S3 e3 t3 hR => ?_
  have hp3 : H3 p = some (.lst xs) := e3 p _ nM upd_same
  have hpH : H p = none := by
    cases z : H p with
    | none => rfl
    | some o =>
      rw [S2.base p o nin z] at hp
      cases hp
  have eP : Ext (p :: M) H2 H3 := (Ext.put (by simp) : Ext (p :: M) H2 (upd H2 p (.lst xs))).trans (e3.sub fun b hb => List.mem_cons_of_mem _ hb)
  have up2 : ∀ {v d}, T K ([] ++ M) H2 v d → T K (p :: M) H3 v d := fun {v d} t => (T.plus hp t).ext eP
  have f1 : Ext (pureW M H trk).M H1 H2 := e2
  have f0 : Ext (pureW M H trk).M H0 H2 := e1.trans e2
  have same3 : Same H H3 := fun b o hb => by
    by_cases hm : b ∈ M
    · rw [S3.wd b hm]; exact hb
    · exact S3.base b o hm hb
  refine ⟨p :: M, p, xs, v0, v1, v3, d0, d1, d3, es, rs, rfl, by simp, S3.trk, hp3, (TA.plus hp t2).ext eP, up2 (t0.ext (f0.sub fun b hb => List.mem_append_right _ hb)), up2 (t1.ext (f1.sub fun b hb => List.mem_append_right _ hb)), t3, hR, fun us' H' ex hl' ta2 => ?_⟩
  exact q p us' H' (fun b o hb => ex b o (by simp; rintro rfl; rw [hpH] at hb; cases hb) (same3 b o hb)) hpH hl' ta2
end
/-! ### the caller -/
section
variable {K : PySem.W.Frag} {γ : Type} {W : Wd γ} {ρ : Rho} {k : γ} {Φ : PyData → γ → Prop} {P : Ps γ} {ta tb tn te : TE} {tr : L2.TA} {n i j : Nat} {R : List PyData → List PyData → List PyData → Prop} {F : List PyData → List PyData → Prop}
/-- x = f(a, b, x, c) -/
theorem sw_callO (h : EvW K W ta ρ k fun d0 k1 => EvW K W tb ρ k1 fun d1 k2 => EvW K W tn ρ k2 fun d3 k3 => ∃ rs rs', ρ[i]? = some (.own rs) ∧ R [d0, d1, d3] rs rs' ∧ P.nx (ρ.set i (.own rs')) k3) (h0 : ∃ rs, ρ[i]? = some (.own rs)) :
    SW K W (tAsg (tCall (spO K R) [] E0 (tCons ta (tCons tb (tCons (tVar i) (tCons tn tNil))))) (gName i)) ρ k P := fun L0 H0 L H σ D S nx _ _ _ =>
  h L0 H0 L H σ S _ fun v0 d0 k1 H1 S1 e1 t0 g => g L0 H0 L H1 σ S1 _ fun v1 d1 k2 H2 S2 e2 t1 g => by
    obtain ⟨rs0, h0⟩ := h0
    obtain ⟨l, xs, a1, a2, a3, a4⟩ := S2.slots i _ h0
    refine ⟨.ref l, a1, g L0 H0 L H2 σ S2 _ fun v3 d3 k3 H3 S3 e3 t3 g => ?_⟩
    obtain ⟨rs, rs', h1, hR, q⟩ := g
    obtain ⟨l', us, b1, b2, b3, b4⟩ := S3.slots i _ h1
    have el : l' = l := by rw [a1] at b1; injection b1 with b1; injection b1 with b1; injection b1 with b1; exact b1.symm
    subst el
    have f1 : Ext W.M H2 H3 := e3
    have f0 : Ext W.M H1 H3 := e2.trans e3
    refine ⟨L ++ W.M, l', us, v0, v1, v3, d0, d1, d3, rs, rs', rfl, List.mem_append_left _ b2, S3.trk, b3, b4, t0.ext (eM f0), t1.ext (eM f1), t3, hR, fun us' H' ex hl' ta2 => ?_⟩
    have back : upd (upd H' l' (.lst us)) l' (.lst us') = H' := by
      funext b
      by_cases e : b = l'
      · rw [e, upd_same, hl']
      · rw [upd_ne e, upd_ne e]
    have S4 := S3.same (H' := upd H' l' (.lst us)) fun b o hb => by
      by_cases e : b = l'
      · rw [e] at hb ⊢
        rw [upd_same, ← b3, hb]
      · rw [upd_ne e]
        exact ex b o (by simp [e]) hb
    have S5 := S4.put (s1 := .own rs') h1 rfl rfl b1 b2 ⟨l', us', rfl, b2, upd_same, by rw [back]; exact ta2⟩
    rw [back] at S5
    have es : σ.set i (some (V.ref l')) = σ := by
      apply List.ext_getElem?
      intro m
      by_cases e : i = m
      · subst e
        rw [List.getElem?_set_self', b1]
        rfl
      · rw [List.getElem?_set_ne e]
    show D.nx (σ.set i (some (V.ref l'))) H'
    rw [es]
    exact nx _ _ _ _ _ S5 q
/-- a new list as one of the data -/
theorem ev_callF (h : EvA K W tr ρ k fun ds k1 => ds.length = n ∧ ∃ rs, F ds rs ∧ Φ (.list rs) k1) : EvW K W (tCall (spF K n F) [] E0 tr) ρ k Φ := fun L0 H0 L H σ S Q c =>
  h L0 H0 L H σ S _ fun vs ds k1 H1 S1 e1 ta g => by
    obtain ⟨hl, rs, hF, q⟩ := g
    rw [List.append_nil]
    exact ⟨L ++ W.M, ds, rs, ta, S1.trk, hl, hF, fun l us H' sm hn hl' ta2 => c _ _ k1 H' (S1.same sm) (e1.trans (Ext.same sm)) (.lst (S1.nin hn) hl' (ta2.off fun b hb => List.mem_cons_of_mem _ hb)) q⟩
/-- x, y = f(..), e: x a list of one's own -/
theorem sw_parF (h : EvA K W tr ρ k fun ds k1 => ds.length = n ∧ ∃ rs, F ds rs ∧ EvW K W te ρ k1 fun d k2 => P.nx ((ρ.set i (.own rs)).set j (.dat d)) k2) :
    SW K W (tPar i j (tCons (tCall (spF K n F) [] E0 tr) (tCons te tNil))) ρ k P := fun L0 H0 L H σ D S nx _ _ _ =>
  h L0 H0 L H σ S _ fun vs ds k1 H1 S1 e1 ta g => by
    obtain ⟨hl, rs, hF, g⟩ := g
    rw [List.append_nil]
    refine ⟨L ++ W.M, ds, rs, ta, S1.trk, hl, hF, fun l us H' sm hn hl' ta2 => ?_⟩
    obtain ⟨S2, nat⟩ := S1.hide (o := .lst us) hn
    have S3 := S2.same (H' := H') fun b o hb => by
      by_cases e : b = l
      · rw [e, upd_same] at hb
        rw [e, hl', hb]
      · rw [upd_ne e] at hb
        exact sm b o hb
    have nM : l ∉ W.M := fun z => S1.nin hn (List.mem_append_right _ z)
    refine g L0 H0 (l :: L) H' σ S3 _ fun v d k2 H2 S4 e4 t4 q => ?_
    have S5 := S4.takeHid nat i (s0 := .own rs) ⟨l, us, rfl, by simp, e4 l _ nM hl', ta2.ext (eM (L := l :: L) e4)⟩
    exact ⟨_, _, rfl, nx _ _ _ _ _ (S5.set j t4) q⟩
/-- f(a, b, x, c), x a list of one's own that f reads alone; what comes back is no list -/
def Flat : PyData → Prop | .none => True | .bool _ => True | .int _ => True | .str _ => True | _ => False
theorem Flat.T {N N' : List Addr} {H : Hp} {v : V} {d : PyData} (f : Flat d) (t : U.T K N H v d) : U.T K N' H v d := by
  cases t with
  | non => exact .non
  | bl b => exact .bl b
  | int i => exact .int i
  | str x => exact .str x
  | _ => exact f.elim
theorem ev_callV {a b c m : Nat} {R : List PyData → PyData → Prop} {d0 d1 d3 r : PyData} {rs : List PyData} (ha : ρ[a]? = some (.dat d0)) (hb : ρ[b]? = some (.dat d1)) (hi : ρ[i]? = some (.own rs)) (hc : ρ[c]? = some (.dat d3)) (hR : R [d0, d1, .list rs, d3] r) (hf : Flat r) (q : Φ r k) :
    EvW K W (tCall (spP K 4 R) [] E0 (tCons (tVar a) (tCons (tVar b) (tCons (tVar i) (tCons (tVar c) tNil))))) ρ k Φ := fun L0 H0 L H σ S Q fin => by
  obtain ⟨v0, e0, t0⟩ := S.slots a _ ha
  obtain ⟨v1, e1, t1⟩ := S.slots b _ hb
  obtain ⟨l, us, e2, m2, h2, t2⟩ := S.slots i _ hi
  obtain ⟨v3, e3, t3⟩ := S.slots c _ hc
  have sub : ∀ x ∈ (L ++ W.M).filter (fun x => decide (x ≠ l)), x ∈ L ++ W.M := fun x hx => (List.mem_filter.mp hx).1
  have nl : l ∉ (L ++ W.M).filter fun x => decide (x ≠ l) := fun z => by simpa using (List.mem_filter.mp z).2
  refine ⟨v0, e0, v1, e1, _, e2, v3, e3, ?_⟩
  exact ⟨_, _, r, .cons (t0.off sub) (.cons (t1.off sub) (.cons (.lst nl h2 (t2.off sub)) (.cons (t3.off sub) .nil))), fun x hx => S.trk x (sub x hx), rfl, hR, fun v H' sm t => fin v r k H' (S.same sm) (Ext.same sm) (hf.T t) q⟩
end
/-! ### the list in the def that writes it -/
section
variable {K : PySem.W.Frag} {l : Addr} {M : List Addr} {Hs : Hp} {tr : Trk M Hs} {hl : l ∈ M} {caps : List (V × PyData)} {ρ : Rho} {k : List PyData} {Φ : PyData → List PyData → Prop} {P : Ps (List PyData)} {te ti : TE} {i : Nat} {d : PyData}
theorem ev_bLast (h0 : ρ[i]? = some (.raw (.ref l))) (hd : k.getLast? = some d) (q : Φ d k) : EvW K (boxW K M Hs tr hl (listBox K l) caps) (tOp (rIxL K) (tVar i) (tUn (rU fun i => .int (-i)) (tC (.int 1)))) ρ k Φ := fun L0 H0 L H σ S Q c => by
  obtain ⟨xs, h3, h4⟩ := S.wd.2.1
  have hlen := h4.len
  rw [List.getLast?_eq_getElem?] at hd
  obtain ⟨v, e, t⟩ := h4.at hd
  have p0 : 0 < k.length := by
    have := (List.getElem?_eq_some_iff.mp hd).1
    omega
  refine ⟨_, S.slots i _ h0, 1, rfl, _, _, _, v, rfl, rfl, SqL.of h3, ?_, c v d k H S (Ext.refl _ _) t q⟩
  unfold atI
  rw [hlen]
  have : ixN k.length (-1) = some (k.length - 1) := by
    unfold ixN
    rw [if_neg (by decide), if_pos (by omega)]
    congr 1
    omega
  rw [this]
  exact e
theorem sw_bapp (h0 : ρ[i]? = some (.raw (.ref l))) (h : EvW K (boxW K M Hs tr hl (listBox K l) caps) te ρ k fun d k1 => k1.length < 100000 ∧ P.nx ρ (k1 ++ [d])) :
    SW K (boxW K M Hs tr hl (listBox K l) caps) (tDrop (tBM K "list" rAppend (tVar i) (tCons te tNil))) ρ k P := fun L0 H0 L H σ D S nx _ _ _ => by
  obtain ⟨xs0, h30, _⟩ := S.wd.2.1
  refine ⟨.ref l, S.slots i _ h0, tyList h30, h L0 H0 L H σ S _ fun v d k1 H1 S1 _ t g => ?_⟩
  obtain ⟨hlen, q⟩ := g
  obtain ⟨oth, ⟨xs, h3, h4⟩, cp⟩ := S1.wd
  refine ⟨l, xs, v, rfl, rfl, h3, Nat.lt_of_le_of_lt (show xs.length ≤ 99999 by rw [h4.len]; omega) (by decide), ?_⟩
  have eM' : Ext M H1 (upd H1 l (.lst (xs ++ [v]))) := Ext.put hl
  have eN : Ext (L ++ M) H1 (upd H1 l (.lst (xs ++ [v]))) := Ext.put (List.mem_append_right _ hl)
  exact nx _ _ _ _ _ (S1.ext eM' ⟨fun b hb nb => by rw [upd_ne nb]; exact oth b hb nb, ⟨_, upd_same, (h4.app (.one t)).ext eN⟩, fun p hp => (cp p hp).ext eN⟩) q
end
end U

set_option Elab.async false
set_option linter.all false
set_option maxRecDepth 100000
set_option maxHeartbeats 2000000
namespace U
open PySem PySem.Spec PyProof.Rows L2
/-! ### x = [.. for ..], a list of one's own -/
section
variable {K : PySem.W.Frag} {γ : Type} {W : Wd γ} {ρ : Rho} {k : γ} {P : Ps γ} {g : TG} {tt : TT} {te : TE} {wi : TI} {vs : List Nat}
theorem sw_ownLc {i0 : Nat} (h : EvI K W wi ρ k fun n f k1 => n ≤ 100000 ∧ ∃ J : Nat → List PyData → γ → Prop, J 0 [] k1 ∧
      (∀ i acc k2, i < n → J i acc k2 → TgW K W g (fun i => i ∈ vs) (f i) (wipeR ρ vs) fun ρ2 => EvT K W tt ρ2 k2 fun b k3 => if b = true then EvW K W te ρ2 k3 fun d k4 => J (i + 1) (acc ++ [d]) k4 else J (i + 1) acc k3) ∧
      ∀ acc k2, acc.length ≤ n → J n acc k2 → P.nx (ρ.set i0 (.own acc)) k2) : SW K W (tAsg (tLc wi g tt te vs) (gName i0)) ρ k P := fun L0 H0 L H σ D0 S nx _ _ _ =>
  h L0 H0 L H σ S _ fun J n f k1 H1 S1 e wd g => by
    obtain ⟨hn, Jv, j0, turn, done⟩ := g
    intro D hD
    obtain ⟨Sd, nD⟩ := S1.hide (o := .lst []) hD
    have nin := S1.nin hD
    have dM : D ∉ W.M := fun z => nin (List.mem_append_right _ z)
    refine ⟨fun i m H2 => m = n - i ∧ i ≤ n ∧ ∃ acc k2 ys, Stt K W L0 H0 (D :: L) H2 σ ρ k2 ∧ Ext W.M H1 H2 ∧ H2 D = some (.lst ys) ∧ TA K (D :: L ++ W.M) H2 ys acc ∧ acc.length ≤ i ∧ Jv i acc k2,
      ⟨n, rfl, Nat.zero_le _, [], k1, [], Sd, Ext.new hD, upd_same, .nil, Nat.le_refl _, j0⟩, ?_⟩
    rintro i m H2 ⟨rfl, hi, acc, k2, ys, S2, e2, hy, ty, ha, j2⟩
    have l2 : Later W L H1 (D :: L) H2 := ⟨e2.sub fun b hb => List.mem_append_right _ hb, fun l hl => (List.mem_cons.mp hl).elim (fun q => .inr (by rw [q]; exact hD)) fun q => .inl q, S2.trk⟩
    by_cases hlt : i < n
    · refine .inr ⟨wd.goes i _ H2 hlt l2, fun H' => ∃ acc k2 ys, Stt K W L0 H0 (D :: L) H' σ ρ k2 ∧ Ext W.M H1 H' ∧ H' D = some (.lst ys) ∧ TA K (D :: L ++ W.M) H' ys acc ∧ acc.length ≤ i + 1 ∧ Jv (i + 1) acc k2,
        fun H' ⟨acc, k2, ys, a1, a2, a3, a4, a5, a6⟩ => ⟨n - (i + 1), by omega, rfl, hlt, acc, k2, ys, a1, a2, a3, a4, a5, a6⟩, fun x H' y => ?_⟩
      obtain ⟨sm, tx⟩ := wd.yields i _ H2 x H' hlt l2 y
      have S3 := S2.same sm
      refine turn i acc k2 hlt j2 L0 H0 (D :: L) H' _ k2 x (S3.wipe vs) tx _ fun σ3 ρ3 S4 hl4 ag tst => ⟨wipe_of hl4 ag, ?_⟩
      refine (tst : EvT K W tt ρ3 k2 _) L0 H0 (D :: L) H' σ3 S4 _ fun b k3 H3 S5 e5 g5 => ?_
      cases b with
      | false =>
        refine ⟨acc, k3, ys, S3.ext e5 S5.wd, (e2.trans (Ext.same sm)).trans e5, e5 _ _ dM (sm _ _ hy), (ty.same sm).ext (eM e5), by omega, g5⟩
      | true =>
        refine (g5 : EvW K W te ρ3 k3 _) L0 H0 (D :: L) H3 σ3 S5 _ fun v d k4 H4 S6 e6 t6 g6 => ?_
        have e56 := e5.trans e6
        have hy4 : H4 D = some (.lst ys) := e56 _ _ dM (sm _ _ hy)
        have lz : ys.length ≤ 99999 := by rw [ty.len]; omega
        refine ⟨ys, hy4, Nat.lt_of_le_of_lt lz (by decide), acc ++ [d], k4, ys ++ [v], (S3.ext e56 S6.wd).putHid nD, ?_, upd_same, ?_, by rw [List.length_append]; exact Nat.add_le_add_right ha 1, g6⟩
        · intro b o nb hb
          rw [upd_ne (ne_of_none hb hD)]
          exact ((e2.trans (Ext.same sm)).trans e56) b o nb hb
        · exact ((((ty.same sm).ext (eM e56)).app (.one t6))).ext (Ext.put (by simp))
    · have ei : i = n := by omega
      subst ei
      exact .inl ⟨wd.stops _ H2 l2, nx _ _ _ _ _ (S2.takeHid nD i0 (s0 := .own acc) ⟨D, ys, rfl, by simp, hy, ty⟩) (done acc k2 ha j2)⟩
/-- the same, its parts pure -/
theorem sw_ownLcP {i0 : Nat} (keep : Nat → Bool) (el : Nat → PyData) (h : EvI K W wi ρ k fun n f k1 => n ≤ 100000 ∧
      (∀ i, i < n → TgW K W g (fun i => i ∈ vs) (f i) (wipeR ρ vs) fun ρ2 => EvT K W tt ρ2 k1 fun b k3 => b = keep i ∧ k3 = k1 ∧ (keep i = true → EvW K W te ρ2 k1 fun d k4 => d = el i ∧ k4 = k1)) ∧
      P.nx (ρ.set i0 (.own (((List.range n).filter keep).map el))) k1) : SW K W (tAsg (tLc wi g tt te vs) (gName i0)) ρ k P :=
  sw_ownLc fun L0 H0 L H σ S R c => h L0 H0 L H σ S R fun J n f k' H2 S2 e wd ⟨h1, h2, h3⟩ => c J n f k' H2 S2 e wd (by
    obtain ⟨a, J', b1, b2, b3⟩ := lc_pure (Φ := fun d k => ∃ acc, d = .list acc ∧ P.nx (ρ.set i0 (.own acc)) k) keep el h1 h2 ⟨_, rfl, h3⟩
    refine ⟨a, J', b1, b2, fun acc k2 hl j => ?_⟩
    obtain ⟨acc', e, q⟩ := b3 acc k2 hl j
    cases e
    exact q)
/-- range(a, b, -1) -/
theorem ei_rngD {tr : L2.TA} {Ω : Nat → (Nat → PyData) → γ → Prop} (h : EvA K W tr ρ k fun ds k1 => ∃ a b : Int, ds = [.int a, .int b, .int (-1)] ∧ (-(2 ^ 62) ≤ a ∧ a < 2 ^ 62 ∧ -(2 ^ 62) ≤ b ∧ b < 2 ^ 62) ∧ Ω (a - b).toNat (fun i => .int (a + (i : Nat) * (-1))) k1) : EvI K W (iRng3 tr) ρ k Ω :=
  fun L0 H0 L H σ S R c => h L0 H0 L H σ S _ fun vs ds k1 H1 S1 e t g => by
    obtain ⟨a, b, rfl, ⟨h1, h2, h3, h4⟩, q⟩ := g
    obtain ⟨v, u, x, rfl, t1, t2, t3⟩ : ∃ v u x, vs = [v, u, x] ∧ T K (L ++ W.M) H1 v (.int a) ∧ T K (L ++ W.M) H1 u (.int b) ∧ T K (L ++ W.M) H1 x (.int (-1)) := by
      cases t with
      | cons t1 t =>
        cases t with
        | cons t2 t =>
          cases t with
          | cons t3 t =>
            cases t
            exact ⟨_, _, _, rfl, t1, t2, t3⟩
    cases t1
    cases t2
    cases t3
    refine ⟨a, b, -1, (a - b).toNat, rfl, RgC.neg h1 h2 h3 h4, c _ _ _ k1 H1 S1 e ⟨fun i L H hi _ => hi, fun L H _ => Nat.le_refl _, fun i L H x H' hi _ y => ?_⟩ q⟩
    obtain ⟨rfl, rfl⟩ := y
    exact ⟨Same.refl _, .int _⟩
end
/-! ### numbers, or None, in lists -/
def optI : Option Int → PyData | none => .none | some i => .int i
theorem eqv_opts : ∀ a b : List (Option Int), PyData.eqvAll (a.map optI) (b.map optI) = decide (a = b)
  | [], [] => by simp [PyData.eqvAll]
  | [], y :: b => by simp [PyData.eqvAll]
  | x :: a, [] => by simp [PyData.eqvAll]
  | x :: a, y :: b => by
    rw [List.map_cons, List.map_cons, PyData.eqvAll, eqv_opts a b]
    cases x with
    | none => cases y <;> simp [optI, PyData.eqv]
    | some x =>
      cases y with
      | none => simp [optI, PyData.eqv]
      | some y =>
        by_cases h : x = y
        · subst h; simp [optI, PyData.eqv]
        · simp [optI, PyData.eqv, h]
theorem shaped_opts (z : List (Option Int)) : SeqAt.shaped (.list (z.map optI)) = true := by
  have h1 : ∀ z : List (Option Int), PyData.canLayAll0 (z.map optI) = true := fun z => by
    induction z with
    | nil => rfl
    | cons x z ih =>
      rw [List.map_cons, PyData.canLayAll0, ih]
      cases x <;> rfl
  have h2 : ∀ z : List (Option Int), PyData.depthAll (z.map optI) = 0 := fun z => by
    induction z with
    | nil => rfl
    | cons x z ih =>
      rw [List.map_cons, PyData.depthAll, ih]
      cases x <;> rfl
  rw [SeqAt.shaped, PyData.canLay0, h1 z, PyData.depth, h2 z]
  rfl
section
variable {K : PySem.W.Frag} {γ : Type} {W : Wd γ} {ρ : Rho} {k : γ} {Φ : PyData → γ → Prop}
theorem rd_eqOpts {a b : List (Option Int)} (q : Φ (.bool (decide (a = b))) k) : RD K W (rEqD K) (.list (a.map optI)) (.list (b.map optI)) ρ k Φ := rd_ q fun N H vx vy tx ty Q c => by
  refine ⟨_, _, tx.dp (SeqAt.canLay_of_shaped (shaped_opts a)), ty.dp (SeqAt.canLay_of_shaped (shaped_opts b)), shaped_opts a, shaped_opts b, ?_⟩
  have e : PyData.eqv (.list (a.map optI)) (.list (b.map optI)) = decide (a = b) := by
    rw [PyData.eqv]
    exact eqv_opts a b
  rw [e]
  exact c _ (.bl _)
theorem inV_non : ∀ l : List Int, inV .non (l.map V.int) = false
  | [] => by simp [inV]
  | x :: xs => by
    have ih := inV_non xs
    unfold inV at ih ⊢
    rw [List.map_cons, List.any_cons, ih]
    rfl
theorem rd_inNonL {l : List Int} (q : Φ (.bool false) k) : RD K W (rIn K false) .none (.list (l.map .int)) ρ k Φ := rd_ q fun N H vx vy tx ty Q c => by
  cases tx
  cases ty with
  | lst n ha t =>
    have e := t.ints_
    subst e
    exact ⟨_, _, rfl, .inl (SqL.of ha), rfl, flat_ints l, by simp only [Bool.false_eq_true, if_false]; rw [inV_non]; exact c _ (.bl _)⟩
theorem rd_ninIntsL {z : Int} {l : List Int} (q : Φ (.bool (!decide (z ∈ l))) k) : RD K W (rIn K true) (.int z) (.list (l.map .int)) ρ k Φ := rd_ q fun N H vx vy tx ty Q c => by
  cases tx
  cases ty with
  | lst n ha t =>
    have e := t.ints_
    subst e
    exact ⟨_, _, rfl, .inl (SqL.of ha), rfl, flat_ints l, by simp only [if_true]; rw [inV_int]; exact c _ (.bl _)⟩
end
/-! ### a sign so many times -/
def rMulC : R2 := fun x y H Q => ∃ c n : Nat, x = .str ⟨#[c]⟩ ∧ y = .int (n : Int) ∧ 2 ≤ n ∧ n ≤ 100000 ∧ Q (.str ⟨(List.replicate n c).toArray⟩) H
theorem fold_rep (c : Nat) : ∀ (n : Nat) (a : Array Nat), (List.replicate n (#[c] : Array Nat)).foldl (· ++ ·) a = a ++ (List.replicate n c).toArray
  | 0, a => by simp
  | n + 1, a => by
    rw [List.replicate_succ, List.foldl_cons, fold_rep c n, List.replicate_succ]
    apply Array.ext'
    simp
section
variable {X : Cx}
theorem op_mulC : OpR X (binaryOp .Mult) rMulC := by
  intro pins s σ H x y v u Q I rx ry h
  obtain ⟨c, n, rfl, rfl, h2, hn, q⟩ := h
  obtain ⟨t, rfl⟩ := rx
  obtain ⟨t', rfl⟩ := ry
  have p63 : (100000 : Int) < 2 ^ 63 := by decide
  refine P.mul_str ?_ (fun _ _ => ?_) (fun _ _ => ?_) ?_
  · rw [decide_eq_false (by omega), decide_eq_false (by omega)]; rfl
  · show ¬ ((1 : Int) > _)
    have : (1 : Int) ≤ (2 ^ 63 - 1) / (n : Int) := by
      rw [Int.le_ediv_iff_mul_le (by omega)]
      omega
    omega
  · show PySem.Builtin.Str.tooLong (1 * (n : Int).toNat) = false
    rw [Nat.one_mul, Int.toNat_natCast]
    unfold PySem.Builtin.Str.tooLong
    exact decide_eq_false (Nat.not_lt.mpr (Nat.le_trans hn (by decide)))
  · have n1 : ((n : Int) == 1) = false := by rw [beq_eq_false_iff_ne]; omega
    rw [if_neg (by omega), n1, if_neg (by simp [Str.length])]
    have e : (⟨(List.replicate (n : Int).toNat (#[c] : Array Nat)).foldl (· ++ ·) #[]⟩ : Str) = ⟨(List.replicate n c).toArray⟩ := by
      rw [fold_rep, Int.toNat_natCast]; simp
    show (Made.str ⟨(List.replicate (n : Int).toNat (#[c] : Array Nat)).foldl (· ++ ·) #[]⟩).post _ s
    rw [e]
    refine ⟨?_, ?_⟩
    · refine Nat.le_trans ?_ (show 100000 ≤ sizeLine by decide)
      show (List.replicate n c).toArray.size ≤ 100000
      simp [hn]
    · exact ⟨.str _, H, I.tok _, ⟨_, rfl⟩, q⟩
end
section
variable {K : PySem.W.Frag} {γ : Type} {W : Wd γ} {ρ : Rho} {k : γ} {Φ : PyData → γ → Prop}
theorem rd_mulC {c n : Nat} (h2 : 2 ≤ n) (hn : n ≤ 100000) (q : Φ (.str ⟨(List.replicate n c).toArray⟩) k) : RD K W rMulC (.str ⟨#[c]⟩) (.int (n : Int)) ρ k Φ := rd_ q fun N H vx vy tx ty Q c' => by
  cases tx
  cases ty
  exact ⟨c, n, rfl, rfl, h2, hn, c' _ (.str _)⟩
end
/-! ### a tuple no times -/
section
open AutoSeq1 (wpAny_loadPart')
theorem tupTimesZ (l : Addr) (x : Value) (its : List Value) (n : Nat) (dd : Option Addr) (sl : Array (Option Value)) (u : Tok) :
    Meets (Builtin.«tuple.__mul__» ⟨[.ref l, .int 0 u], []⟩) (fun _ R z => z.heap.get? l = some { cls := .type "tuple", dict := dd, data := .seq ((x :: its).toArray) n, slots := sl } ∧
      R (.ok (.ret (Value.ref z.heap.objs.size))) { z with heap := z.heap.push { cls := Value.type "tuple", data := Data.seq #[] }, toks := z.toks }) :=
  .of_wp fun prog w A R z h => by
    obtain ⟨p0, g, d, k0, os⟩ := z
    obtain ⟨hl, h⟩ := h
    have f1 := AutoSeq1.idx_int
    have c1 : ((x :: its).toArray.isEmpty || (0 : Int) == 1) = false := rfl
    wp_walk using wpAny_loadPart' hl
    repeat (first
      | (refine wpAny_ite_false (decide_eq_false (by rw [c1]; exact Bool.false_ne_true)) ?_; wp_walk using wpAny_loadPart' hl)
      | (refine wpAny_ite_true (by rfl) ?_; wp_walk using wpAny_loadPart' hl))
    exact ⟨_, rfl, h⟩
end
def rTimesZ (K : PySem.W.Frag) : R2 := fun x y H Q => ∃ (l : Addr) (k : Int) (xs : List V), x = .ref l ∧ y = .int k ∧ SqT K H l xs ∧ xs ≠ [] ∧ 0 ≤ k ∧ k ≤ 1000 ∧ xs.length ≤ 1000 ∧ (k = 0 → ∀ p, H p = none → Q (.ref p) (upd H p (.tup []))) ∧ (k = 1 → Q (.ref l) H) ∧ (2 ≤ k → ∀ p, H p = none → Q (.ref p) (upd H p (.tup (List.replicate k.toNat xs).flatten)))
theorem op_timesZ {X : Cx} : OpR X (binaryOp .Mult) (rTimesZ X.K) := by
  intro pins z σ H x y v u Q I rx ry h
  obtain ⟨l, k, xs, rfl, rfl, hT, hne, k1, k2, hz, q0, q1, q2⟩ := h
  by_cases e : k = 0
  · subst e
    have q0 := q0 rfl
    cases rx
    obtain ⟨t, rfl⟩ := ry
    obtain ⟨its, r, ⟨⟨cls, dd, data, sl⟩, ho, hc, m, hd⟩, hs⟩ := I.tuple hT
    simp only at hc hd
    subst hc hd
    cases its with
    | nil =>
      cases r
      exact absurd rfl hne
    | cons a its =>
      refine wpAny_binaryOp_repeat_ref (T := "tuple") (U := "int") (by decide) ⟨_, ho, rfl⟩ (fun z' => typeIs_int z' 0 t) noFill_tuple_mul F.fills_int_mul F.slot_int_rmul repeat_tuple F.slot_int_index.lookup
        (call_meets F.slot_int_rmul (typeIs_int z 0 t) F.entry_int_rmul (F.args_int_rmul_2 _ _) (int_rmul_tuple 0 t l _ m dd sl)
          ⟨ho, rfl, ⟨_, ho, rfl⟩, call_meets F.slot_tuple_mul ⟨_, ho, rfl⟩ F.entry_tuple_mul (F.args_tuple_mul_2 _ _) (tupTimesZ l a its m dd sl t) ⟨ho, ?_⟩⟩)
      refine ⟨.ref z.heap.objs.size, _, I.laid (t' := z.toks) (o := .tup []) (fun b ob q => Heap.get?_push_of_some _ q) (Nat.le_refl _) ?_, rfl, q0 _ (I.hok.fresh (Nat.le_refl _))⟩
      exact ⟨Nat.zero_le _, [], .nil, IsTup.new _ _⟩
  · exact op_times pins z σ H (.ref l) (.int k) v u Q I rx ry ⟨l, k, xs, rfl, rfl, hT, hne, by omega, k2, hz, q1, q2⟩
theorem kTimesZ (K : PySem.W.Frag) {X : Cx} (h : X.K = K := by rfl) : OpR X (binaryOp .Mult) (rTimesZ K) := by subst h; exact op_timesZ
section
variable {K : PySem.W.Frag} {γ : Type} {W : Wd γ} {ρ : Rho} {k : γ} {Φ : PyData → γ → Prop}
theorem rd_timesZ {d : PyData} {n : Nat} (h2 : n ≤ 1000) (q : Φ (.tuple (List.replicate n d)) k) : RD K W (rTimesZ K) (.tuple [d]) (.int (n : Int)) ρ k Φ := rdN q fun N H vx vy tr tx ty Q c => by
  cases ty
  cases tx with
  | @tup a xs _ na ha ts =>
    obtain ⟨v, rfl, tv⟩ := ts.one_
    refine ⟨a, (n : Int), [v], rfl, rfl, SqT.of ha, by simp, by omega, by omega, by simp, fun e p hp => ?_, fun e => ?_, fun e p hp => ?_⟩
    · have e1 : n = 0 := by omega
      subst e1
      exact c (.ref p) _ (Same.new hp) (.tup (tr.new hp) upd_same .nil)
    · have e1 : n = 1 := by omega
      subst e1
      exact c (.ref a) H (Same.refl _) (.tup na ha (.one tv))
    · rw [Int.toNat_natCast, flat_rep]
      refine c (.ref p) _ (Same.new hp) (.tup (tr.new hp) upd_same ?_)
      exact (TA.rep tv n).ext (Ext.new hp)
end
/-! x, y, z = a, b, c -/
section
variable {K : PySem.W.Frag} {γ : Type} {W : Wd γ} {ρ : Rho} {k : γ} {P : Ps γ} {tr : L2.TA}
theorem sw_par3 {i j l : Nat} (h : EvA K W tr ρ k fun ds k1 => ∃ d e f, ds = [d, e, f] ∧ P.nx (((ρ.set i (.dat d)).set j (.dat e)).set l (.dat f)) k1) : SW K W (tPar3 i j l tr) ρ k P := fun L0 H0 L H σ D S nx _ _ _ =>
  h L0 H0 L H σ S _ fun vs ds k1 H1 S1 e1 t g => by
    obtain ⟨d, e, f, rfl, q⟩ := g
    cases t with
    | cons t1 t =>
      cases t with
      | cons t2 t =>
        cases t with
        | cons t3 t =>
          cases t
          exact ⟨_, _, _, rfl, nx _ _ _ _ _ (((S1.set i t1).set j t2).set l t3) q⟩
end
end U

set_option Elab.async false
set_option linter.all false
set_option maxRecDepth 100000
set_option maxHeartbeats 2000000
namespace U
open PySem PySem.Spec PyProof.Rows L2
/-! ### a dict of lists of one's own: d.setdefault(k, []).append(x) -/
abbrev DE := Int × Addr × List PyData
def addDL (kvs : List (Int × List PyData)) (key : Int) (d : PyData) : List (Int × List PyData) :=
  if (kvs.any fun kv => decide (kv.1 = key)) = true then kvs.map fun kv => if kv.1 = key then (kv.1, kv.2 ++ [d]) else kv else kvs ++ [(key, [d])]
structure DLs (K : PySem.W.Frag) (N L : List Addr) (H : Hp) (o : Option (Option V)) (l : Addr) (es : List DE) : Prop where
  at_ : o = some (some (.ref l))
  inL : ∀ b ∈ l :: es.map (·.2.1), b ∈ L
  nd : (l :: es.map (·.2.1)).Nodup
  keys : (es.map (·.1)).Nodup
  top : H l = some (.dK (es.map fun e => (.inl e.1, .ref e.2.1)))
  row : ∀ e ∈ es, ∃ xs, H e.2.1 = some (.lst xs) ∧ TA K N H xs e.2.2
def kvOf (es : List DE) : List (Int × List PyData) := es.map fun e => (e.1, e.2.2)
theorem nd_inj {α β : Type} {f : α → β} : ∀ {l : List α}, (l.map f).Nodup → ∀ {x y : α}, x ∈ l → y ∈ l → f x = f y → x = y
  | [], _, _, _, hx, _, _ => nomatch hx
  | a :: l, h, x, y, hx, hy, e => by
    obtain ⟨h1, h2⟩ := List.nodup_cons.mp h
    rcases List.mem_cons.mp hx with rfl | hx
    · rcases List.mem_cons.mp hy with rfl | hy
      · rfl
      · exact absurd (List.mem_map.mpr ⟨y, hy, e.symm⟩) h1
    · by_cases ya : y = a
      · exact absurd (List.mem_map.mpr ⟨x, hx, e.trans (by rw [ya])⟩) h1
      · exact nd_inj h2 hx ((List.mem_cons.mp hy).resolve_left ya) e
section
variable {K : PySem.W.Frag} {γ : Type} {W : Wd γ} {L0 L L' N N' : List Addr} {H0 H H' : Hp} {σ σ' : L2.St} {ρ ρ' : Rho} {k k' : γ} {o : Option (Option V)} {l : Addr} {es : List DE}
def NoOwn (ρ : Rho) : Prop := ∀ (j : Nat) (s : Slot), ρ[j]? = some s → s.isOwn = false
theorem NoOwn.nat (h : NoOwn ρ) (p : Addr) : NoAt ρ σ p := fun i s hs ho => by rw [h i s hs] at ho; cases ho
theorem NoOwn.le {ρ0 : Rho} (h : NoOwn ρ) (l : Le ρ0 ρ) : NoOwn ρ0 := fun i s hs => by
  rcases l.get i s hs with rfl | q
  · rfl
  · exact h i s q
/-- other own places (no slot has one) -/
theorem Stt.places (S : Stt K W L0 H0 L H σ ρ k) (no : NoOwn ρ) (sub : ∀ b ∈ L', b ∈ L) : Stt K W L0 H0 L' H σ ρ k := by
  have sub2 : ∀ b ∈ L' ++ W.M, b ∈ L ++ W.M := fun b hb => (List.mem_append.mp hb).elim (fun z => List.mem_append_left _ (sub b z)) fun z => List.mem_append_right _ z
  refine ⟨S.base, fun b hb => S.fresh b (sub b hb), fun b hb => S.offM b (sub b hb), fun b hb => S.trk b (sub2 b hb), S.wdSub sub, S.len, fun i s hs => ?_, S.dis⟩
  have q := (S.slots i s hs).off sub2
  have ns := no i s hs
  cases s with
  | no => trivial
  | dat d => exact q
  | raw v => exact q
  | fn F => exact q
  | own ds => cases ns
  | ownD ds => cases ns
  | lck ds => cases ns
  | ownN D ds => cases ns
theorem Stt.putAt {o : HO} (S : Stt K W L0 H0 L H σ ρ k) (no : NoOwn ρ) (hl : l ∈ L) : Stt K W L0 H0 L (upd H l o) σ ρ k := by
  have sub : ∀ b ∈ l :: L, b ∈ L := fun b hb => (List.mem_cons.mp hb).elim (fun e => e ▸ hl) id
  exact ((S.places no sub).putHid (o := o) (no.nat l)).places no fun b hb => List.mem_cons_of_mem _ hb
theorem DLs.ext (D : DLs K (L ++ W.M) L H o l es) (S : Stt K W L0 H0 L H σ ρ k) (e : Ext W.M H H') : DLs K (L ++ W.M) L H' o l es :=
  ⟨D.at_, D.inL, D.nd, D.keys, e l _ (S.offM l (D.inL l (by simp))) D.top, fun x hx => by
    obtain ⟨xs, h1, h2⟩ := D.row x hx
    exact ⟨xs, e _ _ (S.offM _ (D.inL _ (List.mem_cons_of_mem _ (List.mem_map_of_mem hx)))) h1, h2.ext (eM e)⟩⟩
theorem DLs.look (key : Int) : valV (es.map fun e : DE => ((.inl e.1 : Key), V.ref e.2.1)) (.inl key) = (es.find? fun e => decide (e.1 = key)).map fun e => V.ref e.2.1 := by
  unfold valV
  rw [List.find?_map]
  have : ((fun kv : Key × V => decide (kv.1 = (.inl key : Key))) ∘ fun e : DE => ((.inl e.1 : Key), V.ref e.2.1)) = fun e : DE => decide (e.1 = key) := by
    funext e
    simp
  rw [this]
  cases es.find? fun e => decide (e.1 = key) <;> rfl
/-- the places and rows when one row grows -/
theorem DLs.grow (D : DLs K N L H o l es) {e : DE} {xs : List V} {v : V} {d : PyData} (he : e ∈ es) (hx : H e.2.1 = some (.lst xs)) (tx : TA K N H xs e.2.2) (t : T K N H v d) (sub : ∀ b ∈ L, b ∈ N) :
    DLs K N L (upd H e.2.1 (.lst (xs ++ [v]))) o l (es.map fun x => if x.1 = e.1 then (x.1, x.2.1, x.2.2 ++ [d]) else x) := by
  have m1 : ∀ x : DE, (if x.1 = e.1 then (x.1, x.2.1, x.2.2 ++ [d]) else x).1 = x.1 := fun x => by split <;> rfl
  have m2 : ∀ x : DE, (if x.1 = e.1 then (x.1, x.2.1, x.2.2 ++ [d]) else x).2.1 = x.2.1 := fun x => by split <;> rfl
  have k1 : (es.map fun x : DE => if x.1 = e.1 then (x.1, x.2.1, x.2.2 ++ [d]) else x).map (·.1) = es.map (·.1) := by rw [List.map_map]; exact List.map_congr_left fun x _ => m1 x
  have k2 : (es.map fun x : DE => if x.1 = e.1 then (x.1, x.2.1, x.2.2 ++ [d]) else x).map (·.2.1) = es.map (·.2.1) := by rw [List.map_map]; exact List.map_congr_left fun x _ => m2 x
  obtain ⟨nl, ne⟩ := List.nodup_cons.mp D.nd
  have hel : e.2.1 ≠ l := fun z => nl (List.mem_map.mpr ⟨e, he, z⟩)
  have eN : e.2.1 ∈ N := sub _ (D.inL _ (List.mem_cons_of_mem _ (List.mem_map_of_mem he)))
  have ex : Ext N H (upd H e.2.1 (.lst (xs ++ [v]))) := Ext.put eN
  refine ⟨D.at_, by rw [k2]; exact D.inL, by rw [k2]; exact D.nd, by rw [k1]; exact D.keys, ?_, fun y hy => ?_⟩
  · rw [upd_ne (fun z => hel z.symm), D.top, List.map_map]
    congr 2
    refine List.map_congr_left fun x _ => ?_
    show _ = ((.inl (if x.1 = e.1 then (x.1, x.2.1, x.2.2 ++ [d]) else x).1 : Key), V.ref (if x.1 = e.1 then (x.1, x.2.1, x.2.2 ++ [d]) else x).2.1)
    rw [m1, m2]
  · obtain ⟨x, hxm, rfl⟩ := List.mem_map.mp hy
    by_cases c : x.1 = e.1
    · have exe : x = e := nd_inj D.keys hxm he c
      subst exe
      rw [if_pos rfl]
      exact ⟨xs ++ [v], upd_same, (tx.app (.one t)).ext ex⟩
    · rw [if_neg c]
      obtain ⟨ys, h1, h2⟩ := D.row x hxm
      have : x.2.1 ≠ e.2.1 := fun z => c (by rw [nd_inj ne hxm he z])
      exact ⟨ys, by rw [upd_ne this]; exact h1, h2.ext ex⟩
end
def SWh (K : PySem.W.Frag) {γ : Type} (W : Wd γ) (i : Nat) (ts : TS) (ρ : Rho) (k : γ) (kvs : List (Int × List PyData)) (P : Rho → γ → List (Int × List PyData) → Prop) : Prop :=
  ∀ (L0 : List Addr) (H0 : Hp) (L : List Addr) (H : Hp) (σ : L2.St) (D : Ends), Stt K W L0 H0 L H σ ρ k → NoOwn ρ → (∃ l es, DLs K (L ++ W.M) L H σ[i]? l es ∧ kvs = kvOf es) →
    (∀ L' H' σ' ρ' k' kvs', Stt K W L0 H0 L' H' σ' ρ' k' → NoOwn ρ' → (∃ l es, DLs K (L' ++ W.M) L' H' σ'[i]? l es ∧ kvs' = kvOf es) → P ρ' k' kvs' → D.nx σ' H') → ts D σ H
section
variable {K : PySem.W.Frag} {γ : Type} {W : Wd γ} {i : Nat} {ρ : Rho} {k : γ} {kvs : List (Int × List PyData)} {P : Rho → γ → List (Int × List PyData) → Prop} {a b rest : TS} {te tv : TE} {tt : TT} {g : TG} {wi : TI}
theorem swh_seq (h : SWh K W i a ρ k kvs fun ρ1 k1 kvs1 => SWh K W i b ρ1 k1 kvs1 P) : SWh K W i (tSeq a b) ρ k kvs P := fun L0 H0 L H σ D S no dl nx =>
  h L0 H0 L H σ { D with nx := b D } S no dl fun L' H' σ' ρ' k' kvs' S' no' dl' q => (q : SWh K W i b ρ' k' kvs' P) L0 H0 L' H' σ' D S' no' dl' nx
theorem swh_nx (h : P ρ k kvs) : SWh K W i tNext ρ k kvs P := fun L0 H0 L H σ D S no dl nx => nx L H σ ρ k kvs S no dl h
theorem swh_if (h : EvT K W tt ρ k fun b' k1 => if b' = true then SWh K W i a ρ k1 kvs P else SWh K W i b ρ k1 kvs P) : SWh K W i (tIfS tt a b) ρ k kvs P := fun L0 H0 L H σ D S no dl nx =>
  h L0 H0 L H σ S _ fun b' k1 H2 S2 e q => by
    obtain ⟨l, es, d, e1⟩ := dl
    have dl2 : ∃ l es, DLs K (L ++ W.M) L H2 σ[i]? l es ∧ kvs = kvOf es := ⟨l, es, d.ext S e, e1⟩
    cases b' with
    | true => exact (q : SWh K W i a ρ k1 kvs P) L0 H0 L H2 σ D S2 no dl2 nx
    | false => exact (q : SWh K W i b ρ k1 kvs P) L0 H0 L H2 σ D S2 no dl2 nx
theorem NoOwn.set {j : Nat} {d : PyData} (h : NoOwn ρ) : NoOwn (ρ.set j (.dat d)) := fun i s hs => by
  by_cases e : j = i
  · subst e
    rw [List.getElem?_set_self'] at hs
    cases q : ρ[j]? with
    | none => rw [q] at hs; cases hs
    | some u =>
      rw [q] at hs
      have hs : Slot.dat d = s := by simpa using hs
      rw [← hs]
      rfl
  · rw [List.getElem?_set_ne e] at hs
    exact h i s hs
theorem swh_set {j : Nat} (hj : j ≠ i) (h : EvW K W te ρ k fun d k1 => P (ρ.set j (.dat d)) k1 kvs) : SWh K W i (tAsg te (gName j)) ρ k kvs P := fun L0 H0 L H σ D S no dl nx =>
  h L0 H0 L H σ S _ fun v d k1 H2 S2 e t q => by
    obtain ⟨l, es, dd, e1⟩ := dl
    refine nx L H2 (σ.set j (some v)) _ k1 kvs (S2.set j t) no.set ⟨l, es, ?_, e1⟩ q
    rw [List.getElem?_set_ne hj]
    exact dd.ext S e
theorem swh_for (h : EvI K W wi ρ k fun n f k1 => ∃ J : Nat → Rho → γ → List (Int × List PyData) → Prop, (∃ ρ0, Le ρ0 ρ ∧ J 0 ρ0 k1 kvs) ∧
      (∀ c ρ1 k2 kvs1, c < n → J c ρ1 k2 kvs1 → NoOwn ρ1 → TgW K W g (fun j => j ≠ i) (f c) ρ1 fun ρ2 => NoOwn ρ2 ∧ SWh K W i b ρ2 k2 kvs1 fun ρ' k' kvs' => ∃ ρ0, Le ρ0 ρ' ∧ J (c + 1) ρ0 k' kvs') ∧ ∀ ρ1 k2 kvs1, J n ρ1 k2 kvs1 → P ρ1 k2 kvs1) :
    SWh K W i (tFor wi g b) ρ k kvs P := fun L0 H0 L H σ D S no dl nx =>
  h L0 H0 L H σ S _ fun J n f k1 H1 S1 e wd q => by
    obtain ⟨Jv, ⟨ρ0, le0, j0⟩, turn, done⟩ := q
    obtain ⟨l0, es0, d0, e0⟩ := dl
    refine ⟨fun c m σ' H' => m = n - c ∧ c ≤ n ∧ ∃ L' ρ' k' kvs', Stt K W L H1 L' H' σ' ρ' k' ∧ NoOwn ρ' ∧ (∃ l es, DLs K (L' ++ W.M) L' H' σ'[i]? l es ∧ kvs' = kvOf es) ∧ Jv c ρ' k' kvs', ⟨n, rfl, Nat.zero_le _, L, ρ0, k1, kvs, S1.rebase.le le0, no.le le0, ⟨l0, es0, d0.ext S e, e0⟩, j0⟩, ?_⟩
    rintro c m σ2 H2 ⟨rfl, hc, L2, ρ2, k2, kvs2, S2, no2, dl2, j2⟩
    have l2 := S2.later
    by_cases hlt : c < n
    · refine .inr ⟨wd.goes c L2 H2 hlt l2, fun σ' H' => ∃ L' ρ' k' kvs', Stt K W L H1 L' H' σ' ρ' k' ∧ NoOwn ρ' ∧ (∃ l es, DLs K (L' ++ W.M) L' H' σ'[i]? l es ∧ kvs' = kvOf es) ∧ Jv (c + 1) ρ' k' kvs',
        fun σ' H' ⟨L', ρ', k', kvs', S', n', d', j'⟩ => ⟨n - (c + 1), by omega, rfl, hlt, L', ρ', k', kvs', S', n', d', j'⟩, fun x H' y => ?_⟩
      obtain ⟨sm, tx⟩ := wd.yields c L2 H2 x H' hlt l2 y
      obtain ⟨l3, es3, d3, e3⟩ := dl2
      refine turn c ρ2 k2 kvs2 hlt j2 no2 L H1 L2 H' σ2 k2 x (S2.same sm) tx _ fun σ3 ρ3 S3 _ keep body => ?_
      refine (body.2 : SWh K W i b ρ3 k2 kvs2 _) L H1 L2 H' σ3 _ S3 body.1 ⟨l3, es3, ?_, e3⟩ fun L' H' σ' ρ' k' kvs' S' n' d' ⟨ρ0, le, j'⟩ => ⟨L', ρ0, k', kvs', S'.le le, n'.le le, d', j'⟩
      rw [keep i fun z => z rfl]
      exact d3.ext S2 (Ext.same sm)
    · have ei : c = n := by omega
      subst ei
      exact .inl ⟨wd.stops L2 H2 l2, nx _ _ _ _ _ _ (S1.back S2) no2 dl2 (done ρ2 k2 kvs2 j2)⟩
/-- d.setdefault(key, []).append(e) -/
theorem swh_sd (hlen : kvs.length ≤ 10000) (hrow : ∀ kv ∈ kvs, kv.2.length ≤ 10000) (h : EvW K W te ρ k fun x k1 => ∃ key : Int, x = .int key ∧ EvW K W tv ρ k1 fun d k2 => P ρ k2 (addDL kvs key d)) :
    SWh K W i (tDrop (tBM K "list" rAppend (tDSetd (tVar i) te (tLst tNil)) (tCons tv tNil))) ρ k kvs P := fun L0 H0 L H σ D S no dl nx => by
  obtain ⟨l, es, dl, rfl⟩ := dl
  refine ⟨.ref l, dl.at_, l, rfl, .inl ⟨_, .inl dl.top⟩, h L0 H0 L H σ S _ fun v x k1 H1 S1 e1 t1 g => ?_⟩
  obtain ⟨key, rfl, g⟩ := g
  cases t1
  have d1 := dl.ext S e1
  have elen : es.length ≤ 10000 := by simpa [kvOf] using hlen
  refine ⟨Nat.zero_le _, fun p hp => ?_⟩
  have np := S1.nin hp
  have pl : l ≠ p := by rintro rfl; rw [d1.top] at hp; cases hp
  have pes : ∀ e ∈ es, e.2.1 ≠ p := fun e he z => by
    obtain ⟨xs, h1, _⟩ := d1.row e he
    rw [z, hp] at h1
    cases h1
  have any_ : (kvOf es).any (fun kv => decide (kv.1 = key)) = (es.find? fun e => decide (e.1 = key)).isSome := by
    unfold kvOf
    rw [List.any_map, Bool.eq_iff_iff, List.any_eq_true, List.find?_isSome]
    rfl
  refine ⟨_, .inl key, (upd_ne pl).trans d1.top, rfl, Nat.lt_of_le_of_lt (show (es.map _).length ≤ 10000 by rw [List.length_map]; exact elen) (by decide), fun v hv => ?_, fun hn => ?_⟩
  · -- there
    rw [DLs.look] at hv
    cases hf : es.find? (fun e => decide (e.1 = key)) with
    | none => rw [hf] at hv; cases hv
    | some e =>
      rw [hf] at hv
      have hv : V.ref e.2.1 = v := by simpa using hv
      subst hv
      have he := List.mem_of_find?_eq_some hf
      have hk : e.1 = key := by simpa using List.find?_some hf
      have S2 := S1.new (o := .lst []) hp
      have d2 : DLs K (L ++ W.M) L (upd H1 p (.lst [])) σ[i]? l es := d1.ext S1 (Ext.new hp)
      obtain ⟨xs2, h2, _⟩ := d2.row e he
      refine ⟨tyList h2, g L0 H0 L _ σ S2 _ fun v d k2 H3 S3 e3 t3 q => ?_⟩
      have d3 := d2.ext S2 e3
      obtain ⟨xs, hx, tx⟩ := d3.row e he
      have hin := d3.inL _ (List.mem_cons_of_mem _ (List.mem_map_of_mem (f := fun e : DE => e.2.1) he))
      refine ⟨e.2.1, xs, v, rfl, rfl, hx, Nat.lt_of_le_of_lt (show xs.length ≤ 10000 by rw [tx.len]; exact hrow _ (List.mem_map.mpr ⟨e, he, rfl⟩)) (by decide), ?_⟩
      refine nx L _ σ ρ k2 _ (S3.putAt no hin) no ⟨l, _, d3.grow he hx tx t3 fun b hb => List.mem_append_left _ hb, ?_⟩ q
      unfold addDL
      rw [any_, hf, if_pos (show (some e).isSome = true from rfl)]
      unfold kvOf
      rw [List.map_map, List.map_map]
      refine List.map_congr_left fun x _ => ?_
      show (if x.1 = key then (x.1, x.2.2 ++ [d]) else (x.1, x.2.2)) = ((if x.1 = e.1 then (x.1, x.2.1, x.2.2 ++ [d]) else x).1, (if x.1 = e.1 then (x.1, x.2.1, x.2.2 ++ [d]) else x).2.2)
      rw [hk]
      split <;> rfl
  · -- new
    rw [DLs.look] at hn
    have hf : es.find? (fun e => decide (e.1 = key)) = none := by
      cases q : es.find? (fun e => decide (e.1 = key)) with
      | none => rfl
      | some e => rw [q] at hn; cases hn
    have nk : ∀ e ∈ es, e.1 ≠ key := fun e he z => by
      have := List.find?_eq_none.mp hf e he
      simp [z] at this
    have hput : putK (es.map fun e : DE => ((.inl e.1 : Key), V.ref e.2.1)) (.inl key) (.ref p) = (es ++ [((key, p, []) : DE)]).map fun e : DE => ((.inl e.1 : Key), V.ref e.2.1) := by
      rw [putK_new _ (by rw [DLs.look, hf]; rfl), List.map_append]
      rfl
    rw [hput]
    obtain ⟨S2, _⟩ := S1.hide (o := .lst []) hp
    have lin : l ∈ p :: L := List.mem_cons_of_mem _ (d1.inL l (by simp))
    have S3 := S2.putAt (o := .dK ((es ++ [((key, p, []) : DE)]).map fun e : DE => ((.inl e.1 : Key), V.ref e.2.1))) no lin
    have d3 : DLs K (p :: L ++ W.M) (p :: L) (upd (upd H1 p (.lst [])) l (.dK ((es ++ [((key, p, []) : DE)]).map fun e : DE => ((.inl e.1 : Key), V.ref e.2.1)))) σ[i]? l (es ++ [(key, p, [])]) := by
      obtain ⟨nl, ne⟩ := List.nodup_cons.mp d1.nd
      refine ⟨d1.at_, fun b hb => ?_, ?_, ?_, upd_same, fun e he => ?_⟩
      · rw [List.map_append] at hb
        rcases List.mem_cons.mp hb with rfl | hb
        · exact lin
        · rcases List.mem_append.mp hb with hb | hb
          · exact List.mem_cons_of_mem _ (d1.inL b (List.mem_cons_of_mem _ hb))
          · have : b = p := by simpa using hb
            rw [this]; exact List.mem_cons_self
      · rw [List.map_append]
        refine List.nodup_cons.mpr ⟨fun z => ?_, List.nodup_append.mpr ⟨ne, by simp, fun a ha b hb => ?_⟩⟩
        · rcases List.mem_append.mp z with z | z
          · exact nl z
          · exact pl (by simpa using z)
        · obtain ⟨e, he, rfl⟩ := List.mem_map.mp ha
          have : b = p := by simpa using hb
          rw [this]; exact pes e he
      · rw [List.map_append]
        refine List.nodup_append.mpr ⟨d1.keys, by simp, fun a ha b hb => ?_⟩
        obtain ⟨e, he, rfl⟩ := List.mem_map.mp ha
        have : b = key := by simpa using hb
        rw [this]; exact nk e he
      · rcases List.mem_append.mp he with he | he
        · obtain ⟨xs, h1, h2⟩ := d1.row e he
          have nel : e.2.1 ≠ l := fun z => nl (List.mem_map.mpr ⟨e, he, z⟩)
          refine ⟨xs, by rw [upd_ne nel, upd_ne (pes e he)]; exact h1, ((TA.plus hp h2).ext (Ext.put (by simp))).ext (Ext.put ?_)⟩
          exact List.mem_append_left _ lin
        · have : e = (key, p, []) := by simpa using he
          subst this
          exact ⟨[], by rw [upd_ne (fun z => pl z.symm), upd_same], .nil⟩
    have hpl : (upd (upd H1 p (.lst [])) l (.dK ((es ++ [((key, p, []) : DE)]).map fun e : DE => ((.inl e.1 : Key), V.ref e.2.1)))) p = some (.lst []) := by rw [upd_ne (fun z => pl z.symm), upd_same]
    refine ⟨tyList hpl, g L0 H0 (p :: L) _ σ S3 _ fun v d k2 H4 S4 e4 t4 q => ?_⟩
    have d4 := d3.ext S3 e4
    have hm : ((key, p, []) : DE) ∈ es ++ [(key, p, [])] := List.mem_append_right _ (List.mem_singleton_self _)
    obtain ⟨xs, hx, tx⟩ := d4.row _ hm
    cases tx
    refine ⟨p, [], v, rfl, rfl, hx, (by decide), ?_⟩
    refine nx (p :: L) _ σ ρ k2 _ (S4.putAt no List.mem_cons_self) no ⟨l, _, d4.grow hm hx .nil t4 fun b hb => List.mem_append_left _ hb, ?_⟩ q
    unfold addDL
    rw [any_, hf, if_neg (by simp)]
    unfold kvOf
    rw [List.map_append, List.map_append]
    congr 1
    · rw [List.map_map]
      refine List.map_congr_left fun x hxm => ?_
      show _ = ((if x.1 = key then (x.1, x.2.1, x.2.2 ++ [d]) else x).1, (if x.1 = key then (x.1, x.2.1, x.2.2 ++ [d]) else x).2.2)
      rw [if_neg (nk x hxm)]
    · simp
/-- x = {}; ..; rest -/
theorem sw_dl {Q : Ps γ} (hi : i < ρ.length) (no : NoOwn ρ) (h : SWh K W i a (ρ.set i .no) k [] fun ρ' k' kvs' => ρ'[i]? = some .no ∧ SW K W rest (ρ'.set i (.ownD (kvs'.map fun kv => ((.inl kv.1 : Key), PyData.list kv.2)))) k' Q) :
    SW K W (tSeq (tAsg tDNewK (gName i)) (tSeq a rest)) ρ k Q := fun L0 H0 L H σ D S nx rt bk ct => by
  intro p hp
  have S1 := S.setOwn i (s0 := .ownD []) rfl hp ⟨p, [], rfl, by simp, upd_same, .nil⟩
  have S2 : Stt K W L0 H0 (p :: L) (upd H p (.dK [])) (σ.set i (some (.ref p))) (ρ.set i .no) k := S1.weaken (by simp) fun j s hs => by
    by_cases e : i = j
    · subst e
      rw [List.getElem?_set_self (by simpa using hi)] at hs
      exact .inl (Option.some.inj hs).symm
    · rw [List.getElem?_set_ne e] at hs ⊢
      exact .inr hs
  have no2 : NoOwn (ρ.set i .no) := fun j s hs => by
    by_cases e : i = j
    · subst e
      rw [List.getElem?_set_self (by simpa using hi)] at hs
      rw [← Option.some.inj hs]
      rfl
    · rw [List.getElem?_set_ne e] at hs
      exact no j s hs
  have his : i < σ.length := by rw [← S.len]; exact hi
  refine h L0 H0 (p :: L) _ _ { D with nx := rest D } S2 no2 ⟨p, [], ⟨by simp [his], fun b hb => ?_, by simp, by simp, upd_same, fun e he => nomatch he⟩, rfl⟩ fun L' H' σ' ρ' k' kvs' S' no' dl q => ?_
  · have : b = p := by simpa using hb
    rw [this]; exact List.mem_cons_self
  · obtain ⟨l, es, d, rfl⟩ := dl
    obtain ⟨q0, q⟩ := q
    obtain ⟨nl, ne⟩ := List.nodup_cons.mp d.nd
    have lin := d.inL l (by simp)
    have S3 := S'.places (L' := l :: L'.filter fun b => decide (b ∉ l :: es.map (·.2.1))) no' fun b hb => (List.mem_cons.mp hb).elim (fun z => z ▸ lin) fun z => (List.mem_filter.mp z).1
    have off : ∀ b ∈ (l :: L'.filter fun b => decide (b ∉ l :: es.map (·.2.1))) ++ W.M, b ∈ L' ++ W.M := fun b hb => by
      rcases List.mem_append.mp hb with hb | hb
      · refine List.mem_append_left _ ?_
        rcases List.mem_cons.mp hb with rfl | hb
        · exact lin
        · exact (List.mem_filter.mp hb).1
      · exact List.mem_append_right _ hb
    have kd : ∀ xs : List DE, (∀ e ∈ xs, e ∈ es) → KD K ((l :: L'.filter fun b => decide (b ∉ l :: es.map (·.2.1))) ++ W.M) H' (xs.map fun e : DE => ((.inl e.1 : Key), V.ref e.2.1)) (xs.map fun e : DE => ((.inl e.1 : Key), PyData.list e.2.2)) := fun xs => by
      induction xs with
      | nil => exact fun _ => .nil
      | cons e xs ih =>
        intro hx
        have he := hx e (.head _)
        obtain ⟨ys, h1, h2⟩ := d.row e he
        have hem : e.2.1 ∈ es.map (·.2.1) := List.mem_map.mpr ⟨e, he, rfl⟩
        refine .cons (.lst (fun z => ?_) h1 (h2.off off)) (ih fun y hy => hx y (.tail _ hy))
        rcases List.mem_append.mp z with z | z
        · rcases List.mem_cons.mp z with z | z
          · exact nl (z ▸ hem)
          · have := (List.mem_filter.mp z).2
            simp only [decide_eq_true_eq] at this
            exact this (List.mem_cons_of_mem _ hem)
        · exact S'.offM _ (d.inL _ (List.mem_cons_of_mem _ hem)) z
    have S4 := S3.takeHid (no'.nat l) i (s0 := .ownD ((kvOf es).map fun kv => ((.inl kv.1 : Key), PyData.list kv.2))) ⟨l, _, rfl, by simp, d.top, by
      have := kd es fun e he => he
      unfold kvOf
      rw [List.map_map]
      exact this⟩
    have es_ : σ'.set i (some (V.ref l)) = σ' := by
      apply List.ext_getElem?
      intro m
      by_cases e : i = m
      · subst e
        rw [List.getElem?_set_self', d.at_]
        rfl
      · rw [List.getElem?_set_ne e]
    rw [es_] at S4
    exact (q : SW K W rest _ k' Q) L0 H0 _ H' σ' D S4 nx rt bk ct
end
end U

set_option Elab.async false
set_option linter.all false
set_option maxRecDepth 100000
set_option maxHeartbeats 2000000
namespace U
open PySem PySem.Spec PyProof.Rows L2
/-! ### sorted of (text, int, int), any number of them -/
abbrev K3 := Str × Int × Int
def lt3 (p q : K3) : Bool := if p.1 = q.1 then SrtO.lexB p.2 q.2 else decide (p.1.cps.toList < q.1.cps.toList)
theorem str_ext {a b : Str} (h : a.cps.toList = b.cps.toList) : a = b := by
  obtain ⟨x⟩ := a
  obtain ⟨y⟩ := b
  congr 1
  exact Array.toList_inj.mp h
theorem lt3_iff {p q : K3} : lt3 p q = true ↔ p.1.cps.toList < q.1.cps.toList ∨ (p.1 = q.1 ∧ (p.2.1 < q.2.1 ∨ (p.2.1 = q.2.1 ∧ p.2.2 < q.2.2))) := by
  unfold lt3
  by_cases e : p.1 = q.1
  · rw [if_pos e, SrtO.lexB_iff]
    constructor
    · exact fun h => .inr ⟨e, h⟩
    · rintro (h | h)
      · rw [e] at h
        exact absurd h (List.lt_irrefl _)
      · exact h.2
  · rw [if_neg e, decide_eq_true_eq]
    constructor
    · exact .inl
    · rintro (h | h)
      · exact h
      · exact absurd h.1 e
theorem lt3_no {p q : K3} : lt3 p q = false ↔ ¬ (p.1.cps.toList < q.1.cps.toList ∨ (p.1 = q.1 ∧ (p.2.1 < q.2.1 ∨ (p.2.1 = q.2.1 ∧ p.2.2 < q.2.2)))) := by
  rw [← lt3_iff]
  cases lt3 p q <;> simp
theorem swo3 {α : Type} (k : α → K3) : SrtO.Swo fun v u => lt3 (k v) (k u) := by
  refine ⟨fun x y h => ?_, fun x y z h1 h2 => ?_⟩
  · have a := lt3_iff.mp h
    refine lt3_no.mpr fun b => ?_
    rcases a with a | ⟨a1, a2⟩
    · rcases b with b | ⟨b1, b2⟩
      · exact List.lt_irrefl _ (List.lt_trans a b)
      · rw [b1] at a
        exact List.lt_irrefl _ a
    · rcases b with b | ⟨b1, b2⟩
      · rw [a1] at b
        exact List.lt_irrefl _ b
      · omega
  · have a := lt3_no.mp h1
    have b := lt3_no.mp h2
    refine lt3_no.mpr fun c => ?_
    have a1 : ¬ (k y).1.cps.toList < (k x).1.cps.toList := fun z => a (.inl z)
    have b1 : ¬ (k z).1.cps.toList < (k y).1.cps.toList := fun z => b (.inl z)
    rcases c with c | ⟨c1, c2⟩
    · exact List.not_lt.mpr (List.le_trans (List.not_lt.mp a1) (List.not_lt.mp b1)) c
    · have e1 : (k x).1.cps.toList = (k y).1.cps.toList := List.le_antisymm (List.not_lt.mp a1) (by rw [← c1]; exact List.not_lt.mp b1)
      have e2 := str_ext e1
      have a2 : ¬ ((k y).2.1 < (k x).2.1 ∨ ((k y).2.1 = (k x).2.1 ∧ (k y).2.2 < (k x).2.2)) := fun z => a (.inr ⟨e2.symm, z⟩)
      have b2 : ¬ ((k z).2.1 < (k y).2.1 ∨ ((k z).2.1 = (k y).2.1 ∧ (k z).2.2 < (k y).2.2)) := fun q => b (.inr ⟨by rw [c1, e2], q⟩)
      omega
def IsTrip (h : Heap) (v : Value) (p : K3) : Prop := ∃ a o tz t u n, v = .ref a ∧ h.get? a = some o ∧ o.cls = .type "tuple" ∧ o.data = .seq #[.str p.1 tz, .int p.2.1 t, .int p.2.2 u] n
theorem IsTrip.keeps {h h' : Heap} {v : Value} {p : K3} (x : IsTrip h v p) (k : ∀ b o, h.get? b = some o → o.cls = .type "tuple" → h'.get? b = some o) : IsTrip h' v p := by
  obtain ⟨a, o, tz, t, u, n, e, ho, hc, hd⟩ := x
  exact ⟨a, o, tz, t, u, n, e, k _ _ ho hc, hc, hd⟩
section
variable {prog : Program} {w : World} {A : Around} {E : Value → Shared → Prop} {s : Shared}
theorem trip_cmp {vs : List Value} {k : Value → K3} (hp : ∀ v ∈ vs, IsTrip s.heap v (k v)) : SrtO.Cmp prog w A s (tuples' true) (fun p => p.1 ∈ vs) (SrtO.lt2 fun v u => lt3 (k v) (k u)) := by
  intro p q hm hm'
  have h1 := hp _ hm
  have h2 := hp _ hm'
  show wpAny (model prog w) A (keyLt' (tuples' true) p.1 q.1) (fun r s' => s' = s ∧ r = lt3 (k p.1) (k q.1)) (fun _ _ => False) s
  generalize k p.1 = x at h1 ⊢
  generalize k q.1 = y at h2 ⊢
  obtain ⟨a, o, tz, t, u, n, e, ho, hc, hd⟩ := h1
  obtain ⟨a', o', tz', t', u', n', e', ho', hc', hd'⟩ := h2
  rw [e, e']
  obtain ⟨z, i, j⟩ := x
  obtain ⟨z', i', j'⟩ := y
  refine PySem.W.kat_lt ho hd ho' hd' ?_
  show PySem.W.KatLex prog w A true (decide (3 < 3)) _ [(.str z tz, .str z' tz'), (.int i t, .int i' t'), (.int j u, .int j' u')] 0 s
  have fin : ∀ b : Bool, (lt3 (z, i, j) (z', i', j') = b) → s = s ∧ b = lt3 (z, i, j) (z', i', j') := fun b h => ⟨rfl, h.symm⟩
  refine PySem.W.kat_cons (SeqAt.EqAt.str_str z tz z' tz' prog w _ _ ?_)
  refine PySem.W.kat_go (fun e1 => ?_) (fun e1 => ?_)
  · have ez : z = z' := by simpa using e1
    subst ez
    have el : lt3 (z, i, j) (z, i', j') = SrtO.lexB (i, j) (i', j') := if_pos rfl
    refine PySem.W.kat_yes (PySem.W.kat_cons (SeqAt.EqAt.int_int i t i' t' prog w _ _ ?_))
    refine PySem.W.kat_go (fun e2 => ?_) (fun e2 => ?_)
    · have ei : i = i' := by simpa using e2
      subst ei
      refine PySem.W.kat_yes (PySem.W.kat_cons (SeqAt.EqAt.int_int j u j' u' prog w _ _ ?_))
      refine PySem.W.kat_go (fun e3 => ?_) (fun e3 => ?_)
      · have ej : j = j' := by simpa using e3
        subst ej
        refine PySem.W.kat_yes (PySem.W.kat_nil (fin false ?_))
        rw [el, SrtO.lexB_no]
        omega
      · refine PySem.W.kat_no (PySem.W.kat_one _ _ (PyProof.Rows.lt_int ?_))
        refine fin _ ?_
        rw [el]
        exact if_pos rfl
    · have ei : ¬ i = i' := by simpa using e2
      refine PySem.W.kat_no (PySem.W.kat_one _ _ (PyProof.Rows.lt_int ?_))
      refine fin _ ?_
      rw [el]
      exact if_neg ei
  · have ez : ¬ z = z' := by simpa using e1
    exact PySem.W.kat_no (oneLt_str (fin _ (if_neg ez)))
theorem trip_firsts {h : Heap} : ∀ {vs : List Value}, (∀ v ∈ vs, ∃ p, IsTrip h v p) → ∃ fs : List Value, PySem.W.KatTups h vs fs ∧ fs.length = vs.length ∧ ∀ f ∈ fs, ∃ x t, f = Value.str x t
  | [], _ => ⟨[], PySem.W.KatTups.nil, rfl, fun _ hm => nomatch hm⟩
  | v :: vs, hp => by
    obtain ⟨fs, h1, h2, h3⟩ := trip_firsts (vs := vs) fun v' hm => hp v' (List.mem_cons_of_mem _ hm)
    obtain ⟨p, a, o, tz, t, u, n, e, ho, hc, hd⟩ := hp v (List.mem_cons_self ..)
    subst e
    refine ⟨.str p.1 tz :: fs, PySem.W.KatTups.cons ho hc hd rfl h1, by rw [List.length_cons, List.length_cons, h2], fun f hm => ?_⟩
    rcases List.mem_cons.mp hm with rfl | hm
    · exact ⟨_, tz, rfl⟩
    · exact h3 f hm
theorem trips_sortable {a : Addr} {vs : List Value} {k : Value → K3} (h0 : 0 < vs.length) (hp : ∀ v ∈ vs, IsTrip s.heap v (k v)) (ha : ∀ o, s.heap.get? a = some o → o.cls ≠ .type "tuple") : SrtO.SortableO prog w A s a vs fun v u => lt3 (k v) (k u) := by
  intro h' keep
  have kept : ∀ v ∈ vs, IsTrip h' v (k v) := fun v hm => (hp v hm).keeps fun b o e c => keep b o (fun z => ha o (z ▸ e) c) e
  obtain ⟨fs, h1, h2, h3⟩ := trip_firsts fun v hm => ⟨_, kept v hm⟩
  refine ⟨tuples' true, fun Q E hq => ?_, trip_cmp kept⟩
  refine PySem.W.kat_kind (T := .type "str") h1 (by omega) (fun f hm => ?_) (by rfl) ?_
  · obtain ⟨x, t, rfl⟩ := h3 f hm
    exact PySem.W.Looks.now
  · rw [show (Value.type "str" != Value.type "tuple") = true by first | decide +kernel | rfl | decide]
    exact hq
theorem sorted_trips {l : Addr} {vs : List Value} {k : Value → K3} {Q : Value → Shared → Prop} (hl : s.heap.IsList l vs.toArray) (hz : vs.length ≤ sizeLine) (hp : ∀ v ∈ vs, IsTrip s.heap v (k v))
    (fin : ∀ (h' : Heap) (d : Addr) (out : List Value), SrtO.Srtd (fun v u => lt3 (k v) (k u)) out → SrtO.Stb (fun v u => lt3 (k v) (k u)) out vs → (∀ b o, s.heap.get? b = some o → h'.get? b = some o) → s.heap.objs.size ≤ d → (∃ n, h'.get? d = some (seqObj "list" out.toArray n)) → Q (.ref d) { s with heap := h' }) :
    wpAny (model prog w) A (call (.builtin "sorted") [.ref l]) Q E s := by
  refine SrtO.sorted_ord (swo3 k) hl hz (fun h2 h₁ a ha kk => ?_) fun out hs hb => fin _ _ out hs hb (fun b o e => sortedAll_old e) (Nat.le_succ _) (sortedAll_at s.heap vs out.toArray)
  refine trips_sortable (s := { s with heap := h₁ }) (by omega) (fun v hm => (hp v hm).keeps fun b o e _ => (kk b o e).2) fun o e c => ?_
  cases (e.symm.trans ha : some o = some (seqObj "list" vs.toArray 0))
  exact absurd (Value.type.inj c) (by decide)
end
/-- the same of what is tracked -/
def rSort3 (K : PySem.W.Frag) : List V → Hp → VK → Prop := fun vs H Q => ∃ (a : Addr) (xs : List V) (k : V → K3), vs = [V.ref a] ∧ SqL K H a xs ∧ (∀ x ∈ xs, ∃ t, x = V.ref t ∧ H t = some (.tup [.str (k x).1, .int (k x).2.1, .int (k x).2.2])) ∧
  ∀ ys p, SrtO.Srtd (fun v u => lt3 (k v) (k u)) ys → ys.Perm xs → H p = none → Q (.ref p) (upd H p (.lst ys))
theorem vals3 {a b c : V} {vs : List Value} (r : Vals [a, b, c] vs) : ∃ x y z, vs = [x, y, z] ∧ RelV a x ∧ RelV b y ∧ RelV c z := by
  cases r with
  | cons r1 r =>
    cases r with
    | cons r2 r =>
      cases r with
      | cons r3 r =>
        cases r
        exact ⟨_, _, _, rfl, r1, r2, r3⟩
theorem call_sort3 {X : Cx} : CallR X (.builtin "sorted") (rSort3 X.K) := by
  intro pins s σ H vs us Q I r h
  obtain ⟨a, xs, k, rfl, hs, hx, q⟩ := h
  obtain ⟨its, rv, hl, hz⟩ := I.list hs
  obtain ⟨u, rfl, ru⟩ := vals1 r
  cases (show u = Value.ref a from ru)
  obtain ⟨e1, e2⟩ := refs_back rv fun x m => by
    obtain ⟨t, e, _⟩ := hx x m
    exact ⟨t, e⟩
  refine sorted_trips (k := fun u => k (backV u)) hl.isList (by rw [← rv.length]; exact hz) (fun v hv => ?_) fun h' d out h1 h2 kp hd hn => ?_
  · obtain ⟨t, rfl⟩ := e2 v hv
    have hm : V.ref t ∈ xs := by rw [e1]; exact List.mem_map.mpr ⟨_, hv, rfl⟩
    obtain ⟨t', e, ht⟩ := hx _ hm
    cases e
    obtain ⟨_, its2, r2, o, ho, hc, n, hd⟩ := I.hok _ _ ht
    obtain ⟨u1, u2, u3, rfl, r1, r3, r4⟩ := vals3 r2
    obtain ⟨tz, rfl⟩ := r1
    obtain ⟨t1, rfl⟩ := r3
    obtain ⟨t2, rfl⟩ := r4
    exact ⟨t, o, tz, t1, t2, n, rfl, ho, hc, hd⟩
  · have h3 : ∀ u ∈ out, ∃ a, u = Value.ref a := fun u hu => e2 u (h2.perm.mem_iff.mp hu)
    obtain ⟨n, hn⟩ := hn
    have hb : (out.map backV).Perm xs := by
      rw [e1]
      exact h2.perm.map backV
    refine ⟨.ref d, upd H d (.lst (out.map backV)), I.laid (t' := s.toks) kp hd ⟨?_, out, n, vals_back h3, hn⟩, rfl, q _ d (SrtO.srtd_map h1) hb (I.hok.fresh hd)⟩
    rw [hb.length_eq]
    exact hz
theorem kSort3 (K : PySem.W.Frag) {X : Cx} (h : X.K = K := by rfl) : CallR X (.builtin "sorted") (rSort3 K) := by subst h; exact call_sort3
theorem kSortI (K : PySem.W.Frag) {X : Cx} (h : X.K = K := by rfl) : CallR X (.builtin "sorted") (rSorted K) := by subst h; exact cr_sorted
/-! ### over data -/
def enc3 (p : K3) : PyData := .tuple [.str p.1, .int p.2.1, .int p.2.2]
/-- what stands at a value -/
def k3At (H : Hp) : V → K3
  | .ref t => match H t with | some (.tup [.str z, .int i, .int j]) => (z, i, j) | _ => (⟨#[]⟩, 0, 0)
  | _ => (⟨#[]⟩, 0, 0)
section
variable {K : PySem.W.Frag} {γ : Type} {W : Wd γ} {ρ : Rho} {k : γ} {Φ : PyData → γ → Prop} {N : List Addr} {H : Hp}
theorem T.k3 {x : V} {p : K3} (t : T K N H x (enc3 p)) : (∃ a, x = .ref a ∧ H a = some (.tup [.str p.1, .int p.2.1, .int p.2.2])) ∧ k3At H x = p := by
  unfold enc3 at t
  cases t with
  | @tup a xs _ n ha t =>
    cases t with
    | cons t1 t =>
      cases t with
      | cons t2 t =>
        cases t with
        | cons t3 t =>
          cases t
          cases t1
          cases t2
          cases t3
          exact ⟨⟨a, rfl, ha⟩, by unfold k3At; dsimp only; rw [ha]⟩
theorem TA.k3 : ∀ {xs : List V} {ts : List K3}, TA K N H xs (ts.map enc3) → xs.map (k3At H) = ts ∧ ∀ x ∈ xs, T K N H x (enc3 (k3At H x))
  | [], [], _ => ⟨rfl, fun _ h => nomatch h⟩
  | x :: xs, t :: ts, h => by
    cases h with
    | cons h1 h2 =>
      obtain ⟨_, e⟩ := h1.k3
      obtain ⟨a, b⟩ := TA.k3 h2
      refine ⟨by rw [List.map_cons, e, a], fun y hy => ?_⟩
      rcases List.mem_cons.mp hy with rfl | hy
      · rw [e]; exact h1
      · exact b y hy
theorem TA.of3 : ∀ {xs : List V}, (∀ x ∈ xs, T K N H x (enc3 (k3At H x))) → TA K N H xs ((xs.map (k3At H)).map enc3)
  | [], _ => .nil
  | x :: xs, h => .cons (h x (.head _)) (TA.of3 fun y hy => h y (.tail _ hy))
theorem rc_sort3 {ts : List K3} (q : ∀ ts' : List K3, ts'.Perm ts → ts'.Pairwise (fun p q => lt3 q p = false) → Φ (.list (ts'.map enc3)) k) : RCD K W (rSort3 K) [.list (ts.map enc3)] ρ k Φ := fun L0 H0 L H σ vs S t Q c => by
  obtain ⟨v, rfl, t1⟩ := t.one_
  cases t1 with
  | @lst a xs _ n ha t2 =>
    obtain ⟨e1, e2⟩ := t2.k3
    refine ⟨a, xs, k3At H, rfl, SqL.of ha, fun x hx => (e2 x hx).k3.1, fun ys p hs hp hn => ?_⟩
    have hy : ∀ y ∈ ys, T K (L ++ W.M) H y (enc3 (k3At H y)) := fun y hy => e2 y (hp.mem_iff.mp hy)
    refine c _ _ k _ (S.new hn) (Ext.new hn) (.lst (S.nin hn) upd_same ((TA.of3 hy).ext (Ext.new hn))) (q _ (by rw [← e1]; exact hp.map _) ?_)
    exact List.pairwise_map.mpr hs
theorem rc_sortI {ns : List Int} (hl : ns.length < 64) (q : ∀ ns' : List Int, ns'.Perm ns → ns'.Pairwise (· ≤ ·) → Φ (.list (ns'.map .int)) k) : RCD K W (rSorted K) [.list (ns.map .int)] ρ k Φ := fun L0 H0 L H σ vs S t Q c => by
  obtain ⟨v, rfl, t1⟩ := t.one_
  cases t1 with
  | @lst a xs _ n ha t2 =>
    have e := t2.ints_
    subst e
    exact ⟨a, ns, rfl, SqL.of ha, hl, fun ns' p hp hs hn => c _ _ k _ (S.new hn) (Ext.new hn) (.lst (S.nin hn) upd_same (TA.ints ns')) (q ns' hp hs)⟩
end
section
variable {K : PySem.W.Frag} {γ : Type} {W : Wd γ} {ρ : Rho} {k : γ} {Φ : PyData → γ → Prop}
theorem NoOwn.of (h : (ρ.all fun s => !s.isOwn) = true) : NoOwn ρ := fun j s hs => by
  have := List.all_eq_true.mp h s (List.mem_of_getElem? hs)
  simpa using this
theorem KD.keysT {N : List Addr} {H : Hp} : ∀ {vs : List (Key × V)} {kvs : List (Key × PyData)}, KD K N H vs kvs → TA K N H (vs.map fun kv => kV kv.1) (kvs.map fun kv => keyD kv.1)
  | _, _, .nil => .nil
  | _, _, @KD.cons _ _ _ key _ _ _ _ _ t => .cons (by cases key <;> constructor) (KD.keysT t)
/-- list(d) -/
theorem ev_listOwnD {i : Nat} {kvs : List (Key × PyData)} (h0 : ρ[i]? = some (.ownD kvs)) (q : Φ (.list (kvs.map fun kv => keyD kv.1)) k) : EvW K W (tCB rListD (tCons (tVar i) tNil)) ρ k Φ := fun L0 H0 L H σ S Q c => by
  obtain ⟨l, vs, e1, e2, e3, e4⟩ := S.slots i _ h0
  exact ⟨.ref l, e1, l, vs, rfl, e3, fun p hp => c _ _ k _ (S.new hp) (Ext.new hp) (.lst (S.nin hp) upd_same (e4.keysT.ext (Ext.new hp))) q⟩
end
end U

set_option Elab.async false
set_option linter.all false
set_option maxRecDepth 100000
set_option maxHeartbeats 2000000
/-! zip of a tuple and a text, of any lengths -/
namespace U
open PySem PySem.Spec PyProof.Rows L2
def ItZT (K : PySem.W.Frag) (a : Addr) (u : Str) : It :=
  ⟨fun i H => ∃ (xs : List V) (x : V) (c : Nat), SqT K H a xs ∧ xs[i]? = some x ∧ u.cps[i]? = some c,
    fun i H v H' => ∃ p x c, v = .ref p ∧ H p = none ∧ H' = upd H p (.tup [x, .str ⟨#[c]⟩]) ∧ (∀ xs, SqT K H a xs → xs[i]? = some x) ∧ u.cps[i]? = some c,
    fun i H => ∃ xs : List V, SqT K H a xs ∧ i ≤ xs.length ∧ i ≤ u.cps.size ∧ (i = xs.length ∨ i = u.cps.size)⟩
structure ZT (z TI TO i1 i2 a : Addr) : Prop where
  s : ZS z TI TO i1 i2
  az : a ≠ z
  aTO : a ≠ TO
  ai1 : a ≠ i1
  ai2 : a ≠ i2
def ZT.sep {z TI TO i1 i2 a : Addr} (D : ZT z TI TO i1 i2 a) : ZipSep2 z TI TO i1 i2 [i1, a] [i2] where
  TIz := D.s.a1
  TOz := D.s.a2
  TITO := D.s.a3
  TIi1 := D.s.a4
  mem1 := by simp
  zf1 := by simp [D.s.a6, D.az.symm]
  Tf1 := by simp [D.s.a8, D.aTO.symm]
  TIi2 := D.s.a5
  mem2 := by simp
  zf2 := by simp [D.s.a7]
  Tf2 := by simp [D.s.a9]
  sep1_2 := by simp [D.s.a10, D.ai2]
  sep2_1 := by simp [D.s.a10.symm, D.ai2.symm]
theorem turnZT {P : Program} {w : World} {K : PySem.W.Frag} {elts : List Expr} {kk : Nat} {tpos : Pos} {a : Addr} {y : Str} {t2 : Tok} {z TI TO i1 i2 : Addr} (D : ZT z TI TO i1 i2 a) :
    L2.Turn P w K (.Tuple elts kk tpos) (ItZT K a y) [z, TI, TO, i1, i2] z (fun i h => IsZip h z TI TO .none ∧ IsTupOf2 h TI (.ref i1) (.ref i2) ∧ (∃ x y, IsTupOf2 h TO x y) ∧ ItB true h i1 a i ∧ h.IsStrIter i2 (strIterType y) y t2 i) where
  mem := List.mem_cons_self
  obj := fun i h st c hc => by
    obtain ⟨hz, hTI, ⟨x, y, hTO⟩, h1, h2⟩ := st
    simp only [List.mem_cons, List.not_mem_nil, or_false] at hc
    rcases hc with rfl | rfl | rfl | rfl | rfl
    · exact ⟨_, hz, fun v q => nomatch q⟩
    · exact ⟨_, hTI, fun v q => nomatch q⟩
    · exact ⟨_, hTO, fun v q => nomatch q⟩
    · exact h1.obj
    · exact strIter_obj h2
  keep := fun i h h' st k => by
    obtain ⟨hz, hTI, ⟨x, y, hTO⟩, h1, h2⟩ := st
    exact ⟨k _ (by simp) _ hz, k _ (by simp) _ hTI, ⟨x, y, k _ (by simp) _ hTO⟩, h1.keep fun o q => k _ (by simp) o q, strIter_at h2 fun o q => k _ (by simp) o q⟩
  item := by
    rintro X rfl rfl rfl hc i pins s σ H E I hf ⟨hz, hTI, ⟨x0, y0, hTO⟩, h1, h2⟩ ⟨xs, x, c, qx, ex, ec⟩
    obtain ⟨its, rv, ox⟩ := seqB (t := true) I qx
    obtain ⟨u, hu, ru⟩ := rv.get ex
    have zl : z < s.heap.objs.size := Heap.lt_size hz
    have l1 : i < its.toArray.size := by simpa using (List.getElem?_eq_some_iff.mp hu).1
    have l2 : i < y.cps.size := (Array.getElem?_eq_some_iff.mp ec).1
    refine wpAny_pyNext_zipD2_item D.sep (drawB (A := X.A.in1) (I.ok.hd hc) D.ai1 its.toArray true) (Draws.text (A := X.A.in1) (I.ok.hd hc) i2 y t2) hz hTI hTO ⟨h1, ox⟩ h2 l1 l2 fun u' v' h' tk eu ev nz nTO n1 n2 nT nsz nk => ?_
    have : u' = u := by
      have g : its.toArray[i]? = some u := by simpa using hu
      rw [g] at eu; exact (Option.some.inj eu).symm
    subst this
    obtain ⟨d, td, ed, rfl⟩ := ev
    refine ⟨_, rfl, wpAny_letOwnedTupleGo_zip (s := { s with heap := h', toks := tk }) nz fun h2' nz2 sb => ?_⟩
    have nT2 : h2'.get? s.heap.objs.size = some { cls := .type "tuple", data := .seq #[u', Value.str ⟨#[d]⟩ td] } := (sb.2 _ (Nat.ne_of_gt zl)).trans nT
    have made : ObjOk X.prog X.w (upd H s.heap.objs.size (.tup [x, .str ⟨#[d]⟩])) h2' s.heap.objs.size (.tup [x, .str ⟨#[d]⟩]) :=
      ⟨(show 2 ≤ sizeLine by decide), [u', Value.str ⟨#[d]⟩ td], .cons ru (.cons ⟨td, rfl⟩ .nil), ⟨_, nT2, rfl, _, rfl⟩⟩
    have J : Inv X pins σ (upd H s.heap.objs.size (.tup [x, .str ⟨#[d]⟩])) { s with heap := h2', toks := tk } :=
      I.turnedNew (ch := [z, TI, TO, i1, i2]) (fun c o nc q => (sb.2 c fun e => nc (by simp [e])).trans (nk c o (fun e => nc (by simp [e])) (fun e => nc (by simp [e])) (fun e => nc (by simp [e])) (fun e => nc (by simp [e])) q)) hf (Nat.le_refl _) made
    refine ⟨.ref s.heap.objs.size, _, J, rfl, ⟨_, x, d, rfl, I.hok.fresh (Nat.le_refl _), rfl, fun l hl => by rw [injB (t := true) I hl qx]; exact ex, ed⟩, ⟨nz2, ?_, ⟨u', Value.str ⟨#[d]⟩ td, ?_⟩, ?_, ?_⟩, fun b hcm => ?_⟩
    · exact (sb.2 _ D.s.a1).trans (nk _ _ D.s.a1 D.s.a3 D.s.a4 D.s.a5 hTI)
    · exact (sb.2 _ D.s.a2).trans nTO
    · exact n1.1.keep fun o q => (sb.2 _ D.s.a6.symm).trans q
    · exact strIter_at n2 fun o q => (sb.2 _ D.s.a7.symm).trans q
    · have lt : b < s.heap.objs.size := by
        have lt1 : i1 < s.heap.objs.size := by obtain ⟨_, q, _⟩ := h1.obj; exact Heap.lt_size q
        have lt2 : i2 < s.heap.objs.size := by obtain ⟨_, q, _⟩ := h2; exact Heap.lt_size q
        have hcm2 := hcm
        simp only [List.mem_cons, List.not_mem_nil, or_false] at hcm2
        rcases hcm2 with rfl | rfl | rfl | rfl | rfl
        · exact zl
        · exact Heap.lt_size hTI
        · exact Heap.lt_size hTO
        · exact lt1
        · exact lt2
      rw [upd_ne (Nat.ne_of_lt lt)]
      exact (hf b hcm).1
  done := by
    rintro X rfl rfl rfl hc i pins s σ H E I hf ⟨hz, hTI, ⟨x0, y0, hTO⟩, h1, h2⟩ ⟨xs, qx, le1, le2, en⟩
    obtain ⟨its, rv, ox⟩ := seqB (t := true) I qx
    have e1 := rv.length
    refine wpAny_pyNext_zipD2_end D.sep (drawB (A := X.A.in1) (I.ok.hd hc) D.ai1 its.toArray true) (Draws.text (A := X.A.in1) (I.ok.hd hc) i2 y t2) hz hTI hTO ⟨h1, ox⟩ h2 (by simp; omega) le2 (by simp; omega) fun h' tk nk => ?_
    exact ⟨rfl, I.turnedL (ch := [z, TI, TO, i1, i2]) (fun c o nc q => nk c o (fun e => nc (by simp [e])) (fun e => nc (by simp [e])) (fun e => nc (by simp [e])) (fun e => nc (by simp [e])) q) hf⟩
  self := fun _ _ _ _ _ st h => wpAny_pyIter_zip st.1 h
def iZipTS (K : PySem.W.Frag) (ta : L2.TA) : TI := fun σ H R => ta σ H fun vs H1 => ∃ a xs u, vs = [.ref a, .str u] ∧ SqT K H1 a xs ∧ R (ItZT K a u) H1
theorem kZipTS (K : PySem.W.Frag) {X : Cx} {e e2 : Expr} {ta : L2.TA} {p pos tpos : Pos} {elts : List Expr} {kk : Nat} (hg : Gl X "zip") (hm : X.mg "zip" = none) (ha : PA X [e, e2] ta) (hK : X.K = K := by rfl)
    (st : starEach [e, e2] X.env = (false, eval e X.env) :: starEach [e2] X.env := by rfl) (pl : (backTo pos (starEach [e2] X.env)).any (·.1) = false := by rfl) :
    PI X (.Tuple elts kk tpos) (.Call (.Name "zip" p) [e, e2] [] pos) (iZipTS K ta) := by
  subst hK
  refine ⟨fun pins s σ H R I h => Call_ (ld_blt I hg hm PyProof.Rows.boot_zip (PyProof.Rows.callWith_type1 (thn (ha.run pos pins s σ H _ I h) fun us s1 ⟨vs, H1, I1, r1, a, xs, u, ex, qx, q⟩ => ?_) st pl))⟩
  subst ex
  cases r1 with
  | cons r rr =>
    cases rr with
    | cons r' rr =>
      cases rr
      cases r
      obtain ⟨t2, rfl⟩ := r'
      obtain ⟨its, rv, ox⟩ := seqB (t := true) I1 qx
      have al : a < s1.heap.objs.size := obB_lt ox
      refine zip_begins2 (beginB a its.toArray true) (begins_text u t2) ox trivial fun h' nz nTI nTO n1 n2 nsz nk => wpAny_pyIter_zip nz ?_
      have J : Inv X pins σ H1 { s1 with heap := h' } := I1.kept (t' := s1.toks) nk
      refine ⟨s1.heap.objs.size + 4, [s1.heap.objs.size + 4, s1.heap.objs.size + 2, s1.heap.objs.size + 3, s1.heap.objs.size, s1.heap.objs.size + 1], _, _, H1, rfl, J, turnZT ⟨⟨?_, ?_, ?_, ?_, ?_, ?_, ?_, ?_, ?_, ?_⟩, ?_, ?_, ?_, ?_⟩, ⟨nz, nTI, ⟨_, _, nTO⟩, itB_new n1, ⟨_, n2, rfl, rfl⟩⟩, fun c hcm => ?_, q⟩
      iterate 10 · exact fun e => absurd e (by simp [Addr])
      iterate 4 · exact Nat.ne_of_lt (Nat.lt_of_lt_of_le al (by first | exact Nat.le_add_right _ _ | exact Nat.le_refl _))
      have le : s1.heap.objs.size ≤ c := by
        simp only [List.mem_cons, List.not_mem_nil, or_false] at hcm
        rcases hcm with rfl | rfl | rfl | rfl | rfl
        · exact Nat.le_add_right _ _
        · exact Nat.le_add_right _ _
        · exact Nat.le_add_right _ _
        · exact Nat.le_refl _
        · exact Nat.le_add_right _ _
      exact I1.fpOk le (I1.hok.fresh le)
section
variable {K : PySem.W.Frag} {γ : Type} {W : Wd γ} {ρ : Rho} {k : γ} {L1 : List Addr} {H1 : Hp} {Φ : PyData → γ → Prop}
theorem walkD_zipTS {a : Addr} {ds : List PyData} {u : Str} (ta : T K (L1 ++ W.M) H1 (.ref a) (.tuple ds)) : WalkD K W (ItZT K a u) (min ds.length u.cps.size) (fun i => .tuple [itemD ds i, .str ⟨#[u.cps[i]?.getD 0]⟩]) L1 H1 where
  goes := fun i L H hi l => by
    obtain ⟨xs, h1, h2⟩ := later_tup l ta
    have lx := h2.len
    exact ⟨xs, xs[i]'(by omega), u.cps[i]'(by omega), SqT.of h1, List.getElem?_eq_getElem _, by simp [show i < u.cps.size by omega]⟩
  stops := fun L H l => by
    obtain ⟨xs, h1, h2⟩ := later_tup l ta
    have lx := h2.len
    exact ⟨xs, SqT.of h1, by omega, by omega, by omega⟩
  yields := fun i L H x H' hi l y => by
    obtain ⟨xs, h1, h2⟩ := later_tup l ta
    obtain ⟨p, x1, c, rfl, hp, rfl, f1, f2⟩ := y
    have tx := h2.itemD (f1 xs (SqT.of h1))
    rw [f2]
    exact ⟨Same.new hp, .tup (l.trk.new hp) upd_same (.cons (tx.ext (Ext.new hp)) (.one (.str _)))⟩
theorem ei_zipTS {tr : L2.TA} {Ω : Nat → (Nat → PyData) → γ → Prop} (h : EvA K W tr ρ k fun es k1 => ∃ ds u, es = [.tuple ds, .str u] ∧ Ω (min ds.length u.cps.size) (fun i => .tuple [itemD ds i, .str ⟨#[u.cps[i]?.getD 0]⟩]) k1) : EvI K W (iZipTS K tr) ρ k Ω := fun L0 H0 L H σ S R c =>
  h L0 H0 L H σ S _ fun vs es k1 H1 S1 e t g => by
    obtain ⟨ds, u, rfl, q⟩ := g
    obtain ⟨v, v2, rfl, ta, tb⟩ := t.two_
    cases tb
    cases ta with
    | @tup a xs _ n ha tt => exact ⟨a, xs, u, rfl, SqT.of ha, c _ _ _ k1 H1 S1 e (walkD_zipTS (.tup n ha tt)) q⟩
/-- z.count(sign) -/
theorem ev_countS {te tv : TE} (h : EvW K W te ρ k fun x k1 => ∃ a : Str, x = .str a ∧ EvW K W tv ρ k1 fun y k2 => ∃ b : Str, y = .str b ∧ Φ (.int (Txt.count a b)) k2) :
    EvW K W (tBM K "str" (fun x xs H Q => ∃ a b, x = V.str a ∧ xs = [V.str b] ∧ Q (V.int (Txt.count a b)) H) te (tCons tv tNil)) ρ k Φ := fun L0 H0 L H σ S Q c =>
  h L0 H0 L H σ S _ fun v x k1 H1 S1 e1 t1 g => by
    obtain ⟨a, rfl, g⟩ := g
    cases t1
    refine ⟨?_, g L0 H0 L H1 σ S1 _ fun u y k2 H2 S2 e2 t2 g2 => ?_⟩
    · exact rfl
    · obtain ⟨b, rfl, q⟩ := g2
      cases t2
      exact ⟨a, b, rfl, rfl, c _ _ k2 H2 S2 (e1.trans e2) (.int _) q⟩
end
end U

set_option Elab.async false
set_option linter.all false
set_option maxRecDepth 100000
set_option maxHeartbeats 2000000
/-! tuple[::-1] -/
namespace HT
open PySem PyProof.Rows L2
section
variable {prog : Program} {w : World} {A : Around} {E : Value → Shared → Prop} {s : Shared}
theorem sliceApplied_rev {sl : Addr} {vs : Value} {n : Nat} {Q : Int × Int × Nat → Shared → Prop} (hs : s.heap.IsSliceOf sl .none .none vs) (ps : IsPart vs (some (-1)))
    (h : Q ((n : Int) - 1, -1, n) s) : wpAny (model prog w) A (Builtin.Slice.sliceApplied (.ref sl) (pure (n : Int))) Q E s := by
  obtain ⟨os, hos, hcs, hds⟩ := id hs
  unfold Builtin.Slice.sliceApplied Builtin.Slice.sliceFields
  refine wpAny_bind (wpAny_bind (wpAny_field hos hds (x := .none) rfl (wpAny_bind (wpAny_field hos hds (x := .none) rfl (wpAny_bind (wpAny_field hos hds (x := vs) rfl (wpAny_pure ?_)))))))
  refine wpAny_bind (slicePart_ ps ?_)
  show wpAny _ _ (if ((-1 : Int) == 0) = true then _ else _) _ _ s
  rw [if_neg (by decide)]
  refine wpAny_bind (slicePart_ .none (wpAny_bind (slicePart_ .none (wpAny_bind (wpAny_pure ?_)))))
  show wpAny _ _ (pure ((n : Int) - 1, (-1 : Int), Builtin.Slice.slicePlaces ((n : Int) - 1) (-1) (-1))) _ _ s
  have e : Builtin.Slice.slicePlaces ((n : Int) - 1) (-1) (-1) = n := by
    unfold Builtin.Slice.slicePlaces
    rw [if_neg (by decide)]
    by_cases c : n = 0
    · subst c; decide
    · rw [if_pos (by omega)]
      have : ((n : Int) - 1 - -1 - 1) / (- -1) = (n : Int) - 1 := by
        rw [show (- -1 : Int) = 1 from rfl, Int.ediv_one]; omega
      rw [this]
      omega
  rw [e]
  exact wpAny_pure h
theorem pick_rev (xs : Array Value) : ((List.range xs.size).filterMap fun (m : Nat) => xs[((xs.size : Int) - 1 + (m : Int) * -1).toNat]?).toArray = xs.toList.reverse.toArray := by
  congr 1
  have h : (List.range xs.size).filterMap (fun (m : Nat) => xs[((xs.size : Int) - 1 + (m : Int) * -1).toNat]?) = (List.range xs.size).filterMap (fun m => xs.toList.reverse[m]?) := by
    have gen : ∀ l : List Nat, (∀ m ∈ l, m < xs.size) → l.filterMap (fun (m : Nat) => xs[((xs.size : Int) - 1 + (m : Int) * -1).toNat]?) = l.filterMap (fun m => xs.toList.reverse[m]?) := fun l => by
      induction l with
      | nil => intro _; rfl
      | cons m l ih =>
        intro hl
        have hm := hl m (.head _)
        have : ((xs.size : Int) - 1 + (m : Int) * -1).toNat = xs.size - 1 - m := by omega
        have e : xs[((xs.size : Int) - 1 + (m : Int) * -1).toNat]? = xs.toList.reverse[m]? := by
          rw [this, List.getElem?_reverse (by simpa using hm)]
          simp
        rw [List.filterMap_cons, List.filterMap_cons, e, ih fun y hy => hl y (.tail _ hy)]
    exact gen _ fun m hm => List.mem_range.mp hm
  rw [h]
  have e : ∀ l : List Value, (List.range l.length).filterMap (fun m => l[m]?) = l := fun l => by
    induction l with
    | nil => rfl
    | cons x l ih =>
      rw [List.length_cons, List.range_succ_eq_map, List.filterMap_cons, List.filterMap_map]
      show x :: (List.range l.length).filterMap (fun m => l[m]?) = _
      rw [ih]
  have := e xs.toList.reverse
  rw [List.length_reverse, Array.length_toList] at this
  exact this
theorem getItem_tuple_rev {t sl : Addr} {items : Array Value} {vs : Value} {Q : Value → Shared → Prop} (ht : IsTup s.heap t items) (hs : s.heap.IsSliceOf sl .none .none vs) (ps : IsPart vs (some (-1)))
    (h : Q (.ref s.heap.objs.size) { s with heap := s.heap.push { cls := .type "tuple", data := .seq items.toList.reverse.toArray } })
    (hsz : items.size ≤ sizeLine) : wpAny (model prog w) A (getItem (.ref t) (.ref sl)) Q E s := by
  have htake : sizeOk (.seq items.toList.reverse.toArray) := by
    show items.toList.reverse.toArray.size ≤ sizeLine
    rw [List.size_toArray, List.length_reverse, Array.length_toList]
    exact hsz
  obtain ⟨os, hos, hcs, hds⟩ := id hs
  have hTs : s.TypeIs (.ref sl) "slice" := ⟨os, hos, hcs⟩
  unfold getItem
  try with_reducible refine wpAny_holding ?_
  first | refine wpAny_bind (wpAny_pure ?_) | skip
  refine wpAny_bind (wpAny_sequenceKey ht.typeIs (by decide) ?_)
  refine wpAny_bind (wpAny_callSpecial?_slot (name := Str.ofString "__getitem__") ht.typeIs PyProof.Rows.slot_tuple_getitem
    (wpAny_call_entry PyProof.Rows.slot_tuple_getitem ht.typeIs entry_tuple_getitem ?_ (args_tuple_getitem _ _)))
  show wpAny _ _ (Builtin.Tuple.tupleItemsOf (.ref t) >>= _) _ _ s
  refine wpAny_bind (tupleItemsOf_ ht ?_)
  refine wpAny_bind (wpAny_typeOf hTs ?_)
  rw [if_pos (by decide)]
  refine wpAny_bind (sliceApplied_rev hs ps ?_)
  have hno : ¬ ((((items.size : Int) - 1) == 0 && (-1 : Int) == 1 && items.size == items.size) = true) := by
    intro q
    rw [Bool.and_eq_true, Bool.and_eq_true] at q
    exact absurd q.1.2 (by decide)
  show wpAny _ _ (if (((items.size : Int) - 1) == 0 && (-1 : Int) == 1 && items.size == items.size) = true then _ else _) _ _ s
  rw [if_neg hno, pick_rev]
  first
    | exact wpAny_bind (m := Builtin.Tuple.tupleExact _) (wpAny_newObj_type (wpAny_pure ⟨_, rfl, wpAny_pure h⟩) htake)
    | exact wpAny_bind (m := Builtin.Tuple.tupleExact _) (wpAny_newObj_type (wpAny_bind (wpAny_pure (wpAny_pure ⟨_, rfl, wpAny_pure h⟩))) htake)
    | exact wpAny_bind (wpAny_bind (m := Builtin.Tuple.tupleExact _) (wpAny_newObj_type (wpAny_pure (wpAny_pure ⟨_, rfl, wpAny_pure h⟩)) htake))
    | exact wpAny_bind (wpAny_bind (m := Builtin.Tuple.tupleExact _) (wpAny_newObj_type (wpAny_pure ⟨_, rfl, wpAny_pure h⟩) htake))
end
end HT
namespace U
open PySem PySem.Spec PyProof.Rows L2
section
variable {X : Cx}
def tRevT (K : PySem.W.Frag) (te : TE) : TE := fun σ H Q => te σ H fun x H1 => ∃ a xs, x = .ref a ∧ SqT K H1 a xs ∧ ∀ p, H1 p = none → Q (.ref p) (upd H1 p (.tup xs.reverse))
theorem pe_revT {e : Expr} {te : TE} {k : Nat} {p1 p2 p3 pos : Pos} (he : PE X e te) : PE X (.Subscript e (.Slice none none (some (.UnaryOp .USub (.Constant (.int 1) k p1) p2)) p3) pos) (tRevT X.K te) := by
  refine ⟨fun pins s σ H Q I h => ?_⟩
  refine Subscript_ (thn (he.run pins s σ H _ I h) fun v s1 ⟨x, H1, I1, r1, q1⟩ => ?_)
  obtain ⟨a, xs, ex, hx, q⟩ := q1
  subst ex
  cases r1
  have hst : PO X (some (.UnaryOp .USub (.Constant (.int 1) k p1) p2)) (tPart (tUn (rU fun i => .int (-i)) (tC (.int 1)))) := po_some (pe_un un_neg pe_int)
  refine wpAny_Slice (thn (po_none.run pins s1 σ H1 (fun o H2 => o = none ∧ H2 = H1) I1 ⟨rfl, rfl⟩) fun vl s2 ⟨l, H2, I2, pl, el, e2⟩ => ?_)
  subst el e2
  refine thn (po_none.run pins s2 σ H2 (fun o H3 => o = none ∧ H3 = H2) I2 ⟨rfl, rfl⟩) fun vu s3 ⟨u, H3, I3, pu, eu, e3⟩ => ?_
  subst eu e3
  refine thn (hst.run pins s3 σ H3 (fun o H4 => o = some (-1) ∧ H4 = H3) I3 ⟨1, rfl, -1, rfl, rfl, rfl⟩) fun vs s4 ⟨o, H4, I4, ps, eo, e4⟩ => ?_
  subst eo e4
  cases pl
  cases pu
  have I5 : Inv X pins σ H4 { s4 with heap := s4.heap.push { cls := .type "slice", data := .fields #[.none, .none, vs] } } := I4.kept (t' := s4.toks) fun b ob q => Heap.get?_push_of_some _ q
  obtain ⟨its, r, ht, hz⟩ := I5.tuple hx
  have hlen := r.length
  show wpAny (model X.prog X.w) X.A (subscriptTail e (.Slice none none (some (.UnaryOp .USub (.Constant (.int 1) k p1) p2)) p3) (.ref a) (.ref s4.heap.objs.size)) (EP X pins σ Q) X.xe { s4 with heap := s4.heap.push { cls := .type "slice", data := .fields #[.none, .none, vs] } }
  refine tail_any (ops := [.ref a, .ref s4.heap.objs.size]) ht.typeIs (PyProof.Rows.slot_tuple_getitem.lookup) ?_ (by with_unfolding_all rfl)
  refine HT.getItem_tuple_rev ht (Heap.IsSliceOf.new _ .none .none vs) ps ?_ (by rw [List.size_toArray]; omega)
  refine ⟨.ref _, _, I5.laid (t' := s4.toks) (o := .tup xs.reverse) (fun b ob q => Heap.get?_push_of_some _ q) (Nat.le_refl _) ?_, rfl, q _ (I5.hok.fresh (Nat.le_refl _))⟩
  exact ⟨by rw [List.length_reverse]; exact hz, _, r.reverse, IsTup.new _ _⟩
theorem kRevT (K : PySem.W.Frag) {e : Expr} {te : TE} {k : Nat} {p1 p2 p3 pos : Pos} (he : PE X e te) (h : X.K = K := by rfl) : PE X (.Subscript e (.Slice none none (some (.UnaryOp .USub (.Constant (.int 1) k p1) p2)) p3) pos) (tRevT K te) := by subst h; exact pe_revT he
end
section
variable {K : PySem.W.Frag} {γ : Type} {W : Wd γ} {ρ : Rho} {k : γ} {Φ : PyData → γ → Prop} {te : TE}
theorem ev_revT (h : EvW K W te ρ k fun d k1 => ∃ ds, d = .tuple ds ∧ Φ (.tuple ds.reverse) k1) : EvW K W (tRevT K te) ρ k Φ := fun L0 H0 L H σ S Q c =>
  h L0 H0 L H σ S _ fun v x k1 H1 S1 e1 t1 g => by
    obtain ⟨ds, rfl, q⟩ := g
    cases t1 with
    | @tup a xs _ n ha t =>
      refine ⟨a, xs, rfl, SqT.of ha, newT S1.trk t.rev fun p H' hp s _ _ t' => c _ _ k1 H' (S1.same s) (e1.trans (Ext.same s)) t' q⟩
end
end U

set_option Elab.async false
set_option linter.all false
set_option maxRecDepth 100000
set_option maxHeartbeats 2000000
/-! text.count(one sign) -/
namespace U
open PySem PySem.Spec PyProof.Rows L2 PySem.StrLaws PySem.Builtin.Str
def isC (l : List Nat) (c i : Nat) : Bool := decide (l[i]? = some c)
theorem occ_one_size (x : Str) (c limit : Nat) : ∀ (n a : Nat) (st : Array Nat × Nat), st.snd ≤ a → st.fst.size + n ≤ limit →
    (forIn (List.range' a n) st (occBody x ⟨#[c]⟩ x.length limit)).run.fst.size = st.fst.size + ((List.range' a n).filter (isC x.cps.toList c)).length
  | 0, a, st, _, _ => by simp
  | n + 1, a, st, h1, h2 => by
    rw [List.range'_succ, List.forIn_cons]
    unfold occBody
    by_cases hc : x.cps.toList[a]? = some c
    · have hs := (subAt_one x c a).mpr hc
      rw [if_pos ⟨⟨⟨by omega, h1⟩, hs.1⟩, hs.2⟩, List.filter_cons_of_pos (show isC x.cps.toList c a = true from decide_eq_true hc)]
      show (forIn (List.range' (a + 1) n) (st.fst.push a, a + 1) (occBody x ⟨#[c]⟩ x.length limit)).run.fst.size = _
      rw [occ_one_size x c limit n (a + 1) (st.fst.push a, a + 1) (Nat.le_refl _) (by simp only [Array.size_push]; omega)]
      simp only [Array.size_push, List.length_cons]
      omega
    · have hs : ¬ (a + (⟨#[c]⟩ : Str).length ≤ x.length ∧ Builtin.Str.subAt x ⟨#[c]⟩ a = true) := fun z => hc ((subAt_one x c a).mp z)
      rw [if_neg (fun z => hs ⟨z.1.2, z.2⟩), List.filter_cons_of_neg (show ¬ isC x.cps.toList c a = true by unfold isC; rw [decide_eq_false hc]; exact Bool.false_ne_true)]
      exact occ_one_size x c limit n (a + 1) (st.fst, st.snd) (by show st.snd ≤ a + 1; omega) (by show st.fst.size + n ≤ limit; omega)
theorem count_places (c : Nat) : ∀ (l : List Nat), ((List.range' 0 (l.length + 1)).filter (isC l c)).length = l.count c := by
  have gen : ∀ (l pre : List Nat), ((List.range' pre.length (l.length + 1)).filter (isC (pre ++ l) c)).length = l.count c := fun l => by
    induction l with
    | nil =>
      intro pre
      simp [isC]
    | cons x l ih =>
      intro pre
      have h := ih (pre ++ [x])
      rw [List.length_append, List.append_assoc] at h
      simp only [List.length_cons, List.length_nil, List.singleton_append, Nat.zero_add] at h
      rw [List.length_cons, List.range'_succ]
      by_cases e : x = c
      · subst e
        rw [List.filter_cons_of_pos (by simp [isC]), List.length_cons, h, List.count_cons_self]
      · rw [List.filter_cons_of_neg (by simp [isC, e]), h, List.count_cons_of_ne (by simpa using e)]
  intro l
  exact gen l []
theorem txt_count (w : List Nat) (j : Nat) : Txt.count (txt w) ⟨#[97 + j]⟩ = ((w.count j : Nat) : Int) := by
  unfold Txt.count
  rw [occ_eq, Array.length_toList, occ_one_size _ _ _ _ _ ((#[] : Array Nat), 0) (Nat.le_refl _) (by simp)]
  have e : (txt w).length = (txt w).cps.toList.length := rfl
  rw [Nat.sub_zero, e, count_places (97 + j)]
  have e2 : (txt w).cps.toList = w.map (97 + ·) := by simp [txt]
  rw [e2]
  show ((0 + List.count (97 + j) (w.map (97 + ·)) : Nat) : Int) = _
  have e3 : List.count (97 + j) (w.map (97 + ·)) = w.count j := by
    induction w with
    | nil => rfl
    | cons c w ih => 
      have ih := ih (by rfl) (by simp [txt])
      rw [List.map_cons, List.count_cons, List.count_cons, ih]
      congr 1
      by_cases h : c = j
      · subst h; simp
      · have : ¬ 97 + c = 97 + j := by omega
        simp [h]
  rw [e3, Nat.zero_add]
end U

set_option Elab.async false
set_option linter.all false
set_option maxRecDepth 100000
set_option maxHeartbeats 2000000
/-! dicts with tuples as keys: read while locked, walked, .get(k, d), .setdefault(k, d), len, returned, lent to a def -/
namespace U
open PySem PySem.Spec PyProof.Rows L2
section
variable {X : Cx} {pins : List (Addr × Obj)} {σ : L2.St} {H H' : Hp} {s : Shared} {a : Addr} {y v d : V} {u r : Value} {o : Option V} {A : Around} {E : Value → Shared → Prop} {K : PySem.W.Frag}
theorem dn_type {xs : List (NestedKey × Addr × V)} (I : Inv X pins σ H s) (e : Rd H a (DN X.prog X.w a xs)) :
    s.TypeIs (.ref a) "dict" ∧ (∀ b, Value.ref a = .ref b → ∃ ob, s.heap.get? b = some ob ∧ ob.dict = none) ∧ (a == sysModules) = false := by
  obtain ⟨⟨z, hd, us, rel, ob, es, ep, h1, h2, h3, h4, h5⟩, _, _⟩ := rd_of I.hok e
  exact ⟨⟨ob, h1, h2.1⟩, fun b q => by cases q; exact ⟨ob, h1, h2.2.1⟩, hd⟩
theorem dn_rd {N : List Addr} {xs : List (NestedKey × Addr × V)} {kvs : List (NestedKey × PyData)} (I : Inv X pins σ H s) (e : Rd H a (DN X.prog X.w a xs)) (t : KN K N H xs kvs) :
    xs.length ≤ sizeLine ∧ (a == sysModules) = false ∧ ∃ us, NR xs us ∧ s.heap.DictOfH (nestedKind X.prog X.w) a us := by
  obtain ⟨⟨z, hd, us, rel, ob, es, ep, h1, h2, h3, h4, h5⟩, _, _⟩ := rd_of I.hok e
  refine ⟨z, hd, us, rel, ob, es, ep, h1, h2, h3, h4, fun x hx => ?_, h5⟩
  have key : ∀ {xs : List (NestedKey × Addr × V)} {us : List (NestedKey × Addr × Value)} {kvs : List (NestedKey × PyData)}, NR xs us → KN K N H xs kvs → ∀ x ∈ us, (nestedKind X.prog X.w).is s.heap x.1 x.2.1 := by
    intro xs us kvs r
    induction r generalizing kvs with
    | nil => intro _ x hx; exact nomatch hx
    | @cons p q ps qs h t ih =>
      intro kn x hx
      cases kn with
      | @cons k' a' v' e' d' _ ds b1 b2 b3 b4 t' =>
        rcases List.mem_cons.mp hx with rfl | hx
        · have h1 : k' = x.1 := h.1
          have h2 : a' = x.2.1 := h.2.1
          subst h1 h2
          exact ⟨T.nested I.hok b3 b1 rfl, b2⟩
        · exact ih t' x hx
  exact key rel t x hx
def NGet2 (P : Program) (w : World) (K : PySem.W.Frag) (H : Hp) (a : Addr) (y : V) (r : Option V) : Prop := ∃ N xs kvs k, Rd H a (DN P w a xs) ∧ KN K N H xs kvs ∧ KeyY K H y k ∧ r = valN xs k
theorem n_get2 {Q : Value → Shared → Prop} (hu : A.units + 9 < cLine) (I : Inv X pins σ H s) (g : NGet2 X.prog X.w K H a y o) (ry : RelV y u) (rd : RelV d r) (h : ∀ w' s', Inv X pins σ H s' → RelV (o.getD d) w' → Q w' s') :
    wpAny (model X.prog X.w) A (call (.builtin "dict.get") [.ref a, u, r]) Q E s := by
  obtain ⟨N, xs, kvs, k, e, t, ky, l⟩ := g
  obtain ⟨b, rfl, _, hk⟩ := key_at I ky ry
  obtain ⟨z, hd, us, rel, dd⟩ := dn_rd I e t
  refine call_meetsIn PySem.F.slot_dict_get dd.typeIs PySem.F.entry_dict_get (PySem.F.args_dict_get_3 _ _ _) (meetsH_dict_get_default (nestedKind X.prog X.w) a b hd r) ⟨nroom hu, k, us, hk, dd, h _ _ (I.tok _) ?_⟩
  rw [l]
  rcases rel.val k with ⟨h1, h2⟩ | ⟨v', u', b', h1, h2, rv⟩
  · rw [h1, h2]; exact rd
  · rw [h1, h2]; exact rv
theorem n_setd {N : List Addr} {xs : List (NestedKey × Addr × V)} {kvs : List (NestedKey × PyData)} {k : NestedKey} {b : Addr} {Q : Value → Shared → Prop} (hu : A.units + 9 < cLine) (I : Inv X pins σ H s) (e : H a = some (DN X.prog X.w a xs)) (t : KN K N H xs kvs) (ky : KeyY K H (.ref b) k) (rd : RelV d r) (hl : xs.length < sizeLine)
    (h1 : ∀ v, valN xs k = some v → ∀ (w' : Value) (s' : Shared), Inv X pins σ H s' → RelV v w' → Q w' s') (h2 : valN xs k = none → ∀ (w' : Value) (s' : Shared), Inv X pins σ (upd H a (DN X.prog X.w a (putNV xs k b d))) s' → RelV d w' → Q w' s') :
    wpAny (model X.prog X.w) A (call (.builtin "dict.setdefault") [.ref a, .ref b, r]) Q E s := by
  obtain ⟨b', eb, eb2, hk⟩ := key_at I ky (show RelV (.ref b) (Value.ref b) from rfl)
  cases eb2
  obtain ⟨z, hd, us, rel, dd⟩ := dn_rd I (.inl e) t
  have hz : us.length ≤ sizeLine := by rw [← rel.length]; exact z
  refine call_setdefault_heap (hsz := hz) (nroom hu) hk hd dd (fun p hp => ?_) fun hn h' dd' hs => ?_
  · rcases rel.val k with ⟨q1, q2⟩ | ⟨v', u', b', q1, q2, rv⟩
    · rw [q2] at hp; cases hp
    · rw [q2] at hp
      cases hp
      exact h1 v' q1 _ _ (I.tok _) rv
  · rcases rel.val k with ⟨q1, q2⟩ | ⟨v', u', b', q1, q2, rv⟩
    · have he : ∃ q, h'.get? a = some q := let ⟨q, _, _, hq, _⟩ := dd'; ⟨q, hq⟩
      have hl2 : (putNV xs k b d).length ≤ sizeLine := by have := putNV_len xs k b d; omega
      exact h2 q1 _ _ (d_write I (by rw [e]; exact True.intro) hs he (dn_new hl2 hd (rel.put k b rd) dd')) rd
    · rw [q2] at hn; cases hn
end
/-- d.get(y, x) -/
def tNGet2 (P : Program) (w : World) (K : PySem.W.Frag) (td ty tx : TE) : TE := fun σ H Q => td σ H fun x H1 => ∃ a, x = .ref a ∧ (∃ xs, Rd H1 a (DN P w a xs)) ∧ ty σ H1 fun y H2 => tx σ H2 fun z H3 => ∃ o, NGet2 P w K H3 a y o ∧ Q (o.getD z) H3
/-- d.setdefault(y, x) -/
def tNSetd (P : Program) (w : World) (K : PySem.W.Frag) (td ty tx : TE) : TE := fun σ H Q => td σ H fun x H1 => ∃ a, x = .ref a ∧ (∃ xs, Rd H1 a (DN P w a xs)) ∧ ty σ H1 fun y H2 => tx σ H2 fun z H3 => ∃ (N : List Addr) (xs : List (NestedKey × Addr × V)) (kvs : List (NestedKey × PyData)) (k : NestedKey) (b : Addr),
  H3 a = some (DN P w a xs) ∧ KN K N H3 xs kvs ∧ y = .ref b ∧ KeyY K H3 y k ∧ xs.length < sizeLine ∧ (∀ v, valN xs k = some v → Q v H3) ∧ (valN xs k = none → Q z (upd H3 a (DN P w a (putNV xs k b z))))
/-- len(d) -/
def rLenN (P : Program) (w : World) (K : PySem.W.Frag) : List V → Hp → VK → Prop := fun us H Q => ∃ (p : Addr) (N : List Addr) (xs : List (NestedKey × Addr × V)) (kvs : List (NestedKey × PyData)), us = [.ref p] ∧ Rd H p (DN P w p xs) ∧ KN K N H xs kvs ∧ Q (.int ((xs.length : Nat) : Int)) H
section
variable {X : Cx} {K : PySem.W.Frag} {o e f : Expr} {apos cpos : Pos} {td ty tx : TE}
theorem pe_nget2 (hu : X.A.units + 9 < cLine) (ho : PE X o td) (he : PE X e ty) (hf : PE X f tx) (m : M2 X o "get" apos e f cpos) : PE X (.Call (.Attribute o "get" apos) [e, f] [] cpos) (tNGet2 X.prog X.w K td ty tx) := by
  refine ⟨fun pins s σ H Q I h => ?_⟩
  refine wpAny_Call_method m.base m.few m.line PySem.F.plainAttrs_dict PySem.F.slot_dict_get PySem.F.type_dict_get (thn (ho.run pins s σ H _ I h) fun u s1 ⟨x, H1, I1, rx, a, ex, ⟨xs, d⟩, q1⟩ => ?_)
  subst ex
  obtain rfl : u = Value.ref a := rx
  obtain ⟨t1, t2, _⟩ := dn_type I1 d
  refine ⟨t1, t2, ?_⟩
  rw [m.trees]
  refine Calls.callWith_builtin rfl (Calls.evalArgs_plain (Calls.spliced_cons (thn (he.run pins s1 σ H1 _ I1 q1) fun iv s2 ⟨y, H2, I2, ry, q2⟩ =>
    Calls.spliced_cons (thn (hf.run pins s2 σ H2 _ I2 q2) fun fv s3 ⟨z, H3, I3, rz, ov, g, q3⟩ => Calls.spliced_nil ?_))))
  exact n_get2 hu I3 g ry rz fun w' s4 I4 rw' => ⟨_, H3, I4, rw', q3⟩
theorem pe_nsetd (hu : X.A.units + 9 < cLine) (ho : PE X o td) (he : PE X e ty) (hf : PE X f tx) (m : M2 X o "setdefault" apos e f cpos) : PE X (.Call (.Attribute o "setdefault" apos) [e, f] [] cpos) (tNSetd X.prog X.w K td ty tx) := by
  refine ⟨fun pins s σ H Q I h => ?_⟩
  refine wpAny_Call_method m.base m.few m.line PySem.F.plainAttrs_dict PySem.F.slot_dict_setdefault PySem.F.type_dict_setdefault (thn (ho.run pins s σ H _ I h) fun u s1 ⟨x, H1, I1, rx, a, ex, ⟨xs, d⟩, q1⟩ => ?_)
  subst ex
  obtain rfl : u = Value.ref a := rx
  obtain ⟨t1, t2, _⟩ := dn_type I1 d
  refine ⟨t1, t2, ?_⟩
  rw [m.trees]
  refine Calls.callWith_builtin rfl (Calls.evalArgs_plain (Calls.spliced_cons (thn (he.run pins s1 σ H1 _ I1 q1) fun iv s2 ⟨y, H2, I2, ry, q2⟩ =>
    Calls.spliced_cons (thn (hf.run pins s2 σ H2 _ I2 q2) fun fv s3 ⟨z, H3, I3, rz, N, xs, kvs, k, b, ea, kn, ey, ky, hl, q3, q4⟩ => Calls.spliced_nil ?_))))
  subst ey
  obtain rfl : iv = Value.ref b := ry
  exact n_setd hu I3 ea kn ky rz hl (fun v hv w' s4 I4 rw' => ⟨v, _, I4, rw', q3 v hv⟩) fun hn w' s4 I4 rw' => ⟨z, _, I4, rw', q4 hn⟩
theorem call_lenN : CallR X (.builtin "len") (rLenN X.prog X.w K) := by
  intro pins s σ H us vs Q I r h
  obtain ⟨p, N, xs, kvs, rfl, hp, kn, q⟩ := h
  obtain ⟨u, rfl, rx⟩ := vals1 r
  obtain rfl : u = .ref p := rx
  obtain ⟨z, hd, ys, rel, dd⟩ := dn_rd I hp kn
  have hl : xs.length = ys.length := Paired.length rel
  refine call_len_dictH hd dd (by rw [← hl]; rw [sizeLine_eq] at z; omega) ?_
  rw [← hl]
  exact ⟨.int ((xs.length : Nat) : Int), H, I.tok _, ⟨_, rfl⟩, q⟩
end
/-! ### the keys of a locked dict -/
def ItkN (P : Program) (w : World) (d : Addr) (o : Obj) (xs : List (NestedKey × Addr × V)) : It :=
  ⟨fun i H => H d = some (.frz o (DN P w d xs)) ∧ i < xs.length, fun i H x H' => H' = H ∧ ∃ k a v, xs[i]? = some (k, a, v) ∧ x = .ref a, fun i H => H d = some (.frz o (DN P w d xs)) ∧ xs.length ≤ i⟩
section
variable {X : Cx} {pins : List (Addr × Obj)} {σ : L2.St} {H : Hp} {s : Shared} {d : Addr} {o : Obj} {xs : List (NestedKey × Addr × V)}
theorem frzN (I : Inv X pins σ H s) (h : H d = some (.frz o (DN X.prog X.w d xs))) :
    (d == sysModules) = false ∧ s.heap.get? d = some o ∧ o.ExactDict ∧ ∃ (es : Array DictEntry) (ep : Nat), o.data = .dict es ep ∧ es.size = xs.length ∧
      ∀ (i : Nat) (k : NestedKey) (a : Addr) (v : V), xs[i]? = some (k, a, v) → ∃ en : DictEntry, es[i]? = some en ∧ en.key = .ref a := by
  obtain ⟨hd, ⟨z, hs, us, rel, o', es, ep, ho, hx, hdt, he, hn⟩, _, _⟩ := (show ObjOk X.prog X.w H s.heap d (.frz o (DN X.prog X.w d xs)) from I.hok d _ h)
  rw [hd] at ho
  cases ho
  refine ⟨hs, hd, hx, es, ep, hdt, ?_, fun i k a v e => ?_⟩
  · have l1 : es.size = us.length := by
      have := congrArg List.length he
      simpa using this
    have l2 : xs.length = us.length := Paired.length rel
    omega
  · obtain ⟨b, hb, e1, e2, _⟩ := paired_get rel e
    have q : es.toList[i]? = (us.map (entryOfKey (nestedKind X.prog X.w)))[i]? := by rw [he]
    rw [List.getElem?_map, hb] at q
    refine ⟨entryOfKey (nestedKind X.prog X.w) b, by simpa using q, ?_⟩
    show Value.ref b.2.1 = _
    rw [← e2]
end
section
variable {P : Program} {w : World} {K : PySem.W.Frag} {tg : Expr} {d : Addr} {o : Obj} {es : Array DictEntry} {ep : Nat}
theorem turn_keysN {xs : List (NestedKey × Addr × V)} (it : Addr) (hod : o.data = .dict es ep) : L2.Turn P w K tg (ItkN P w d o xs) [it] it (fun i h => h.IsKeyIter it d i xs.length ep) where
  mem := by simp
  obj := fun i h st b hb => by
    have e : b = it := by simpa using hb
    subst e
    obtain ⟨oi, e, c, dd⟩ := st
    exact ⟨oi, e, fun v z => by rw [dd] at z; cases z⟩
  keep := fun i h h' st k => st.at fun oi e => k it (by simp) oi e
  item := by
    intro X hP hw hK hc i pins s σ H E I hf st hg
    subst hP hw hK
    obtain ⟨hd, hi⟩ := hg
    obtain ⟨f0, f1, f2, f3, f4, f5⟩ := hf it (by simp)
    obtain ⟨hs, hgd, hx, es', ep', hdt, hsz, ent⟩ := frzN I hd
    obtain ⟨rfl, rfl⟩ := dict_ep hod hdt
    obtain ⟨⟨k, a, v⟩, hkv⟩ : ∃ p, xs[i]? = some p := ⟨xs[i], List.getElem?_eq_getElem hi⟩
    obtain ⟨en, hen, hkey⟩ := ent i k a v hkv
    refine next_key_item st hgd hdt hsz hen fun h' st' sb => ?_
    have I1 : Inv X pins σ H { s with heap := h' } := I.turned (t' := s.toks) (fun b ob hb e => (sb.2 b hb).trans e) f0 f1 f3 f4 f5
    obtain ⟨oi, e, c, dd⟩ := id st'
    exact ⟨en.key, rfl, go_of (s := { s with heap := h' }) e c dd (by decide) ⟨.ref a, H, I1, hkey, ⟨rfl, k, a, v, hkv, rfl⟩, st', fun b hb => (hf b hb).1⟩⟩
  done := by
    intro X hP hw hK hc i pins s σ H E I hf st hg
    subst hP hw hK
    obtain ⟨hd, hi⟩ := hg
    obtain ⟨f0, f1, f2, f3, f4, f5⟩ := hf it (by simp)
    obtain ⟨hs, hgd, hx, es', ep', hdt, hsz, ent⟩ := frzN I hd
    obtain ⟨rfl, rfl⟩ := dict_ep hod hdt
    exact next_key_end (I.ok.hd hc) st hgd hdt hsz hi fun h' eb => ⟨rfl, I.turned (t' := s.toks) (fun b ob hb e => eb b ob hb e) f0 f1 f3 f4 f5⟩
  self := fun A i s Q E st h => by
    refine wpAny_pyIter_slot st.typeIs F.slot_dict_keyiterator_iter (wpAny_call_entry F.slot_dict_keyiterator_iter st.typeIs F.entry_dict_keyiterator_iter ?_ (F.args_dict_keyiterator_iter_1 _))
    show wpAny _ _ (ret (.ref it)) _ _ s
    exact wpAny_pure ⟨_, rfl, "dict_keyiterator", _, st.typeIs, F.slot_dict_keyiterator_next.lookup, h⟩
end
def iKeysN (P : Program) (w : World) (td : TE) : TI := fun σ H R => td σ H fun x H1 => ∃ d o xs, x = .ref d ∧ H1 d = some (.frz o (DN P w d xs)) ∧ R (ItkN P w d o xs) H1
section
variable {X : Cx} {tg e : Expr} {td : TE}
theorem pi_keysN (he : PE X e td) : PI X tg e (iKeysN X.prog X.w td) := by
  refine ⟨fun pins s σ H R I h => ?_⟩
  refine thn (he.run pins s σ H _ I h) fun u s1 ⟨x, H1, I1, rx, d, o, xs, ex, hd, q⟩ => ?_
  subst ex
  obtain rfl : u = Value.ref d := rx
  obtain ⟨hs, hgd, hx, es, ep, hdt, hsz, ent⟩ := frzN I1 hd
  refine iter_keys hs hgd hx hdt (pi_one (tk := s1.toks) I1 _ (turn_keysN _ hdt) ⟨_, Heap.get?_push_size _ rfl, rfl, ?_⟩ q)
  rw [hsz] <;> rfl
end
/-! the same, the program and the world named -/
section
variable (P : Program) (w : World) (K : PySem.W.Frag) {X : Cx} {tg o e f : Expr} {apos cpos : Pos} {td ty tx : TE}
theorem kNGet2 (hu : X.A.units + 9 < cLine) (ho : PE X o td) (he : PE X e ty) (hf : PE X f tx) (m : M2 X o "get" apos e f cpos) (hP : X.prog = P := by rfl) (hw : X.w = w := by rfl) : PE X (.Call (.Attribute o "get" apos) [e, f] [] cpos) (tNGet2 P w K td ty tx) := by
  subst hP hw
  exact pe_nget2 hu ho he hf m
theorem kNSetd (hu : X.A.units + 9 < cLine) (ho : PE X o td) (he : PE X e ty) (hf : PE X f tx) (m : M2 X o "setdefault" apos e f cpos) (hP : X.prog = P := by rfl) (hw : X.w = w := by rfl) : PE X (.Call (.Attribute o "setdefault" apos) [e, f] [] cpos) (tNSetd P w K td ty tx) := by
  subst hP hw
  exact pe_nsetd hu ho he hf m
theorem kKeysN (he : PE X e td) (hP : X.prog = P := by rfl) (hw : X.w = w := by rfl) : PI X tg e (iKeysN P w td) := by
  subst hP hw
  exact pi_keysN he
theorem kLenN (hP : X.prog = P := by rfl) (hw : X.w = w := by rfl) : CallR X (.builtin "len") (rLenN P w K) := by
  subst hP hw
  exact call_lenN
end
end U

set_option Elab.async false
set_option linter.all false
set_option maxRecDepth 100000
set_option maxHeartbeats 2000000
/-! dicts with tuples as keys over data: read, walked, setdefault, returned, lent -/
namespace U
open PySem PySem.Spec PyProof.Rows L2
/-- a slot's dict that is read -/
def RdAt (P : Program) (w : World) (K : PySem.W.Frag) {γ : Type} (W : Wd γ) (ρ : Rho) (i : Nat) (kvs : List (NestedKey × PyData)) : Prop :=
  ∀ (L0 : List Addr) (H0 : Hp) (L : List Addr) (H : Hp) (σ : L2.St) (k : γ), Stt K W L0 H0 L H σ ρ k → ∃ l xs, σ[i]? = some (some (.ref l)) ∧ Rd H l (DN P w l xs) ∧ KN K (L ++ W.M) H xs kvs
/-- the same dict, locked -/
def FzN (P : Program) (w : World) (od : Obj) : Addr → List (NestedKey × Addr × V) → HO := fun l xs => .frz od (DN P w l xs)
/-- the world of a def that is lent a locked dict -/
def lckW (P : Program) (w : World) (K : PySem.W.Frag) (M : List Addr) (Hs : Hp) (tr : Trk M Hs) (l : Addr) (od : Obj) (xs : List (NestedKey × Addr × V)) (kvs : List (NestedKey × PyData)) : Wd Nat where
  M := M
  I := fun _ N H => (∀ b, b ∈ M → H b = Hs b) ∧ l ∉ N ∧ H l = some (.frz od (DN P w l xs)) ∧ KN K N H xs kvs
  loc := fun k N H H' e x ⟨h1, h2, h3, h4⟩ => ⟨fun b hb => (e b hb).trans (h1 b hb), h2, x l _ h2 h3, h4.map fun _ _ t => t.ext x⟩
  plus := fun k N N' H s _ ⟨h1, h2, h3, h4⟩ => ⟨h1, fun z => (s l z).elim h2 (fun q => by rw [q] at h3; cases h3), h3, h4.map fun _ _ t => t.plusAll s⟩
  trk := fun k N H h b hb z => tr b hb ((h.1 b hb).symm.trans z)
section
variable {P : Program} {w : World} {K : PySem.W.Frag} {γ : Type} {W : Wd γ} {ρ : Rho} {k : γ} {Φ : PyData → γ → Prop} {Z : Ps γ} {ty tv te tx : TE} {tr : L2.TA} {i j : Nat} {kvs : List (NestedKey × PyData)}
theorem rdAt_own (h0 : ρ[i]? = some (.ownN (DN P w) kvs)) : RdAt P w K W ρ i kvs := fun L0 H0 L H σ k S => by
  obtain ⟨l, xs, h1, _, h3, h4⟩ := S.slots i _ h0
  exact ⟨l, xs, h1, .inl h3, h4⟩
theorem rdAt_fz {od : Obj} (h0 : ρ[i]? = some (.ownN (FzN P w od) kvs)) : RdAt P w K W ρ i kvs := fun L0 H0 L H σ k S => by
  obtain ⟨l, xs, h1, _, h3, h4⟩ := S.slots i _ h0
  exact ⟨l, xs, h1, .inr ⟨od, h3⟩, h4⟩
theorem rdAt_lck {M : List Addr} {Hs : Hp} {trk : Trk M Hs} {l : Addr} {od : Obj} {xs : List (NestedKey × Addr × V)} (h0 : ρ[i]? = some (.raw (.ref l))) : RdAt P w K (lckW P w K M Hs trk l od xs kvs) ρ i kvs := fun L0 H0 L H σ k S => by
  obtain ⟨_, _, h3, h4⟩ := S.wd
  exact ⟨l, xs, S.slots i _ h0, .inr ⟨od, h3⟩, h4⟩
theorem ev_nget2 (hat : RdAt P w K W ρ i kvs) (h : EvW K W ty ρ k fun x k1 => EvW K W tx ρ k1 fun z k2 => ∃ key, IsK x key ∧ Φ ((lookN kvs key).getD z) k2) : EvW K W (tNGet2 P w K (tVar i) ty tx) ρ k Φ := fun L0 H0 L H σ S Q c => by
  obtain ⟨l, xs0, e1, e2, _⟩ := hat _ _ _ _ _ _ S
  refine ⟨_, e1, l, rfl, ⟨xs0, e2⟩, h L0 H0 L H σ S _ fun v x k1 H1 S1 ee t g => g L0 H0 L H1 σ S1 _ fun v2 z k2 H2 S2 ee2 t2 g2 => ?_⟩
  obtain ⟨key, hk, q⟩ := g2
  obtain ⟨l', xs, f1, f2, f3⟩ := hat _ _ _ _ _ _ S2
  rw [e1] at f1
  cases f1
  refine ⟨valN xs key, ⟨_, xs, kvs, key, f2, f3, keyY_of (t.ext (eM ee2)) hk, rfl⟩, ?_⟩
  rcases f3.look key with ⟨h1, h2⟩ | ⟨u, d', h1, h2, h3⟩
  · rw [h2] at q
    rw [h1]
    exact c v2 z k2 H2 S2 (ee.trans ee2) t2 q
  · rw [h2] at q
    rw [h1]
    exact c u d' k2 H2 S2 (ee.trans ee2) h3 q
theorem ev_nlen (hat : RdAt P w K W ρ i kvs) (q : Φ (.int ((kvs.length : Nat) : Int)) k) : EvW K W (tCB (rLenN P w K) (tCons (tVar i) tNil)) ρ k Φ := fun L0 H0 L H σ S Q c => by
  obtain ⟨l, xs, e1, e2, e3⟩ := hat _ _ _ _ _ _ S
  refine ⟨_, e1, l, _, xs, kvs, rfl, e2, e3, ?_⟩
  rw [e3.len]
  exact c _ _ k H S (Ext.refl _ _) (.int _) q
/-- d.setdefault(k, v), d one's own -/
theorem sw_nsetd (h0 : ρ[i]? = some (.ownN (DN P w) kvs)) (h : EvW K W ty ρ k fun x k1 => EvW K W tv ρ k1 fun d k2 => ∃ key, IsK x key ∧ kvs.length < 100000 ∧ Z.nx (ρ.set i (.ownN (DN P w) (if (lookN kvs key).isSome then kvs else putN kvs key d))) k2) : SW K W (tDrop (tNSetd P w K (tVar i) ty tv)) ρ k Z := fun L0 H0 L H σ D S nx _ _ _ => by
  obtain ⟨l, xs0, e1, e0, e2, _⟩ := S.slots i _ h0
  refine ⟨_, e1, l, rfl, ⟨xs0, .inl e2⟩, h L0 H0 L H σ S _ fun v x k1 H1 S1 ee t g => g L0 H0 L H1 σ S1 _ fun u d k2 H2 S2 ee2 t2 g2 => ?_⟩
  obtain ⟨key, hk, hz, q⟩ := g2
  obtain ⟨l', xs, f1, f2, f3, f4⟩ := S2.slots i _ h0
  rw [e1] at f1
  cases f1
  have t' := t.ext (eM (L := L) ee2)
  obtain ⟨b, rfl⟩ := tup_ref t' hk
  refine ⟨_, xs, _, key, b, f3, f4, rfl, keyY_of t' hk, Nat.lt_of_le_of_lt (show xs.length ≤ 99999 by rw [f4.len]; omega) (by decide), fun v hv => ?_, fun hn => ?_⟩
  · have hs : (lookN kvs key).isSome = true := by rw [← look_some f4 key, hv]; rfl
    rw [if_pos hs] at q
    have back : ρ.set i (.ownN (DN P w) kvs) = ρ := by
      apply List.ext_getElem?
      intro m
      by_cases e : i = m
      · subst e
        rw [List.getElem?_set_self', h0]
        rfl
      · rw [List.getElem?_set_ne e]
    rw [back] at q
    exact nx _ _ _ _ _ S2 q
  · have hs : ¬ (lookN kvs key).isSome = true := by rw [← look_some f4 key, hn]; exact Bool.false_ne_true
    rw [if_neg hs] at q
    exact nx _ _ _ _ _ (S2.put (s1 := .ownN (DN P w) (putN kvs key d)) h0 rfl rfl e1 f2 ⟨_, _, rfl, f2, upd_same, (f4.put hk.2.1 hk.2.2 t' t2).map fun _ _ t => t.ext (Ext.put (List.mem_append_left _ f2))⟩) q
/-! locked for a statement -/
theorem set_back {s1 s2 s : Slot} (h0 : ρ[i]? = some s) : (ρ.set i s1).set i s = ρ := by
  rw [List.set_set]
  apply List.ext_getElem?
  intro j
  by_cases ej : i = j
  · subst ej
    rw [List.getElem?_set_self', h0]
    rfl
  · rw [List.getElem?_set_ne ej]
theorem sw_lockN {j : Nat} (hij : i ≠ j) (h0 : ρ[i]? = some (.ownN (DN P w) kvs)) (h : ∀ od, EvW K W te (ρ.set i (.ownN (FzN P w od) kvs)) k fun d k1 => Z.nx (ρ.set j (.dat d)) k1) : SW K W (tLock (tAsg te (gName j))) ρ k Z := fun L0 H0 L H σ D S nx _ _ _ => by
  obtain ⟨l, xs, e1, e2, e3, e4⟩ := S.slots i _ h0
  refine ⟨l, DN P w l xs, e3, trivial, fun od => ?_⟩
  have nM := S.offM l e2
  have S1 : Stt K W L0 H0 L (upd H l (FzN P w od l xs)) σ (ρ.set i (.ownN (FzN P w od) kvs)) k := S.put (s1 := .ownN (FzN P w od) kvs) h0 rfl rfl e1 e2 ⟨l, xs, rfl, e2, upd_same, e4.map fun _ _ t => t.ext (Ext.put (List.mem_append_left _ e2))⟩
  refine h od L0 H0 L _ σ S1 _ fun v d k1 H1 S2 e t q => ?_
  have h1 : H1 l = some (.frz od (DN P w l xs)) := e l _ nM upd_same
  refine ⟨h1, ?_⟩
  have hi1 : (ρ.set i (.ownN (FzN P w od) kvs))[i]? = some (.ownN (FzN P w od) kvs) := by simp [(List.getElem?_eq_some_iff.mp h0).1]
  have f4 : KN K (L ++ W.M) H1 xs kvs := e4.map fun _ _ t => (t.ext (Ext.put (List.mem_append_left _ e2))).ext (eM e)
  have S3 := S2.put (o := DN P w l xs) (s1 := .ownN (DN P w) kvs) hi1 rfl rfl e1 e2 ⟨l, xs, rfl, e2, upd_same, f4.map fun _ _ t => t.ext (Ext.put (List.mem_append_left _ e2))⟩
  rw [set_back (s2 := .no) h0] at S3
  exact nx _ _ _ _ _ (S3.set j (t.ext (Ext.put (List.mem_append_left _ e2)))) q
/-! the keys, in a def that is lent the dict -/
theorem KN.at : ∀ {xs : List (NestedKey × Addr × V)} {kvs : List (NestedKey × PyData)} {N : List Addr} {H : Hp}, KN K N H xs kvs → ∀ (i : Nat) (key : NestedKey) (a : Addr) (v : V), xs[i]? = some (key, a, v) → ∃ e d, kvs[i]? = some (key, d) ∧ nkey e = some key ∧ T K N H (.ref a) e
  | _, _, _, _, .nil, i, key, a, v, e => by simp at e
  | _, _, _, _, .cons (e := e0) (d := d0) h1 h2 h3 h4 t, 0, key, a, v, e => by
    simp at e
    obtain ⟨rfl, rfl, rfl⟩ := e
    exact ⟨e0, d0, rfl, h1, h3⟩
  | _, _, _, _, .cons h1 h2 h3 h4 t, i + 1, key, a, v, e => by
    obtain ⟨e', d', a1, a2, a3⟩ := KN.at t i key a v (by simpa using e)
    exact ⟨e', d', by simpa using a1, a2, a3⟩
/-- the datum of a key of whole numbers -/
theorem nums_of : ∀ {ds : List PyData} {ns : List Nat}, nkeys ds = some (ns.map fun (n : Nat) => .num (n : Int)) → ds = ns.map fun (n : Nat) => .int (n : Int)
  | [], [], _ => rfl
  | [], n :: ns, h => by simp [nkeys] at h
  | d :: ds, [], h => by
    unfold nkeys at h
    split at h <;> simp at h
  | d :: ds, n :: ns, h => by
    unfold nkeys at h
    split at h
    · rename_i k ks e1 e2
      simp only [List.map_cons, Option.some.injEq, List.cons.injEq] at h
      obtain ⟨rfl, rfl⟩ := h
      rw [nums_of e2, List.map_cons]
      congr 1
      cases d with
      | int i => simp only [nkey, Option.some.injEq, NestedKey.num.injEq] at e1; rw [e1]
      | bool b => simp [nkey] at e1
      | none => simp [nkey] at e1
      | str x => simp [nkey] at e1
      | tuple xs => simp [nkey] at e1
      | list xs => simp [nkey] at e1
      | dict xs => simp [nkey] at e1
    · cases h
end
theorem dOf_tup {e : PyData} {ns : List Nat} (h : nkey e = some (.tup (ns.map fun (n : Nat) => .num (n : Int)))) : e = .tuple (ns.map fun (n : Nat) => .int (n : Int)) := by
  cases e with
  | tuple ds =>
    simp only [nkey, Option.map_eq_some_iff] at h
    obtain ⟨ks, h1, h2⟩ := h
    injection h2 with h2
    subst h2
    rw [nums_of h1]
  | int i => simp [nkey] at h
  | bool b => simp [nkey] at h
  | none => simp [nkey] at h
  | str x => simp [nkey] at h
  | list xs => simp [nkey] at h
  | dict xs => simp [nkey] at h
/-- a tuple of whole numbers as a key -/
def keyT (ns : List Nat) : NestedKey := .tup (ns.map fun (n : Nat) => .num (n : Int))
theorem depthAll_nums : ∀ ns : List Nat, NestedKey.depthAll (ns.map fun (n : Nat) => .num (n : Int)) = 0
  | [] => rfl
  | n :: ns => by
    rw [List.map_cons, NestedKey.depthAll, depthAll_nums ns]
    rfl
theorem nkeys_nums : ∀ ns : List Nat, nkeys (ns.map fun (n : Nat) => .int (n : Int)) = some (ns.map fun (n : Nat) => .num (n : Int))
  | [] => rfl
  | n :: ns => by
    rw [List.map_cons, nkeys, nkeys_nums ns]
    rfl
theorem isK_T (ns : List Nat) : IsK (.tuple (ns.map fun (n : Nat) => .int (n : Int))) (keyT ns) := by
  refine ⟨⟨_, rfl⟩, ?_, ?_⟩
  · unfold nkey
    rw [nkeys_nums]
    rfl
  · unfold keyT
    rw [NestedKey.depth, depthAll_nums]
    decide
theorem keyT_inj {a b : List Nat} (h : keyT a = keyT b) : a = b := by
  unfold keyT at h
  injection h with h
  have inj : ∀ (a b : List Nat), (a.map fun (n : Nat) => NestedKey.num (n : Int)) = (b.map fun (n : Nat) => .num (n : Int)) → a = b := fun a => by
    induction a with
    | nil =>
      intro b h
      cases b with
      | nil => rfl
      | cons y ys => simp at h
    | cons x xs ih =>
      intro b h
      cases b with
      | nil => simp at h
      | cons y ys =>
        rw [List.map_cons, List.map_cons] at h
        injection h with h1 h2
        injection h1 with h1
        rw [ih ys h2, Int.ofNat.inj h1]
  exact inj a b h
section
variable {P : Program} {w : World} {K : PySem.W.Frag} {ρ : Rho} {k : Nat} {i : Nat} {kvs : List (NestedKey × PyData)} {M : List Addr} {Hs : Hp} {trk : Trk M Hs} {l : Addr} {od : Obj} {xs : List (NestedKey × Addr × V)}
theorem ex_keysN {Ω : Nat → (Nat → PyData) → Nat → Prop} (ks : List (List Nat)) (h0 : ρ[i]? = some (.raw (.ref l))) (hk : kvs.map (·.1) = ks.map keyT) (q : Ω ks.length (fun j => .tuple ((ks.getD j []).map fun (n : Nat) => .int (n : Int))) k) : EvX K (lckW P w K M Hs trk l od xs kvs) (iKeysN P w (tVar i)) ρ k Ω := fun L0 H0 L H σ S R c => by
  obtain ⟨g1, g2, g3, g4⟩ := S.wd
  have nM : l ∉ M := fun z => g2 (List.mem_append_right _ z)
  have hlen : xs.length = ks.length := by
    have := congrArg List.length hk
    rw [List.length_map, List.length_map] at this
    rw [g4.len, this]
  refine ⟨_, S.slots i _ h0, l, od, xs, rfl, g3, c _ _ _ k H S (Ext.refl _ _) ?_ q⟩
  refine ⟨fun i' L' H' hi _ e => ⟨e l _ nM g3, by omega⟩, fun L' H' _ e => ⟨e l _ nM g3, Nat.le_of_eq hlen⟩, fun i' L' H' x H'' hi la e y => ?_⟩
  obtain ⟨rfl, key, a, v, h1, rfl⟩ := y
  obtain ⟨e', d, a1, a2, a3⟩ := KN.at g4 i' key a v h1
  have ek : key = keyT (ks.getD i' []) := by
    have h2 : (kvs.map (·.1))[i']? = some key := by rw [List.getElem?_map, a1]; rfl
    rw [hk, List.getElem?_map] at h2
    obtain ⟨ns, b1, b2⟩ := Option.map_eq_some_iff.mp h2
    rw [List.getD_eq_getElem?_getD, b1]
    exact b2.symm
  rw [ek] at a2
  rw [dOf_tup a2] at a3
  exact ⟨Same.refl _, la.T a3⟩
end
/-! ### a def that returns a new dict with tuples as keys -/
def spG (P : Program) (w : World) (K : PySem.W.Frag) (n : Nat) (R : List PyData → List (NestedKey × PyData) → Prop) : Sp := fun vs H Q _ => ∃ (N : List Addr) (ds : List PyData) (kvs : List (NestedKey × PyData)), TA K N H vs ds ∧ Trk N H ∧ ds.length = n ∧ R ds kvs ∧
  ∀ l xs H', Same H H' → H l = none → H' l = some (DN P w l xs) → KN K (l :: N) H' xs kvs → Q (.ref l) H'
/-- a def that is lent a locked dict, j data before it; it returns data -/
def spR (P : Program) (w : World) (K : PySem.W.Frag) (n j : Nat) (R : List PyData → List (NestedKey × PyData) → PyData → Prop) : Sp := fun vs H Q _ => ∃ (N : List Addr) (l : Addr) (od : Obj) (xs : List (NestedKey × Addr × V)) (kvs : List (NestedKey × PyData)) (ds : List PyData) (r : PyData),
  AX K N H vs ((ds.take j).map Sum.inl ++ .inr l :: (ds.drop j).map Sum.inl) ∧ l ∉ N ∧ Trk N H ∧ H l = some (.frz od (DN P w l xs)) ∧ KN K N H xs kvs ∧ ds.length + 1 = n ∧ j ≤ ds.length ∧ R ds kvs r ∧ ∀ v H', Same H H' → T K N H' v r → Q v H'
section
variable {P : Program} {w : World} {K : PySem.W.Frag} {n j i : Nat} {N : List Str} {vs : List V} {H : Hp} {Q : VK} {E : XK} {a b t : TS} {R : List PyData → List (NestedKey × PyData) → Prop} {RR : List PyData → List (NestedKey × PyData) → PyData → Prop}
theorem spG.len (h : spG P w K n R vs H Q E) : vs.length = n := by
  obtain ⟨_, _, _, ta, _, hl, _⟩ := h
  rw [ta.len]
  exact hl
theorem spR.len (h : spR P w K n j RR vs H Q E) : vs.length = n := by
  obtain ⟨_, _, _, _, _, ds, _, ax, _, _, _, _, hl, hj, _⟩ := h
  rw [ax.len, List.length_append, List.length_cons, List.length_map, List.length_map, List.length_take, List.length_drop]
  omega
/-- a; b; return x -/
theorem spG.ok (h : spG P w K n R vs H Q E)
    (hb : ∀ (W : Wd Nat) (ds : List PyData) (kvs : List (NestedKey × PyData)), R ds kvs → SW K W a (rest0 N ds) 0 ⟨fun ρ1 k1 => SW K W b ρ1 k1 ⟨fun ρ2 _ => ρ2[i]? = some (.ownN (DN P w) kvs), fun _ _ => False, fun _ _ => False, fun _ _ => False⟩, fun _ _ => False, fun _ _ => False, fun _ _ => False⟩) :
    tSeq a (tSeq b (tRet (tVar i))) { nx := fun _ H' => Q .non H', rt := Q } (L2.start N vs) H := by
  obtain ⟨M, ds, kvs, ta, trk, _, hR, q⟩ := h
  have S : Stt K (pureW M H trk) [] H [] H (L2.start N vs) (rest0 N ds) 0 := stt_start ta fun b _ => rfl
  refine hb (pureW M H trk) ds kvs hR [] H [] H _ { nx := (tSeq b (tRet (tVar i))) { nx := fun _ H' => Q .non H', rt := Q }, rt := Q } S (fun L1 H1 σ1 ρ1 k1 S1 g => ?_) (fun _ _ _ _ _ _ _ z => z.elim) (fun _ _ _ _ _ _ z => z.elim) (fun _ _ _ _ _ _ z => z.elim)
  refine g [] H L1 H1 σ1 { nx := (tRet (tVar i)) { nx := fun _ H' => Q .non H', rt := Q }, rt := Q } S1 (fun L2 H2 σ2 ρ2 k2 S2 g2 => ?_) (fun _ _ _ _ _ _ _ z => z.elim) (fun _ _ _ _ _ _ z => z.elim) (fun _ _ _ _ _ _ z => z.elim)
  obtain ⟨l, xs, f1, f2, f3, f4⟩ := S2.slots i _ g2
  refine ⟨_, f1, q l xs H2 (fun b o hb => ?_) ?_ f3 (f4.map fun _ _ t => t.off fun b hb => ?_)⟩
  · by_cases hm : b ∈ M
    · rw [S2.wd b hm]; exact hb
    · exact S2.base b o hm hb
  · rcases S2.fresh l f2 with z | z
    · exact nomatch z
    · exact z
  · rcases List.mem_cons.mp hb with rfl | hb
    · exact List.mem_append_left _ f2
    · exact List.mem_append_right _ hb
theorem spR.ok (h : spR P w K n j RR vs H Q E)
    (hb : ∀ (M : List Addr) (Hs : Hp) (tr : Trk M Hs) (l : Addr) (od : Obj) (xs : List (NestedKey × Addr × V)) (kvs : List (NestedKey × PyData)) (ds : List PyData) (r : PyData), RR ds kvs r →
      SW K (lckW P w K M Hs tr l od xs kvs) t (restX N ((ds.take j).map Sum.inl ++ .inr l :: (ds.drop j).map Sum.inl)) 0 ⟨fun _ _ => r = .none, fun d _ => d = r, fun _ _ => False, fun _ _ => False⟩) :
    t { nx := fun _ H' => Q .non H', rt := Q } (L2.start N vs) H := by
  obtain ⟨M, l, od, xs, kvs, ds, r, ax, hl, trk, e, kn, _, _, hR, q⟩ := h
  refine spX.ok (W := lckW P w K M H trk l od xs kvs) (Φ := fun d _ => d = r) ax ⟨fun _ _ => rfl, hl, e, kn⟩ (fun v d k' H' ee wi t' g => ?_) ((hb M H trk l od xs kvs ds r hR).mono (fun _ _ q => q.symm) (fun _ _ q => q) (fun _ _ q => q) (fun _ _ q => q))
  subst g
  refine q v H' (fun b o hb => ?_) t'
  by_cases hm : b ∈ M
  · rw [wi.1 b hm]; exact hb
  · exact ee b o hm hb
end
section
variable {P : Program} {w : World} {K : PySem.W.Frag} {γ : Type} {W : Wd γ} {ρ : Rho} {k : γ} {Φ : PyData → γ → Prop} {Z : Ps γ} {tr : L2.TA} {i j n : Nat} {R : List PyData → List (NestedKey × PyData) → Prop} {RR : List PyData → List (NestedKey × PyData) → PyData → Prop}
/-- x = f(..) -/
theorem sw_setG (h : EvA K W tr ρ k fun ds k1 => ds.length = n ∧ ∃ kvs, R ds kvs ∧ Z.nx (ρ.set i (.ownN (DN P w) kvs)) k1) : SW K W (tAsg (tCall (spG P w K n R) [] E0 tr) (gName i)) ρ k Z := fun L0 H0 L H σ D S nx _ _ _ =>
  h L0 H0 L H σ S _ fun vs ds k1 H1 S1 e1 ta g => by
    obtain ⟨hl, kvs, hR, g⟩ := g
    show spG P w K n R (vs ++ []) H1 _ E0
    rw [List.append_nil]
    refine ⟨L ++ W.M, ds, kvs, ta, S1.trk, hl, hR, fun l xs H' sm hn hl' kn => ?_⟩
    obtain ⟨S2, nat⟩ := S1.hide (o := DN P w l xs) hn
    have S3 := S2.same (H' := H') fun b o hb => by
      by_cases e : b = l
      · rw [e, upd_same] at hb
        rw [e, hl', hb]
      · rw [upd_ne e] at hb
        exact sm b o hb
    have S5 := S3.takeHid nat i (s0 := .ownN (DN P w) kvs) ⟨l, xs, rfl, by simp, hl', kn⟩
    exact nx _ _ _ _ _ S5 g
/-- f(a, b, x, c, d), x a locked dict of one's own -/
theorem ev_callR {a b c e : Nat} {od : Obj} {kvs : List (NestedKey × PyData)} {d0 d1 d3 d4 r : PyData} (ha : ρ[a]? = some (.dat d0)) (hb : ρ[b]? = some (.dat d1)) (hi : ρ[i]? = some (.ownN (FzN P w od) kvs)) (hc : ρ[c]? = some (.dat d3)) (he : ρ[e]? = some (.dat d4)) (hR : RR [d0, d1, d3, d4] kvs r) (q : Φ r k) :
    EvW K W (tCall (spR P w K 5 2 RR) [] E0 (tCons (tVar a) (tCons (tVar b) (tCons (tVar i) (tCons (tVar c) (tCons (tVar e) tNil)))))) ρ k Φ := fun L0 H0 L H σ S Q fin => by
  obtain ⟨v0, e0, t0⟩ := S.slots a _ ha
  obtain ⟨v1, e1, t1⟩ := S.slots b _ hb
  obtain ⟨l, xs, e2, m2, h2, t2⟩ := S.slots i _ hi
  obtain ⟨v3, e3, t3⟩ := S.slots c _ hc
  obtain ⟨v4, e4, t4⟩ := S.slots e _ he
  have h2 : H l = some (.frz od (DN P w l xs)) := h2
  have sub : ∀ x ∈ (L ++ W.M).filter (fun x => decide (x ≠ l)), x ∈ L ++ W.M := fun x hx => (List.mem_filter.mp hx).1
  have nl : l ∉ (L ++ W.M).filter fun x => decide (x ≠ l) := fun z => by simpa using (List.mem_filter.mp z).2
  refine ⟨v0, e0, v1, e1, _, e2, v3, e3, v4, e4, ?_⟩
  refine ⟨_, l, od, xs, kvs, [d0, d1, d3, d4], r, .dat (t0.off sub) (.dat (t1.off sub) (.fn (.dat (t3.off sub) (.dat (t4.off sub) .nil)))), nl, fun x hx => S.trk x (sub x hx), h2, t2.map fun _ _ t => t.off sub, rfl, (by decide : 2 ≤ 4), hR, fun v H' sm t => fin v r k H' (S.same sm) (Ext.same sm) (t.plusX fun x hx => ?_) q⟩
  by_cases ex : x = l
  · rw [ex, sm l _ h2]
    exact .inr trivial
  · exact .inl (List.mem_filter.mpr ⟨hx, by simpa using ex⟩)
end
end U

set_option Elab.async false
set_option linter.all false
set_option maxRecDepth 100000
set_option maxHeartbeats 2000000
/-! (int, text, int) < (int, text, int) -/
namespace U
open PySem PySem.Spec PyProof.Rows L2
def lt3B (i j : Int) (z u : Str) (m n : Int) : Bool := decide (i < j) || (decide (i = j) && (decide (z.cps.toList < u.cps.toList) || (decide (z = u) && decide (m < n))))
def rLtP3 (K : PySem.W.Frag) : R2 := fun x y H Q => ∃ i j z u m n, Dp K H x (.tuple [.int i, .str z, .int m]) ∧ Dp K H y (.tuple [.int j, .str u, .int n]) ∧ Q (.bl (lt3B i j z u m n)) H
theorem dataLt_trip (i j : Int) (z w : Str) (m n : Int) : PySem.W.dataLt (.tuple [.int i, .str z, .int m]) (.tuple [.int j, .str w, .int n]) = lt3B i j z w m n := by
  have e1 : PyData.eqv (.int i) (.int j) = decide (i = j) := by
    show (i == j) = _
    by_cases h : i = j <;> simp [h]
  have e2 : PyData.eqv (.str z) (.str w) = decide (z = w) := by
    show (z == w) = _
    by_cases h : z = w <;> simp [h]
  have e3 : PyData.eqv (.int m) (.int n) = decide (m = n) := by
    show (m == n) = _
    by_cases h : m = n <;> simp [h]
  have e0 : PyProof.Rows.lexLt PyProof.Rows.itemOrd (PySem.W.keyToksAll []) (PySem.W.keyToksAll []) = false := PyProof.Rows.lex_irrefl _
  rw [PySem.W.dataLt_tuple, PySem.W.dataLt_cons rfl, PySem.W.dataLt_cons rfl, PySem.W.dataLt_cons rfl, e1, e2, e3, PySem.W.dataLt_int, PySem.W.dataLt_str, PySem.W.dataLt_int, e0]
  unfold lt3B
  by_cases h : i = j
  · subst h
    by_cases h2 : z = w
    · subst h2
      have irr : ¬ (z.cps.toList < z.cps.toList) := List.lt_irrefl _
      by_cases h3 : m = n
      · subst h3
        simp [irr]
      · simp [irr, h3]
    · simp [h2]
  · simp [h]
section
variable {K : PySem.W.Frag} {γ : Type} {W : Wd γ} {ρ : Rho} {k : γ} {Φ : PyData → γ → Prop}
theorem op_ltP3 {X : Cx} (hu : X.A.units + 9 < cLine) : OpR X (compareOp .Lt) (rLtP3 X.K) := by
  intro pins s σ H x y v u Q I rx ry h
  obtain ⟨i, j, z, w, m, n, hd, he, q⟩ := h
  obtain ⟨as, r1⟩ := Dp.reads I _ x v hd rx
  obtain ⟨bs, r2⟩ := Dp.reads I _ y u he ry
  have al : PySem.W.alike (.tuple [.int i, .str z, .int m]) (.tuple [.int j, .str w, .int n]) = true := rfl
  have dp : X.A.units + min (PyData.depth (.tuple [.int i, .str z, .int m])) (PyData.depth (.tuple [.int j, .str w, .int n])) < cLine := by
    show X.A.units + 1 < cLine
    omega
  have key := PySem.W.rcLt_alike (.tuple [.int i, .str z, .int m]) (.tuple [.int j, .str w, .int n]) X.A s v u as bs r1 r2 al (by simp) dp X.prog X.w X.xe (EP X pins σ Q)
  rw [dataLt_trip] at key
  exact key ⟨.bl _, H, I, rfl, q⟩
theorem kLtP3 (K : PySem.W.Frag) {X : Cx} {k : Nat} (hr : Room k X.A) (h : X.K = K := by rfl) : OpR X (compareOp .Lt) (rLtP3 K) := by subst h; exact op_ltP3 (room9 hr)
theorem rd_ltP3 {i j m n : Int} {z u : Str} (q : Φ (.bool (lt3B i j z u m n)) k) : RD K W (rLtP3 K) (.tuple [.int i, .str z, .int m]) (.tuple [.int j, .str u, .int n]) ρ k Φ := rd_ q fun N H vx vy tx ty Q c => by
  cases tx with
  | tup n1 h1 t1 =>
    cases t1 with
    | cons a1 t1 =>
      obtain ⟨b, b2, rfl, c1, d1⟩ := t1.two_
      cases ty with
      | tup n2 h2 t2 =>
        cases t2 with
        | cons a2 t2 =>
          obtain ⟨b', b2', rfl, c2, d2⟩ := t2.two_
          cases a1; cases c1; cases d1; cases a2; cases c2; cases d2
          exact ⟨i, j, z, u, m, n, .tup (SqT.of h1) (.cons (.int _) (.cons (.str _) (.cons (.int _) .nil))), .tup (SqT.of h2) (.cons (.int _) (.cons (.str _) (.cons (.int _) .nil))), c _ (.bl _)⟩
end
end U

set_option Elab.async false
set_option linter.all false
set_option maxRecDepth 100000
set_option maxHeartbeats 2000000
namespace Law
open PySem PySem.Spec PyProof.Rows L2 U
local macro_rules | `(tactic| walk_at "st") => `(tactic| simp only [rest0, rest1, List.map_cons, List.map_nil, List.length_cons, List.length_nil, List.cons_append, List.nil_append, Nat.reduceAdd, Nat.reduceSub, Nat.zero_add, Nat.sub_self, List.replicate])
local macro_rules | `(tactic| walk_at "go") => `(tactic| repeat (first
  | ((with_reducible apply ev_var); · exact rfl)
  | with_reducible refine ev_int ?_
  | with_reducible refine ev_str ?_
  | with_reducible refine ev_non ?_
  | with_reducible refine ev_bl ?_
  | with_reducible refine rd_add ?_
  | with_reducible refine rd_sub ?_
  | with_reducible refine rd_lt ?_
  | with_reducible refine rd_le ?_
  | with_reducible refine rd_gt ?_
  | with_reducible refine rd_ge ?_
  | with_reducible refine rd_eqI ?_
  | with_reducible refine rd_neI ?_
  | with_reducible refine rd_neX0 ?_
  | with_reducible refine rd_eqX0 ?_
  | with_reducible refine rd_neXX ?_
  | with_reducible refine rd_eqXX ?_
  | with_reducible refine rd_eqX ?_
  | with_reducible refine rd_neX ?_
  | ((with_reducible apply rd_eq); · exact rfl)
  | ((with_reducible apply rd_ne); · exact rfl)
  | with_reducible refine rd_isN ?_
  | with_reducible refine rd_notN ?_
  | with_reducible refine rd_ixT0 ?_
  | with_reducible refine rd_ixT1 ?_
  | with_reducible refine rd_ixT2 ?_
  | with_reducible refine rd_inX ?_
  | with_reducible refine rd_ninX ?_
  | with_reducible refine rd_inS ?_
  | with_reducible refine rd_ninS ?_
  | ((with_reducible apply ev_bix); · exact rfl)
  | with_reducible refine ev_op ?_
  | with_reducible refine et_test ?_
  | with_reducible refine et_B ?_
  | with_reducible refine et_and ?_
  | with_reducible refine et_or ?_
  | with_reducible refine et_not ?_
  | with_reducible refine et_yes ?_
  | with_reducible refine et_truth ?_
  | with_reducible refine ev_andV ?_
  | with_reducible refine ev_orV ?_
  | with_reducible refine ev_notV ?_
  | with_reducible refine ev_if ?_
  | with_reducible refine ev_chain ?_
  | with_reducible refine ea_nil ?_
  | with_reducible refine ea_cons ?_
  | (with_reducible refine ev_tup ?_)
  | (with_reducible refine ev_lst ?_)
  | with_reducible refine ev_dnew ?_
  | with_reducible refine ev_isi ?_
  | with_reducible refine ev_cb ?_
  | with_reducible refine ev_un ?_
  | with_reducible refine ru_neg ?_
  | with_reducible refine rc_lenL ?_
  | with_reducible refine rc_lenT ?_
  | with_reducible refine rc_int1 ?_
  | with_reducible refine rc_max2 ?_
  | with_reducible refine rc_min2 ?_
  | with_reducible refine rc_abs ?_
  | with_reducible refine rc_ord ?_
  | with_reducible refine rc_tupL ?_
  | with_reducible refine rc_tupT ?_
  | with_reducible refine rc_listL ?_
  | with_reducible refine rc_listT ?_
  | with_reducible refine ev_sl ?_
  | with_reducible refine eo_none ?_
  | with_reducible refine eo_some ?_
  | with_reducible refine rsl_T ?_
  | with_reducible refine rsl_L ?_
  | with_reducible refine ev_join ?_
  | with_reducible refine ev_index ?_
  | ((with_reducible apply ev_draw); · exact rfl)
  | ((with_reducible apply ev_one); · exact rfl)
  | ((with_reducible apply ev_callD); · exact rfl)
  | with_reducible refine ev_call ?_
  | with_reducible refine sw_seq ?_
  | with_reducible refine sw_nx ?_
  | with_reducible refine sw_ret ?_
  | with_reducible refine sw_retN ?_
  | with_reducible refine sw_brk ?_
  | with_reducible refine sw_ct ?_
  | with_reducible refine sw_if ?_
  | with_reducible refine sw_ownRep ?_
  | with_reducible refine ey_nil ?_
  | ((with_reducible apply sw_bset); · exact rfl)
  | with_reducible refine sw_par ?_
  | with_reducible refine sw_set ?_
  | with_reducible refine sw_asg ?_
  | with_reducible refine sw_drop ?_
  | with_reducible refine tg_name trivial ?_
  | ((with_reducible apply tg_name); · simp; done)
  | ((with_reducible apply tg_tup); · exact rfl)
  | with_reducible refine tgs_cons ?_
  | with_reducible refine tgs_nil ?_
  | with_reducible refine ei_list ?_
  | with_reducible refine ei_tup ?_
  | with_reducible refine ei_str ?_
  | with_reducible refine ei_rng1 ?_
  | with_reducible refine ei_rng2 ?_
  | with_reducible refine ei_enumL ?_
  | with_reducible refine ei_enumT ?_
  | with_reducible refine ei_enumS ?_
  | (with_reducible rw [if_pos rfl])
  | (with_reducible rw [if_pos trivial])
  | (with_reducible rw [if_neg not_false])
  | (with_reducible rw [if_neg Bool.false_ne_true])
  | (refine ⟨_, rfl, ?_⟩)
  | (refine ⟨_, _, rfl, ?_⟩)
  | (refine ⟨_, _, _, rfl, ?_⟩)
  | (refine ⟨_, _, _, _, rfl, ?_⟩)
  | (refine ⟨_, _, _, _, _, rfl, ?_⟩)
  | (refine ⟨_, _, _, _, _, _, rfl, ?_⟩)
  | ((with_reducible refine And.intro ?_ ?_); · decide)
  | ((with_reducible refine And.intro ?_ ?_); · (simp only [List.length_cons, List.length_nil, Nat.reduceAdd, Nat.reduceLeDiff, Nat.zero_add]; done))
  | (with_reducible refine fun _ : True => ?_)
  | (with_reducible refine fun _ : true = true => ?_)
  | (dsimp only [wipeR, List.set_cons_succ, List.set_cons_zero])
  | (with_reducible rw [Bool.not_true])
  | (with_reducible rw [Bool.not_false])))
local macro_rules | `(tactic| walk_at "ev") => `(tactic| repeat (first
  | ((with_reducible apply ev_var); · exact rfl)
  | with_reducible refine ev_int ?_
  | with_reducible refine ev_str ?_
  | with_reducible refine ev_non ?_
  | with_reducible refine ev_bl ?_
  | with_reducible refine rd_add ?_
  | with_reducible refine rd_sub ?_
  | with_reducible refine rd_lt ?_
  | with_reducible refine rd_le ?_
  | with_reducible refine rd_gt ?_
  | with_reducible refine rd_ge ?_
  | with_reducible refine rd_eqI ?_
  | with_reducible refine rd_neI ?_
  | with_reducible refine rd_neX0 ?_
  | with_reducible refine rd_eqX0 ?_
  | with_reducible refine rd_neXX ?_
  | with_reducible refine rd_eqXX ?_
  | with_reducible refine rd_eqX ?_
  | with_reducible refine rd_neX ?_
  | ((with_reducible apply rd_eq); · exact rfl)
  | ((with_reducible apply rd_ne); · exact rfl)
  | with_reducible refine rd_isN ?_
  | with_reducible refine rd_notN ?_
  | with_reducible refine rd_ixT0 ?_
  | with_reducible refine rd_ixT1 ?_
  | with_reducible refine rd_ixT2 ?_
  | with_reducible refine rd_inX ?_
  | with_reducible refine rd_ninX ?_
  | with_reducible refine rd_inS ?_
  | with_reducible refine rd_ninS ?_
  | ((with_reducible apply ev_bix); · exact rfl)
  | with_reducible refine ev_op ?_
  | with_reducible refine et_test ?_
  | with_reducible refine et_B ?_
  | with_reducible refine et_and ?_
  | with_reducible refine et_or ?_
  | with_reducible refine et_not ?_
  | with_reducible refine et_yes ?_
  | with_reducible refine et_truth ?_
  | with_reducible refine ev_andV ?_
  | with_reducible refine ev_orV ?_
  | with_reducible refine ev_notV ?_
  | with_reducible refine ev_if ?_
  | with_reducible refine ev_chain ?_
  | with_reducible refine ea_nil ?_
  | with_reducible refine ea_cons ?_
  | (with_reducible refine ev_tup ?_)
  | (with_reducible refine ev_lst ?_)
  | with_reducible refine ev_dnew ?_
  | with_reducible refine ev_isi ?_
  | with_reducible refine ev_cb ?_
  | with_reducible refine ev_un ?_
  | with_reducible refine ru_neg ?_
  | with_reducible refine rc_lenL ?_
  | with_reducible refine rc_lenT ?_
  | with_reducible refine rc_int1 ?_
  | with_reducible refine rc_max2 ?_
  | with_reducible refine rc_min2 ?_
  | with_reducible refine rc_abs ?_
  | with_reducible refine rc_ord ?_
  | with_reducible refine rc_tupL ?_
  | with_reducible refine rc_tupT ?_
  | with_reducible refine rc_listL ?_
  | with_reducible refine rc_listT ?_
  | with_reducible refine ev_sl ?_
  | with_reducible refine eo_none ?_
  | with_reducible refine eo_some ?_
  | with_reducible refine rsl_T ?_
  | with_reducible refine rsl_L ?_
  | with_reducible refine ev_join ?_
  | with_reducible refine ev_index ?_
  | ((with_reducible apply ev_draw); · exact rfl)
  | ((with_reducible apply ev_one); · exact rfl)
  | ((with_reducible apply ev_callD); · exact rfl)
  | with_reducible refine ev_call ?_
  | with_reducible refine ey_nil ?_
  | with_reducible refine tg_name trivial ?_
  | ((with_reducible apply tg_name); · simp; done)
  | ((with_reducible apply tg_tup); · exact rfl)
  | with_reducible refine tgs_cons ?_
  | with_reducible refine tgs_nil ?_
  | with_reducible refine ei_list ?_
  | with_reducible refine ei_tup ?_
  | with_reducible refine ei_str ?_
  | with_reducible refine ei_rng1 ?_
  | with_reducible refine ei_rng2 ?_
  | with_reducible refine ei_enumL ?_
  | with_reducible refine ei_enumT ?_
  | with_reducible refine ei_enumS ?_
  | (with_reducible rw [if_pos rfl])
  | (with_reducible rw [if_pos trivial])
  | (with_reducible rw [if_neg not_false])
  | (with_reducible rw [if_neg Bool.false_ne_true])
  | (refine ⟨_, rfl, ?_⟩)
  | (refine ⟨_, _, rfl, ?_⟩)
  | (refine ⟨_, _, _, rfl, ?_⟩)
  | (refine ⟨_, _, _, _, rfl, ?_⟩)
  | (refine ⟨_, _, _, _, _, rfl, ?_⟩)
  | (refine ⟨_, _, _, _, _, _, rfl, ?_⟩)
  | ((with_reducible refine And.intro ?_ ?_); · decide)
  | ((with_reducible refine And.intro ?_ ?_); · (simp only [List.length_cons, List.length_nil, Nat.reduceAdd, Nat.reduceLeDiff, Nat.zero_add]; done))
  | (with_reducible refine fun _ : True => ?_)
  | (with_reducible refine fun _ : true = true => ?_)
  | (dsimp only [wipeR, List.set_cons_succ, List.set_cons_zero])
  | (with_reducible rw [Bool.not_true])
  | (with_reducible rw [Bool.not_false])))
local macro_rules | `(tactic| walk_at "gof") => `(tactic| repeat (first
  | ((with_reducible apply ev_var); · exact rfl)
  | with_reducible refine ev_int ?_
  | with_reducible refine ev_str ?_
  | with_reducible refine ev_non ?_
  | with_reducible refine ev_bl ?_
  | with_reducible refine rd_add ?_
  | with_reducible refine rd_sub ?_
  | with_reducible refine rd_lt ?_
  | with_reducible refine rd_le ?_
  | with_reducible refine rd_gt ?_
  | with_reducible refine rd_ge ?_
  | with_reducible refine rd_eqI ?_
  | with_reducible refine rd_neI ?_
  | with_reducible refine rd_neX0 ?_
  | with_reducible refine rd_eqX0 ?_
  | with_reducible refine rd_neXX ?_
  | with_reducible refine rd_eqXX ?_
  | with_reducible refine rd_eqX ?_
  | with_reducible refine rd_neX ?_
  | ((with_reducible apply rd_eq); · exact rfl)
  | ((with_reducible apply rd_ne); · exact rfl)
  | with_reducible refine rd_isN ?_
  | with_reducible refine rd_notN ?_
  | with_reducible refine rd_ixT0 ?_
  | with_reducible refine rd_ixT1 ?_
  | with_reducible refine rd_ixT2 ?_
  | with_reducible refine rd_inX ?_
  | with_reducible refine rd_ninX ?_
  | with_reducible refine rd_inS ?_
  | with_reducible refine rd_ninS ?_
  | ((with_reducible apply ev_bix); · exact rfl)
  | with_reducible refine ev_op ?_
  | with_reducible refine et_test ?_
  | with_reducible refine et_B ?_
  | with_reducible refine et_and ?_
  | with_reducible refine et_or ?_
  | with_reducible refine et_not ?_
  | with_reducible refine et_yes ?_
  | with_reducible refine et_truth ?_
  | with_reducible refine ev_andV ?_
  | with_reducible refine ev_orV ?_
  | with_reducible refine ev_notV ?_
  | with_reducible refine ev_if ?_
  | with_reducible refine ev_chain ?_
  | with_reducible refine ea_nil ?_
  | with_reducible refine ea_cons ?_
  | (with_reducible refine ev_tup ?_)
  | (with_reducible refine ev_lst ?_)
  | with_reducible refine ev_dnew ?_
  | with_reducible refine ev_isi ?_
  | with_reducible refine ev_cb ?_
  | with_reducible refine ev_un ?_
  | with_reducible refine ru_neg ?_
  | with_reducible refine rc_lenL ?_
  | with_reducible refine rc_lenT ?_
  | with_reducible refine rc_int1 ?_
  | with_reducible refine rc_max2 ?_
  | with_reducible refine rc_min2 ?_
  | with_reducible refine rc_abs ?_
  | with_reducible refine rc_ord ?_
  | with_reducible refine rc_tupL ?_
  | with_reducible refine rc_tupT ?_
  | with_reducible refine rc_listL ?_
  | with_reducible refine rc_listT ?_
  | with_reducible refine ev_sl ?_
  | with_reducible refine eo_none ?_
  | with_reducible refine eo_some ?_
  | with_reducible refine rsl_T ?_
  | with_reducible refine rsl_L ?_
  | with_reducible refine ev_join ?_
  | with_reducible refine ev_index ?_
  | ((with_reducible apply ev_draw); · exact rfl)
  | ((with_reducible apply ev_one); · exact rfl)
  | ((with_reducible apply ev_callD); · exact rfl)
  | with_reducible refine ev_call ?_
  | with_reducible refine sw_seq ?_
  | with_reducible refine sw_nx ?_
  | with_reducible refine sw_ret ?_
  | with_reducible refine sw_retN ?_
  | with_reducible refine sw_brk ?_
  | with_reducible refine sw_ct ?_
  | with_reducible refine sw_if ?_
  | with_reducible refine sw_ownRep ?_
  | with_reducible refine ey_nil ?_
  | ((with_reducible apply sw_bset); · exact rfl)
  | with_reducible refine sw_par ?_
  | with_reducible refine sw_set ?_
  | with_reducible refine sw_asg ?_
  | with_reducible refine sw_for ?_
  | with_reducible refine sw_drop ?_
  | with_reducible refine tg_name trivial ?_
  | ((with_reducible apply tg_name); · simp; done)
  | ((with_reducible apply tg_tup); · exact rfl)
  | with_reducible refine tgs_cons ?_
  | with_reducible refine tgs_nil ?_
  | with_reducible refine ei_list ?_
  | with_reducible refine ei_tup ?_
  | with_reducible refine ei_str ?_
  | with_reducible refine ei_rng1 ?_
  | with_reducible refine ei_rng2 ?_
  | with_reducible refine ei_enumL ?_
  | with_reducible refine ei_enumT ?_
  | with_reducible refine ei_enumS ?_
  | (with_reducible rw [if_pos rfl])
  | (with_reducible rw [if_pos trivial])
  | (with_reducible rw [if_neg not_false])
  | (with_reducible rw [if_neg Bool.false_ne_true])
  | (refine ⟨_, rfl, ?_⟩)
  | (refine ⟨_, _, rfl, ?_⟩)
  | (refine ⟨_, _, _, rfl, ?_⟩)
  | (refine ⟨_, _, _, _, rfl, ?_⟩)
  | (refine ⟨_, _, _, _, _, rfl, ?_⟩)
  | (refine ⟨_, _, _, _, _, _, rfl, ?_⟩)
  | ((with_reducible refine And.intro ?_ ?_); · decide)
  | ((with_reducible refine And.intro ?_ ?_); · (simp only [List.length_cons, List.length_nil, Nat.reduceAdd, Nat.reduceLeDiff, Nat.zero_add]; done))
  | (with_reducible refine fun _ : True => ?_)
  | (with_reducible refine fun _ : true = true => ?_)
  | (dsimp only [wipeR, List.set_cons_succ, List.set_cons_zero])
  | (with_reducible rw [Bool.not_true])
  | (with_reducible rw [Bool.not_false])))
local macro_rules | `(tactic| walk_at "tg") => `(tactic| repeat (first
  | with_reducible refine tg_name trivial ?_
  | ((with_reducible apply tg_name); · simp; done)
  | ((with_reducible apply tg_tup); · exact rfl)
  | with_reducible refine tgs_cons ?_
  | with_reducible refine tgs_nil ?_
  | (dsimp only [wipeR, List.set_cons_succ, List.set_cons_zero])
  | (with_reducible rw [Bool.not_true])
  | (with_reducible rw [Bool.not_false])))
local macro_rules | `(tactic| walk_at "le") => `(tactic| repeat (first | exact Le.nil | refine Le.no ?_ | refine Le.same ?_))



def top (i : Nat) : Stmt := PySem.Challenge.pw_unitlimits_k47_roads_that_part.main.body.getD i (.Pass ⟨0, 0, 0, 0⟩)
abbrev s_letter_number : Stmt := top 7
abbrev N_letter_number : List Str := ["letter"]
theorem sc_letter_number : FnScope N_letter_number ["letter"] (defScope s_letter_number) := ⟨rfl, rfl, rfl, by decide +kernel, rfl, by decide +kernel, by decide +kernel⟩
abbrev s_word_to : Stmt := top 9
abbrev N_word_to : List Str := ["came", "at", "letters", "letter"]
theorem sc_word_to : FnScope N_word_to ["came", "at"] (defScope s_word_to) := ⟨rfl, rfl, rfl, by decide +kernel, rfl, by decide +kernel, by decide +kernel⟩
abbrev s_least_counts : Stmt := top 4
abbrev N_least_counts : List Str := ["steps", "begins", "least", "state", "waiting", "at", "target", "count", "total"]
theorem sc_least_counts : FnScope N_least_counts ["steps", "begins"] (defScope s_least_counts) := ⟨rfl, rfl, rfl, by decide +kernel, rfl, by decide +kernel, by decide +kernel⟩
abbrev s__turned : Stmt := top 3
abbrev N__turned : List Str := ["steps", "back", "state", "pairs", "target", "count", "_"]
theorem sc__turned : FnScope N__turned ["steps"] (defScope s__turned) := ⟨rfl, rfl, rfl, by decide +kernel, rfl, by decide +kernel, by decide +kernel⟩
abbrev s_within : Stmt := top 2
abbrev N_within : List Str := ["kind", "unit", "most", "letters", "rows", "ends", "steps", "ahead", "behind", "room", "kept", "row", "so_far", "last", "count", "end", "target", "state"]
theorem sc_within : FnScope N_within ["kind", "unit", "most"] (defScope s_within) := ⟨rfl, rfl, rfl, by decide +kernel, rfl, by decide +kernel, by decide +kernel⟩
abbrev s_trimmed : Stmt := top 1
abbrev N_trimmed : List Str := ["kind"]
theorem sc_trimmed : FnScope N_trimmed ["kind"] (defScope s_trimmed) := ⟨rfl, rfl, rfl, by decide +kernel, rfl, by decide +kernel, by decide +kernel⟩
abbrev s_comes_to : Stmt := top 13
abbrev N_comes_to : List Str := ["units", "road", "word", "number", "place", "index"]
theorem sc_comes_to : FnScope N_comes_to ["units", "road", "word", "number"] (defScope s_comes_to) := ⟨rfl, rfl, rfl, by decide +kernel, rfl, by decide +kernel, by decide +kernel⟩
abbrev s__read : Stmt := top 14
abbrev N__read : List Str := ["unit", "word", "place", "number"]
theorem sc__read : FnScope N__read ["unit", "word", "place", "number"] (defScope s__read) := ⟨rfl, rfl, rfl, by decide +kernel, rfl, by decide +kernel, by decide +kernel⟩
abbrev s__left : Stmt := top 19
abbrev N__left : List Str := ["units", "rest", "letter", "at", "index"]
theorem sc__left : FnScope N__left ["units", "rest", "letter"] (defScope s__left) := ⟨rfl, rfl, rfl, by decide +kernel, rfl, by decide +kernel, by decide +kernel⟩
abbrev s__positions : Stmt := top 17
abbrev N__positions : List Str := ["one", "other", "most", "positions", "road", "at"]
theorem sc__positions : FnScope N__positions ["one", "other", "most"] (defScope s__positions) := ⟨rfl, rfl, rfl, by decide +kernel, rfl, by decide +kernel, by decide +kernel⟩
abbrev s__onward : Stmt := top 18
abbrev N__onward : List Str := ["units", "road", "positions", "most", "letter", "count", "behind", "onward", "number", "rest"]
theorem sc__onward : FnScope N__onward ["units", "road", "positions", "most", "letter"] (defScope s__onward) := ⟨rfl, rfl, rfl, by decide +kernel, rfl, by decide +kernel, by decide +kernel⟩
abbrev s__pair_on : Stmt := top 20
abbrev N__pair_on : List Str := ["onward", "here", "there", "most"]
theorem sc__pair_on : FnScope N__pair_on ["onward", "here", "there", "most"] (defScope s__pair_on) := ⟨rfl, rfl, rfl, by decide +kernel, rfl, by decide +kernel, by decide +kernel⟩
abbrev s__first_unlike : Stmt := top 16
abbrev N__first_unlike : List Str := ["kind", "units", "one", "other", "most", "letters", "rows", "ends", "positions", "onward", "found", "seen", "came", "at", "letter", "items_on", "state", "here", "there", "item", "number"]
theorem sc__first_unlike : FnScope N__first_unlike ["kind", "units", "one", "other", "most"] (defScope s__first_unlike) := ⟨rfl, rfl, rfl, by decide +kernel, rfl, by decide +kernel, by decide +kernel⟩
abbrev s_unlike_roads : Stmt := top 15
abbrev N_unlike_roads : List Str := ["kind", "units", "one", "other", "most", "word", "numbers", "number"]
theorem sc_unlike_roads : FnScope N_unlike_roads ["kind", "units", "one", "other", "most"] (defScope s_unlike_roads) := ⟨rfl, rfl, rfl, by decide +kernel, rfl, by decide +kernel, by decide +kernel⟩
abbrev s__law_deck : Stmt := top 22
abbrev N__law_deck : List Str := ["_law_script", "_law_cell"]
theorem sc__law_deck : FnScope N__law_deck ["_law_script"] (defScope s__law_deck) := ⟨rfl, rfl, rfl, by decide +kernel, rfl, by decide +kernel, by decide +kernel⟩
abbrev s__law_draw : Stmt := top 23
abbrev N__law_draw : List Str := ["_law_deck_here", "_law_most", "_law_cell", "_law_at", "_law_mixed"]
theorem sc__law_draw : FnScope N__law_draw ["_law_deck_here", "_law_most"] (defScope s__law_draw) := ⟨rfl, rfl, rfl, by decide +kernel, rfl, by decide +kernel, by decide +kernel⟩
abbrev s__law_one : Stmt := top 24
abbrev N__law_one : List Str := ["_law_deck_here", "_law_items"]
theorem sc__law_one : FnScope N__law_one ["_law_deck_here", "_law_items"] (defScope s__law_one) := ⟨rfl, rfl, rfl, by decide +kernel, rfl, by decide +kernel, by decide +kernel⟩
abbrev s__law_count : Stmt := top 30
abbrev N__law_count : List Str := ["_law_unit_here", "_law_word", "_law_letter"]
theorem sc__law_count : FnScope N__law_count ["_law_unit_here", "_law_word"] (defScope s__law_count) := ⟨rfl, rfl, rfl, by decide +kernel, rfl, by decide +kernel, by decide +kernel⟩
abbrev s__law_kind : Stmt := top 25
abbrev N__law_kind : List Str := ["_law_deck_here", "_law_most", "_law_states", "_law_letters", "_law_size", "_law_rows", "_law_ends", "_law_k", "_law_some", "_law_letter"]
theorem sc__law_kind : FnScope N__law_kind ["_law_deck_here", "_law_most", "_law_states"] (defScope s__law_kind) := ⟨rfl, rfl, rfl, by decide +kernel, rfl, by decide +kernel, by decide +kernel⟩
abbrev s__law_is_of : Stmt := top 26
abbrev N__law_is_of : List Str := ["_law_kind_here", "_law_word", "_law_state", "_law_letter"]
theorem sc__law_is_of : FnScope N__law_is_of ["_law_kind_here", "_law_word"] (defScope s__law_is_of) := ⟨rfl, rfl, rfl, by decide +kernel, rfl, by decide +kernel, by decide +kernel⟩
abbrev s__law_words : Stmt := top 27
abbrev N__law_words : List Str := ["_law_letters", "_law_size", "_law_found", "_law_k", "_law_further", "_law_word", "_law_letter"]
theorem sc__law_words : FnScope N__law_words ["_law_letters", "_law_size"] (defScope s__law_words) := ⟨rfl, rfl, rfl, by decide +kernel, rfl, by decide +kernel, by decide +kernel⟩
abbrev s__law_all : Stmt := top 28
abbrev N__law_all : List Str := ["_law_kind_here", "_law_most", "_law_found", "_law_size", "_law_word"]
theorem sc__law_all : FnScope N__law_all ["_law_kind_here", "_law_most"] (defScope s__law_all) := ⟨rfl, rfl, rfl, by decide +kernel, rfl, by decide +kernel, by decide +kernel⟩
abbrev s__law_far : Stmt := top 29
abbrev N__law_far : List Str := ["_law_deck_here", "_law_kind_here", "_law_wide", "_law_found", "_law_turn", "_law_word", "_law_state", "_law_more", "_law_some", "_law_at", "_law_k"]
theorem sc__law_far : FnScope N__law_far ["_law_deck_here", "_law_kind_here", "_law_wide"] (defScope s__law_far) := ⟨rfl, rfl, rfl, by decide +kernel, rfl, by decide +kernel, by decide +kernel⟩
abbrev s__law_long : Stmt := top 32
abbrev N__law_long : List Str := ["_law_deck_here", "_law_letters", "_law_size", "_law_rows", "_law_k", "_law_row"]
theorem sc__law_long : FnScope N__law_long ["_law_deck_here", "_law_letters"] (defScope s__law_long) := ⟨rfl, rfl, rfl, by decide +kernel, rfl, by decide +kernel, by decide +kernel⟩
abbrev s__law_some_kind : Stmt := top 33
abbrev N__law_some_kind : List Str := ["_law_deck_here", "_law_most"]
theorem sc__law_some_kind : FnScope N__law_some_kind ["_law_deck_here", "_law_most"] (defScope s__law_some_kind) := ⟨rfl, rfl, rfl, by decide +kernel, rfl, by decide +kernel, by decide +kernel⟩
abbrev s_law : Stmt := top 38
abbrev N_law : List Str := ["_law_script", "_law_deck_here", "_law_turn", "_law_kind_here", "_law_units", "_law_one_here", "_law_other", "_law_most", "_law_told", "_law_word", "_law_number", "_law_some"]
theorem sc_law : FnScope N_law ["_law_script"] (defScope s_law) := ⟨rfl, rfl, rfl, by decide +kernel, rfl, by decide +kernel, by decide +kernel⟩
abbrev s__law_road : Stmt := top 34
abbrev N__law_road : List Str := ["_law_deck_here", "_law_units", "_law_k"]
theorem sc__law_road : FnScope N__law_road ["_law_deck_here", "_law_units"] (defScope s__law_road) := ⟨rfl, rfl, rfl, by decide +kernel, rfl, by decide +kernel, by decide +kernel⟩
abbrev s__law_read : Stmt := top 35
abbrev N__law_read : List Str := ["_law_unit_here", "_law_word", "_law_number", "_law_place"]
theorem sc__law_read : FnScope N__law_read ["_law_unit_here", "_law_word", "_law_number"] (defScope s__law_read) := ⟨rfl, rfl, rfl, by decide +kernel, rfl, by decide +kernel, by decide +kernel⟩
abbrev s__law_comes : Stmt := top 36
abbrev N__law_comes : List Str := ["_law_units", "_law_road_here", "_law_word", "_law_number", "_law_place", "_law_index"]
theorem sc__law_comes : FnScope N__law_comes ["_law_units", "_law_road_here", "_law_word", "_law_number"] (defScope s__law_comes) := ⟨rfl, rfl, rfl, by decide +kernel, rfl, by decide +kernel, by decide +kernel⟩
abbrev s__law_few_units : Stmt := top 37
abbrev N__law_few_units : List Str := ["_law_deck_here", "_law_letters", "_law_found", "_law_k", "_law_letter"]
theorem sc__law_few_units : FnScope N__law_few_units ["_law_deck_here", "_law_letters"] (defScope s__law_few_units) := ⟨rfl, rfl, rfl, by decide +kernel, rfl, by decide +kernel, by decide +kernel⟩
/-- where the defs stand -/
structure Adrs where
  f_letter_number : Addr
  d_letter_number : FuncData
  f_word_to : Addr
  d_word_to : FuncData
  f_least_counts : Addr
  d_least_counts : FuncData
  f__turned : Addr
  d__turned : FuncData
  f_within : Addr
  d_within : FuncData
  f_trimmed : Addr
  d_trimmed : FuncData
  f_comes_to : Addr
  d_comes_to : FuncData
  f__read : Addr
  d__read : FuncData
  f__left : Addr
  d__left : FuncData
  f__positions : Addr
  d__positions : FuncData
  f__onward : Addr
  d__onward : FuncData
  f__pair_on : Addr
  d__pair_on : FuncData
  f__first_unlike : Addr
  d__first_unlike : FuncData
  f_unlike_roads : Addr
  d_unlike_roads : FuncData
  f__law_deck : Addr
  d__law_deck : FuncData
  f__law_draw : Addr
  d__law_draw : FuncData
  f__law_one : Addr
  d__law_one : FuncData
  f__law_count : Addr
  d__law_count : FuncData
  f__law_kind : Addr
  d__law_kind : FuncData
  f__law_is_of : Addr
  d__law_is_of : FuncData
  f__law_words : Addr
  d__law_words : FuncData
  f__law_all : Addr
  d__law_all : FuncData
  f__law_far : Addr
  d__law_far : FuncData
  f__law_long : Addr
  d__law_long : FuncData
  f__law_some_kind : Addr
  d__law_some_kind : FuncData
  f_law : Addr
  d_law : FuncData
  f__law_road : Addr
  d__law_road : FuncData
  f__law_read : Addr
  d__law_read : FuncData
  f__law_comes : Addr
  d__law_comes : FuncData
  f__law_few_units : Addr
  d__law_few_units : FuncData
structure Txt (K : PySem.W.Frag) (mg : Str → Option Value) (A : Adrs) : Prop where
  F_letter_number : Fun K "letter_number" "letter_number" s_letter_number A.f_letter_number A.d_letter_number
  m_letter_number : mg "letter_number" = some (.ref A.f_letter_number)
  k_letter_number : PySem.W.keepIn K (.ref A.f_letter_number) = true
  b_letter_number : Binds K A.d_letter_number ["letter"] []
  F_word_to : Fun K "word_to" "word_to" s_word_to A.f_word_to A.d_word_to
  m_word_to : mg "word_to" = some (.ref A.f_word_to)
  k_word_to : PySem.W.keepIn K (.ref A.f_word_to) = true
  b_word_to : Binds K A.d_word_to ["came", "at"] []
  F_least_counts : Fun K "least_counts" "least_counts" s_least_counts A.f_least_counts A.d_least_counts
  m_least_counts : mg "least_counts" = some (.ref A.f_least_counts)
  k_least_counts : PySem.W.keepIn K (.ref A.f_least_counts) = true
  b_least_counts : Binds K A.d_least_counts ["steps", "begins"] []
  F__turned : Fun K "_turned" "_turned" s__turned A.f__turned A.d__turned
  m__turned : mg "_turned" = some (.ref A.f__turned)
  k__turned : PySem.W.keepIn K (.ref A.f__turned) = true
  b__turned : Binds K A.d__turned ["steps"] []
  F_within : Fun K "within" "within" s_within A.f_within A.d_within
  m_within : mg "within" = some (.ref A.f_within)
  k_within : PySem.W.keepIn K (.ref A.f_within) = true
  b_within : Binds K A.d_within ["kind", "unit", "most"] []
  F_trimmed : Fun K "trimmed" "trimmed" s_trimmed A.f_trimmed A.d_trimmed
  m_trimmed : mg "trimmed" = some (.ref A.f_trimmed)
  k_trimmed : PySem.W.keepIn K (.ref A.f_trimmed) = true
  b_trimmed : Binds K A.d_trimmed ["kind"] []
  F_comes_to : Fun K "comes_to" "comes_to" s_comes_to A.f_comes_to A.d_comes_to
  m_comes_to : mg "comes_to" = some (.ref A.f_comes_to)
  k_comes_to : PySem.W.keepIn K (.ref A.f_comes_to) = true
  b_comes_to : Binds K A.d_comes_to ["units", "road", "word", "number"] []
  F__read : Fun K "_read" "_read" s__read A.f__read A.d__read
  m__read : mg "_read" = some (.ref A.f__read)
  k__read : PySem.W.keepIn K (.ref A.f__read) = true
  b__read : Binds K A.d__read ["unit", "word", "place", "number"] []
  F__left : Fun K "_left" "_left" s__left A.f__left A.d__left
  m__left : mg "_left" = some (.ref A.f__left)
  k__left : PySem.W.keepIn K (.ref A.f__left) = true
  b__left : Binds K A.d__left ["units", "rest", "letter"] []
  F__positions : Fun K "_positions" "_positions" s__positions A.f__positions A.d__positions
  m__positions : mg "_positions" = some (.ref A.f__positions)
  k__positions : PySem.W.keepIn K (.ref A.f__positions) = true
  b__positions : Binds K A.d__positions ["one", "other", "most"] []
  F__onward : Fun K "_onward" "_onward" s__onward A.f__onward A.d__onward
  m__onward : mg "_onward" = some (.ref A.f__onward)
  k__onward : PySem.W.keepIn K (.ref A.f__onward) = true
  b__onward : Binds K A.d__onward ["units", "road", "positions", "most", "letter"] []
  F__pair_on : Fun K "_pair_on" "_pair_on" s__pair_on A.f__pair_on A.d__pair_on
  m__pair_on : mg "_pair_on" = some (.ref A.f__pair_on)
  k__pair_on : PySem.W.keepIn K (.ref A.f__pair_on) = true
  b__pair_on : Binds K A.d__pair_on ["onward", "here", "there", "most"] []
  F__first_unlike : Fun K "_first_unlike" "_first_unlike" s__first_unlike A.f__first_unlike A.d__first_unlike
  m__first_unlike : mg "_first_unlike" = some (.ref A.f__first_unlike)
  k__first_unlike : PySem.W.keepIn K (.ref A.f__first_unlike) = true
  b__first_unlike : Binds K A.d__first_unlike ["kind", "units", "one", "other", "most"] []
  F_unlike_roads : Fun K "unlike_roads" "unlike_roads" s_unlike_roads A.f_unlike_roads A.d_unlike_roads
  m_unlike_roads : mg "unlike_roads" = some (.ref A.f_unlike_roads)
  k_unlike_roads : PySem.W.keepIn K (.ref A.f_unlike_roads) = true
  b_unlike_roads : Binds K A.d_unlike_roads ["kind", "units", "one", "other", "most"] []
  F__law_deck : Fun K "_law_deck" "_law_deck" s__law_deck A.f__law_deck A.d__law_deck
  m__law_deck : mg "_law_deck" = some (.ref A.f__law_deck)
  k__law_deck : PySem.W.keepIn K (.ref A.f__law_deck) = true
  b__law_deck : Binds K A.d__law_deck ["_law_script"] []
  F__law_draw : Fun K "_law_draw" "_law_draw" s__law_draw A.f__law_draw A.d__law_draw
  m__law_draw : mg "_law_draw" = some (.ref A.f__law_draw)
  k__law_draw : PySem.W.keepIn K (.ref A.f__law_draw) = true
  b__law_draw : Binds K A.d__law_draw ["_law_deck_here", "_law_most"] []
  F__law_one : Fun K "_law_one" "_law_one" s__law_one A.f__law_one A.d__law_one
  m__law_one : mg "_law_one" = some (.ref A.f__law_one)
  k__law_one : PySem.W.keepIn K (.ref A.f__law_one) = true
  b__law_one : Binds K A.d__law_one ["_law_deck_here", "_law_items"] []
  F__law_count : Fun K "_law_count" "_law_count" s__law_count A.f__law_count A.d__law_count
  m__law_count : mg "_law_count" = some (.ref A.f__law_count)
  k__law_count : PySem.W.keepIn K (.ref A.f__law_count) = true
  b__law_count : Binds K A.d__law_count ["_law_unit_here", "_law_word"] []
  F__law_kind : Fun K "_law_kind" "_law_kind" s__law_kind A.f__law_kind A.d__law_kind
  m__law_kind : mg "_law_kind" = some (.ref A.f__law_kind)
  k__law_kind : PySem.W.keepIn K (.ref A.f__law_kind) = true
  b__law_kind : Binds K A.d__law_kind ["_law_deck_here", "_law_most", "_law_states"] []
  F__law_is_of : Fun K "_law_is_of" "_law_is_of" s__law_is_of A.f__law_is_of A.d__law_is_of
  m__law_is_of : mg "_law_is_of" = some (.ref A.f__law_is_of)
  k__law_is_of : PySem.W.keepIn K (.ref A.f__law_is_of) = true
  b__law_is_of : Binds K A.d__law_is_of ["_law_kind_here", "_law_word"] []
  F__law_words : Fun K "_law_words" "_law_words" s__law_words A.f__law_words A.d__law_words
  m__law_words : mg "_law_words" = some (.ref A.f__law_words)
  k__law_words : PySem.W.keepIn K (.ref A.f__law_words) = true
  b__law_words : Binds K A.d__law_words ["_law_letters", "_law_size"] []
  F__law_all : Fun K "_law_all" "_law_all" s__law_all A.f__law_all A.d__law_all
  m__law_all : mg "_law_all" = some (.ref A.f__law_all)
  k__law_all : PySem.W.keepIn K (.ref A.f__law_all) = true
  b__law_all : Binds K A.d__law_all ["_law_kind_here", "_law_most"] []
  F__law_far : Fun K "_law_far" "_law_far" s__law_far A.f__law_far A.d__law_far
  m__law_far : mg "_law_far" = some (.ref A.f__law_far)
  k__law_far : PySem.W.keepIn K (.ref A.f__law_far) = true
  b__law_far : Binds K A.d__law_far ["_law_deck_here", "_law_kind_here", "_law_wide"] []
  F__law_long : Fun K "_law_long" "_law_long" s__law_long A.f__law_long A.d__law_long
  m__law_long : mg "_law_long" = some (.ref A.f__law_long)
  k__law_long : PySem.W.keepIn K (.ref A.f__law_long) = true
  b__law_long : Binds K A.d__law_long ["_law_deck_here", "_law_letters"] []
  F__law_some_kind : Fun K "_law_some_kind" "_law_some_kind" s__law_some_kind A.f__law_some_kind A.d__law_some_kind
  m__law_some_kind : mg "_law_some_kind" = some (.ref A.f__law_some_kind)
  k__law_some_kind : PySem.W.keepIn K (.ref A.f__law_some_kind) = true
  b__law_some_kind : Binds K A.d__law_some_kind ["_law_deck_here", "_law_most"] []
  F_law : Fun K "law" "law" s_law A.f_law A.d_law
  m_law : mg "law" = some (.ref A.f_law)
  k_law : PySem.W.keepIn K (.ref A.f_law) = true
  b_law : Binds K A.d_law ["_law_script"] []
  F__law_road : Fun K "_law_road" "_law_road" s__law_road A.f__law_road A.d__law_road
  m__law_road : mg "_law_road" = some (.ref A.f__law_road)
  k__law_road : PySem.W.keepIn K (.ref A.f__law_road) = true
  b__law_road : Binds K A.d__law_road ["_law_deck_here", "_law_units"] []
  F__law_read : Fun K "_law_read" "_law_read" s__law_read A.f__law_read A.d__law_read
  m__law_read : mg "_law_read" = some (.ref A.f__law_read)
  k__law_read : PySem.W.keepIn K (.ref A.f__law_read) = true
  b__law_read : Binds K A.d__law_read ["_law_unit_here", "_law_word", "_law_number"] []
  F__law_comes : Fun K "_law_comes" "_law_comes" s__law_comes A.f__law_comes A.d__law_comes
  m__law_comes : mg "_law_comes" = some (.ref A.f__law_comes)
  k__law_comes : PySem.W.keepIn K (.ref A.f__law_comes) = true
  b__law_comes : Binds K A.d__law_comes ["_law_units", "_law_road_here", "_law_word", "_law_number"] []
  F__law_few_units : Fun K "_law_few_units" "_law_few_units" s__law_few_units A.f__law_few_units A.d__law_few_units
  m__law_few_units : mg "_law_few_units" = some (.ref A.f__law_few_units)
  k__law_few_units : PySem.W.keepIn K (.ref A.f__law_few_units) = true
  b__law_few_units : Binds K A.d__law_few_units ["_law_deck_here", "_law_letters"] []
  z_abs : mg "abs" = none
  z_enumerate : mg "enumerate" = none
  z_int : mg "int" = none
  z_len : mg "len" = none
  z_list : mg "list" = none
  z_max : mg "max" = none
  z_ord : mg "ord" = none
  z_range : mg "range" = none
  z_sum : mg "sum" = none
  z_tuple : mg "tuple" = none
  z_zip : mg "zip" = none
  c_APART : ∃ t, mg "APART" = some (.int (-2) t)
  c_LETTERS : ∃ t, mg "LETTERS" = some (.str "abcdefghijklmnopqrstuvwxyz" t)
  c_STOPPED : ∃ t, mg "STOPPED" = some (.int (-1) t)
/-! ### words in order: shorter ones first, then by letters -/
def lexN : List Nat → List Nat → Prop
  | x :: xs, y :: ys => x < y ∨ (x = y ∧ lexN xs ys)
  | _, _ => False
def slt (a b : List Nat) : Prop := a.length < b.length ∨ (a.length = b.length ∧ lexN a b)
theorem lexN_irrefl : ∀ a, ¬ lexN a a
  | [] => fun h => h
  | x :: xs => fun h => h.elim (Nat.lt_irrefl _) fun h => lexN_irrefl xs h.2
theorem lexN_trans : ∀ a b c, lexN a b → lexN b c → lexN a c
  | x :: xs, y :: ys, z :: zs, h, g => by
    rcases h with h | ⟨rfl, h⟩
    · rcases g with g | ⟨rfl, g⟩
      · exact .inl (Nat.lt_trans h g)
      · exact .inl h
    · rcases g with g | ⟨rfl, g⟩
      · exact .inl g
      · exact .inr ⟨rfl, lexN_trans xs ys zs h g⟩
  | [], _, _, h, _ => h.elim
  | _ :: _, [], _, h, _ => h.elim
  | _ :: _, _ :: _, [], _, g => g.elim
theorem lexN_tri : ∀ a b : List Nat, a.length = b.length → lexN a b ∨ a = b ∨ lexN b a
  | [], [], _ => .inr (.inl rfl)
  | [], _ :: _, h => by cases h
  | _ :: _, [], h => by cases h
  | x :: xs, y :: ys, h => by
    rcases Nat.lt_trichotomy x y with e | e | e
    · exact .inl (.inl e)
    · subst e
      rcases lexN_tri xs ys (by simpa using h) with g | g | g
      · exact .inl (.inr ⟨rfl, g⟩)
      · exact .inr (.inl (by rw [g]))
      · exact .inr (.inr (.inr ⟨rfl, g⟩))
    · exact .inr (.inr (.inl e))
theorem lexN_snoc : ∀ (a b : List Nat) (c d : Nat), a.length = b.length → (lexN (a ++ [c]) (b ++ [d]) ↔ lexN a b ∨ (a = b ∧ c < d))
  | [], [], c, d, _ => by simp [lexN]
  | [], _ :: _, _, _, h => by cases h
  | _ :: _, [], _, _, h => by cases h
  | x :: xs, y :: ys, c, d, h => by
    have ih := lexN_snoc xs ys c d (by simpa using h)
    show (x < y ∨ (x = y ∧ lexN (xs ++ [c]) (ys ++ [d]))) ↔ (x < y ∨ (x = y ∧ lexN xs ys)) ∨ (x :: xs = y :: ys ∧ c < d)
    rw [ih]
    constructor
    · rintro (q | ⟨rfl, q | ⟨rfl, q⟩⟩)
      · exact .inl (.inl q)
      · exact .inl (.inr ⟨rfl, q⟩)
      · exact .inr ⟨rfl, q⟩
    · rintro ((q | ⟨rfl, q⟩) | ⟨q, g⟩)
      · exact .inl q
      · exact .inr ⟨rfl, .inl q⟩
      · injection q with h1 h2
        exact .inr ⟨h1, .inr ⟨h2, g⟩⟩
theorem slt_irrefl (a : List Nat) : ¬ slt a a := fun h => h.elim (Nat.lt_irrefl _) fun h => lexN_irrefl a h.2
theorem slt_trans {a b c : List Nat} (h : slt a b) (g : slt b c) : slt a c := by
  rcases h with h | ⟨h1, h2⟩
  · rcases g with g | ⟨g1, g2⟩
    · exact .inl (Nat.lt_trans h g)
    · exact .inl (by omega)
  · rcases g with g | ⟨g1, g2⟩
    · exact .inl (by omega)
    · exact .inr ⟨h1.trans g1, lexN_trans _ _ _ h2 g2⟩
theorem slt_asymm {a b : List Nat} (h : slt a b) : ¬ slt b a := fun g => slt_irrefl a (slt_trans h g)
theorem slt_tri (a b : List Nat) : slt a b ∨ a = b ∨ slt b a := by
  rcases Nat.lt_trichotomy a.length b.length with h | h | h
  · exact .inl (.inl h)
  · rcases lexN_tri a b h with g | g | g
    · exact .inl (.inr ⟨h, g⟩)
    · exact .inr (.inl g)
    · exact .inr (.inr (.inr ⟨h.symm, g⟩))
  · exact .inr (.inr (.inl h))
theorem slt_le {a b c : List Nat} (h : ¬ slt b a) (g : slt b c) : slt a c := by
  rcases slt_tri a b with e | e | e
  · exact slt_trans e g
  · exact e ▸ g
  · exact absurd e h
theorem slt_le2 {a b c : List Nat} (h : slt a b) (g : ¬ slt c b) : slt a c := by
  rcases slt_tri b c with e | e | e
  · exact slt_trans h e
  · exact e ▸ h
  · exact absurd e g
theorem slt_snoc {a b : List Nat} {c d : Nat} : slt (a ++ [c]) (b ++ [d]) ↔ slt a b ∨ (a = b ∧ c < d) := by
  unfold slt
  rw [List.length_append, List.length_append, List.length_singleton, List.length_singleton]
  constructor
  · rintro (h | ⟨h, g⟩)
    · exact .inl (.inl (by omega))
    · rcases (lexN_snoc a b c d (by omega)).mp g with g | g
      · exact .inl (.inr ⟨by omega, g⟩)
      · exact .inr g
  · rintro ((h | ⟨h, g⟩) | ⟨rfl, h⟩)
    · exact .inl (by omega)
    · exact .inr ⟨by omega, (lexN_snoc a b c d h).mpr (.inl g)⟩
    · exact .inr ⟨rfl, (lexN_snoc a a c d rfl).mpr (.inr ⟨rfl, h⟩)⟩
theorem slt_nil (a : List Nat) (c : Nat) : slt [] (a ++ [c]) := .inl (by simp)
theorem nslt_nil (a : List Nat) : ¬ slt a [] := fun h => by
  rcases h with h | ⟨h, g⟩
  · cases h
  · cases a with
    | nil => exact g
    | cons => cases h
theorem snoc_of (w : List Nat) : w = [] ∨ ∃ v c, w = v ++ [c] := by
  rcases List.eq_nil_or_concat w with h | ⟨v, c, h⟩
  · exact .inl h
  · exact .inr ⟨v, c, by simpa using h⟩
theorem lexN_lt : ∀ a b : List Nat, a.length = b.length → (a < b ↔ lexN a b)
  | [], [], _ => by simp [lexN]
  | [], _ :: _, h => by cases h
  | _ :: _, [], h => by cases h
  | x :: xs, y :: ys, h => by
    rw [List.cons_lt_cons_iff, lexN_lt xs ys (by simpa using h)]
    rfl
/-! ### machines -/
def runF (δ : Nat → Nat → Option Nat) : Nat → List Nat → Option Nat
  | s, [] => some s
  | s, c :: w => (δ s c).bind fun t => runF δ t w
theorem runF_app (δ : Nat → Nat → Option Nat) : ∀ (v w : List Nat) (s : Nat), runF δ s (v ++ w) = (runF δ s v).bind fun t => runF δ t w
  | [], w, s => rfl
  | c :: v, w, s => by
    show (δ s c).bind (fun t => runF δ t (v ++ w)) = ((δ s c).bind fun t => runF δ t v).bind _
    cases δ s c with
    | none => rfl
    | some t => exact runF_app δ v w t
theorem runF_snoc {δ : Nat → Nat → Option Nat} {v : List Nat} {c s : Nat} : runF δ s (v ++ [c]) = (runF δ s v).bind fun t => δ t c := by
  rw [runF_app]
  cases runF δ s v with
  | none => rfl
  | some t =>
    show (δ t c).bind some = δ t c
    cases δ t c <;> rfl
def AccF (δ : Nat → Nat → Option Nat) (b : Nat) (goal : Nat → Bool) (w : List Nat) : Prop := ∃ t, runF δ b w = some t ∧ goal t = true
/-! ### a search in breadth -/
structure Bfs (δ : Nat → Nat → Option Nat) (b : Nat) (goal : Nat → Bool) (sts : List Nat) (ws : List (List Nat)) (a j : Nat) : Prop where
  len : ws.length = sts.length
  zw : ws[0]? = some []
  zs : sts[0]? = some b
  run : ∀ (i s : Nat) (w : List Nat), sts[i]? = some s → ws[i]? = some w → runF δ b w = some s
  nd : sts.Nodup
  ng : ∀ s ∈ sts, goal s = false
  sorted : ∀ (i k : Nat) (v w : List Nat), i < k → ws[i]? = some v → ws[k]? = some w → slt v w
  done : ∀ (i c s : Nat) (w : List Nat) (t : Nat), (i < a ∨ (i = a ∧ c < j)) → sts[i]? = some s → ws[i]? = some w → δ s c = some t → ∃ (k : Nat) (v : List Nat), sts[k]? = some t ∧ ws[k]? = some v ∧ ¬ slt (w ++ [c]) v
  last : ∀ (i : Nat) (w : List Nat), ws[i]? = some w → i ≠ 0 → ∃ (k c : Nat) (v : List Nat), ws[k]? = some v ∧ w = v ++ [c] ∧ (k < a ∨ (k = a ∧ c < j))
section
variable {δ : Nat → Nat → Option Nat} {b : Nat} {goal : Nat → Bool} {sts : List Nat} {ws : List (List Nat)} {a j : Nat}
theorem Bfs.start (h : goal b = false) : Bfs δ b goal [b] [[]] 0 0 where
  len := rfl
  zw := rfl
  zs := rfl
  run := fun i s w h1 h2 => by
    match i, h1, h2 with
    | 0, h1, h2 => cases h1; cases h2; rfl
    | i + 1, h1, _ => simp at h1
  nd := by simp
  ng := fun s hs => by rw [List.mem_singleton.mp hs]; exact h
  sorted := fun i k v w ik h1 h2 => by
    match k, h2 with
    | 0, _ => omega
    | k + 1, h2 => simp at h2
  done := fun i c s w t h => by omega
  last := fun i w h1 h2 => by
    match i, h1, h2 with
    | 0, _, h2 => exact absurd rfl h2
    | i + 1, h1, _ => simp at h1
theorem Bfs.before (B : Bfs δ b goal sts ws a j) {i : Nat} {w v : List Nat} (hv : ws[i]? = some v) (hw : ws[a]? = some w) : slt v (w ++ [j]) := by
  by_cases i0 : i = 0
  · subst i0
    rw [B.zw] at hv
    cases hv
    exact slt_nil _ _
  · obtain ⟨k, c, u, hu, rfl, h⟩ := B.last i v hv i0
    rw [slt_snoc]
    rcases h with h | ⟨rfl, h⟩
    · exact .inl (B.sorted k a u w h hu hw)
    · rw [hu] at hw
      cases hw
      exact .inr ⟨rfl, h⟩
theorem Bfs.skip {s : Nat} (B : Bfs δ b goal sts ws a j) (hs : sts[a]? = some s) (h : ∀ t, δ s j = some t → t ∈ sts) : Bfs δ b goal sts ws a (j + 1) where
  len := B.len
  zw := B.zw
  zs := B.zs
  run := B.run
  nd := B.nd
  ng := B.ng
  sorted := B.sorted
  done := fun i c s' w t hi h1 h2 h3 => by
    by_cases e : i < a ∨ (i = a ∧ c < j)
    · exact B.done i c s' w t e h1 h2 h3
    · have ei : i = a := by omega
      have ec : c = j := by omega
      subst ei ec
      rw [hs] at h1
      cases h1
      obtain ⟨k, hk, e⟩ := List.mem_iff_getElem.mp (h t h3)
      have hk2 : k < ws.length := by rw [B.len]; exact hk
      exact ⟨k, ws[k], by rw [List.getElem?_eq_getElem hk, e], List.getElem?_eq_getElem hk2, slt_asymm (B.before (List.getElem?_eq_getElem hk2) h2)⟩
  last := fun i w h1 h2 => by
    obtain ⟨k, c, v, g1, g2, g3⟩ := B.last i w h1 h2
    exact ⟨k, c, v, g1, g2, by omega⟩
theorem Bfs.add {s t : Nat} {w : List Nat} (B : Bfs δ b goal sts ws a j) (hs : sts[a]? = some s) (hw : ws[a]? = some w) (ht : δ s j = some t) (hn : t ∉ sts) (hg : goal t = false) : Bfs δ b goal (sts ++ [t]) (ws ++ [w ++ [j]]) a (j + 1) := by
  have la : a < sts.length := (List.getElem?_eq_some_iff.mp hs).1
  have lw : a < ws.length := (List.getElem?_eq_some_iff.mp hw).1
  have up : ∀ {α : Type} (l : List α) (x : α) (i : Nat) (y : α), l[i]? = some y → (l ++ [x])[i]? = some y := fun l x i y h => by
    rw [List.getElem?_append_left (List.getElem?_eq_some_iff.mp h).1]; exact h
  have cs : ∀ {α : Type} (l : List α) (x : α) (i : Nat) (y : α), (l ++ [x])[i]? = some y → l[i]? = some y ∨ (i = l.length ∧ y = x) := fun l x i y h => by
    by_cases hi : i < l.length
    · rw [List.getElem?_append_left hi] at h; exact .inl h
    · rw [List.getElem?_append_right (by omega)] at h
      have := (List.getElem?_eq_some_iff.mp h).1
      simp at this
      have ei : i = l.length := by omega
      subst ei
      simp at h
      exact .inr ⟨rfl, h.symm⟩
  refine ⟨by simp [B.len], up _ _ _ _ B.zw, up _ _ _ _ B.zs, fun i s' v h1 h2 => ?_, ?_, fun x hx => ?_, fun i k v v' ik h1 h2 => ?_, fun i c s' v t' hi h1 h2 h3 => ?_, fun i v h1 h2 => ?_⟩
  · rcases cs _ _ _ _ h1 with h1 | ⟨e1, rfl⟩
    · rcases cs _ _ _ _ h2 with h2 | ⟨e2, rfl⟩
      · exact B.run i s' v h1 h2
      · have := (List.getElem?_eq_some_iff.mp h1).1
        have := B.len
        omega
    · rcases cs _ _ _ _ h2 with h2 | ⟨e2, rfl⟩
      · have := (List.getElem?_eq_some_iff.mp h2).1
        have := B.len
        omega
      · rw [runF_snoc, B.run a s w hs hw]
        exact ht
  · rw [List.nodup_append]
    exact ⟨B.nd, by simp, fun x hx y hy => by
      rw [List.mem_singleton.mp hy]
      rintro rfl
      exact hn hx⟩
  · rcases List.mem_append.mp hx with hx | hx
    · exact B.ng x hx
    · rw [List.mem_singleton.mp hx]; exact hg
  · rcases cs _ _ _ _ h2 with h2 | ⟨e2, rfl⟩
    · rcases cs _ _ _ _ h1 with h1 | ⟨e1, rfl⟩
      · exact B.sorted i k v v' ik h1 h2
      · have := (List.getElem?_eq_some_iff.mp h2).1
        omega
    · rcases cs _ _ _ _ h1 with h1 | ⟨e1, rfl⟩
      · exact B.before h1 hw
      · omega
  · rcases cs _ _ _ _ h2 with q2 | ⟨e2, rfl⟩
    · rcases cs _ _ _ _ h1 with q1 | ⟨e1, rfl⟩
      · by_cases e : i < a ∨ (i = a ∧ c < j)
        · obtain ⟨k, u, g1, g2, g3⟩ := B.done i c s' v t' e q1 q2 h3
          exact ⟨k, u, up _ _ _ _ g1, up _ _ _ _ g2, g3⟩
        · have ei : i = a := by omega
          have ec : c = j := by omega
          subst ei ec
          rw [hs] at q1
          cases q1
          rw [hw] at q2
          cases q2
          rw [ht] at h3
          cases h3
          exact ⟨sts.length, w ++ [c], by simp, by rw [← B.len]; simp, slt_irrefl _⟩
      · have := (List.getElem?_eq_some_iff.mp q2).1
        have := B.len
        omega
    · have : i = sts.length := by rw [e2]; exact B.len
      omega
  · rcases cs _ _ _ _ h1 with h1 | ⟨e1, rfl⟩
    · obtain ⟨k, c, u, g1, g2, g3⟩ := B.last i v h1 h2
      exact ⟨k, c, u, up _ _ _ _ g1, g2, by omega⟩
    · exact ⟨a, j, w, up _ _ _ _ hw, rfl, by omega⟩
theorem Bfs.next {s : Nat} (B : Bfs δ b goal sts ws a j) (hs : sts[a]? = some s) (h : ∀ c, j ≤ c → δ s c = none) : Bfs δ b goal sts ws (a + 1) 0 where
  len := B.len
  zw := B.zw
  zs := B.zs
  run := B.run
  nd := B.nd
  ng := B.ng
  sorted := B.sorted
  done := fun i c s' w t hi h1 h2 h3 => by
    refine B.done i c s' w t ?_ h1 h2 h3
    by_cases e : i = a
    · subst e
      rw [hs] at h1
      cases h1
      refine .inr ⟨rfl, Nat.lt_of_not_le fun le => ?_⟩
      rw [h c le] at h3
      cases h3
    · exact .inl (by omega)
  last := fun i w h1 h2 => by
    obtain ⟨k, c, v, g1, g2, g3⟩ := B.last i w h1 h2
    exact ⟨k, c, v, g1, g2, by omega⟩
theorem Bfs.lt_of (B : Bfs δ b goal sts ws a j) {k i : Nat} {v w : List Nat} (hv : ws[k]? = some v) (hw : ws[i]? = some w) (h : slt v w) : k < i := by
  rcases Nat.lt_trichotomy k i with e | e | e
  · exact e
  · subst e
    rw [hv] at hw
    cases hw
    exact absurd h (slt_irrefl _)
  · exact absurd h (slt_asymm (B.sorted i k w v e hw hv))
theorem Bfs.cover (B : Bfs δ b goal sts ws a j) {w : List Nat} (hw : ws[a]? = some w) : ∀ (n : Nat) (x : List Nat) (s : Nat), x.length = n → ¬ slt w x → runF δ b x = some s → ∃ (k : Nat) (v : List Nat), sts[k]? = some s ∧ ws[k]? = some v ∧ ¬ slt x v
  | 0, x, s, hn, _, hr => by
    have : x = [] := List.length_eq_zero_iff.mp hn
    subst this
    cases hr
    exact ⟨0, [], B.zs, B.zw, slt_irrefl _⟩
  | n + 1, x, s, hn, hx, hr => by
    rcases snoc_of x with rfl | ⟨y, e, rfl⟩
    · cases hn
    · rw [runF_snoc] at hr
      obtain ⟨s', hy, he⟩ := Option.bind_eq_some_iff.mp hr
      have yx : slt y (y ++ [e]) := .inl (by simp)
      obtain ⟨k, v, h1, h2, h3⟩ := B.cover hw n y s' (by simpa using hn) (fun z => hx (slt_trans z yx)) hy
      have vw : slt v w := slt_le2 (slt_le h3 yx) hx
      have hk := B.lt_of h2 hw vw
      obtain ⟨k', v', g1, g2, g3⟩ := B.done k e s' v s (.inl hk) h1 h2 he
      refine ⟨k', v', g1, g2, fun z => g3 ?_⟩
      -- v e ≤ y e < v'
      rcases slt_tri v y with q | q | q
      · exact slt_trans (slt_snoc.mpr (.inl q)) z
      · rw [q]; exact z
      · exact absurd q h3
theorem Bfs.found {s t : Nat} {w : List Nat} (B : Bfs δ b goal sts ws a j) (hs : sts[a]? = some s) (hw : ws[a]? = some w) (ht : δ s j = some t) (hg : goal t = true) : AccF δ b goal (w ++ [j]) ∧ ∀ x, AccF δ b goal x → ¬ slt x (w ++ [j]) := by
  refine ⟨⟨t, by rw [runF_snoc, B.run a s w hs hw]; exact ht, hg⟩, ?_⟩
  rintro x ⟨t', hr, hg'⟩ lt
  rcases snoc_of x with rfl | ⟨y, d, rfl⟩
  · cases hr
    rw [B.ng _ (List.mem_of_getElem? B.zs)] at hg'
    cases hg'
  · rw [slt_snoc] at lt
    rw [runF_snoc] at hr
    obtain ⟨s', hy, hd⟩ := Option.bind_eq_some_iff.mp hr
    have nlt : ¬ slt w y := by
      rcases lt with lt | ⟨rfl, _⟩
      · exact slt_asymm lt
      · exact slt_irrefl _
    obtain ⟨k, v, h1, h2, h3⟩ := B.cover hw _ y s' rfl nlt hy
    have pr : k < a ∨ (k = a ∧ d < j) := by
      rcases lt with lt | ⟨rfl, lt⟩
      · exact .inl (B.lt_of h2 hw (slt_le h3 lt))
      · rcases slt_tri v y with q | q | q
        · exact .inl (B.lt_of h2 hw q)
        · subst q
          rcases Nat.lt_trichotomy k a with e | e | e
          · exact .inl e
          · exact .inr ⟨e, lt⟩
          · exact absurd (B.sorted a k v v e hw h2) (slt_irrefl _)
        · exact absurd q h3
    obtain ⟨k', v', g1, _, _⟩ := B.done k d s' v t' pr h1 h2 hd
    rw [B.ng _ (List.mem_of_getElem? g1)] at hg'
    cases hg'
theorem Bfs.finish (B : Bfs δ b goal sts ws sts.length 0) : ∀ x, ¬ AccF δ b goal x := by
  have all : ∀ (n : Nat) (x : List Nat) (s : Nat), x.length = n → runF δ b x = some s → s ∈ sts := by
    intro n
    induction n with
    | zero =>
      intro x s hn hr
      have : x = [] := List.length_eq_zero_iff.mp hn
      subst this
      cases hr
      exact List.mem_of_getElem? B.zs
    | succ n ih =>
      intro x s hn hr
      rcases snoc_of x with rfl | ⟨y, e, rfl⟩
      · cases hn
      · rw [runF_snoc] at hr
        obtain ⟨s', hy, he⟩ := Option.bind_eq_some_iff.mp hr
        obtain ⟨k, hk, e1⟩ := List.mem_iff_getElem.mp (ih y s' (by simpa using hn) hy)
        have hk2 : k < ws.length := by rw [B.len]; exact hk
        obtain ⟨k', v', g1, _, _⟩ := B.done k e s' ws[k] s (.inl hk) (by rw [List.getElem?_eq_getElem hk, e1]) (List.getElem?_eq_getElem hk2) he
        exact List.mem_of_getElem? g1
  rintro x ⟨t, hr, hg⟩
  rw [B.ng t (all _ x t rfl hr)] at hg
  cases hg
end

/-! ### searches -/
def optD : Option Nat → PyData | none => .none | some n => nI n
theorem txt_LET : Str.ofString "abcdefghijklmnopqrstuvwxyz" = txt (List.range 26) := by decide +kernel
inductive WordAt (came : List (Option (Nat × Nat))) : Nat → List Nat → Prop
  | nil {i : Nat} : came[i]? = some none → WordAt came i []
  | snoc {i k c : Nat} {w : List Nat} : came[i]? = some (some (k, c)) → k < i → c < 26 → WordAt came k w → WordAt came i (w ++ [c])
theorem WordAt.more {came : List (Option (Nat × Nat))} {i : Nat} {w : List Nat} (h : WordAt came i w) (x : Option (Nat × Nat)) : WordAt (came ++ [x]) i w := by
  have up : ∀ {i : Nat} {y : Option (Nat × Nat)}, came[i]? = some y → (came ++ [x])[i]? = some y := fun {i y} h => by
    rw [List.getElem?_append_left (List.getElem?_eq_some_iff.mp h).1]; exact h
  induction h with
  | nil h => exact .nil (up h)
  | snoc h k c _ ih => exact .snoc (up h) k c ih
def encCame : Option (Nat × Nat) → PyData | none => .none | some p => .tuple [nI p.1, nI p.2]
theorem join1 (ws : List Nat) : Txt.join (Str.ofString "") (ws.map fun c => txt [c]) = txt ws := by
  have := join_txt (ws.map fun c => [c])
  rw [List.map_map] at this
  rw [show (fun c => txt [c]) = txt ∘ fun c => [c] from rfl, this]
  congr 1
  induction ws with
  | nil => rfl
  | cons x xs ih => rw [List.map_cons, List.flatten_cons, ih (by simpa using join_txt (xs.map fun c => [c]))]; rfl
theorem len1 (ws : List Nat) : ((ws.map fun c => txt [c]).map fun z : Str => z.length).sum = ws.length := by
  rw [List.map_map]
  induction ws with
  | nil => rfl
  | cons x xs ih =>
    rw [List.map_cons, List.sum_cons, ih, List.length_cons]
    show 1 + _ = _
    omega
theorem nodup_le : ∀ (n : Nat) (l : List Nat), l.Nodup → (∀ x ∈ l, x < n) → l.length ≤ n
  | 0, l, _, h => by
    cases l with
    | nil => exact Nat.le_refl _
    | cons x _ => exact absurd (h x List.mem_cons_self) (Nat.not_lt_zero _)
  | n + 1, l, nd, h => by
    have h2 := nodup_le n (l.erase n) (nd.erase n) fun x hx => by
      have h1 := List.mem_of_mem_erase hx
      have h3 : x ≠ n := fun e => by
        rw [e] at hx
        exact (nd.mem_erase_iff.mp hx).1 rfl
      have := h x h1
      omega
    have h4 : l.length ≤ (l.erase n).length + 1 := by
      by_cases e : n ∈ l
      · rw [List.length_erase_of_mem e]; omega
      · rw [List.erase_of_not_mem e]; omega
    omega
def seenD (sts : List Nat) : List (Key × PyData) := sts.map fun (s : Nat) => ((.inl (s : Int) : Key), PyData.bool true)
theorem seenD_look (sts : List Nat) (t : Nat) : (lookD (seenD sts) (.inl (t : Int))).isSome = decide (t ∈ sts) := by
  induction sts with
  | nil => rfl
  | cons s sts ih =>
    unfold seenD at ih ⊢
    rw [List.map_cons, lookD_cons]
    by_cases e : s = t
    · subst e; simp
    · have e1 : ¬ ((Sum.inl (s : Int) : Key) = .inl (t : Int)) := fun z => e (by injection z with z; omega)
      have e2 : ¬ t = s := fun z => e z.symm
      rw [if_neg e1, ih]
      simp [e2]
theorem seenD_put {sts : List Nat} {t : Nat} (h : t ∉ sts) : putD (seenD sts) (.inl (t : Int)) (.bool true) = seenD (sts ++ [t]) := by
  have h0 := seenD_look sts t
  rw [decide_eq_false h] at h0
  rw [keys_putD _ _ _ (by cases e : lookD (seenD sts) (.inl (t : Int)) with | none => rfl | some x => rw [e] at h0; cases h0)]
  unfold seenD
  rw [List.map_append]; rfl
def stepL (rows : List (List (Option Nat))) (s c : Nat) : Option Nat := (rows.getD s []).getD c none
structure RowsOk (rows : List (List (Option Nat))) (L : Nat) : Prop where
  row : ∀ r ∈ rows, r.length = L ∧ ∀ t, some t ∈ r → t < rows.length
  l26 : L ≤ 26
  few : rows.length ≤ 90000
def firstG (δ : Nat → Nat → Option Nat) (b : Nat) (goal : Nat → Bool) (L : Nat) (r : PyData) : Prop :=
  (r = .none ∧ ∀ x, ¬ AccF δ b goal x) ∨ ∃ w, r = nX w ∧ AccF δ b goal w ∧ (∀ x, AccF δ b goal x → ¬ slt x w) ∧ (∀ c ∈ w, c < L) ∧ w.length ≤ 100000
section
variable {P : Program} {w : World} {K : PySem.W.Frag} {mg : Str → Option Value} {base : Heap} {A : Adrs}
def R_word_to (ds : List PyData) (r : PyData) : Prop := ∃ (came : List (Option (Nat × Nat))) (a : Nat) (ws : List Nat), ds = [.list (came.map encCame), nI a] ∧ WordAt came a ws ∧ ws.length ≤ 100000 ∧ r = nX ws
theorem ok_word_to (T : Txt K mg A) : FnOk P w K mg base CX0 1 A.f_word_to A.d_word_to ["came", "at"] (spP K 2 R_word_to) := by
  refine T.F_word_to.ok sc_word_to (fun vs H Q E h => ?_) (fun cdv Ar outer s H vs Q E hr h => ?_)
  · exact spP.len h
  refine ⟨_, (pss_cons (ps_set (i := 2) sc_word_to.nd rfl (Or.inl rfl) (pe_lst pa_nil))
    (pss_cons (ps_while PassesOwn.never (pt_cmpR op_notN (pe_ix (kIxL K) (pv 0) (pv 1) (fun _ _ => rfl)) pe_non (nomark _))
    (pss_cons (ps_asg (pe_ix (kIxL K) (pv 0) (pv 1) (fun _ _ => rfl)) (kTgT K (n := 2) (by rfl) (pgs_cons (pg_name (i := 1) sc_word_to.nd rfl (Or.inl rfl)) (pgs_cons (pg_name (i := 3) sc_word_to.nd rfl (Or.inl rfl)) pgs_nil))))
    (pss_one (ps_expr (kBm K (pe_bm PySem.F.plainAttrs_list PySem.F.slot_list_append PySem.F.type_list_append mt_append (pv 2) (pa_cons (pe_ix ix_str (pe_gs rfl T.c_LETTERS) (pv 3) (fun _ _ => rfl)) pa_nil)))))))
    (pss_one (ps_ret (kJoin K (pe_join pe_str (kRevL K (pv 2)))))))), ?_⟩
  refine spP.ok h fun W ds r hR => ?_
  obtain ⟨came, a0, ws, rfl, wa, hz, rfl⟩ := hR
  walk_at "st"
  refine sw_seq (sw_own (ea_nil ⟨by decide, ?_⟩))
  refine sw_seq (sw_while (fun m ρ _ => ∃ (a : Nat) (w' suf : List Nat) (s : Slot), ρ = [.dat (.list (came.map encCame)), .dat (nI a), .own (suf.map fun c => PyData.str (txt [c])), s] ∧ m = a ∧ WordAt came a w' ∧ ws = w' ++ suf.reverse) a0 ⟨a0, ws, [], .no, rfl, rfl, wa, by simp⟩ ?_)
  rintro m ρ1 k1 ⟨a, w', suf, s, rfl, rfl, wa', rfl⟩
  walk_at "go"
  cases wa' with
  | nil h =>
    refine rd_ixL rfl (at_map h) ?_
    walk_at "go"
    rw [show (!isNone (encCame none)) = false from rfl]
    refine if_split (fun z => by cases z) (fun _ => ?_)
    refine sw_freeze 2 rfl ?_
    refine sw_ret (ev_join (ev_str ⟨_, rfl, ev_revL (ev_var rfl ⟨_, rfl, ?_⟩)⟩))
    rw [← List.map_reverse]
    refine ⟨suf.reverse.map fun c => txt [c], by rw [List.map_map]; rfl, ?_, ?_⟩
    · rw [len1, List.length_map, List.length_reverse]
      have : (Str.ofString "").length = 0 := rfl
      rw [this]
      simp at hz
      omega
    · rw [join1]
      simp
  | @snoc _ k c w2 h hk hc wa2 =>
    refine rd_ixL rfl (at_map h) ?_
    walk_at "go"
    rw [show (!isNone (encCame (some (k, c)))) = true from rfl]
    refine if_split (fun _ => ?_) (fun z => by cases z)
    walk_at "go"
    refine rd_ixL rfl (at_map h) ?_
    rw [show encCame (some (k, c)) = PyData.tuple [nI k, nI c] from rfl]
    walk_at "tg"
    refine sw_append ?_ ⟨_, rfl⟩
    walk_at "go"
    rw [txt_LET]
    refine rd_ixX (by simp) (show c < (List.range 26).length by simp; omega) ?_
    have : (List.range 26)[c]'(by simp; omega) = c := by simp
    rw [this]
    refine ⟨_, rfl, by simp at hz ⊢; omega, k, hk, k, w2, suf ++ [c], .dat (nI c), ?_, rfl, wa2, by simp⟩
    rw [List.map_append]
    rfl
end

/-! ### kinds with fewer steps -/
inductive Rch (steps : List (List Nat)) (begins : List Nat) : Nat → Prop
  | base {s : Nat} : s ∈ begins → Rch steps begins s
  | next {s t : Nat} : Rch steps begins s → t ∈ steps.getD s [] → Rch steps begins t
abbrev stepZ (t : Nat) : PyData := .tuple [nI t, .int 0]
abbrev stepsZ (steps : List (List Nat)) : PyData := .list (steps.map fun ts => .list (ts.map stepZ))
structure StepsOk (steps : List (List Nat)) (n c : Nat) : Prop where
  len : steps.length = n
  row : ∀ r ∈ steps, r.length ≤ c ∧ ∀ t ∈ r, t < n
theorem StepsOk.getD {steps : List (List Nat)} {n c s : Nat} (k : StepsOk steps n c) (hs : s < n) : steps[s]? = some (steps.getD s []) ∧ (steps.getD s []).length ≤ c ∧ ∀ t ∈ steps.getD s [], t < n := by
  have h : s < steps.length := by rw [k.len]; exact hs
  have e : steps.getD s [] = steps[s] := by rw [List.getD_eq_getElem?_getD, List.getElem?_eq_getElem h]; rfl
  rw [e]
  exact ⟨List.getElem?_eq_getElem h, k.row _ (List.getElem_mem h)⟩
def lz (b : Bool) : PyData := if b = true then .int 0 else .none
def inW (n : Nat) (w : List Nat) : List Bool := (List.range n).map fun s => decide (s ∈ w)
theorem inW_get {n s : Nat} {w : List Nat} (h : s < n) : (inW n w)[s]? = some (decide (s ∈ w)) := by simp [inW, h]
theorem inW_len (n : Nat) (w : List Nat) : (inW n w).length = n := by simp [inW]
theorem inW_add {n t : Nat} {w : List Nat} (h : t < n) : ((inW n w).map lz).set t (.int 0) = (inW n (w ++ [t])).map lz := by
  apply List.ext_getElem?
  intro i
  by_cases e : t = i
  · subst e
    rw [List.getElem?_set_self (by simp [inW, h]), List.getElem?_map, inW_get h]
    simp [lz]
  · rw [List.getElem?_set_ne e, List.getElem?_map, List.getElem?_map]
    by_cases hi : i < n
    · rw [inW_get hi, inW_get hi]
      have : ¬ i = t := fun z => e z.symm
      simp [this]
    · have h1 : (inW n w)[i]? = none := by simp [inW]; omega
      have h2 : (inW n (w ++ [t]))[i]? = none := by simp [inW]; omega
      rw [h1, h2]
def evN (steps : List (List Nat)) (i : Nat) : List (Nat × Nat) := (List.range i).flatMap fun b => (steps.getD b []).map fun t => (t, b)
theorem evN_next (steps : List (List Nat)) (i : Nat) : evN steps (i + 1) = evN steps i ++ (steps.getD i []).map fun t => (t, i) := by
  unfold evN
  rw [List.range_succ, List.flatMap_append]
  simp
theorem evN_len {steps : List (List Nat)} {n c : Nat} (k : StepsOk steps n c) : ∀ i, i ≤ n → (evN steps i).length ≤ c * i
  | 0, _ => by simp [evN]
  | i + 1, h => by
    have ih := evN_len k i (by omega)
    rw [evN_next, List.length_append, List.length_map, Nat.mul_add, Nat.mul_one]
    have := (k.getD (s := i) (by omega)).2.1
    omega
theorem evN_mem {steps : List (List Nat)} {i s b : Nat} : (s, b) ∈ evN steps i ↔ b < i ∧ s ∈ steps.getD b [] := by
  unfold evN
  rw [List.mem_flatMap]
  constructor
  · rintro ⟨x, hx, h⟩
    obtain ⟨t, ht, e⟩ := List.mem_map.mp h
    injection e with e1 e2
    subst e1 e2
    exact ⟨List.mem_range.mp hx, ht⟩
  · rintro ⟨h1, h2⟩
    exact ⟨b, List.mem_range.mpr h1, List.mem_map.mpr ⟨s, h2, rfl⟩⟩
def bkOf (steps : List (List Nat)) (n : Nat) : List (List Nat) := (List.range n).map fun s => ((evN steps n).filter fun e => decide (e.1 = s)).map (·.2)
def evD (es : List (Nat × Nat)) : List (Nat × PyData) := es.map fun e => (e.1, stepZ e.2)
theorem bkOf_D (steps : List (List Nat)) (n : Nat) : PyData.list ((backD (evD (evN steps n)) n).map PyData.list) = stepsZ (bkOf steps n) := by
  unfold stepsZ bkOf backD evD
  rw [List.map_map, List.map_map]
  congr 1
  apply List.map_congr_left
  intro s _
  show PyData.list _ = PyData.list _
  congr 1
  simp only [List.filter_map, List.map_map]
  rfl
theorem bkOf_mem {steps : List (List Nat)} {n s b : Nat} : b ∈ (bkOf steps n).getD s [] ↔ s < n ∧ b < n ∧ s ∈ steps.getD b [] := by
  by_cases hs : s < n
  · have e1 : (bkOf steps n).getD s [] = ((evN steps n).filter fun e => decide (e.1 = s)).map (·.2) := by simp [bkOf, hs]
    rw [e1, List.mem_map]
    constructor
    · rintro ⟨⟨x, y⟩, h, rfl⟩
      rw [List.mem_filter, decide_eq_true_eq] at h
      obtain ⟨h1, h2⟩ := h
      have h2 : x = s := h2
      subst h2
      exact ⟨hs, evN_mem.mp h1⟩
    · rintro ⟨_, h1, h2⟩
      exact ⟨(s, b), List.mem_filter.mpr ⟨evN_mem.mpr ⟨h1, h2⟩, by simp⟩, rfl⟩
  · simp [bkOf, hs]
theorem bkOf_ok {steps : List (List Nat)} {n c : Nat} (k : StepsOk steps n c) : StepsOk (bkOf steps n) n (c * n) := by
  refine ⟨by simp [bkOf], fun r hr => ?_⟩
  obtain ⟨x, hx, rfl⟩ := List.mem_map.mp hr
  refine ⟨?_, fun t ht => ?_⟩
  · rw [List.length_map]
    exact Nat.le_trans (List.length_filter_le (fun e : Nat × Nat => decide (e.1 = x)) (evN steps n)) (evN_len k n (Nat.le_refl _))
  · obtain ⟨⟨a, b⟩, h, rfl⟩ := List.mem_map.mp ht
    exact (evN_mem.mp (List.mem_filter.mp h).1).1
section
variable {P : Program} {w : World} {K : PySem.W.Frag} {mg : Str → Option Value} {base : Heap} {A : Adrs}
def R_least (ds : List PyData) (G : PyData → Prop) : Prop := ∃ (steps : List (List Nat)) (begins : List Nat) (n : Nat), ds = [stepsZ steps, .list (begins.map nI)] ∧ StepsOk steps n 90000 ∧ n ≤ 90000 ∧ begins.Nodup ∧ (∀ b ∈ begins, b < n) ∧
  G = fun r => ∃ lv : List Bool, r = .list (lv.map lz) ∧ lv.length = n ∧ ∀ s, s < n → (lv.getD s false = true ↔ Rch steps begins s)
theorem ok_least_counts (T : Txt K mg A) : FnOk P w K mg base CX0 1 A.f_least_counts A.d_least_counts ["steps", "begins"] (spQ K 2 R_least) := by
  refine T.F_least_counts.ok sc_least_counts (fun vs H Q E h => ?_) (fun cdv Ar outer s H vs Q E hr h => ?_)
  · exact spQ.len h
  refine ⟨_, (pss_cons (ps_set (i := 2) sc_least_counts.nd rfl (Or.inl rfl) (pe_op op_rep (pe_lst (pa_cons pe_non pa_nil)) (pe_callB (id := "len") (kLenQ K) (by rfl) T.z_len (by decide +kernel) (pa_cons (pv 0) pa_nil))))
    (pss_cons (ps_for PassesOwn.never rfl (kPiL K (pv 1)) (pg_name (i := 3) sc_least_counts.nd rfl (Or.inl rfl))
    (pss_one (ps_asg pe_int (pg_sub (pv 2) (pv 3) set_list))))
    (pss_cons (ps_set (i := 4) sc_least_counts.nd rfl (Or.inl rfl) (pe_callTy (T := "list") (kListOf K) (by rfl) T.z_list (by decide +kernel) (pa_cons (pv 1) pa_nil)))
    (pss_cons (ps_set (i := 5) sc_least_counts.nd rfl (Or.inl rfl) pe_int)
    (pss_cons (ps_while PassesOwn.never (pt_cmpR op_lt (pv 5) (pe_callB (id := "len") (kLenQ K) (by rfl) T.z_len (by decide +kernel) (pa_cons (pv 4) pa_nil)) (nomark _))
    (pss_cons (ps_set (i := 3) sc_least_counts.nd rfl (Or.inl rfl) (pe_ix (kIxL K) (pv 4) (pv 5) (fun _ _ => rfl)))
    (pss_cons (ps_for PassesOwn.never rfl (kPiL K (pe_ix (kIxL K) (pv 0) (pv 3) (fun _ _ => rfl))) (kTgT K (n := 2) (by rfl) (pgs_cons (pg_name (i := 6) sc_least_counts.nd rfl (Or.inl rfl)) (pgs_cons (pg_name (i := 7) sc_least_counts.nd rfl (Or.inl rfl)) pgs_nil)))
    (pss_cons (ps_set (i := 8) sc_least_counts.nd rfl (Or.inl rfl) (pe_op op_add (pe_ix (kIxL K) (pv 2) (pv 3) (fun _ _ => rfl)) (pv 7)))
    (pss_one (ps_if (PW.pt (pw_or (pt_cmpR op_isN (pe_ix (kIxL K) (pv 2) (pv 6) (fun _ _ => rfl)) pe_non (nomark _)) (pw_or1 (pt_cmpR op_lt (pv 8) (pe_ix (kIxL K) (pv 2) (pv 6) (fun _ _ => rfl)) (nomark _))))) (pss_cons (ps_asg (pv 8) (pg_sub (pv 2) (pv 6) set_list))
    (pss_one (ps_expr (kBm K (pe_bm PySem.F.plainAttrs_list PySem.F.slot_list_append PySem.F.type_list_append mt_append (pv 4) (pa_cons (pv 6) pa_nil))))))
    pss_nil))))
    (pss_one (ps_aug (i := 5) sc_least_counts.nd rfl (Or.inl rfl) pe_int ip_add)))))
    (pss_one (ps_ret (pv 2)))))))), ?_⟩
  refine spQ.ok h fun W ds G hR => ?_
  obtain ⟨steps, begins, n, rfl, ok, hn, nd, hb, rfl⟩ := hR
  have bl := nodup_le n begins nd hb
  walk_at "st"
  refine sw_seq (sw_ownRep ?_)
  walk_at "go"
  rw [List.length_map, ok.len]
  refine ⟨by omega, ?_⟩
  refine sw_seq (sw_forW ?_)
  walk_at "go"
  rw [List.length_map]
  refine ⟨fun j ρ _ => ρ = [.dat (stepsZ steps), .dat (.list (begins.map nI)), .own ((inW n (begins.take j)).map lz), .no, .no, .no, .no, .no, .no], ⟨[.dat (stepsZ steps), .dat (.list (begins.map nI)), .own (List.replicate n .none), .no, .no, .no, .no, .no, .no], by walk_at "le", ?_⟩, ?_, ?_⟩
  · have : (inW n (begins.take 0)).map lz = List.replicate n .none := by
      apply List.ext_getElem?
      intro i
      rw [List.getElem?_map]
      by_cases h : i < n
      · rw [inW_get h]; simp [h, lz]
      · have : (inW n (begins.take 0))[i]? = none := by simp [inW]; omega
        rw [this]; simp [h]
    dsimp only
    rw [this]
  · rintro j ρ1 k2 hj rfl
    rw [itemD_map hj]
    have hbj := hb begins[j] (List.getElem_mem hj)
    walk_at "tg"
    refine sw_setL (ev_int (ev_var rfl ⟨_, begins[j], rfl, rfl, by simp [inW]; exact hbj, ?_⟩)) ⟨_, rfl⟩
    have e : begins.take (j + 1) = begins.take j ++ [begins[j]] := by rw [List.take_add_one]; simp [hj]
    rw [inW_add hbj, ← e]
    exact ⟨_, by walk_at "le", rfl⟩
  rintro ρ1 k2 rfl
  rw [List.take_length]
  refine sw_seq (sw_ownOf (ev_var rfl ⟨_, .inl rfl, ?_⟩))
  walk_at "go"
  refine sw_while (fun m ρ _ => ∃ (wt : List Nat) (a : Nat) (s1 s2 s3 s4 : Slot), ρ = [.dat (stepsZ steps), .dat (.list (begins.map nI)), .own ((inW n wt).map lz), s1, .own (wt.map nI), .dat (nI a), s2, s3, s4] ∧ m = n - a ∧ wt.Nodup ∧ (∀ s ∈ wt, s < n ∧ Rch steps begins s) ∧ (∀ s ∈ begins, s ∈ wt) ∧ a ≤ wt.length ∧
    ∀ i s, i < a → wt[i]? = some s → ∀ t ∈ steps.getD s [], t ∈ wt) n ⟨begins, 0, _, _, _, _, rfl, by omega, nd, fun s hs => ⟨hb s hs, .base hs⟩, fun _ h => h, Nat.zero_le _, fun i s h => absurd h (Nat.not_lt_zero _)⟩ ?_
  rintro m ρ1 k1 ⟨wt, a, s1, s2, s3, s4, rfl, rfl, wnd, wlt, wb, ha, wd⟩
  have wl := nodup_le n wt wnd fun s hs => (wlt s hs).1
  refine et_test (ev_op (ev_var rfl (ev_ownLen rfl ?_)))
  walk_at "go"
  rw [List.length_map]
  refine if_split (fun h1 => ?_) (fun h1 => ?_)
  rotate_left
  · have ea : a = wt.length := by have := of_decide_eq_false h1; omega
    refine sw_freeze 2 rfl ?_
    walk_at "go"
    refine ⟨inW_len _ _, fun s hs => ?_⟩
    rw [List.getD_eq_getElem?_getD, inW_get hs, Option.getD_some, decide_eq_true_eq]
    refine ⟨fun h => (wlt s h).2, fun r => ?_⟩
    induction r with
    | base h => exact wb _ h
    | @next s t r ht ih =>
      have hs' : s < n := by
        refine Nat.lt_of_not_le fun le => ?_
        have : steps.getD s [] = [] := by rw [List.getD_eq_getElem?_getD, List.getElem?_eq_none (by rw [ok.len]; exact le)]; rfl
        rw [this] at ht
        cases ht
      obtain ⟨i, hi, e⟩ := List.mem_iff_getElem.mp (ih hs')
      exact wd i s (by omega) (by rw [List.getElem?_eq_getElem hi, e]) t ht
  have ha1 : a < wt.length := by have := of_decide_eq_true h1; omega
  have hwa : wt[a]? = some wt[a] := List.getElem?_eq_getElem ha1
  obtain ⟨slt0, srch⟩ := wlt wt[a] (List.getElem_mem ha1)
  obtain ⟨r1, r2, r3⟩ := ok.getD slt0
  generalize hs0 : wt[a] = s0 at hwa slt0 srch r1 r2 r3
  generalize hts : steps.getD s0 [] = ts at r1 r2 r3
  refine sw_seq (sw_set (ev_ownIx rfl (ev_var rfl ⟨a, rfl, nI s0, at_map hwa, ?_⟩)))
  walk_at "go"
  refine sw_forW ?_
  walk_at "go"
  refine rd_ixL rfl (at_map r1) ?_
  walk_at "go"
  rw [List.length_map]
  refine ⟨fun j ρ _ => ∃ wt : List Nat, ρ = [.dat (stepsZ steps), .dat (.list (begins.map nI)), .own ((inW n wt).map lz), .dat (nI s0), .own (wt.map nI), .dat (nI a), .no, .no, .no] ∧ wt.Nodup ∧ (∀ s ∈ wt, s < n ∧ Rch steps begins s) ∧ (∀ s ∈ begins, s ∈ wt) ∧ a < wt.length ∧ wt[a]? = some s0 ∧
    (∀ i s, i < a → wt[i]? = some s → ∀ t ∈ steps.getD s [], t ∈ wt) ∧ ∀ t ∈ ts.take j, t ∈ wt, ⟨_, by walk_at "le", wt, rfl, wnd, wlt, wb, ha1, hwa, wd, fun t h => by simp at h⟩, ?_, ?_⟩
  · clear wnd wlt wb ha wd wl ha1 h1 hwa hs0
    rintro j ρ2 k2 hj ⟨wt, rfl, wnd, wlt, wb, ha1, hwa, wd, wj⟩
    have wl := nodup_le n wt wnd fun s hs => (wlt s hs).1
    rw [itemD_map hj]
    have htn := r3 ts[j] (List.getElem_mem hj)
    have hs0w : s0 ∈ wt := List.mem_of_getElem? hwa
    have etk : ts.take (j + 1) = ts.take j ++ [ts[j]] := by rw [List.take_add_one]; simp [hj]
    generalize htj : ts[j] = t0 at htn etk
    have trch : Rch steps begins t0 := .next srch (by rw [hts, ← htj]; exact List.getElem_mem hj)
    have e0 : ((inW n wt).map lz)[s0]? = some (.int 0) := by
      rw [List.getElem?_map, inW_get slt0]; simp [hs0w, lz]
    walk_at "tg"
    refine sw_seq (sw_set (ev_op (ev_ownIx rfl (ev_var rfl ⟨s0, rfl, _, e0, ?_⟩))))
    refine ev_var rfl (rd_add ?_)
    refine sw_if (et_or (et_test (ev_op (ev_ownIx rfl (ev_var rfl ⟨t0, rfl, lz (decide (t0 ∈ wt)), by rw [List.getElem?_map, inW_get htn]; rfl, ?_⟩)))))
    walk_at "go"
    by_cases hin : t0 ∈ wt
    · rw [show isNone (lz (decide (t0 ∈ wt))) = false by simp [hin, lz, isNone]]
      refine if_split (fun z => by cases z) (fun _ => ?_)
      refine et_test (ev_op (ev_var rfl ?_))
      refine ev_ownIx rfl (ev_var rfl ⟨t0, rfl, .int 0, by rw [List.getElem?_map, inW_get htn]; simp [hin, lz], ?_⟩)
      walk_at "go"
      refine if_split (fun z => by simp at z) (fun _ => ?_)
      walk_at "go"
      refine ⟨_, by walk_at "le", wt, rfl, wnd, wlt, wb, ha1, hwa, wd, fun t ht => ?_⟩
      rw [etk] at ht
      rcases List.mem_append.mp ht with ht | ht
      · exact wj t ht
      · rw [List.mem_singleton.mp ht]; exact hin
    · rw [show isNone (lz (decide (t0 ∈ wt))) = true by simp [hin, lz, isNone]]
      refine if_split (fun _ => ?_) (fun z => by cases z)
      refine sw_seq (sw_setL (ev_var rfl (ev_var rfl ⟨_, t0, rfl, rfl, by simp [inW]; exact htn, ?_⟩)) ⟨_, rfl⟩)
      refine sw_append (ev_var rfl ⟨_, rfl, by rw [List.length_map]; omega, ?_⟩) ⟨_, rfl⟩
      rw [show PyData.int (0 + 0) = PyData.int 0 from rfl, inW_add htn]
      have e1 : wt.map nI ++ [nI t0] = (wt ++ [t0]).map nI := by rw [List.map_append]; rfl
      have ml : ∀ {x : Nat}, x ∈ wt → x ∈ wt ++ [t0] := fun h => List.mem_append_left _ h
      rw [e1]
      refine ⟨_, by walk_at "le", wt ++ [t0], rfl, ?_, fun s hs => ?_, fun s hs => ml (wb s hs), by rw [List.length_append]; omega, by rw [List.getElem?_append_left ha1]; exact hwa, fun i s hi hw t ht => ?_, fun t ht => ?_⟩
      · rw [List.nodup_append]
        exact ⟨wnd, by simp, fun x hx y hy => by
          rw [List.mem_singleton.mp hy]
          rintro rfl
          exact hin hx⟩
      · rcases List.mem_append.mp hs with hs | hs
        · exact wlt s hs
        · rw [List.mem_singleton.mp hs]; exact ⟨htn, trch⟩
      · rw [List.getElem?_append_left (by omega)] at hw
        exact ml (wd i s hi hw t ht)
      · rw [etk] at ht
        rcases List.mem_append.mp ht with ht | ht
        · exact ml (wj t ht)
        · rw [List.mem_singleton.mp ht]; simp
  · rintro ρ2 k2 ⟨wt, rfl, wnd, wlt, wb, ha1, hwa, wd, wj⟩
    have wl := nodup_le n wt wnd fun s hs => (wlt s hs).1
    rw [List.take_length] at wj
    refine sw_aug ⟨_, rfl⟩ ?_
    walk_at "go"
    refine ⟨_, _, rfl, rfl, n - (a + 1), by omega, wt, a + 1, _, _, _, _, rfl, rfl, wnd, wlt, wb, by omega, fun i s hi hw t ht => ?_⟩
    by_cases e : i = a
    · subst e
      rw [hwa] at hw
      cases hw
      rw [hts] at ht
      exact wj t ht
    · exact wd i s (by omega) hw t ht
def R_turned (ds : List PyData) (r : PyData) : Prop := ∃ (steps : List (List Nat)) (n : Nat), ds = [stepsZ steps] ∧ StepsOk steps n 100 ∧ n ≤ 100 ∧ r = stepsZ (bkOf steps n)
theorem ok__turned (T : Txt K mg A) : FnOk P w K mg base CX0 1 A.f__turned A.d__turned ["steps"] (spP K 1 R_turned) := by
  refine T.F__turned.ok sc__turned (fun vs H Q E h => ?_) (fun cdv Ar outer s H vs Q E hr h => ?_)
  · exact spP.len h
  refine ⟨_, (pss_cons (ps_setLc (i := 1) (own := [("_", 6)]) (by rfl) sc__turned.nd rfl rfl (sw_true rfl rfl rfl (by decide +kernel)) (kPiL K (pv 0)) (blkOk_by (own := [("_", 6)]) (N := N__turned) (sc := defScope s__turned) (by decide +kernel)) (fun _ _ _ _ _ => (pg_name (i := 6) sc__turned.nd rfl (Or.inl rfl))) (fun _ _ _ _ _ => pts_nil) (fun _ _ _ _ _ => (pe_lst pa_nil)))
    (pss_cons (ps_for PassesOwn.never rfl (kEnum K (by rfl) T.z_enumerate (pa_cons (pv 0) pa_nil)) (kTgT K (n := 2) (by rfl) (pgs_cons (pg_name (i := 2) sc__turned.nd rfl (Or.inl rfl)) (pgs_cons (pg_name (i := 3) sc__turned.nd rfl (Or.inl rfl)) pgs_nil)))
    (pss_one (ps_for PassesOwn.never rfl (kPiL K (pv 3)) (kTgT K (n := 2) (by rfl) (pgs_cons (pg_name (i := 4) sc__turned.nd rfl (Or.inl rfl)) (pgs_cons (pg_name (i := 5) sc__turned.nd rfl (Or.inl rfl)) pgs_nil)))
    (pss_one (ps_expr (kBm K (pe_bm PySem.F.plainAttrs_list PySem.F.slot_list_append PySem.F.type_list_append mt_append (pe_ix (kIxL K) (pv 1) (pv 4) (fun _ _ => rfl)) (pa_cons (pe_tup (pa_cons (pv 2) (pa_cons (pv 5) pa_nil))) pa_nil))))))))
    (pss_one (ps_ret (pv 1))))), ?_⟩
  refine spP.ok h fun W ds r hR => ?_
  obtain ⟨steps, n, rfl, hk, hn, rfl⟩ := hR
  have hlen := hk.len
  walk_at "st"
  refine sw_ll (ei_list (ev_var rfl ⟨_, rfl, ?_⟩))
  rw [List.length_map, hlen]
  refine ⟨by omega, fun j hj => ?_, by simp, fun l as ok hl => ?_⟩
  · walk_at "tg"
  refine sw_forW ?_
  walk_at "go"
  refine ⟨fun i ρ kk => ρ = [.dat (stepsZ steps), .raw (.ref l), .no, .no, .no, .no, .no] ∧ kk = (0, backD (evD (evN steps i)) n), ⟨_, by walk_at "le", rfl, by rw [show evD (evN steps 0) = [] from rfl, backD_nil]⟩, ?_, ?_⟩
  · rintro i ρ1 k2 hi ⟨rfl, rfl⟩
    rw [List.length_map] at hi
    rw [itemD_map hi]
    have hr := (hk.row steps[i] (List.getElem_mem hi))
    have erow : steps.getD i [] = steps[i] := by rw [List.getD_eq_getElem?_getD, List.getElem?_eq_getElem hi]; rfl
    have hi2 : i < n := by omega
    generalize steps[i] = row at hr erow ⊢
    walk_at "tg"
    refine sw_forW ?_
    walk_at "go"
    rw [List.length_map]
    refine ⟨fun j ρ kk => ρ = [.dat (stepsZ steps), .raw (.ref l), .dat (nI i), .dat (.list (row.map stepZ)), .no, .no, .no] ∧ kk = (0, backD (evD (evN steps i ++ (row.take j).map fun t => (t, i))) n), ⟨_, by walk_at "le", rfl, by simp⟩, ?_, ?_⟩
    · rintro j ρ1 k2 hj ⟨rfl, rfl⟩
      have ht := hr.2 row[j] (List.getElem_mem hj)
      rw [itemD_map hj]
      have le1 := evN_len hk i (by omega)
      walk_at "tg"
      refine sw_llappend ok rfl (ev_var rfl ⟨row[j], rfl, by rw [hl]; exact ht, ev_tup (ea_cons (ev_var rfl (ea_cons (ev_var rfl (ea_nil ⟨by simp, ?_, ?_⟩)))))⟩)
      · refine Nat.lt_of_le_of_lt (backD_row ht) ?_
        unfold evD
        rw [List.length_map, List.length_append, List.length_map, List.length_take]
        omega
      · refine ⟨_, by walk_at "le", rfl, ?_⟩
        have e : row.take (j + 1) = row.take j ++ [row[j]] := by rw [List.take_add_one]; simp [hj]
        rw [e, List.map_append, ← List.append_assoc]
        unfold evD
        rw [List.map_append (l₁ := evN steps i ++ _)]
        exact congrArg (Prod.mk 0) (backD_app ht)
    · rintro ρ1 k2 ⟨rfl, rfl⟩
      refine ⟨_, by walk_at "le", rfl, ?_⟩
      rw [evN_next, List.take_length, erow]
  · rintro ρ1 k2 ⟨rfl, rfl⟩
    rw [List.length_map, hlen]
    refine ⟨rfl, ?_⟩
    walk_at "go"
    exact bkOf_D steps n
end

abbrev rowD (r : List (Option Nat)) : PyData := .tuple (r.map optD)
abbrev kindD (L : Nat) (rows : List (List (Option Nat))) (ends : List Bool) : PyData := .tuple [nI L, .tuple (rows.map rowD), .tuple (ends.map PyData.bool)]
structure KOk (L N : Nat) (rows : List (List (Option Nat))) (ends : List Bool) : Prop where
  lr : rows.length = N
  le : ends.length = N
  row : ∀ r ∈ rows, r.length = L ∧ ∀ t, some t ∈ r → t < N
  l1 : 1 ≤ L
  l4 : L ≤ 4
  n1 : 1 ≤ N
  n9 : N ≤ 9
def stepsOf (rows : List (List (Option Nat))) : List (List Nat) := rows.map fun r => r.filterMap id
def endsOf (N : Nat) (ends : List Bool) : List Nat := (List.range N).filter fun s => ends.getD s false
def keepB (Bv : List Bool) : Option Nat → Option Nat
  | some t => if Bv.getD t false = true then some t else none
  | none => none
def trRow (L : Nat) (rows : List (List (Option Nat))) (Av Bv : List Bool) (s : Nat) : List (Option Nat) := if Av.getD s false = true then (rows.getD s []).map (keepB Bv) else List.replicate L none
def trD (L : Nat) (rows : List (List (Option Nat))) (Av Bv : List Bool) (s : Nat) : PyData := if Av.getD s false = true then .list ((trRow L rows Av Bv s).map optD) else .tuple ((trRow L rows Av Bv s).map optD)
def lastOf (N : Nat) (ends Av : List Bool) : List Bool := (List.range N).map fun s => ends.getD s false && Av.getD s false
def trimD (L N : Nat) (rows : List (List (Option Nat))) (ends Av Bv : List Bool) : PyData := .tuple [nI L, .list ((List.range N).map (trD L rows Av Bv)), .list ((lastOf N ends Av).map PyData.bool)]
structure Trims (N : Nat) (rows : List (List (Option Nat))) (ends Av Bv : List Bool) : Prop where
  la : Av.length = N
  lb : Bv.length = N
  a : ∀ s, s < N → (Av.getD s false = true ↔ Rch (stepsOf rows) [0] s)
  b : ∀ s, s < N → (Bv.getD s false = true ↔ Rch (bkOf (stepsOf rows) N) (endsOf N ends) s)
theorem stepsOf_ok {L N : Nat} {rows : List (List (Option Nat))} {ends : List Bool} (k : KOk L N rows ends) : StepsOk (stepsOf rows) N 4 := by
  refine ⟨by unfold stepsOf; rw [List.length_map]; exact k.lr, fun r hr => ?_⟩
  obtain ⟨x, hx, rfl⟩ := List.mem_map.mp hr
  obtain ⟨h1, h2⟩ := k.row x hx
  refine ⟨?_, fun t ht => ?_⟩
  · have := List.length_filterMap_le id x
    have := k.l4
    omega
  · obtain ⟨o, ho, e⟩ := List.mem_filterMap.mp ht
    have e : o = some t := e
    subst e
    exact h2 t ho
theorem stepRow (r : List (Option Nat)) : (((List.range r.length).filter fun i => (r.getD i none).isSome).map fun i => PyData.tuple [optD (r.getD i none), .int 0]) = (r.filterMap id).map stepZ := by
  have h : (List.range r.length).map (fun i => r.getD i none) = r := by
    apply List.ext_getElem?
    intro i
    rw [List.getElem?_map]
    by_cases hi : i < r.length
    · rw [List.getElem?_range hi]; simp [hi]
    · have : (List.range r.length)[i]? = none := by simp; omega
      rw [this]; simp [hi]
  have h2 : ((List.range r.length).filter fun i => (r.getD i none).isSome).map (fun i => r.getD i none) = r.filter (·.isSome) := by
    conv => rhs; rw [← h]
    rw [List.filter_map]
    rfl
  have h3 : ((List.range r.length).filter fun i => (r.getD i none).isSome).map (fun i => PyData.tuple [optD (r.getD i none), .int 0]) = (r.filter (·.isSome)).map fun o => PyData.tuple [optD o, .int 0] := by
    rw [← h2, List.map_map]; rfl
  rw [h3]
  clear h h2 h3
  induction r with
  | nil => rfl
  | cons o r ih =>
    cases o with
    | none => rw [List.filter_cons_of_neg (by decide), ih]; rfl
    | some t => rw [List.filter_cons_of_pos (by rfl), List.map_cons, ih]; rfl
theorem itemD_rep {d : PyData} {n i : Nat} (h : i < n) : itemD (List.replicate n d) i = d := by simp [itemD, h]
theorem lz_none (b : Bool) : isNone (lz b) = !b := by cases b <;> rfl
theorem range_mapB (ws : List Bool) (f : Bool → PyData) : (((List.range ws.length).filter fun _ => true).map fun j => f (ws.getD j false)) = ws.map f := by
  rw [List.filter_eq_self.mpr fun _ _ => rfl]
  apply List.ext_getElem?
  intro i
  rw [List.getElem?_map, List.getElem?_map]
  by_cases h : i < ws.length
  · rw [List.getElem?_range h]; simp [h]
  · have h2 : (List.range ws.length)[i]? = none := by simp; omega
    rw [h2]; simp [h]
theorem getDB {l : List Bool} {s n : Nat} (hl : l.length = n) (h : s < n) : l[s]? = some (l.getD s false) := by
  have : s < l.length := by omega
  rw [List.getD_eq_getElem?_getD, List.getElem?_eq_getElem this]; rfl
theorem getDO {l : List (Option Nat)} {s n : Nat} (hl : l.length = n) (h : s < n) : l[s]? = some (l.getD s none) := by
  have : s < l.length := by omega
  rw [List.getD_eq_getElem?_getD, List.getElem?_eq_getElem this]; rfl
theorem getDR {l : List (List (Option Nat))} {s n : Nat} (hl : l.length = n) (h : s < n) : l[s]? = some (l.getD s []) := by
  have : s < l.length := by omega
  rw [List.getD_eq_getElem?_getD, List.getElem?_eq_getElem this]; rfl
theorem itemD_at {α : Type} {f : α → PyData} {xs : List α} {j : Nat} {x : α} (h : xs[j]? = some x) : itemD (xs.map f) j = f x := by
  unfold itemD
  rw [List.getElem?_map, h]; rfl
section
variable {P : Program} {w : World} {K : PySem.W.Frag} {mg : Str → Option Value} {base : Heap} {A : Adrs}
def R_within (ds : List PyData) (G : PyData → Prop) : Prop := ∃ (L N : Nat) (rows : List (List (Option Nat))) (ends : List Bool), ds = [kindD L rows ends, .tuple (List.replicate L (.int 0)), .int 0] ∧ KOk L N rows ends ∧
  G = fun r => ∃ Av Bv, r = .tuple [trimD L N rows ends Av Bv, .list (Bv.map lz)] ∧ Trims N rows ends Av Bv
theorem ok_within (T : Txt K mg A) : FnOk P w K mg base CX0 2 A.f_within A.d_within ["kind", "unit", "most"] (spQ K 3 R_within) := by
  have G_least_counts : FnOk P w K mg base CX0 1 A.f_least_counts A.d_least_counts ["steps", "begins"] (spQ K 2 R_least) := ok_least_counts T
  have G__turned : FnOk P w K mg base CX0 1 A.f__turned A.d__turned ["steps"] (spP K 1 R_turned) := ok__turned T
  refine T.F_within.ok sc_within (fun vs H Q E h => ?_) (fun cdv Ar outer s H vs Q E hr h => ?_)
  · exact spQ.len h
  refine ⟨_, (pss_cons (ps_asg (pv 0) (kTgT K (n := 3) (by rfl) (pgs_cons (pg_name (i := 3) sc_within.nd rfl (Or.inl rfl)) (pgs_cons (pg_name (i := 4) sc_within.nd rfl (Or.inl rfl)) (pgs_cons (pg_name (i := 5) sc_within.nd rfl (Or.inl rfl)) pgs_nil)))))
    (pss_cons (ps_setLc (i := 6) (own := [("row", 11)]) (by rfl) sc_within.nd rfl rfl (sw_true rfl rfl rfl (by decide +kernel)) (kPiT K (pv 4)) (blkOk_by (own := [("row", 11)]) (N := N_within) (sc := defScope s_within) (by decide +kernel)) (fun _ _ _ _ _ => (pg_name (i := 11) sc_within.nd rfl (Or.inl rfl))) (fun _ _ _ _ _ => pts_nil) (fun _ _ _ _ _ => (pe_lc (own := [("target", 16), ("count", 14)]) rfl sc_within.nd (kZip K true true (by rfl) T.z_zip (pa_cons (pv 11) (pa_cons (pv 1) pa_nil))) (blkOk_by (own := [("target", 16), ("count", 14)]) (by kernel_rfl)) (fun _ _ _ _ _ => (kTgT K (n := 2) (by rfl) (pgs_cons (pg_name (i := 16) sc_within.nd rfl (Or.inl rfl)) (pgs_cons (pg_name (i := 14) sc_within.nd rfl (Or.inl rfl)) pgs_nil)))) (fun _ _ _ _ _ => (pts_one (pt_cmpR op_notN (pv 16) pe_non (nomark _)))) (fun _ _ _ _ _ => (pe_tup (pa_cons (pv 16) (pa_cons (pv 14) pa_nil)))))))
    (pss_cons (ps_set (i := 7) sc_within.nd rfl (Or.inl rfl) (pe_call G_least_counts (hr.mono (by first | decide | omega)) rfl T.m_least_counts T.k_least_counts T.b_least_counts .nil pass0 (pa_cons (pv 6) (pa_cons (pe_lst (pa_cons pe_int pa_nil)) pa_nil))))
    (pss_cons (ps_set (i := 8) sc_within.nd rfl (Or.inl rfl) (pe_call G_least_counts (hr.mono (by first | decide | omega)) rfl T.m_least_counts T.k_least_counts T.b_least_counts .nil pass0 (pa_cons (pe_call G__turned (hr.mono (by first | decide | omega)) rfl T.m__turned T.k__turned T.b__turned .nil pass0 (pa_cons (pv 6) pa_nil)) (pa_cons (pe_lc (own := [("state", 17), ("end", 15)]) rfl sc_within.nd (kEnumT K (by rfl) T.z_enumerate (pa_cons (pv 5) pa_nil)) (blkOk_by (own := [("state", 17), ("end", 15)]) (N := N_within) (sc := defScope s_within) (by decide +kernel)) (fun _ _ _ _ _ => (kTgT K (n := 2) (by rfl) (pgs_cons (pg_name (i := 17) sc_within.nd rfl (Or.inl rfl)) (pgs_cons (pg_name (i := 15) sc_within.nd rfl (Or.inl rfl)) pgs_nil)))) (fun _ _ _ _ _ => (pts_one (pt_val (pv 15)))) (fun _ _ _ _ _ => (pv 17))) pa_nil))))
    (pss_cons (ps_set (i := 9) sc_within.nd rfl (Or.inr rfl) (pe_lc (own := [("count", 14)]) rfl sc_within.nd (kPiL K (pv 8)) (blkOk_by (own := [("count", 14)]) (N := N_within) (sc := defScope s_within) (by decide +kernel)) (fun _ _ _ _ _ => (pg_name (i := 14) sc_within.nd rfl (Or.inl rfl))) (fun _ _ _ _ _ => pts_nil) (fun _ _ _ _ _ => (pe_ifExp (pt_cmpR op_isN (pv 14) pe_non (nomark _)) (pe_un un_neg pe_int) (pe_op op_sub (pv 2) (pv 14))))))
    (pss_cons (ps_set (i := 10) sc_within.nd rfl (Or.inl rfl) (pe_lst pa_nil))
    (pss_cons (ps_for PassesOwn.never rfl (kZip K true false (by rfl) T.z_zip (pa_cons (pv 4) (pa_cons (pv 7) pa_nil))) (kTgT K (n := 2) (by rfl) (pgs_cons (pg_name (i := 11) sc_within.nd rfl (Or.inl rfl)) (pgs_cons (pg_name (i := 12) sc_within.nd rfl (Or.inr rfl)) pgs_nil)))
    (pss_one (ps_if (pt_cmpR op_isN (pv 12) pe_non (nomark _)) (pss_one (ps_expr (kBm K (pe_bm PySem.F.plainAttrs_list PySem.F.slot_list_append PySem.F.type_list_append mt_append (pv 10) (pa_cons (pe_op (kTimes K) (pe_tup (pa_cons pe_non pa_nil)) (pv 3)) pa_nil)))))
    (pss_one (ps_expr (kBm K (pe_bm PySem.F.plainAttrs_list PySem.F.slot_list_append PySem.F.type_list_append mt_append (pv 10) (pa_cons (pe_lc (own := [("target", 16), ("count", 14)]) rfl sc_within.nd (kZip K true true (by rfl) T.z_zip (pa_cons (pv 11) (pa_cons (pv 1) pa_nil))) (blkOk_by (own := [("target", 16), ("count", 14)]) (N := N_within) (sc := defScope s_within) (by decide +kernel)) (fun _ _ _ _ _ => (kTgT K (n := 2) (by rfl) (pgs_cons (pg_name (i := 16) sc_within.nd rfl (Or.inl rfl)) (pgs_cons (pg_name (i := 14) sc_within.nd rfl (Or.inl rfl)) pgs_nil)))) (fun _ _ _ _ _ => pts_nil) (fun _ _ _ _ _ => (pe_ifExp (PW.pt (pw_and (pt_cmpR op_notN (pv 16) pe_non (nomark _)) (pw_and1 (pt_cmpR op_le (pe_op op_add (pv 12) (pv 14)) (pe_ix (kIxL K) (pv 9) (pv 16) (fun _ _ => rfl)) (nomark _))))) (pv 16) pe_non))) pa_nil))))))))
    (pss_cons (ps_setLc (i := 13) (own := [("end", 15), ("so_far", 12)]) (by rfl) sc_within.nd rfl rfl (sw_true rfl rfl rfl (by decide +kernel)) (kZip K true false (by rfl) T.z_zip (pa_cons (pv 5) (pa_cons (pv 7) pa_nil))) (blkOk_by (own := [("end", 15), ("so_far", 12)]) (N := N_within) (sc := defScope s_within) (by decide +kernel)) (fun _ _ _ _ _ => (kTgT K (n := 2) (by rfl) (pgs_cons (pg_name (i := 15) sc_within.nd rfl (Or.inl rfl)) (pgs_cons (pg_name (i := 12) sc_within.nd rfl (Or.inl rfl)) pgs_nil)))) (fun _ _ _ _ _ => pts_nil) (fun _ _ _ _ _ => (pe_and (pv 15) (pe_and (pe_cmpR op_notN (pv 12) pe_non (nomark _)) (pe_one (pe_cmpR op_le (pv 12) (pv 2) (nomark _)))))))
    (pss_one (ps_ret (pe_tup (pa_cons (pe_tup (pa_cons (pv 3) (pa_cons (pv 10) (pa_cons (pv 13) pa_nil)))) (pa_cons (pv 8) pa_nil))))))))))))), ?_⟩
  refine spQ.ok h fun W ds G hR => ?_
  obtain ⟨L, N, rows, ends, rfl, ok, rfl⟩ := hR
  have n9 := ok.n9
  have l4 := ok.l4
  have sok := stepsOf_ok ok
  walk_at "st"
  walk_at "go"
  -- the steps
  refine ev_lcP (fun _ => true) (fun i => PyData.list (((rows.getD i []).filterMap id).map stepZ)) (ei_tup (ev_var rfl ⟨_, rfl, ?_⟩))
  rw [List.length_map, ok.lr]
  refine ⟨by omega, fun i hi => ?_, ?_⟩
  · have hrow := getDR ok.lr hi
    have rok := ok.row _ (List.mem_of_getElem? hrow)
    rw [itemD_at hrow]
    generalize rows.getD i [] = row at rok
    walk_at "go"
    refine ev_lcP (fun i => (row.getD i none).isSome) (fun i => PyData.tuple [optD (row.getD i none), .int 0]) (ei_zipTT ?_)
    walk_at "go"
    rw [List.length_map, List.length_replicate]
    refine ⟨rok.1, ?_⟩
    rw [rok.1]
    refine ⟨by omega, fun j hj => ?_, ?_⟩
    · rw [itemD_at (getDO rok.1 hj), itemD_rep hj]
      walk_at "go"
      cases ho : row.getD j none with
      | none => exact ⟨rfl, rfl, fun z => by cases z⟩
      | some t =>
        refine ⟨rfl, rfl, fun _ => ?_⟩
        walk_at "go"
        try exact ⟨rfl, rfl⟩
    · have := stepRow row
      rw [rok.1] at this
      rw [this]
      exact ⟨rfl, rfl⟩
  have esteps : (((List.range N).filter fun _ => true).map fun i => PyData.list (((rows.getD i []).filterMap id).map stepZ)) = (stepsOf rows).map fun ts => PyData.list (ts.map stepZ) := by
    rw [List.filter_eq_self.mpr fun _ _ => rfl]
    unfold stepsOf
    rw [List.map_map]
    apply List.ext_getElem?
    intro i
    rw [List.getElem?_map, List.getElem?_map]
    by_cases h : i < N
    · rw [List.getElem?_range h, getDR ok.lr h]; rfl
    · have h1 : (List.range N)[i]? = none := by simp; omega
      have h2 : rows[i]? = none := by simp; rw [ok.lr]; omega
      rw [h1, h2]; rfl
  rw [esteps]
  walk_at "go"
  refine rc_q rfl ⟨stepsOf rows, [0], N, rfl, ⟨sok.len, fun r hr => ⟨by have := (sok.row r hr).1; omega, (sok.row r hr).2⟩⟩, by omega, by simp, fun b hb => by rw [List.mem_singleton.mp hb]; have := ok.n1; omega, rfl⟩ ?_
  rintro _ ⟨Av, rfl, la, ha⟩
  walk_at "go"
  refine rc_pure rfl ⟨stepsOf rows, N, rfl, ⟨sok.len, fun r hr => ⟨by have := (sok.row r hr).1; omega, (sok.row r hr).2⟩⟩, by omega, rfl⟩ ?_
  walk_at "go"
  refine ev_lcP (fun s => ends.getD s false) (fun s => nI s) (ei_enumT (ea_cons (ev_var rfl (ea_nil ⟨_, rfl, ?_⟩))))
  rw [List.length_map, ok.le]
  refine ⟨by omega, fun s hs => ?_, ?_⟩
  · dsimp only
    rw [itemD_at (getDB ok.le hs)]
    walk_at "go"
    refine fun _ => ?_
    walk_at "go"
  have eends : (((List.range N).filter fun s => ends.getD s false).map fun s => nI s) = (endsOf N ends).map nI := rfl
  rw [eends]
  walk_at "go"
  have bok := bkOf_ok sok
  refine rc_q rfl ⟨bkOf (stepsOf rows) N, endsOf N ends, N, rfl, ⟨bok.len, fun r hr => ⟨by have := (bok.row r hr).1; omega, (bok.row r hr).2⟩⟩, by omega, List.Pairwise.filter _ List.nodup_range, fun b hb => List.mem_range.mp (List.mem_filter.mp hb).1, rfl⟩ ?_
  rintro _ ⟨Bv, rfl, lb, hb⟩
  walk_at "go"
  -- the room
  refine ev_lcP (fun _ => true) (fun s => if Bv.getD s false = true then PyData.int 0 else .int (-1)) (ei_list (ev_var rfl ⟨_, rfl, ?_⟩))
  rw [List.length_map, lb]
  refine ⟨by omega, fun s hs => ?_, ?_⟩
  · rw [itemD_at (getDB lb hs)]
    walk_at "go"
    rw [lz_none]
    cases hB : Bv.getD s false with
    | true =>
      refine if_split (fun z => by cases z) (fun _ => ?_)
      rw [show lz true = PyData.int 0 from rfl]
      walk_at "go"
      try exact ⟨rfl, rfl⟩
    | false =>
      refine if_split (fun _ => ?_) (fun z => by cases z)
      walk_at "go"
      try exact ⟨rfl, rfl⟩
  have eroom : (((List.range N).filter fun _ => true).map fun s => if Bv.getD s false = true then PyData.int 0 else .int (-1)) = Bv.map fun b => if b = true then PyData.int 0 else .int (-1) := by
    rw [← lb]; exact range_mapB Bv (fun b => if b = true then PyData.int 0 else .int (-1))
  rw [eroom]
  walk_at "tg"
  refine sw_seq (sw_own (ea_nil ⟨by simp, ?_⟩))
  refine sw_seq (sw_forW (ei_zipTL ?_))
  walk_at "go"
  rw [List.length_map, List.length_map, ok.lr, la]
  refine ⟨rfl, ?_⟩
  refine ⟨fun j ρ _ => ρ = [.dat (kindD L rows ends), .dat (.tuple (List.replicate L (.int 0))), .dat (.int 0), .dat (nI L), .dat (.tuple (rows.map rowD)), .dat (.tuple (ends.map PyData.bool)), .dat (stepsZ (stepsOf rows)), .dat (.list (Av.map lz)), .dat (.list (Bv.map lz)), .dat (.list (Bv.map fun b => if b = true then PyData.int 0 else .int (-1))), .own ((List.range j).map (trD L rows Av Bv)), .no, .no, .no, .no, .no, .no, .no],
    ⟨_, by walk_at "le", rfl⟩, ?_, ?_⟩
  · rintro j ρ1 k2 hj rfl
    have hrow := getDR ok.lr hj
    have rok := ok.row _ (List.mem_of_getElem? hrow)
    rw [itemD_at hrow, itemD_at (getDB la hj)]
    walk_at "go"
    rw [lz_none]
    have app : (List.range (j + 1)).map (trD L rows Av Bv) = (List.range j).map (trD L rows Av Bv) ++ [trD L rows Av Bv j] := by rw [List.range_succ, List.map_append]; rfl
    cases hA : Av.getD j false with
    | false =>
      have e : trD L rows Av Bv j = .tuple (List.replicate L .none) := by
        unfold trD trRow
        rw [if_neg (by rw [hA]; decide), if_neg (by rw [hA]; decide), List.map_replicate]
        rfl
      refine if_split (fun _ => ?_) (fun z => by cases z)
      refine sw_append (ev_op (ev_tup (ea_cons (ev_non (ea_nil ⟨by simp, ev_var rfl (rd_times ok.l1 (by omega) ⟨_, rfl, by simp; omega, ?_⟩)⟩))))) ⟨_, rfl⟩
      rw [app, e]
      exact ⟨_, by walk_at "le", rfl⟩
    | true =>
      have e : trD L rows Av Bv j = .list (((rows.getD j []).map (keepB Bv)).map optD) := by
        unfold trD trRow
        rw [if_pos hA, if_pos hA]
      refine if_split (fun z => by cases z) (fun _ => ?_)
      generalize hrw : rows.getD j [] = row at rok e
      rw [app, e]
      refine sw_append (ev_lcP (fun _ => true) (fun i => optD (keepB Bv (row.getD i none))) (ei_zipTT ?_)) ⟨_, rfl⟩
      walk_at "go"
      rw [List.length_map, List.length_replicate]
      refine ⟨rok.1, ?_⟩
      rw [rok.1]
      refine ⟨by omega, fun i hi => ?_, ?_⟩
      · have ho := getDO rok.1 hi
        rw [itemD_at ho, itemD_rep hi]
        rw [show lz true = PyData.int 0 from rfl]
        walk_at "go"
        cases hoi : row.getD i none with
        | none =>
          rw [show (!isNone (optD none)) = false from rfl]
          refine if_split (fun z => by cases z) (fun _ => ?_)
          walk_at "go"
          exact ⟨rfl, rfl⟩
        | some t =>
          have tn : t < N := rok.2 t (by rw [hoi] at ho; exact List.mem_of_getElem? ho)
          rw [show (!isNone (optD (some t))) = true from rfl]
          refine if_split (fun _ => ?_) (fun z => by cases z)
          walk_at "go"
          refine rd_ixL (j := t) rfl (at_map (getDB lb tn)) ?_
          cases hB : Bv.getD t false with
          | true =>
            rw [if_pos rfl]
            walk_at "go"
            refine if_split (fun _ => ?_) (fun z => by simp at z)
            walk_at "go"
            exact ⟨by show optD (some t) = optD (if Bv.getD t false = true then some t else none); rw [if_pos hB], rfl⟩
          | false =>
            rw [if_neg (by decide)]
            walk_at "go"
            refine if_split (fun z => by simp at z) (fun _ => ?_)
            walk_at "go"
            exact ⟨by show PyData.none = optD (if Bv.getD t false = true then some t else none); rw [if_neg (by rw [hB]; decide)]; rfl, rfl⟩
      · have em : (((List.range L).filter fun _ => true).map fun i => optD (keepB Bv (row.getD i none))) = (row.map (keepB Bv)).map optD := by
          rw [List.filter_eq_self.mpr fun _ _ => rfl, List.map_map]
          apply List.ext_getElem?
          intro i
          rw [List.getElem?_map, List.getElem?_map]
          by_cases h : i < L
          · rw [List.getElem?_range h, getDO rok.1 h]; rfl
          · have h1 : (List.range L)[i]? = none := by simp; omega
            have h2 : row[i]? = none := by simp; rw [rok.1]; omega
            rw [h1, h2]; rfl
        rw [em]
        refine ⟨_, rfl, by simp; omega, ?_⟩
        exact ⟨_, by walk_at "le", rfl⟩
  rintro ρ1 k2 rfl
  refine sw_freeze 10 rfl ?_
  walk_at "go"
  refine ev_lcP (fun _ => true) (fun s => PyData.bool (ends.getD s false && Av.getD s false)) (ei_zipTL ?_)
  walk_at "go"
  rw [List.length_map, List.length_map, ok.le, la]
  refine ⟨rfl, by omega, fun s hs => ?_, ?_⟩
  · rw [itemD_at (getDB ok.le hs), itemD_at (getDB la hs)]
    walk_at "go"
    cases hE : ends.getD s false with
    | false =>
      refine if_split (fun z => by cases z) (fun _ => ?_)
      exact ⟨rfl, rfl⟩
    | true =>
      refine if_split (fun _ => ?_) (fun z => by cases z)
      walk_at "go"
      rw [lz_none]
      cases hA : Av.getD s false with
      | false =>
        refine if_split (fun z => by cases z) (fun _ => ?_)
        exact ⟨rfl, rfl⟩
      | true =>
        refine if_split (fun _ => ?_) (fun z => by cases z)
        rw [show lz true = PyData.int 0 from rfl]
        walk_at "go"
        exact ⟨rfl, rfl⟩
  have elast : (((List.range N).filter fun _ => true).map fun s => PyData.bool (ends.getD s false && Av.getD s false)) = (lastOf N ends Av).map PyData.bool := by
    rw [List.filter_eq_self.mpr fun _ _ => rfl]
    unfold lastOf
    rw [List.map_map]; rfl
  rw [elast]
  walk_at "go"
  exact ⟨la, lb, ha, hb⟩
def R_trimmed (ds : List PyData) (G : PyData → Prop) : Prop := ∃ (L N : Nat) (rows : List (List (Option Nat))) (ends : List Bool), ds = [kindD L rows ends] ∧ KOk L N rows ends ∧
  G = fun r => ∃ Av Bv, r = trimD L N rows ends Av Bv ∧ Trims N rows ends Av Bv
theorem ok_trimmed (T : Txt K mg A) : FnOk P w K mg base CX0 3 A.f_trimmed A.d_trimmed ["kind"] (spQ K 1 R_trimmed) := by
  have G_within : FnOk P w K mg base CX0 2 A.f_within A.d_within ["kind", "unit", "most"] (spQ K 3 R_within) := ok_within T
  refine T.F_trimmed.ok sc_trimmed (fun vs H Q E h => ?_) (fun cdv Ar outer s H vs Q E hr h => ?_)
  · exact spQ.len h
  refine ⟨_, (pss_one (ps_ret (pe_ix (kIxT K) (pe_call G_within (hr.mono (by first | decide | omega)) rfl T.m_within T.k_within T.b_within .nil pass0 (pa_cons (pv 0) (pa_cons (pe_op (kTimes K) (pe_tup (pa_cons pe_int pa_nil)) (pe_ix (kIxT K) (pv 0) pe_int (fun _ _ => rfl))) (pa_cons pe_int pa_nil)))) pe_int (fun _ _ => rfl)))), ?_⟩
  refine spQ.ok h fun W ds G hR => ?_
  obtain ⟨L, N, rows, ends, rfl, ok, rfl⟩ := hR
  have l4 := ok.l4
  walk_at "st"
  walk_at "go"
  refine rd_times ok.l1 (by omega) ?_
  walk_at "go"
  refine rc_q rfl ⟨L, N, rows, ends, rfl, ok, rfl⟩ ?_
  rintro _ ⟨Av, Bv, rfl, t⟩
  walk_at "go"
  exact t
end

/-! ### what is trimmed has the same words -/
def trRows (L N : Nat) (rows : List (List (Option Nat))) (Av Bv : List Bool) : List (List (Option Nat)) := (List.range N).map (trRow L rows Av Bv)
theorem trStep {L N : Nat} {rows : List (List (Option Nat))} {Av Bv : List Bool} {s c : Nat} (hs : s < N) : stepL (trRows L N rows Av Bv) s c = if Av.getD s false = true then keepB Bv (stepL rows s c) else none := by
  have e : (trRows L N rows Av Bv).getD s [] = trRow L rows Av Bv s := by simp [trRows, hs]
  unfold stepL
  rw [e]
  unfold trRow
  by_cases h : Av.getD s false = true
  · rw [if_pos h, if_pos h]
    generalize rows.getD s [] = r
    rw [List.getD_eq_getElem?_getD, List.getElem?_map, List.getD_eq_getElem?_getD]
    cases r[c]? <;> rfl
  · rw [if_neg h, if_neg h, List.getD_eq_getElem?_getD]
    by_cases hc : c < L
    · simp [hc]
    · simp [hc]
theorem stepL_mem {rows : List (List (Option Nat))} {s c t : Nat} (h : stepL rows s c = some t) : t ∈ (stepsOf rows).getD s [] := by
  unfold stepL at h
  have e : (stepsOf rows).getD s [] = (rows.getD s []).filterMap id := by
    unfold stepsOf
    rw [List.getD_eq_getElem?_getD, List.getElem?_map, List.getD_eq_getElem?_getD]
    cases rows[s]? <;> rfl
  rw [e, List.mem_filterMap]
  rw [List.getD_eq_getElem?_getD] at h
  cases hc : (rows.getD s [])[c]? with
  | none => rw [hc] at h; cases h
  | some o =>
    rw [hc] at h
    exact ⟨o, List.mem_of_getElem? hc, h⟩
theorem stepL_lt {L N : Nat} {rows : List (List (Option Nat))} {ends : List Bool} (k : KOk L N rows ends) {s c t : Nat} (h : stepL rows s c = some t) : t < N ∧ s < N ∧ c < L := by
  unfold stepL at h
  have hs : s < N := by
    refine Nat.lt_of_not_le fun le => ?_
    have : rows.getD s [] = [] := by rw [List.getD_eq_getElem?_getD, List.getElem?_eq_none (by rw [k.lr]; exact le)]; rfl
    rw [this] at h
    cases h
  have hrow := getDR k.lr hs
  have rok := k.row _ (List.mem_of_getElem? hrow)
  rw [List.getD_eq_getElem?_getD] at h
  cases hc : (rows.getD s [])[c]? with
  | none => rw [hc] at h; cases h
  | some o =>
    rw [hc] at h
    have h : o = some t := h
    subst h
    exact ⟨rok.2 t (List.mem_of_getElem? hc), hs, by have := (List.getElem?_eq_some_iff.mp hc).1; omega⟩
def InK (rows : List (List (Option Nat))) (ends : List Bool) (w : List Nat) : Prop := AccF (stepL rows) 0 (fun s => ends.getD s false) w
theorem lastOf_get {N s : Nat} {ends Av : List Bool} (h : s < N) : (lastOf N ends Av).getD s false = (ends.getD s false && Av.getD s false) := by simp [lastOf, h]
theorem run_lt {L N : Nat} {rows : List (List (Option Nat))} {ends : List Bool} (k : KOk L N rows ends) : ∀ (w : List Nat) (s t : Nat), s < N → runF (stepL rows) s w = some t → t < N ∧ ∀ c ∈ w, c < L
  | [], s, t, hs, h => by cases h; exact ⟨hs, fun _ z => nomatch z⟩
  | c :: w, s, t, hs, h => by
    obtain ⟨s', h1, h2⟩ := Option.bind_eq_some_iff.mp (show ((stepL rows s c).bind fun t => runF (stepL rows) t w) = some t from h)
    obtain ⟨g1, _, g2⟩ := stepL_lt k h1
    obtain ⟨a, b⟩ := run_lt k w s' t g1 h2
    exact ⟨a, fun x hx => (List.mem_cons.mp hx).elim (fun e => e ▸ g2) (b x)⟩
theorem trim_in {L N : Nat} {rows : List (List (Option Nat))} {ends Av Bv : List Bool} (k : KOk L N rows ends) (T : Trims N rows ends Av Bv) : ∀ (w : List Nat) (s t : Nat), s < N → Rch (stepsOf rows) [0] s → runF (stepL rows) s w = some t → ends.getD t false = true →
    runF (stepL (trRows L N rows Av Bv)) s w = some t ∧ Rch (stepsOf rows) [0] t ∧ Rch (bkOf (stepsOf rows) N) (endsOf N ends) s
  | [], s, t, hs, hr, h, he => by
    cases h
    exact ⟨rfl, hr, .base (List.mem_filter.mpr ⟨List.mem_range.mpr hs, he⟩)⟩
  | c :: w, s, t, hs, hr, h, he => by
    obtain ⟨s', h1, h2⟩ := Option.bind_eq_some_iff.mp (show ((stepL rows s c).bind fun t => runF (stepL rows) t w) = some t from h)
    obtain ⟨g1, _, _⟩ := stepL_lt k h1
    obtain ⟨i1, i2, i3⟩ := trim_in k T w s' t g1 (.next hr (stepL_mem h1)) h2 he
    refine ⟨?_, i2, .next i3 (bkOf_mem.mpr ⟨g1, hs, stepL_mem h1⟩)⟩
    show ((stepL (trRows L N rows Av Bv) s c).bind fun t => runF (stepL (trRows L N rows Av Bv)) t w) = some t
    rw [trStep hs, if_pos ((T.a s hs).mpr hr), h1]
    show ((if Bv.getD s' false = true then some s' else none).bind _) = _
    rw [if_pos ((T.b s' g1).mpr i3)]
    exact i1
theorem trim_out {L N : Nat} {rows : List (List (Option Nat))} {ends Av Bv : List Bool} (k : KOk L N rows ends) : ∀ (w : List Nat) (s t : Nat), s < N → runF (stepL (trRows L N rows Av Bv)) s w = some t → runF (stepL rows) s w = some t ∧ t < N
  | [], s, t, hs, h => by cases h; exact ⟨rfl, hs⟩
  | c :: w, s, t, hs, h => by
    obtain ⟨s', h1, h2⟩ := Option.bind_eq_some_iff.mp (show ((stepL (trRows L N rows Av Bv) s c).bind fun t => runF (stepL (trRows L N rows Av Bv)) t w) = some t from h)
    rw [trStep hs] at h1
    have h3 : stepL rows s c = some s' := by
      split at h1
      · cases hd : stepL rows s c with
        | none => rw [hd] at h1; cases h1
        | some x =>
          rw [hd] at h1
          have h1 : (if Bv.getD x false = true then some x else none) = some s' := h1
          split at h1
          · exact h1
          · cases h1
      · cases h1
    obtain ⟨g1, _, _⟩ := stepL_lt k h3
    obtain ⟨a, b⟩ := trim_out k w s' t g1 h2
    refine ⟨?_, b⟩
    show ((stepL rows s c).bind fun t => runF (stepL rows) t w) = some t
    rw [h3]
    exact a
theorem trim_acc {L N : Nat} {rows : List (List (Option Nat))} {ends Av Bv : List Bool} (k : KOk L N rows ends) (T : Trims N rows ends Av Bv) (w : List Nat) : AccF (stepL (trRows L N rows Av Bv)) 0 (fun s => (lastOf N ends Av).getD s false) w ↔ InK rows ends w := by
  have n1 := k.n1
  constructor
  · rintro ⟨t, h1, h2⟩
    obtain ⟨a, b⟩ := trim_out k w 0 t (by omega) h1
    refine ⟨t, a, ?_⟩
    have h2 : (lastOf N ends Av).getD t false = true := h2
    rw [lastOf_get b, Bool.and_eq_true] at h2
    exact h2.1
  · rintro ⟨t, h1, h2⟩
    obtain ⟨a, b⟩ := run_lt k w 0 t (by omega) h1
    obtain ⟨i1, i2, _⟩ := trim_in k T w 0 t (by omega) (.base (by simp)) h1 h2
    refine ⟨t, i1, ?_⟩
    have h2 : ends.getD t false = true := h2
    show (lastOf N ends Av).getD t false = true
    rw [lastOf_get a, h2, (T.a t a).mpr i2]
    rfl
theorem trStep_big {L N : Nat} {rows : List (List (Option Nat))} {ends Av Bv : List Bool} (k : KOk L N rows ends) (s c : Nat) (h : L ≤ c) : stepL (trRows L N rows Av Bv) s c = none := by
  by_cases hs : s < N
  · rw [trStep hs]
    cases hd : stepL rows s c with
    | none => split <;> rfl
    | some t => have := (stepL_lt k hd).2.2; omega
  · unfold stepL
    have : (trRows L N rows Av Bv).getD s [] = [] := by
      rw [List.getD_eq_getElem?_getD, List.getElem?_eq_none (by simp [trRows]; omega)]; rfl
    rw [this]
    rfl

/-! ### a search in breadth over sets of items -/
def runX {X : Type} (δ : X → Nat → Option X) : X → List Nat → Option X
  | x, [] => some x
  | x, c :: w => (δ x c).bind fun y => runX δ y w
theorem runX_snoc {X : Type} {δ : X → Nat → Option X} : ∀ {v : List Nat} {c : Nat} {x : X}, runX δ x (v ++ [c]) = (runX δ x v).bind fun y => δ y c
  | [], c, x => by
    show (δ x c).bind some = δ x c
    cases δ x c <;> rfl
  | d :: v, c, x => by
    show ((δ x d).bind fun y => runX δ y (v ++ [c])) = ((δ x d).bind fun y => runX δ y v).bind _
    cases δ x d with
    | none => rfl
    | some y => exact runX_snoc
def AccX {X : Type} (δ : X → Nat → Option X) (goal : X → Bool) (bs : List X) (w : List Nat) : Prop := ∃ b ∈ bs, ∃ x, runX δ b w = some x ∧ goal x = true
structure Mbf {X : Type} (δ : X → Nat → Option X) (goal : X → Bool) (bs : List X) (fs : List (List X)) (ws : List (List Nat)) (a j : Nat) : Prop where
  len : ws.length = fs.length
  zw : ws[0]? = some []
  zf : fs[0]? = some bs
  run : ∀ (i : Nat) (l : List X) (w : List Nat) (x : X), fs[i]? = some l → ws[i]? = some w → x ∈ l → ∃ b ∈ bs, runX δ b w = some x
  ng : ∀ l ∈ fs, ∀ x ∈ l, goal x = false
  sorted : ∀ (i k : Nat) (v w : List Nat), i < k → ws[i]? = some v → ws[k]? = some w → slt v w
  done : ∀ (i c : Nat) (l : List X) (w : List Nat) (x y : X), (i < a ∨ (i = a ∧ c < j)) → fs[i]? = some l → ws[i]? = some w → x ∈ l → δ x c = some y → ∃ (k : Nat) (l' : List X) (v : List Nat), fs[k]? = some l' ∧ y ∈ l' ∧ ws[k]? = some v ∧ ¬ slt (w ++ [c]) v
  last : ∀ (i : Nat) (w : List Nat), ws[i]? = some w → i ≠ 0 → ∃ (k c : Nat) (v : List Nat), ws[k]? = some v ∧ w = v ++ [c] ∧ (k < a ∨ (k = a ∧ c < j))
section
variable {X : Type} {δ : X → Nat → Option X} {goal : X → Bool} {bs : List X} {fs : List (List X)} {ws : List (List Nat)} {a j : Nat}
theorem Mbf.start (h : ∀ b ∈ bs, goal b = false) : Mbf δ goal bs [bs] [[]] 0 0 where
  len := rfl
  zw := rfl
  zf := rfl
  run := fun i l w x h1 h2 hx => by
    match i, h1, h2 with
    | 0, h1, h2 => cases h1; cases h2; exact ⟨x, hx, rfl⟩
    | i + 1, h1, _ => simp at h1
  ng := fun l hl x hx => by rw [List.mem_singleton.mp hl] at hx; exact h x hx
  sorted := fun i k v w ik h1 h2 => by
    match k, h2 with
    | 0, _ => omega
    | k + 1, h2 => simp at h2
  done := fun i c l w x y h => by omega
  last := fun i w h1 h2 => by
    match i, h1, h2 with
    | 0, _, h2 => exact absurd rfl h2
    | i + 1, h1, _ => simp at h1
theorem Mbf.before (B : Mbf δ goal bs fs ws a j) {i : Nat} {w v : List Nat} (hv : ws[i]? = some v) (hw : ws[a]? = some w) : slt v (w ++ [j]) := by
  by_cases i0 : i = 0
  · subst i0
    rw [B.zw] at hv
    cases hv
    exact slt_nil _ _
  · obtain ⟨k, c, u, hu, rfl, h⟩ := B.last i v hv i0
    rw [slt_snoc]
    rcases h with h | ⟨rfl, h⟩
    · exact .inl (B.sorted k a u w h hu hw)
    · rw [hu] at hw
      cases hw
      exact .inr ⟨rfl, h⟩
/-- a letter that brings nothing new -/
theorem Mbf.skip {l : List X} (B : Mbf δ goal bs fs ws a j) (hf : fs[a]? = some l) (h : ∀ x ∈ l, ∀ y, δ x j = some y → ∃ m ∈ fs, y ∈ m) : Mbf δ goal bs fs ws a (j + 1) where
  len := B.len
  zw := B.zw
  zf := B.zf
  run := B.run
  ng := B.ng
  sorted := B.sorted
  done := fun i c l' w x y hi h1 h2 hx h3 => by
    by_cases e : i < a ∨ (i = a ∧ c < j)
    · exact B.done i c l' w x y e h1 h2 hx h3
    · have ei : i = a := by omega
      have ec : c = j := by omega
      subst ei ec
      rw [hf] at h1
      cases h1
      obtain ⟨m, hm, hy⟩ := h x hx y h3
      obtain ⟨k, hk, e⟩ := List.mem_iff_getElem.mp hm
      have hk2 : k < ws.length := by rw [B.len]; exact hk
      exact ⟨k, m, ws[k], by rw [List.getElem?_eq_getElem hk, e], hy, List.getElem?_eq_getElem hk2, slt_asymm (B.before (List.getElem?_eq_getElem hk2) h2)⟩
  last := fun i w h1 h2 => by
    obtain ⟨k, c, v, g1, g2, g3⟩ := B.last i w h1 h2
    exact ⟨k, c, v, g1, g2, by omega⟩
/-- a letter that brings new items -/
theorem Mbf.add {l l' : List X} {w : List Nat} (B : Mbf δ goal bs fs ws a j) (hf : fs[a]? = some l) (hw : ws[a]? = some w) (h : ∀ x ∈ l, ∀ y, δ x j = some y → (∃ m ∈ fs, y ∈ m) ∨ y ∈ l') (hl : ∀ y ∈ l', ∃ x ∈ l, δ x j = some y) (hg : ∀ y ∈ l', goal y = false) :
    Mbf δ goal bs (fs ++ [l']) (ws ++ [w ++ [j]]) a (j + 1) := by
  have la : a < fs.length := (List.getElem?_eq_some_iff.mp hf).1
  have up : ∀ {α : Type} (l : List α) (x : α) (i : Nat) (y : α), l[i]? = some y → (l ++ [x])[i]? = some y := fun l x i y h => by
    rw [List.getElem?_append_left (List.getElem?_eq_some_iff.mp h).1]; exact h
  have cs : ∀ {α : Type} (l : List α) (x : α) (i : Nat) (y : α), (l ++ [x])[i]? = some y → l[i]? = some y ∨ (i = l.length ∧ y = x) := fun l x i y h => by
    by_cases hi : i < l.length
    · rw [List.getElem?_append_left hi] at h; exact .inl h
    · rw [List.getElem?_append_right (by omega)] at h
      have := (List.getElem?_eq_some_iff.mp h).1
      simp at this
      have ei : i = l.length := by omega
      subst ei
      simp at h
      exact .inr ⟨rfl, h.symm⟩
  refine ⟨by simp [B.len], up _ _ _ _ B.zw, up _ _ _ _ B.zf, fun i m v x h1 h2 hx => ?_, fun m hm x hx => ?_, fun i k v v' ik h1 h2 => ?_, fun i c m v x y hi h1 h2 hx h3 => ?_, fun i v h1 h2 => ?_⟩
  · rcases cs _ _ _ _ h1 with h1 | ⟨e1, rfl⟩
    · rcases cs _ _ _ _ h2 with h2 | ⟨e2, rfl⟩
      · exact B.run i m v x h1 h2 hx
      · have := (List.getElem?_eq_some_iff.mp h1).1
        have := B.len
        omega
    · rcases cs _ _ _ _ h2 with h2 | ⟨e2, rfl⟩
      · have := (List.getElem?_eq_some_iff.mp h2).1
        have := B.len
        omega
      · obtain ⟨x0, hx0, hd⟩ := hl x hx
        obtain ⟨b, hb, hr⟩ := B.run a l w x0 hf hw hx0
        exact ⟨b, hb, by rw [runX_snoc, hr]; exact hd⟩
  · rcases List.mem_append.mp hm with hm | hm
    · exact B.ng m hm x hx
    · rw [List.mem_singleton.mp hm] at hx; exact hg x hx
  · rcases cs _ _ _ _ h2 with h2 | ⟨e2, rfl⟩
    · rcases cs _ _ _ _ h1 with h1 | ⟨e1, rfl⟩
      · exact B.sorted i k v v' ik h1 h2
      · have := (List.getElem?_eq_some_iff.mp h2).1
        omega
    · rcases cs _ _ _ _ h1 with h1 | ⟨e1, rfl⟩
      · exact B.before h1 hw
      · omega
  · rcases cs _ _ _ _ h2 with q2 | ⟨e2, rfl⟩
    · rcases cs _ _ _ _ h1 with q1 | ⟨e1, rfl⟩
      · by_cases e : i < a ∨ (i = a ∧ c < j)
        · obtain ⟨k, l2, u, g1, g2, g3, g4⟩ := B.done i c m v x y e q1 q2 hx h3
          exact ⟨k, l2, u, up _ _ _ _ g1, g2, up _ _ _ _ g3, g4⟩
        · have ei : i = a := by omega
          have ec : c = j := by omega
          subst ei ec
          rw [hf] at q1
          cases q1
          rw [hw] at q2
          cases q2
          rcases h x hx y h3 with ⟨m, hm, hy⟩ | hy
          · obtain ⟨k, hk, e⟩ := List.mem_iff_getElem.mp hm
            have hk2 : k < ws.length := by rw [B.len]; exact hk
            exact ⟨k, m, ws[k], up _ _ _ _ (by rw [List.getElem?_eq_getElem hk, e]), hy, up _ _ _ _ (List.getElem?_eq_getElem hk2), slt_asymm (B.before (List.getElem?_eq_getElem hk2) hw)⟩
          · exact ⟨fs.length, l', w ++ [c], by simp, hy, by rw [← B.len]; simp, slt_irrefl _⟩
      · have := (List.getElem?_eq_some_iff.mp q2).1
        have := B.len
        omega
    · have : i = fs.length := by rw [e2]; exact B.len
      omega
  · rcases cs _ _ _ _ h1 with h1 | ⟨e1, rfl⟩
    · obtain ⟨k, c, u, g1, g2, g3⟩ := B.last i v h1 h2
      exact ⟨k, c, u, up _ _ _ _ g1, g2, by omega⟩
    · exact ⟨a, j, w, up _ _ _ _ hw, rfl, by omega⟩
theorem Mbf.next {l : List X} (B : Mbf δ goal bs fs ws a j) (hf : fs[a]? = some l) (h : ∀ x ∈ l, ∀ c, j ≤ c → δ x c = none) : Mbf δ goal bs fs ws (a + 1) 0 where
  len := B.len
  zw := B.zw
  zf := B.zf
  run := B.run
  ng := B.ng
  sorted := B.sorted
  done := fun i c l' w x y hi h1 h2 hx h3 => by
    refine B.done i c l' w x y ?_ h1 h2 hx h3
    by_cases e : i = a
    · subst e
      rw [hf] at h1
      cases h1
      refine .inr ⟨rfl, Nat.lt_of_not_le fun le => ?_⟩
      rw [h x hx c le] at h3
      cases h3
    · exact .inl (by omega)
  last := fun i w h1 h2 => by
    obtain ⟨k, c, v, g1, g2, g3⟩ := B.last i w h1 h2
    exact ⟨k, c, v, g1, g2, by omega⟩
theorem Mbf.lt_of (B : Mbf δ goal bs fs ws a j) {k i : Nat} {v w : List Nat} (hv : ws[k]? = some v) (hw : ws[i]? = some w) (h : slt v w) : k < i := by
  rcases Nat.lt_trichotomy k i with e | e | e
  · exact e
  · subst e
    rw [hv] at hw
    cases hw
    exact absurd h (slt_irrefl _)
  · exact absurd h (slt_asymm (B.sorted i k w v e hw hv))
theorem Mbf.cover (B : Mbf δ goal bs fs ws a j) {w : List Nat} (hw : ws[a]? = some w) {b : X} (hb : b ∈ bs) : ∀ (n : Nat) (u : List Nat) (x : X), u.length = n → ¬ slt w u → runX δ b u = some x → ∃ (k : Nat) (l : List X) (v : List Nat), fs[k]? = some l ∧ x ∈ l ∧ ws[k]? = some v ∧ ¬ slt u v
  | 0, u, x, hn, _, hr => by
    have : u = [] := List.length_eq_zero_iff.mp hn
    subst this
    cases hr
    exact ⟨0, bs, [], B.zf, hb, B.zw, slt_irrefl _⟩
  | n + 1, u, x, hn, hx, hr => by
    rcases snoc_of u with rfl | ⟨y, e, rfl⟩
    · cases hn
    · rw [runX_snoc] at hr
      obtain ⟨x', hy, he⟩ := Option.bind_eq_some_iff.mp hr
      have yx : slt y (y ++ [e]) := .inl (by simp)
      obtain ⟨k, l, v, h1, h2, h3, h4⟩ := B.cover hw hb n y x' (by simpa using hn) (fun z => hx (slt_trans z yx)) hy
      have vw : slt v w := slt_le2 (slt_le h4 yx) hx
      have hk := B.lt_of h3 hw vw
      obtain ⟨k', l', v', g1, g2, g3, g4⟩ := B.done k e l v x' x (.inl hk) h1 h3 h2 he
      refine ⟨k', l', v', g1, g2, g3, fun z => g4 ?_⟩
      rcases slt_tri v y with q | q | q
      · exact slt_trans (slt_snoc.mpr (.inl q)) z
      · rw [q]; exact z
      · exact absurd q h4
theorem Mbf.found {l : List X} {w : List Nat} {x y : X} (B : Mbf δ goal bs fs ws a j) (hf : fs[a]? = some l) (hw : ws[a]? = some w) (hx : x ∈ l) (hy : δ x j = some y) (hg : goal y = true) : AccX δ goal bs (w ++ [j]) ∧ ∀ u, AccX δ goal bs u → ¬ slt u (w ++ [j]) := by
  obtain ⟨b, hb, hr⟩ := B.run a l w x hf hw hx
  refine ⟨⟨b, hb, y, by rw [runX_snoc, hr]; exact hy, hg⟩, ?_⟩
  rintro u ⟨b', hb', z, hz, hgz⟩ lt
  rcases snoc_of u with rfl | ⟨v, d, rfl⟩
  · cases hz
    rw [B.ng _ (List.mem_of_getElem? B.zf) _ hb'] at hgz
    cases hgz
  · rw [slt_snoc] at lt
    rw [runX_snoc] at hz
    obtain ⟨x', hv, hd⟩ := Option.bind_eq_some_iff.mp hz
    have nlt : ¬ slt w v := by
      rcases lt with lt | ⟨rfl, _⟩
      · exact slt_asymm lt
      · exact slt_irrefl _
    obtain ⟨k, l', v', h1, h2, h3, h4⟩ := B.cover hw hb' _ v x' rfl nlt hv
    have hk : k < a ∨ (k = a ∧ d < j) := by
      rcases lt with lt | ⟨rfl, hd⟩
      · exact .inl (B.lt_of h3 hw (slt_le h4 lt))
      · rcases slt_tri v' v with q | q | q
        · exact .inl (B.lt_of h3 hw q)
        · subst q
          refine .inr ⟨?_, hd⟩
          rcases Nat.lt_trichotomy k a with e | e | e
          · exact absurd (B.sorted k a _ _ e h3 hw) (slt_irrefl _)
          · exact e
          · exact absurd (B.sorted a k _ _ e hw h3) (slt_irrefl _)
        · exact absurd q h4
    obtain ⟨k', l2, v2, g1, g2, _, _⟩ := B.done k d l' v' x' z hk h1 h3 h2 hd
    rw [B.ng l2 (List.mem_of_getElem? g1) z g2] at hgz
    cases hgz
theorem Mbf.finish (B : Mbf δ goal bs fs ws fs.length 0) : ∀ u, ¬ AccX δ goal bs u := by
  have all : ∀ (n : Nat) (u : List Nat) (b x : X), b ∈ bs → u.length = n → runX δ b u = some x → ∃ l ∈ fs, x ∈ l := fun n => by
    induction n with
    | zero =>
      intro u b x hb hn hr
      have : u = [] := List.length_eq_zero_iff.mp hn
      subst this
      cases hr
      exact ⟨bs, List.mem_of_getElem? B.zf, hb⟩
    | succ n ih =>
      intro u b x hb hn hr
      rcases snoc_of u with rfl | ⟨y, e, rfl⟩
      · cases hn
      · rw [runX_snoc] at hr
        obtain ⟨x', hy, he⟩ := Option.bind_eq_some_iff.mp hr
        obtain ⟨l, hl, hx⟩ := ih y b x' hb (by simpa using hn) hy
        obtain ⟨k, hk, e2⟩ := List.mem_iff_getElem.mp hl
        have hk2 : k < ws.length := by rw [B.len]; exact hk
        obtain ⟨k', l', v', g1, g2, _, _⟩ := B.done k e l ws[k] x' x (.inl hk) (by rw [List.getElem?_eq_getElem hk, e2]) (List.getElem?_eq_getElem hk2) hx he
        exact ⟨l', List.mem_of_getElem? g1, g2⟩
  rintro u ⟨b, hb, x, hr, hg⟩
  obtain ⟨l, hl, hx⟩ := all _ u b x hb rfl hr
  rw [B.ng l hl x hx] at hg
  cases hg
end

-- SPLIT
abbrev encU (u : List Nat) : PyData := .tuple (u.map nI)
abbrev encR (rd : List Nat) : PyData := .tuple (rd.map nI)
abbrev encM (m : List Nat) : PyData := .list (m.map nI)
def encO : Option Nat → PyData | none => .none | some n => nI n
/-! ### roads: facts about plain lists -/
def cntN (u : List Nat) (ws : List Nat) : Nat := (ws.map fun c => u.getD c 0).sum
theorem cntN_app (u a b : List Nat) : cntN u (a ++ b) = cntN u a + cntN u b := by simp [cntN]
theorem cntN_cons (u : List Nat) (c : Nat) (ws : List Nat) : cntN u (c :: ws) = u.getD c 0 + cntN u ws := by simp [cntN]
def readL (u : List Nat) : List Nat → Nat → Nat
  | [], _ => 0
  | c :: ws, n => if u.getD c 0 ≤ n then readL u ws (n - u.getD c 0) + 1 else 0
theorem readL_le (u : List Nat) : ∀ (ws : List Nat) (n : Nat), readL u ws n ≤ ws.length
  | [], _ => Nat.le_refl _
  | c :: ws, n => by
    unfold readL
    split
    · have := readL_le u ws (n - u.getD c 0); rw [List.length_cons]; omega
    · exact Nat.zero_le _
theorem readL_cnt (u : List Nat) : ∀ (ws : List Nat) (n : Nat), cntN u (ws.take (readL u ws n)) ≤ n
  | [], n => by simp [readL, cntN]
  | c :: ws, n => by
    unfold readL
    split
    · have := readL_cnt u ws (n - u.getD c 0)
      rw [List.take_succ_cons, cntN_cons]; omega
    · simp [cntN]
theorem readL_max (u : List Nat) : ∀ (ws : List Nat) (n p : Nat), p ≤ ws.length → cntN u (ws.take p) ≤ n → p ≤ readL u ws n
  | _, _, 0, _, _ => Nat.zero_le _
  | [], n, p + 1, h, _ => absurd h (by simp)
  | c :: ws, n, p + 1, h, hc => by
    rw [List.take_succ_cons, cntN_cons] at hc
    unfold readL
    rw [if_pos (by omega)]
    have := readL_max u ws (n - u.getD c 0) p (by rw [List.length_cons] at h; omega) (by omega)
    omega
theorem readL_skip (u : List Nat) : ∀ (p : Nat) (ws : List Nat) (n : Nat), p ≤ ws.length → cntN u (ws.take p) ≤ n → readL u ws n = p + readL u (ws.drop p) (n - cntN u (ws.take p))
  | 0, ws, n, _, _ => by simp [cntN]
  | p + 1, [], n, h, _ => absurd h (by simp)
  | p + 1, c :: ws, n, h, hc => by
    rw [List.take_succ_cons, cntN_cons] at hc ⊢
    have := readL_skip u p ws (n - u.getD c 0) (by rw [List.length_cons] at h; omega) (by omega)
    rw [readL, if_pos (by omega), this, List.drop_succ_cons, Nat.sub_sub]
    omega
/-- where a place goes on a unit -/
def onP (u ws : List Nat) (p : Nat) : Nat := p + readL u (ws.drop p) 0
theorem onP_le {u ws : List Nat} {p : Nat} (h : p ≤ ws.length) : onP u ws p ≤ ws.length := by
  have := readL_le u (ws.drop p) 0
  rw [List.length_drop] at this
  unfold onP; omega
theorem onP_read {u ws : List Nat} {p : Nat} (h : p ≤ ws.length) : readL u ws (cntN u (ws.take p)) = onP u ws p := by
  rw [readL_skip u p ws _ h (Nat.le_refl _), Nat.sub_self]; rfl
theorem onP_end (u ws : List Nat) : onP u ws ws.length = ws.length := by simp [onP, readL]
theorem onP_step {u ws : List Nat} {p : Nat} (h : p < ws.length) : onP u ws p = if u.getD ws[p] 0 = 0 then onP u ws (p + 1) else p := by
  unfold onP
  rw [← List.getElem_cons_drop h, readL]
  by_cases e : u.getD ws[p] 0 = 0
  · rw [if_pos (by omega), if_pos e, e, Nat.sub_zero]; omega
  · rw [if_neg (by omega), if_neg e]; omega
def goP (us : List (List Nat)) (ws : List Nat) (rs : List Nat) (p : Nat) : Nat := rs.foldl (fun p i => onP (us.getD i []) ws p) p
theorem goP_le (us : List (List Nat)) (ws : List Nat) : ∀ (rs : List Nat) (p : Nat), p ≤ ws.length → goP us ws rs p ≤ ws.length
  | [], p, h => h
  | r :: rs, p, h => goP_le us ws rs _ (onP_le h)
theorem goP_snoc (us : List (List Nat)) (ws rs : List Nat) (r p : Nat) : goP us ws (rs ++ [r]) p = onP (us.getD r []) ws (goP us ws rs p) := by
  unfold goP; rw [List.foldl_append]; rfl
def comesF (us : List (List Nat)) (rd ws : List Nat) (n : Nat) : Nat := goP us ws rd.tail (readL (us.getD (rd.headD 0) []) ws n)
theorem comesF_le (us : List (List Nat)) (rd ws : List Nat) (n : Nat) : comesF us rd ws n ≤ ws.length := goP_le _ _ _ _ (readL_le _ _ _)
/-- the least number that comes to a place -/
def firstF (f : Nat → Nat) (N p : Nat) : Option Nat := (List.range N).find? fun n => f n == p
theorem firstF_some {f : Nat → Nat} {N p j : Nat} (hj : j < N) (h : f j = p) (hm : ∀ m, m < j → f m ≠ p) : firstF f N p = some j := by
  unfold firstF
  rw [List.find?_range_eq_some]
  refine ⟨by simp [h], List.mem_range.mpr hj, fun m hmj => ?_⟩
  simpa using hm m hmj
theorem firstF_none {f : Nat → Nat} {N p : Nat} (h : ∀ m, m < N → f m ≠ p) : firstF f N p = none := by
  unfold firstF
  rw [List.find?_eq_none]
  intro m hm
  simpa using h m (List.mem_range.mp hm)
theorem firstF_cases (f : Nat → Nat) (N p : Nat) : (firstF f N p = none ∧ ∀ m, m < N → f m ≠ p) ∨ ∃ j, firstF f N p = some j ∧ j < N ∧ f j = p ∧ ∀ m, m < j → f m ≠ p := by
  cases e : firstF f N p with
  | none =>
    refine .inl ⟨rfl, fun m hm => ?_⟩
    have := List.find?_eq_none.mp e m (List.mem_range.mpr hm)
    simpa using this
  | some j =>
    unfold firstF at e
    rw [List.find?_range_eq_some] at e
    refine .inr ⟨j, rfl, List.mem_range.mp e.2.1, by simpa using e.1, fun m hm => by simpa using e.2.2 m hm⟩
theorem cntN_mono (u ws : List Nat) {a b : Nat} (h : a ≤ b) : cntN u (ws.take a) ≤ cntN u (ws.take b) := by
  obtain ⟨d, rfl⟩ := Nat.exists_eq_add_of_le h
  rw [List.take_add, cntN_app]; omega
theorem cntN_step {u ws : List Nat} {i : Nat} (h : i < ws.length) : cntN u (ws.take (i + 1)) = cntN u (ws.take i) + u.getD ws[i] 0 := by
  rw [List.take_add_one, cntN_app]
  simp [h, cntN]
/-- below the count of a place nothing comes so far -/
theorem read_low {u ws : List Nat} {i n : Nat} (h : n < cntN u (ws.take i)) : readL u ws n < i := by
  refine Nat.lt_of_not_le fun c => ?_
  have h1 := readL_cnt u ws n
  have h2 := cntN_mono u ws c
  omega
theorem read_here {u ws : List Nat} {i n : Nat} (hi : i < ws.length) (h : cntN u (ws.take i) ≤ n) (h2 : n < cntN u (ws.take (i + 1))) : readL u ws n = i := by
  have h1 := readL_max u ws n i (by omega) h
  have h3 := read_low h2
  omega
theorem read_end {u ws : List Nat} {n : Nat} (h : cntN u ws ≤ n) : readL u ws n = ws.length := by
  have h1 := readL_max u ws n ws.length (Nat.le_refl _) (by rw [List.take_length]; exact h)
  have h2 := readL_le u ws n
  omega
theorem range_mapD {α : Type} (ws : List Nat) (f : Nat → α) : (((List.range ws.length).filter fun _ => true).map fun j => f (ws.getD j 0)) = ws.map f := by
  rw [List.filter_eq_self.mpr fun _ _ => rfl]
  apply List.ext_getElem?
  intro i
  rw [List.getElem?_map, List.getElem?_map]
  by_cases h : i < ws.length
  · rw [List.getElem?_range h]; simp [h]
  · have h2 : (List.range ws.length)[i]? = none := by simp; omega
    rw [h2]; simp [h]

def moveL (u ws : List Nat) : List Nat := (List.range (ws.length + 1)).map (onP u ws)
/-- road and word for units -/
structure RdOk (us : List (List Nat)) (rd ws : List Nat) : Prop where
  ne : rd ≠ []
  few : rd.length ≤ 1000
  at_ : ∀ i ∈ rd, ∃ u, us[i]? = some u ∧ ∀ c ∈ ws, c < u.length
  len : ws.length ≤ 40000
theorem RdOk.getD {us : List (List Nat)} {rd ws : List Nat} (h : RdOk us rd ws) {i : Nat} (hi : i ∈ rd) : us[i]? = some (us.getD i []) ∧ ∀ c ∈ ws, c < (us.getD i []).length := by
  obtain ⟨u, h1, h2⟩ := h.at_ i hi
  have : us.getD i [] = u := by simp [h1]
  rw [this]; exact ⟨h1, h2⟩
theorem RdOk.cons {us : List (List Nat)} {rd ws : List Nat} (h : RdOk us rd ws) : rd = rd.headD 0 :: rd.tail := by
  cases rd with
  | nil => exact absurd rfl h.ne
  | cons r rs => rfl
section
variable {P : Program} {w : World} {K : PySem.W.Frag} {mg : Str → Option Value} {base : Heap} {A : Adrs}
def R_letter (ds : List PyData) (r : PyData) : Prop := ∃ c : Nat, ds = [.str ⟨#[97 + c]⟩] ∧ r = .int (c : Int)
theorem ok_letter_number (T : Txt K mg A) : FnOk P w K mg base CX0 1 A.f_letter_number A.d_letter_number ["letter"] (spP K 1 R_letter) := by
  refine T.F_letter_number.ok sc_letter_number (fun vs H Q E h => ?_) (fun cdv Ar outer s H vs Q E hr h => ?_)
  · exact spP.len h
  refine ⟨_, (pss_one (ps_ret (pe_op op_sub (pe_callB (id := "ord") call_ord (by rfl) T.z_ord (by decide +kernel) (pa_cons (pv 0) pa_nil)) (pe_callB (id := "ord") call_ord (by rfl) T.z_ord (by decide +kernel) (pa_cons pe_str pa_nil))))), ?_⟩
  refine spP.ok h fun W ds r hR => ?_
  obtain ⟨c, rfl, rfl⟩ := hR
  walk_at "st"
  walk_at "gof"
  refine rc_ord (c := 97) ?_
  walk_at "gof"
  show PyData.int _ = PyData.int _
  congr 1
  omega
def R_read (ds : List PyData) (r : PyData) : Prop := ∃ (u ws : List Nat) (p n : Nat), ds = [encU u, nX ws, nI p, nI n] ∧ (∀ c ∈ ws, c < u.length) ∧ ws.length ≤ 40000 ∧ p ≤ ws.length ∧ r = nI (p + readL u (ws.drop p) n)
theorem ok__read (T : Txt K mg A) : FnOk P w K mg base CX0 2 A.f__read A.d__read ["unit", "word", "place", "number"] (spP K 4 R_read) := by
  have G_letter_number : FnOk P w K mg base CX0 1 A.f_letter_number A.d_letter_number ["letter"] (spP K 1 R_letter) := ok_letter_number T
  refine T.F__read.ok sc__read (fun vs H Q E h => ?_) (fun cdv Ar outer s H vs Q E hr h => ?_)
  · exact spP.len h
  refine ⟨_, (pss_cons (ps_while PassesOwn.never (pt_cmpR op_lt (pv 2) (pe_callB (id := "len") call_len_str (by rfl) T.z_len (by decide +kernel) (pa_cons (pv 1) pa_nil)) (nomark _))
    (pss_cons (ps_set (i := 3) sc__read.nd rfl (Or.inl rfl) (pe_op op_sub (pv 3) (pe_ix (kIxT K) (pv 0) (pe_call G_letter_number (hr.mono (by first | decide | omega)) rfl T.m_letter_number T.k_letter_number T.b_letter_number .nil pass0 (pa_cons (pe_ix ix_str (pv 1) (pv 2) (fun _ _ => rfl)) pa_nil)) (fun _ _ => rfl))))
    (pss_cons (ps_if (pt_cmpR op_lt (pv 3) pe_int (nomark _)) (pss_one (ps_ret (pv 2)))
    pss_nil)
    (pss_one (ps_set (i := 2) sc__read.nd rfl (Or.inl rfl) (pe_op op_add (pv 2) pe_int))))))
    (pss_one (ps_ret (pv 2)))), ?_⟩
  refine spP.ok h fun W ds r hR => ?_
  obtain ⟨u, ws, p, n, rfl, hw, hl, hp, rfl⟩ := hR
  walk_at "st"
  refine sw_seq (sw_while (fun m ρ1 _ => ∃ q n' : Nat, ρ1 = [.dat (encU u), .dat (nX ws), .dat (nI q), .dat (nI n')] ∧ m = ws.length - q ∧ q ≤ ws.length ∧ p + readL u (ws.drop p) n = q + readL u (ws.drop q) n') (ws.length - p) ⟨p, n, rfl, rfl, hp, rfl⟩ ?_)
  rintro m ρ1 k1 ⟨q, n', rfl, rfl, hq, e⟩
  walk_at "go"
  refine rc_lenX (by omega) ?_
  walk_at "go"
  refine if_split (fun h1 => ?_) (fun h1 => ?_)
  · have h1 : q < ws.length := by have := of_decide_eq_true h1; omega
    have hu2 : u[ws[q]]? = some (u.getD ws[q] 0) := by
      have := hw ws[q] (List.getElem_mem h1)
      simp [this]
    rw [← List.getElem_cons_drop h1, readL] at e
    walk_at "go"
    refine rd_ixX (by omega) h1 ?_
    walk_at "go"
    refine rc_pure rfl ⟨ws[q], rfl, rfl⟩ ?_
    refine rd_ixTm hu2 ?_
    walk_at "go"
    refine if_split (fun h2 => ?_) (fun h2 => ?_)
    · have h2 : n' < u.getD ws[q] 0 := by have := of_decide_eq_true h2; omega
      rw [if_neg (by omega)] at e
      walk_at "go"
      rw [e]
      rfl
    · have h2 : u.getD ws[q] 0 ≤ n' := by have := of_decide_eq_false h2; omega
      rw [if_pos h2] at e
      walk_at "go"
      refine ⟨ws.length - (q + 1), by omega, q + 1, n' - u.getD ws[q] 0, ?_, rfl, by omega, by rw [e]; omega⟩
      have e1 : ((n' - u.getD ws[q] 0 : Nat) : Int) = (n' : Int) - (u.getD ws[q] 0 : Nat) := by omega
      show _ = [Slot.dat (encU u), .dat (nX ws), .dat (.int ((q + 1 : Nat) : Int)), .dat (.int ((n' - u.getD ws[q] 0 : Nat) : Int))]
      rw [e1]
      rfl
  · have h1 : q = ws.length := by have := of_decide_eq_false h1; omega
    subst h1
    walk_at "go"
    rw [e, List.drop_length]
    rfl
def R_comes (ds : List PyData) (r : PyData) : Prop := ∃ (us : List (List Nat)) (rd ws : List Nat) (n : Nat), ds = [.tuple (us.map encU), encR rd, nX ws, nI n] ∧ RdOk us rd ws ∧ r = nI (comesF us rd ws n)
theorem ok_comes_to (T : Txt K mg A) : FnOk P w K mg base CX0 3 A.f_comes_to A.d_comes_to ["units", "road", "word", "number"] (spP K 4 R_comes) := by
  have G__read : FnOk P w K mg base CX0 2 A.f__read A.d__read ["unit", "word", "place", "number"] (spP K 4 R_read) := ok__read T
  refine T.F_comes_to.ok sc_comes_to (fun vs H Q E h => ?_) (fun cdv Ar outer s H vs Q E hr h => ?_)
  · exact spP.len h
  refine ⟨_, (pss_cons (ps_set (i := 4) sc_comes_to.nd rfl (Or.inl rfl) (pe_call G__read (hr.mono (by first | decide | omega)) rfl T.m__read T.k__read T.b__read .nil pass0 (pa_cons (pe_ix (kIxT K) (pv 0) (pe_ix (kIxT K) (pv 1) pe_int (fun _ _ => rfl)) (fun _ _ => rfl)) (pa_cons (pv 2) (pa_cons pe_int (pa_cons (pv 3) pa_nil))))))
    (pss_cons (ps_for PassesOwn.never rfl (kPiT K (pe_slice (kSlT K) (pv 1) (po_some pe_int) po_none)) (pg_name (i := 5) sc_comes_to.nd rfl (Or.inl rfl))
    (pss_one (ps_set (i := 4) sc_comes_to.nd rfl (Or.inl rfl) (pe_call G__read (hr.mono (by first | decide | omega)) rfl T.m__read T.k__read T.b__read .nil pass0 (pa_cons (pe_ix (kIxT K) (pv 0) (pv 5) (fun _ _ => rfl)) (pa_cons (pv 2) (pa_cons (pv 4) (pa_cons pe_int pa_nil))))))))
    (pss_one (ps_ret (pv 4))))), ?_⟩
  refine spP.ok h fun W ds r hR => ?_
  obtain ⟨us, rd, ws, n, rfl, ok, rfl⟩ := hR
  have hl := ok.len
  have hc := ok.cons
  have hh : rd.headD 0 ∈ rd := by rw [hc]; exact List.mem_cons_self
  obtain ⟨h1, h2⟩ := ok.getD hh
  walk_at "st"
  walk_at "go"
  refine rd_ixT (j := 0) rfl (at_map (by rw [hc]; rfl)) ?_
  refine rd_ixTm h1 ?_
  walk_at "go"
  refine rc_pure rfl ⟨us.getD (rd.headD 0) [], ws, 0, n, rfl, h2, hl, Nat.zero_le _, rfl⟩ ?_
  walk_at "go"
  refine sw_forW ?_
  walk_at "go"
  have et : cutD (rd.map nI) (some 1) none = rd.tail.map nI := by
    rw [hc]
    have := cut_drop (ds := (rd.headD 0 :: rd.tail).map nI) (j := 1) (by simp)
    rw [show (some (1 : Int)) = some ((1 : Nat) : Int) from rfl, this]
    rfl
  rw [et]
  rw [List.drop_zero, Nat.zero_add]
  refine ⟨fun j ρ1 _ => ρ1 = [.dat (.tuple (us.map encU)), .dat (encR rd), .dat (nX ws), .dat (nI n), .dat (nI (goP us ws (rd.tail.take j) (readL (us.getD (rd.headD 0) []) ws n))), .no], ⟨_, by walk_at "le", rfl⟩, ?_, ?_⟩
  · rintro j ρ1 k2 hj rfl
    rw [List.length_map] at hj
    rw [itemD_map hj]
    have hm : rd.tail[j] ∈ rd := List.mem_of_mem_tail (List.getElem_mem hj)
    obtain ⟨g1, g2⟩ := ok.getD hm
    walk_at "go"
    refine rd_ixTm g1 ?_
    walk_at "go"
    refine rc_pure rfl ⟨us.getD rd.tail[j] [], ws, _, 0, rfl, g2, hl, goP_le us ws _ _ (readL_le _ _ _), rfl⟩ ?_
    have e : rd.tail.take (j + 1) = rd.tail.take j ++ [rd.tail[j]] := by rw [List.take_add_one]; simp [hj]
    have e3 : goP us ws (rd.tail.take j) (readL (us.getD (rd.headD 0) []) ws n) + readL (us.getD rd.tail[j] []) (ws.drop (goP us ws (rd.tail.take j) (readL (us.getD (rd.headD 0) []) ws n))) 0 = goP us ws (rd.tail.take (j + 1)) (readL (us.getD (rd.headD 0) []) ws n) := by rw [e, goP_snoc]; rfl
    rw [e3]
    walk_at "go"
    exact ⟨_, by walk_at "le", rfl⟩
  · rintro ρ1 k2 rfl
    walk_at "go"
    rw [List.length_map, List.take_length]
    rfl
end

/-! ### roads, letter by letter -/
def leftF (us : List (List Nat)) : List Nat → Nat → List Nat
  | [], _ => []
  | r :: rs, c => if (us.getD r []).getD c 0 = 0 then r :: rs else leftF us rs c
theorem leftF_suffix (us : List (List Nat)) : ∀ (rs : List Nat) (c : Nat), leftF us rs c <:+ rs
  | [], _ => List.suffix_refl _
  | r :: rs, c => by
    unfold leftF
    split
    · exact List.suffix_refl _
    · exact (leftF_suffix us rs c).trans (List.suffix_cons r rs)
/-- where a number stands on a road: so much is left of it on the first unit, or it is on the rest of the road -/
inductive RSt where
  | num (n : Nat)
  | rest (s : List Nat)
  deriving DecidableEq
def nzR : List Nat → Option RSt
  | [] => none
  | r :: rs => some (.rest (r :: rs))
def stepR (us : List (List Nat)) (rd : List Nat) : RSt → Nat → Option RSt
  | .num n, c => if (us.getD (rd.headD 0) []).getD c 0 ≤ n then some (.num (n - (us.getD (rd.headD 0) []).getD c 0)) else nzR (leftF us rd.tail c)
  | .rest s, c => nzR (leftF us s c)
def cmF (us : List (List Nat)) (rd : List Nat) : RSt → List Nat → Nat
  | _, [] => 0
  | st, c :: w => match stepR us rd st c with | none => 0 | some st' => cmF us rd st' w + 1
section
variable (us : List (List Nat))
theorem goP_shift (c : Nat) (w : List Nat) : ∀ (rs : List Nat) (p : Nat), goP us (c :: w) rs (p + 1) = goP us w rs p + 1
  | [], p => rfl
  | r :: rs, p => by
    show goP us (c :: w) rs (onP (us.getD r []) (c :: w) (p + 1)) = goP us w rs (onP (us.getD r []) w p) + 1
    have e : onP (us.getD r []) (c :: w) (p + 1) = onP (us.getD r []) w p + 1 := by
      unfold onP
      rw [List.drop_succ_cons]
      omega
    rw [e, goP_shift c w rs]
theorem goP_cons (c : Nat) (w : List Nat) : ∀ rs : List Nat, goP us (c :: w) rs 0 = match leftF us rs c with | [] => 0 | r :: rs' => goP us w (r :: rs') 0 + 1
  | [] => rfl
  | r :: rs => by
    show goP us (c :: w) rs (onP (us.getD r []) (c :: w) 0) = _
    have e : onP (us.getD r []) (c :: w) 0 = if (us.getD r []).getD c 0 = 0 then onP (us.getD r []) w 0 + 1 else 0 := by
      unfold onP
      rw [List.drop_zero, readL, List.drop_zero]
      by_cases h : (us.getD r []).getD c 0 = 0
      · rw [if_pos (by omega), if_pos h, h, Nat.sub_zero]
        omega
      · rw [if_neg (by omega), if_neg h]
    rw [e]
    unfold leftF
    by_cases h : (us.getD r []).getD c 0 = 0
    · rw [if_pos h, if_pos h]
      show goP us (c :: w) rs (onP (us.getD r []) w 0 + 1) = goP us w (r :: rs) 0 + 1
      rw [goP_shift]
      rfl
    · rw [if_neg h, if_neg h]
      exact goP_cons c w rs
theorem goP_nil_w : ∀ (rs : List Nat), goP us [] rs 0 = 0
  | [] => rfl
  | r :: rs => by
    show goP us [] rs (onP (us.getD r []) [] 0) = 0
    rw [show onP (us.getD r []) [] 0 = 0 from rfl]
    exact goP_nil_w rs
theorem cm_rest (rd : List Nat) : ∀ (w s : List Nat), cmF us rd (.rest s) w = goP us w s 0
  | [], s => (goP_nil_w us s).symm
  | c :: w, s => by
    rw [goP_cons, cmF]
    show (match nzR (leftF us s c) with | none => 0 | some st' => cmF us rd st' w + 1) = _
    cases leftF us s c with
    | nil => rfl
    | cons r rs =>
      show cmF us rd (.rest (r :: rs)) w + 1 = _
      rw [cm_rest rd w]
theorem cm_num (rd : List Nat) : ∀ (w : List Nat) (n : Nat), cmF us rd (.num n) w = comesF us rd w n
  | [], n => by
    have := comesF_le us rd [] n
    rw [List.length_nil] at this
    show 0 = _
    omega
  | c :: w, n => by
    unfold comesF
    rw [readL, cmF]
    show (match (if (us.getD (rd.headD 0) []).getD c 0 ≤ n then some (RSt.num (n - (us.getD (rd.headD 0) []).getD c 0)) else nzR (leftF us rd.tail c)) with | none => 0 | some st' => cmF us rd st' w + 1) = _
    by_cases h : (us.getD (rd.headD 0) []).getD c 0 ≤ n
    · rw [if_pos h, if_pos h, goP_shift]
      show cmF us rd (.num _) w + 1 = _
      rw [cm_num rd w]
      rfl
    · rw [if_neg h, if_neg h, goP_cons]
      cases leftF us rd.tail c with
      | nil => rfl
      | cons r rs =>
        show cmF us rd (.rest (r :: rs)) w + 1 = _
        rw [cm_rest]
/-- the number comes to places that differ -/
def difF (one other : List Nat) (most : Nat) (w : List Nat) : Prop := ∃ n, n ≤ most ∧ comesF us one w n ≠ comesF us other w n
end
/-! ### codes of where a number stands -/
def idxN (s : List Nat) : List (List Nat) → Nat → Option Nat
  | [], _ => none
  | p :: ps, i => if p = s then some i else idxN s ps (i + 1)
theorem idxN_some {s : List Nat} : ∀ {ps : List (List Nat)} {i k : Nat}, idxN s ps i = some k → ∃ j, k = i + j ∧ ps[j]? = some s
  | p :: ps, i, k, h => by
    unfold idxN at h
    split at h
    · rename_i e
      cases h
      exact ⟨0, by omega, by simp [e]⟩
    · obtain ⟨j, h1, h2⟩ := idxN_some h
      exact ⟨j + 1, by omega, by simpa using h2⟩
theorem idxN_none {s : List Nat} : ∀ {ps : List (List Nat)} {i : Nat}, idxN s ps i = none → s ∉ ps
  | [], _, _ => by simp
  | p :: ps, i, h => by
    unfold idxN at h
    split at h
    · cases h
    · rename_i e
      have := idxN_none h
      exact fun z => (List.mem_cons.mp z).elim (fun z => e z.symm) this
theorem idxN_at {ps : List (List Nat)} (nd : ps.Nodup) : ∀ {i j : Nat} {s : List Nat}, ps[j]? = some s → idxN s ps i = some (i + j) := by
  induction ps with
  | nil => intro i j s h; simp at h
  | cons p ps ih =>
    intro i j s h
    obtain ⟨n1, n2⟩ := List.nodup_cons.mp nd
    unfold idxN
    cases j with
    | zero =>
      have : p = s := by simpa using h
      rw [if_pos this]
      rfl
    | succ j =>
      have h' : ps[j]? = some s := by simpa using h
      have : ¬ p = s := fun e => n1 (by rw [e]; exact List.mem_of_getElem? h')
      rw [if_neg this, ih n2 h']
      congr 1
      omega
def codeP (most : Nat) (ps : List (List Nat)) (s : List Nat) : Int := match idxN s ps 0 with | some i => (most : Int) + 1 + i | none => -1
def codeR (most : Nat) (ps : List (List Nat)) : RSt → Int
  | .num n => n
  | .rest s => codeP most ps s
def codeO (most : Nat) (ps : List (List Nat)) : Option RSt → Int | none => -1 | some st => codeR most ps st
structure PsOk (ps : List (List Nat)) (one other : List Nat) : Prop where
  nd : ps.Nodup
  ne : ∀ s ∈ ps, s ≠ []
  cl : ∀ s ∈ ps, ∀ t, t <:+ s → t ≠ [] → t ∈ ps
  one : ∀ t, t <:+ one.tail → t ≠ [] → t ∈ ps
  oth : ∀ t, t <:+ other.tail → t ≠ [] → t ∈ ps
def ValR (most : Nat) (ps : List (List Nat)) : RSt → Prop
  | .num n => n ≤ most
  | .rest s => s ∈ ps
/-- the list of where each place goes at a letter -/
def onF (us : List (List Nat)) (rd : List Nat) (ps : List (List Nat)) (most c : Nat) : List Int :=
  ((List.range (most + 1)).map fun n => codeO most ps (stepR us rd (.num n) c)) ++ ps.map fun s => codeP most ps (leftF us s c)
section
variable {us : List (List Nat)} {ps : List (List Nat)} {one other rd : List Nat} {most c : Nat}
theorem codeP_in (P : PsOk ps one other) {s : List Nat} (h : s ∈ ps) : ∃ i : Nat, i < ps.length ∧ ps[i]? = some s ∧ codeP most ps s = (most : Int) + 1 + i := by
  obtain ⟨i, hi, e⟩ := List.mem_iff_getElem.mp h
  have e2 : ps[i]? = some s := by rw [List.getElem?_eq_getElem hi, e]
  refine ⟨i, hi, e2, ?_⟩
  unfold codeP
  rw [idxN_at P.nd e2, Nat.zero_add]
theorem codeP_nil (P : PsOk ps one other) : codeP most ps [] = -1 := by
  unfold codeP
  cases e : idxN [] ps 0 with
  | none => rfl
  | some i =>
    obtain ⟨j, _, h⟩ := idxN_some e
    exact absurd rfl (P.ne _ (List.mem_of_getElem? h))
theorem code_nz (P : PsOk ps one other) (t : List Nat) : codeO most ps (nzR t) = codeP most ps t := by
  cases t with
  | nil => exact (codeP_nil P).symm
  | cons r rs => rfl
theorem onF_at (P : PsOk ps one other) {a : RSt} (h : ValR most ps a) : ∃ i : Nat, codeR most ps a = (i : Int) ∧ i < (onF us rd ps most c).length ∧ (onF us rd ps most c)[i]? = some (codeO most ps (stepR us rd a c)) := by
  cases a with
  | num n =>
    have h : n ≤ most := h
    refine ⟨n, rfl, by simp [onF]; omega, ?_⟩
    unfold onF
    rw [List.getElem?_append_left (by simp; omega), List.getElem?_map, List.getElem?_range (by omega)]
    rfl
  | rest s =>
    obtain ⟨i, hi, e, hc⟩ := codeP_in (most := most) P (show s ∈ ps from h)
    refine ⟨most + 1 + i, by show codeP most ps s = _; rw [hc]; omega, by simp [onF]; omega, ?_⟩
    unfold onF
    rw [List.getElem?_append_right (by simp), List.length_map, List.length_range, show most + 1 + i - (most + 1) = i by omega, List.getElem?_map, e]
    show some (codeP most ps (leftF us s c)) = some (codeO most ps (nzR (leftF us s c)))
    rw [code_nz P]
theorem nz_val (P : PsOk ps one other) {t : List Nat} (h : t ≠ [] → t ∈ ps) {b : RSt} (e : nzR t = some b) : ValR most ps b := by
  cases t with
  | nil => cases e
  | cons r rs =>
    cases e
    exact h (by simp)
theorem step_val (P : PsOk ps one other) (hr : rd = one ∨ rd = other) {a b : RSt} (h : ValR most ps a) (e : stepR us rd a c = some b) : ValR most ps b := by
  cases a with
  | num n =>
    have h : n ≤ most := h
    have e : (if (us.getD (rd.headD 0) []).getD c 0 ≤ n then some (RSt.num (n - (us.getD (rd.headD 0) []).getD c 0)) else nzR (leftF us rd.tail c)) = some b := e
    split at e
    · cases e
      show _ ≤ most
      omega
    · refine nz_val P (fun hn => ?_) e
      rcases hr with rfl | rfl
      · exact P.one _ (leftF_suffix us _ c) hn
      · exact P.oth _ (leftF_suffix us _ c) hn
  | rest s =>
    exact nz_val P (fun hn => P.cl s h _ (leftF_suffix us s c) hn) e
theorem code_nn (P : PsOk ps one other) {a : RSt} (h : ValR most ps a) : 0 ≤ codeR most ps a := by
  cases a with
  | num n => exact Int.natCast_nonneg n
  | rest s =>
    obtain ⟨i, _, _, e⟩ := codeP_in (most := most) P (show s ∈ ps from h)
    show 0 ≤ codeP most ps s
    omega
theorem code_inj (P : PsOk ps one other) {a b : RSt} (ha : ValR most ps a) (hb : ValR most ps b) (e : codeR most ps a = codeR most ps b) : a = b := by
  cases a with
  | num n =>
    have ha : n ≤ most := ha
    cases b with
    | num m =>
      have e : (n : Int) = m := e
      congr 1
      omega
    | rest s =>
      obtain ⟨i, _, _, h⟩ := codeP_in (most := most) P (show s ∈ ps from hb)
      have e : (n : Int) = codeP most ps s := e
      omega
  | rest s =>
    obtain ⟨i, _, hi, h⟩ := codeP_in (most := most) P (show s ∈ ps from ha)
    cases b with
    | num m =>
      have hb : m ≤ most := hb
      have e : codeP most ps s = (m : Int) := e
      omega
    | rest t =>
      obtain ⟨k, _, hk, g⟩ := codeP_in (most := most) P (show t ∈ ps from hb)
      have e : codeP most ps s = codeP most ps t := e
      have : i = k := by omega
      subst this
      rw [hi] at hk
      congr 1
      exact Option.some.inj hk
theorem code_le (P : PsOk ps one other) {a : RSt} (h : ValR most ps a) (g : codeR most ps a ≤ most) : ∃ n, a = .num n := by
  cases a with
  | num n => exact ⟨n, rfl⟩
  | rest s =>
    obtain ⟨i, _, _, e⟩ := codeP_in (most := most) P (show s ∈ ps from h)
    have g : codeP most ps s ≤ most := g
    omega
theorem code_gt (P : PsOk ps one other) {a : RSt} (h : ValR most ps a) (g : ¬ codeR most ps a ≤ most) : ∃ s, a = .rest s := by
  cases a with
  | num n => exact absurd (Int.ofNat_le.mpr (show n ≤ most from h)) g
  | rest s => exact ⟨s, rfl⟩
end
/-! ### pairs -/
def pairF (f1 f2 : List Int) (most : Nat) (h t : Int) : Int × Int :=
  if h = -2 then (h, t) else
    let h' := f1.getD h.toNat 0
    let t' := f2.getD t.toNat 0
    if h' = t' then (if h' ≤ most then (h', t') else (-1, -1)) else if h' = -1 ∨ t' = -1 then (-2, -2) else (h', t')
abbrev Itm := Nat × Int × Int
section
variable (us : List (List Nat)) (one other : List Nat) (ps : List (List Nat)) (most : Nat) (stp : Nat → Nat → Option Nat)
def dI (x : Itm) (c : Nat) : Option Itm := (stp x.1 c).bind fun s => if (pairF (onF us one ps most c) (onF us other ps most c) most x.2.1 x.2.2).1 = -1 then none else some (s, pairF (onF us one ps most c) (onF us other ps most c) most x.2.1 x.2.2)
end
section
variable {us : List (List Nat)} {one other : List Nat} {ps : List (List Nat)} {most : Nat} {stp : Nat → Nat → Option Nat}
/-- what a pair comes to -/
theorem pair_is (P : PsOk ps one other) {a b : RSt} (ha : ValR most ps a) (hb : ValR most ps b) (c : Nat) :
    pairF (onF us one ps most c) (onF us other ps most c) most (codeR most ps a) (codeR most ps b) =
      let h' := codeO most ps (stepR us one a c)
      let t' := codeO most ps (stepR us other b c)
      if h' = t' then (if h' ≤ most then (h', t') else (-1, -1)) else if h' = -1 ∨ t' = -1 then (-2, -2) else (h', t') := by
  obtain ⟨i, e1, _, g1⟩ := onF_at (us := us) (rd := one) (c := c) P ha
  obtain ⟨j, e2, _, g2⟩ := onF_at (us := us) (rd := other) (c := c) P hb
  have n1 := code_nn P ha
  unfold pairF
  rw [if_neg (by omega), e1, e2]
  have h1 : (onF us one ps most c).getD (i : Int).toNat 0 = codeO most ps (stepR us one a c) := by
    rw [show (i : Int).toNat = i from rfl, List.getD_eq_getElem?_getD, g1]; rfl
  have h2 : (onF us other ps most c).getD (j : Int).toNat 0 = codeO most ps (stepR us other b c) := by
    rw [show (j : Int).toNat = j from rfl, List.getD_eq_getElem?_getD, g2]; rfl
  rw [h1, h2]
theorem run_apart : ∀ (w : List Nat) (s : Nat) (y : Itm), runX (dI us one other ps most stp) (s, -2, -2) w = some y ↔ ∃ e, runF stp s w = some e ∧ y = (e, -2, -2)
  | [], s, y => by
    constructor
    · intro h; cases h; exact ⟨s, rfl, rfl⟩
    · rintro ⟨e, h, rfl⟩; cases h; rfl
  | c :: w, s, y => by
    show ((dI us one other ps most stp (s, -2, -2) c).bind fun z => runX _ z w) = some y ↔ ∃ e, ((stp s c).bind fun t => runF stp t w) = some e ∧ _
    have e : dI us one other ps most stp (s, -2, -2) c = (stp s c).map fun t => (t, -2, -2) := by
      unfold dI
      cases stp s c with
      | none => rfl
      | some t => rfl
    rw [e]
    cases stp s c with
    | none => simp
    | some t => exact run_apart w t y
/-- an item comes apart along a word just where the numbers come to places that differ -/
theorem run_pair (P : PsOk ps one other) : ∀ (w : List Nat) (s : Nat) (a b : RSt), ValR most ps a → ValR most ps b → ∀ e : Nat,
    (∃ y : Itm, runX (dI us one other ps most stp) (s, codeR most ps a, codeR most ps b) w = some y ∧ y.1 = e ∧ y.2.1 = -2) ↔ runF stp s w = some e ∧ cmF us one a w ≠ cmF us other b w
  | [], s, a, b, ha, hb, e => by
    constructor
    · rintro ⟨y, h, _, h2⟩
      cases h
      have := code_nn P ha
      have h2 : codeR most ps a = -2 := h2
      omega
    · rintro ⟨_, h⟩
      exact absurd rfl h
  | c :: w, s, a, b, ha, hb, e => by
    have hrun : runF stp s (c :: w) = (stp s c).bind fun t => runF stp t w := rfl
    have hX : runX (dI us one other ps most stp) (s, codeR most ps a, codeR most ps b) (c :: w) = (dI us one other ps most stp (s, codeR most ps a, codeR most ps b) c).bind fun z => runX (dI us one other ps most stp) z w := rfl
    have hd : dI us one other ps most stp (s, codeR most ps a, codeR most ps b) c = (stp s c).bind fun t => if (pairF (onF us one ps most c) (onF us other ps most c) most (codeR most ps a) (codeR most ps b)).1 = -1 then none else some (t, pairF (onF us one ps most c) (onF us other ps most c) most (codeR most ps a) (codeR most ps b)) := rfl
    rw [hX, hrun, hd, pair_is P ha hb c]
    cases hs : stp s c with
    | none => simp
    | some t =>
      have cm1 : cmF us one a (c :: w) = match stepR us one a c with | none => 0 | some st' => cmF us one st' w + 1 := by rw [cmF]
      have cm2 : cmF us other b (c :: w) = match stepR us other b c with | none => 0 | some st' => cmF us other st' w + 1 := by rw [cmF]
      rw [cm1, cm2]
      simp only [Option.bind_some]
      cases h1 : stepR us one a c with
      | none =>
        cases h2 : stepR us other b c with
        | none =>
          have e0 : (-1 : Int) = -1 := rfl
          simp [codeO]
        | some b' =>
          have vb := step_val P (.inr rfl) hb h2
          have nb := code_nn P vb
          have ne : ¬ (-1 : Int) = codeR most ps b' := by omega
          simp only [codeO, if_neg ne, true_or, if_true]
          rw [if_neg (by decide)]
          constructor
          · rintro ⟨y, h, he, _⟩
            obtain ⟨e', h', rfl⟩ := (run_apart w t y).mp h
            have he : e' = e := he
            rw [← he]
            exact ⟨h', by omega⟩
          · rintro ⟨h, _⟩
            exact ⟨(e, -2, -2), (run_apart w t _).mpr ⟨e, h, rfl⟩, rfl, rfl⟩
      | some a' =>
        have va := step_val P (.inl rfl) ha h1
        have na := code_nn P va
        cases h2 : stepR us other b c with
        | none =>
          have ne : ¬ codeR most ps a' = (-1 : Int) := by omega
          simp only [codeO, if_neg ne, or_true, if_true]
          rw [if_neg (by decide)]
          constructor
          · rintro ⟨y, h, he, _⟩
            obtain ⟨e', h', rfl⟩ := (run_apart w t y).mp h
            have he : e' = e := he
            rw [← he]
            exact ⟨h', by omega⟩
          · rintro ⟨h, _⟩
            exact ⟨(e, -2, -2), (run_apart w t _).mpr ⟨e, h, rfl⟩, rfl, rfl⟩
        | some b' =>
          have vb := step_val P (.inr rfl) hb h2
          have nb := code_nn P vb
          have ih := run_pair P w t a' b' va vb e
          rw [show codeO most ps (some a') = codeR most ps a' from rfl, show codeO most ps (some b') = codeR most ps b' from rfl]
          dsimp only
          by_cases eq : codeR most ps a' = codeR most ps b'
          · rw [if_pos eq]
            by_cases le : codeR most ps a' ≤ most
            · rw [if_pos le, if_neg (by show ¬ codeR most ps a' = -1; omega)]
              refine Iff.trans ih ?_
              constructor
              · rintro ⟨x, y⟩; exact ⟨x, fun z => y (Nat.succ.inj z)⟩
              · rintro ⟨x, y⟩; exact ⟨x, fun z => y (by rw [z])⟩
            · rw [if_neg le, if_pos rfl]
              obtain ⟨r, er⟩ := code_gt P va le
              have eb := code_inj P va vb eq
              rw [← eb, er, cm_rest, cm_rest]
              simp
          · rw [if_neg eq, if_neg (show ¬ (codeR most ps a' = -1 ∨ codeR most ps b' = -1) by omega), if_neg (show ¬ codeR most ps a' = -1 by omega)]
            refine Iff.trans ih ?_
            constructor
            · rintro ⟨x, y⟩; exact ⟨x, fun z => y (Nat.succ.inj z)⟩
            · rintro ⟨x, y⟩; exact ⟨x, fun z => y (by rw [z])⟩
end
def beginsI (most : Nat) : List Itm := (List.range (most + 1)).map fun (n : Nat) => (0, (n : Int), (n : Int))
def goalI (lst : List Bool) (x : Itm) : Bool := decide (x.2.1 = -2) && lst.getD x.1 false
theorem accI_iff {us : List (List Nat)} {one other : List Nat} {ps : List (List Nat)} {most : Nat} {stp : Nat → Nat → Option Nat} (P : PsOk ps one other) (lst : List Bool) (w : List Nat) :
    AccX (dI us one other ps most stp) (goalI lst) (beginsI most) w ↔ AccF stp 0 (fun s => lst.getD s false) w ∧ difF us one other most w := by
  constructor
  · rintro ⟨b, hb, x, hr, hg⟩
    obtain ⟨n, hn, rfl⟩ := List.mem_map.mp hb
    have hn := List.mem_range.mp hn
    have hg : (decide (x.2.1 = -2) && lst.getD x.1 false) = true := hg
    rw [Bool.and_eq_true] at hg
    have vn : ValR most ps (.num n) := show n ≤ most by omega
    obtain ⟨h1, h2⟩ := (run_pair (us := us) (one := one) (other := other) (stp := stp) P w 0 (.num n) (.num n) vn vn x.1).mp ⟨x, hr, rfl, of_decide_eq_true hg.1⟩
    rw [cm_num, cm_num] at h2
    exact ⟨⟨x.1, h1, hg.2⟩, n, by omega, h2⟩
  · rintro ⟨⟨e, h1, h2⟩, n, hn, h3⟩
    have vn : ValR most ps (.num n) := hn
    obtain ⟨y, hy, e1, e2⟩ := (run_pair (us := us) (one := one) (other := other) (stp := stp) P w 0 (.num n) (.num n) vn vn e).mpr ⟨h1, by rw [cm_num, cm_num]; exact h3⟩
    refine ⟨(0, (n : Int), (n : Int)), List.mem_map.mpr ⟨n, List.mem_range.mpr (by omega), rfl⟩, y, hy, ?_⟩
    show (decide (y.2.1 = -2) && lst.getD y.1 false) = true
    have h2 : lst.getD e false = true := h2
    rw [e1, h2, e2]
    rfl
/-! ### the suffixes that are listed -/
def addS (ps : List (List Nat)) (s : List Nat) : List (List Nat) := if s ∈ ps then ps else ps ++ [s]
def sufs (rd : List Nat) : List (List Nat) := (List.range (rd.length - 1)).map fun i => rd.drop (i + 1)
def posS (one other : List Nat) : List (List Nat) := (sufs one ++ sufs other).foldl addS []
theorem addS_mem {ps : List (List Nat)} {s t : List Nat} : t ∈ addS ps s ↔ t ∈ ps ∨ t = s := by
  unfold addS
  split
  · rename_i h
    exact ⟨.inl, fun z => z.elim id fun e => e ▸ h⟩
  · simp
theorem foldS_mem : ∀ (l ps : List (List Nat)) (t : List Nat), t ∈ l.foldl addS ps ↔ t ∈ ps ∨ t ∈ l
  | [], ps, t => by simp
  | s :: l, ps, t => by
    rw [List.foldl_cons, foldS_mem l, addS_mem, List.mem_cons]
    constructor
    · rintro ((h | h) | h)
      · exact .inl h
      · exact .inr (.inl h)
      · exact .inr (.inr h)
    · rintro (h | h | h)
      · exact .inl (.inl h)
      · exact .inl (.inr h)
      · exact .inr h
theorem foldS_nodup : ∀ (l ps : List (List Nat)), ps.Nodup → (l.foldl addS ps).Nodup
  | [], ps, h => h
  | s :: l, ps, h => by
    rw [List.foldl_cons]
    refine foldS_nodup l _ ?_
    unfold addS
    split
    · exact h
    · rename_i hn
      rw [List.nodup_append]
      exact ⟨h, by simp, fun x hx y hy => by
        rw [List.mem_singleton.mp hy]
        rintro rfl
        exact hn hx⟩
theorem foldS_len : ∀ (l ps : List (List Nat)), (l.foldl addS ps).length ≤ ps.length + l.length
  | [], ps => Nat.le_refl _
  | s :: l, ps => by
    rw [List.foldl_cons, List.length_cons]
    have := foldS_len l (addS ps s)
    have : (addS ps s).length ≤ ps.length + 1 := by
      unfold addS
      split <;> simp
    omega
theorem sufs_mem {rd t : List Nat} : t ∈ sufs rd ↔ t <:+ rd.tail ∧ t ≠ [] := by
  unfold sufs
  rw [List.mem_map]
  constructor
  · rintro ⟨i, hi, rfl⟩
    have hi := List.mem_range.mp hi
    refine ⟨⟨rd.tail.take i, ?_⟩, fun z => ?_⟩
    · cases rd with
      | nil => simp at hi
      | cons r rs => simp
    · have := congrArg List.length z
      rw [List.length_drop, List.length_nil] at this
      omega
  · rintro ⟨⟨v, hv⟩, hn⟩
    have ht : t.length ≠ 0 := fun z => hn (List.length_eq_zero_iff.mp z)
    have hl : v.length + t.length = rd.tail.length := by rw [← hv, List.length_append]
    rw [List.length_tail] at hl
    refine ⟨v.length, List.mem_range.mpr (by omega), ?_⟩
    cases rd with
    | nil => rw [List.length_nil] at hl; omega
    | cons r rs =>
      show rs.drop v.length = t
      have hv : v ++ t = rs := hv
      rw [← hv, List.drop_left]
theorem posS_ok (one other : List Nat) : PsOk (posS one other) one other where
  nd := foldS_nodup _ _ (by simp)
  ne := fun s hs => by
    rcases (foldS_mem _ _ s).mp hs with h | h
    · exact nomatch h
    · rcases List.mem_append.mp h with h | h
      · exact (sufs_mem.mp h).2
      · exact (sufs_mem.mp h).2
  cl := fun s hs t ht hn => by
    refine (foldS_mem _ _ t).mpr (.inr ?_)
    rcases (foldS_mem _ _ s).mp hs with h | h
    · exact nomatch h
    · rcases List.mem_append.mp h with h | h
      · exact List.mem_append_left _ (sufs_mem.mpr ⟨ht.trans (sufs_mem.mp h).1, hn⟩)
      · exact List.mem_append_right _ (sufs_mem.mpr ⟨ht.trans (sufs_mem.mp h).1, hn⟩)
  one := fun t ht hn => (foldS_mem _ _ t).mpr (.inr (List.mem_append_left _ (sufs_mem.mpr ⟨ht, hn⟩)))
  oth := fun t ht hn => (foldS_mem _ _ t).mpr (.inr (List.mem_append_right _ (sufs_mem.mpr ⟨ht, hn⟩)))
theorem posS_len (one other : List Nat) : (posS one other).length ≤ one.length + other.length := by
  have := foldS_len (sufs one ++ sufs other) []
  rw [List.length_append] at this
  unfold sufs at this
  rw [List.length_map, List.length_map, List.length_range, List.length_range, List.length_nil] at this
  unfold posS sufs
  omega

-- SPLIT
def encPos (most : Nat) (ps : List (List Nat)) : List (NestedKey × PyData) := (List.range ps.length).map fun i => (keyT (ps.getD i []), nI (most + 1 + i))
structure UsOk (us : List (List Nat)) (rd : List Nat) (L : Nat) : Prop where
  at_ : ∀ i ∈ rd, ∃ u, us[i]? = some u ∧ u.length = L
  few : rd.length ≤ 10
theorem UsOk.getD {us : List (List Nat)} {rd : List Nat} {L : Nat} (h : UsOk us rd L) {i : Nat} (hi : i ∈ rd) : us[i]? = some (us.getD i []) ∧ (us.getD i []).length = L := by
  obtain ⟨u, h1, h2⟩ := h.at_ i hi
  have : us.getD i [] = u := by simp [h1]
  rw [this]; exact ⟨h1, h2⟩
theorem UsOk.sub {us : List (List Nat)} {rd rs : List Nat} {L : Nat} (h : UsOk us rd L) (s : rs <:+ rd) : UsOk us rs L := ⟨fun i hi => h.at_ i (s.subset hi), Nat.le_trans s.length_le h.few⟩
theorem getDN {l : List Nat} {i : Nat} (h : i < l.length) : l[i]? = some (l.getD i 0) := by
  rw [List.getD_eq_getElem?_getD, List.getElem?_eq_getElem h]; rfl
theorem look_gen (most : Nat) (s : List Nat) : ∀ (ps : List (List Nat)) (k : Nat), lookN ((List.range ps.length).map fun i => (keyT (ps.getD i []), nI (most + 1 + (k + i)))) (keyT s) = (idxN s ps k).map fun i => nI (most + 1 + i)
  | [], k => rfl
  | p :: ps, k => by
    rw [List.length_cons, List.range_succ_eq_map, List.map_cons, List.map_map]
    unfold lookN idxN
    rw [List.find?_cons]
    by_cases e : p = s
    · subst e
      simp
    · have e2 : ¬ keyT p = keyT s := fun z => e (keyT_inj z)
      have e3 : decide (keyT ((p :: ps).getD 0 []) = keyT s) = false := decide_eq_false e2
      rw [if_neg e]
      simp only [e3]
      have ih := look_gen most s ps (k + 1)
      unfold lookN at ih
      rw [← ih]
      congr 2
      refine List.map_congr_left fun i _ => ?_
      show (keyT ((p :: ps).getD (i + 1) []), nI (most + 1 + (k + (i + 1)))) = (keyT (ps.getD i []), nI (most + 1 + (k + 1 + i)))
      rw [show k + (i + 1) = k + 1 + i by omega]
      rfl
theorem look_encPos (most : Nat) (ps : List (List Nat)) (s : List Nat) : lookN (encPos most ps) (keyT s) = (idxN s ps 0).map fun i => nI (most + 1 + i) := by
  have := look_gen most s ps 0
  simp only [Nat.zero_add] at this
  exact this
theorem look_code (most : Nat) (ps : List (List Nat)) (s : List Nat) : (lookN (encPos most ps) (keyT s)).getD (.int (-1)) = .int (codeP most ps s) := by
  rw [look_encPos]
  unfold codeP
  cases idxN s ps 0 with
  | none => rfl
  | some i =>
    show PyData.int ((most + 1 + i : Nat) : Int) = _
    congr 1
theorem idxN_mem {s : List Nat} {ps : List (List Nat)} (h : s ∈ ps) : (idxN s ps 0).isSome = true := by
  cases e : idxN s ps 0 with
  | none => exact absurd h (idxN_none e)
  | some i => rfl
theorem pos_add (most : Nat) (ps : List (List Nat)) (s : List Nat) : (if (lookN (encPos most ps) (keyT s)).isSome then encPos most ps else putN (encPos most ps) (keyT s) (.int ((most : Int) + 1 + (ps.length : Int)))) = encPos most (addS ps s) := by
  unfold addS
  by_cases h : s ∈ ps
  · rw [if_pos h, look_encPos, Option.isSome_map, idxN_mem h, if_pos rfl]
  · have hn : idxN s ps 0 = none := by
      cases e : idxN s ps 0 with
      | none => rfl
      | some i =>
        obtain ⟨j, _, g⟩ := idxN_some e
        exact absurd (List.mem_of_getElem? g) h
    have hl : (lookN (encPos most ps) (keyT s)).isSome = false := by rw [look_encPos, hn]; rfl
    rw [if_neg h, hl, if_neg Bool.false_ne_true]
    unfold putN
    rw [hl, if_neg Bool.false_ne_true]
    unfold encPos
    rw [List.length_append, List.length_singleton, List.range_succ, List.map_append]
    congr 1
    · refine List.map_congr_left fun i hi => ?_
      have hi := List.mem_range.mp hi
      rw [List.getD_eq_getElem?_getD, List.getD_eq_getElem?_getD, List.getElem?_append_left hi]
    · show _ = [(keyT ((ps ++ [s]).getD ps.length []), nI (most + 1 + ps.length))]
      have : (ps ++ [s]).getD ps.length [] = s := by simp
      rw [this]
      rfl
theorem encPos_keys (most : Nat) (ps : List (List Nat)) : (encPos most ps).map (·.1) = ps.map keyT := by
  unfold encPos
  rw [List.map_map]
  apply List.ext_getElem?
  intro i
  rw [List.getElem?_map, List.getElem?_map]
  by_cases h : i < ps.length
  · rw [List.getElem?_range h, List.getElem?_eq_getElem h]
    show some (keyT (ps.getD i [])) = _
    rw [List.getD_eq_getElem?_getD, List.getElem?_eq_getElem h]
    rfl
  · have h1 : (List.range ps.length)[i]? = none := by simp; omega
    have h2 : ps[i]? = none := by simp; omega
    rw [h1, h2]
    rfl
section
variable {P : Program} {w : World} {K : PySem.W.Frag} {mg : Str → Option Value} {base : Heap} {A : Adrs}
def R_left (ds : List PyData) (r : PyData) : Prop := ∃ (us : List (List Nat)) (rd : List Nat) (c L : Nat), ds = [.tuple (us.map encU), encR rd, nI c] ∧ UsOk us rd L ∧ c < L ∧ r = encR (leftF us rd c)
theorem ok__left (T : Txt K mg A) : FnOk P w K mg base CX0 1 A.f__left A.d__left ["units", "rest", "letter"] (spP K 3 R_left) := by
  refine T.F__left.ok sc__left (fun vs H Q E h => ?_) (fun cdv Ar outer s H vs Q E hr h => ?_)
  · exact spP.len h
  refine ⟨_, (pss_cons (ps_for PassesOwn.never rfl (kEnumT K (by rfl) T.z_enumerate (pa_cons (pv 1) pa_nil)) (kTgT K (n := 2) (by rfl) (pgs_cons (pg_name (i := 3) sc__left.nd rfl (Or.inl rfl)) (pgs_cons (pg_name (i := 4) sc__left.nd rfl (Or.inl rfl)) pgs_nil)))
    (pss_one (ps_if (pt_cmpR op_eq (pe_ix (kIxT K) (pe_ix (kIxT K) (pv 0) (pv 4) (fun _ _ => rfl)) (pv 2) (fun _ _ => rfl)) pe_int (nomark _)) (pss_one (ps_ret (pe_slice (kSlT K) (pv 1) (po_some (pv 3)) po_none)))
    pss_nil)))
    (pss_one (ps_ret (pe_tup pa_nil)))), ?_⟩
  refine spP.ok h fun W ds r hR => ?_
  obtain ⟨us, rd, c, L, rfl, ok, hc, rfl⟩ := hR
  have few := ok.few
  walk_at "st"
  refine sw_seq (sw_forW (ei_enumT ?_))
  walk_at "ev"
  rw [List.length_map]
  refine ⟨fun i ρ _ => ρ = [.dat (.tuple (us.map encU)), .dat (encR rd), .dat (nI c), .no, .no] ∧ leftF us rd c = leftF us (rd.drop i) c, ⟨_, by walk_at "le", rfl, by rw [List.drop_zero]⟩, ?_, ?_⟩
  · rintro i ρ1 k2 hi ⟨rfl, e⟩
    rw [itemD_map hi]
    obtain ⟨h1, h2⟩ := ok.getD (List.getElem_mem hi)
    have hd : rd.drop i = rd[i] :: rd.drop (i + 1) := List.drop_eq_getElem_cons hi
    rw [hd, leftF] at e
    generalize rd[i] = x at e h1 h2 hd
    have h3 : (us.getD x [])[c]? = some ((us.getD x []).getD c 0) := getDN (by omega)
    walk_at "tg"
    refine sw_if (et_test (ev_op ?_))
    walk_at "ev"
    refine rd_ixTm h1 ?_
    walk_at "ev"
    refine rd_ixTm h3 ?_
    walk_at "ev"
    refine if_split (fun h => ?_) (fun h => ?_)
    · have h := of_decide_eq_true h
      rw [if_pos (by omega)] at e
      walk_at "go"
      rw [cut_drop (by rw [List.length_map]; omega), ← List.map_drop, hd, e]
    · have h := of_decide_eq_false h
      rw [if_neg (by omega)] at e
      walk_at "go"
      exact ⟨_, by walk_at "le", rfl, e⟩
  · rintro ρ1 k2 ⟨rfl, e⟩
    rw [List.drop_length] at e
    walk_at "go"
    rw [e]
    rfl
def R_pos (ds : List PyData) (kvs : List (NestedKey × PyData)) : Prop := ∃ (one other : List Nat) (most : Nat), ds = [encR one, encR other, nI most] ∧ one.length ≤ 10 ∧ other.length ≤ 10 ∧ most ≤ 20 ∧ kvs = encPos most (posS one other)
theorem ok__positions (T : Txt K mg A) : FnOk P w K mg base CX0 1 A.f__positions A.d__positions ["one", "other", "most"] (spG P w K 3 R_pos) := by
  refine T.F__positions.ok sc__positions (fun vs H Q E h => ?_) (fun cdv Ar outer s H vs Q E hr h => ?_)
  · exact spG.len h
  refine ⟨_, (pss_cons (ps_set (i := 3) sc__positions.nd rfl (Or.inl rfl) pe_dnewN)
    (pss_cons (ps_for PassesOwn.never rfl (kPiT K (pe_tup (pa_cons (pv 0) (pa_cons (pv 1) pa_nil)))) (pg_name (i := 4) sc__positions.nd rfl (Or.inl rfl))
    (pss_one (ps_for PassesOwn.never rfl (pi_range2 (by rfl) T.z_range (pa_cons pe_int (pa_cons (pe_callB (id := "len") (kLenQ K) (by rfl) T.z_len (by decide +kernel) (pa_cons (pv 4) pa_nil)) pa_nil))) (pg_name (i := 5) sc__positions.nd rfl (Or.inl rfl))
    (pss_one (ps_expr (kNSetd P w K (room9 hr) (pv 3) (pe_slice (kSlT K) (pv 4) (po_some (pv 5)) po_none) (pe_op op_add (pe_op op_add (pv 2) pe_int) (pe_callB (id := "len") (kLenN P w K) (by rfl) T.z_len (by decide +kernel) (pa_cons (pv 3) pa_nil))) ⟨rfl, rfl, rfl, rfl⟩))))))
    (pss_one (ps_ret (pv 3))))), ?_⟩
  refine spG.ok h fun W ds kvs hR => ?_
  obtain ⟨one, other, most, rfl, h1, h2, hm, rfl⟩ := hR
  walk_at "st"
  refine sw_newN ?_
  dsimp only [List.set_cons_succ, List.set_cons_zero]
  refine sw_forW (ei_tup (ev_tup ?_))
  walk_at "ev"
  refine ⟨fun i ρ _ => ρ = [.dat (encR one), .dat (encR other), .dat (nI most), .ownN (DN P w) (encPos most ((([one, other].take i).flatMap sufs).foldl addS [])), .no, .no], ⟨_, by walk_at "le", rfl⟩, ?_, ?_⟩
  · rintro i ρ1 k2 hi rfl
    have hi2 : i < [one, other].length := hi
    have et : [one, other].take (i + 1) = [one, other].take i ++ [[one, other][i]] := by rw [List.take_add_one, List.getElem?_eq_getElem hi2]; rfl
    have hit : itemD [encR one, encR other] i = encR [one, other][i] := by
      have : i = 0 ∨ i = 1 := by have : i < 2 := hi; omega
      rcases this with rfl | rfl <;> rfl
    have hl : [one, other][i].length ≤ 10 := by
      rcases List.mem_cons.mp (List.getElem_mem hi2) with e | e
      · rw [e]; exact h1
      · rw [List.mem_singleton.mp e]; exact h2
    have hpre : (([one, other].take i).flatMap sufs).length ≤ 20 := by
      have : i = 0 ∨ i = 1 := by have : i < 2 := hi; omega
      rcases this with rfl | rfl
      · simp
      · simp [sufs]; omega
    rw [hit]
    dsimp only
    rw [et, List.flatMap_append, List.flatMap_singleton]
    generalize ([one, other].take i).flatMap sufs = pre at hpre
    generalize [one, other][i] = rd at hl
    walk_at "tg"
    refine sw_forW (ei_rng2 ?_)
    walk_at "ev"
    rw [List.length_map]
    refine ⟨⟨by omega, by omega, by omega, by omega⟩, ?_⟩
    have hsl : (sufs rd).length = rd.length - 1 := by simp [sufs]
    rw [show (((rd.length : Nat) : Int) - 1).toNat = (sufs rd).length by omega]
    refine ⟨fun j ρ _ => ρ = [.dat (encR one), .dat (encR other), .dat (nI most), .ownN (DN P w) (encPos most ((pre ++ (sufs rd).take j).foldl addS [])), .dat (encR rd), .no], ⟨[.dat (encR one), .dat (encR other), .dat (nI most), .ownN (DN P w) (encPos most (pre.foldl addS [])), .dat (encR rd), .no], by walk_at "le", by dsimp only; rw [List.take_zero, List.append_nil]⟩, ?_, ?_⟩
    · rintro j ρ2 k3 hj rfl
      have hjr : j + 1 < rd.length := by omega
      have es : (sufs rd)[j] = rd.drop (j + 1) := by simp [sufs]
      have et2 : (sufs rd).take (j + 1) = (sufs rd).take j ++ [(sufs rd)[j]] := by rw [List.take_add_one, List.getElem?_eq_getElem hj]; rfl
      have hpl := foldS_len (pre ++ (sufs rd).take j) []
      rw [List.length_append, List.length_take, List.length_nil] at hpl
      dsimp only
      have efold : (pre ++ ((sufs rd).take j ++ [(sufs rd)[j]])).foldl addS [] = addS ((pre ++ (sufs rd).take j).foldl addS []) (rd.drop (j + 1)) := by
        rw [← List.append_assoc, List.foldl_append, es]
        rfl
      rw [et2, efold]
      generalize (pre ++ (sufs rd).take j).foldl addS [] = ps at hpl
      have hkl : (encPos most ps).length = ps.length := by simp [encPos]
      walk_at "tg"
      refine sw_nsetd rfl (ev_sl (ev_var rfl (eo_some (ev_var rfl ⟨_, rfl, eo_none (rsl_T ?_)⟩))))
      rw [show (1 : Int) + (j : Int) = ((j + 1 : Nat) : Int) by omega, cut_drop (by rw [List.length_map]; omega), ← List.map_drop]
      refine ev_op (ev_op (ev_var rfl (ev_int (rd_add (ev_nlen (rdAt_own rfl) (rd_add ?_))))))
      rw [hkl]
      refine ⟨keyT (rd.drop (j + 1)), isK_T _, by omega, ?_⟩
      rw [pos_add]
      exact ⟨_, by walk_at "le", rfl⟩
    · rintro ρ2 k3 rfl
      rw [List.take_length]
      exact ⟨_, by walk_at "le", rfl⟩
  · rintro ρ1 k2 rfl
    show some (Slot.ownN (DN P w) (encPos most (([one, other].flatMap sufs).foldl addS []))) = _
    rw [show [one, other].flatMap sufs = sufs one ++ sufs other by simp]
    rfl
def R_onward (ds : List PyData) (kvs : List (NestedKey × PyData)) (r : PyData) : Prop := ∃ (us : List (List Nat)) (rd one other : List Nat) (most c L : Nat), ds = [.tuple (us.map encU), encR rd, nI most, nI c] ∧ (rd = one ∨ rd = other) ∧ rd ≠ [] ∧ UsOk us one L ∧ UsOk us other L ∧ c < L ∧ most ≤ 20 ∧ kvs = encPos most (posS one other) ∧ r = .list ((onF us rd (posS one other) most c).map .int)
theorem ok__onward (T : Txt K mg A) : FnOk P w K mg base CX0 2 A.f__onward A.d__onward ["units", "road", "positions", "most", "letter"] (spR P w K 5 2 R_onward) := by
  have G__left : FnOk P w K mg base CX0 1 A.f__left A.d__left ["units", "rest", "letter"] (spP K 3 R_left) := ok__left T
  refine T.F__onward.ok sc__onward (fun vs H Q E h => ?_) (fun cdv Ar outer s H vs Q E hr h => ?_)
  · exact spR.len h
  refine ⟨_, (pss_cons (ps_set (i := 5) sc__onward.nd rfl (Or.inr rfl) (pe_ix (kIxT K) (pe_ix (kIxT K) (pv 0) (pe_ix (kIxT K) (pv 1) pe_int (fun _ _ => rfl)) (fun _ _ => rfl)) (pv 4) (fun _ _ => rfl)))
    (pss_cons (ps_set (i := 6) sc__onward.nd rfl (Or.inr rfl) (kNGet2 P w K (room9 hr) (pv 2) (pe_call G__left (hr.mono (by first | decide | omega)) rfl T.m__left T.k__left T.b__left .nil pass0 (pa_cons (pv 0) (pa_cons (pe_slice (kSlT K) (pv 1) (po_some pe_int) po_none) (pa_cons (pv 4) pa_nil)))) (pe_gi rfl T.c_STOPPED) ⟨rfl, rfl, rfl, rfl⟩))
    (pss_cons (ps_setLc (i := 7) (own := [("number", 8)]) (by rfl) sc__onward.nd rfl rfl (sw_true rfl rfl rfl (by decide +kernel)) (pi_range1 (by rfl) T.z_range (pa_cons (pe_op op_add (pv 3) pe_int) pa_nil)) (blkOk_by (own := [("number", 8)]) (N := N__onward) (sc := defScope s__onward) (by decide +kernel)) (fun _ _ _ _ _ => (pg_name (i := 8) sc__onward.nd rfl (Or.inl rfl))) (fun _ _ _ _ _ => pts_nil) (fun _ _ _ _ _ => (pe_ifExp (pt_cmpR op_ge (pv 8) (pv 5) (nomark _)) (pe_op op_sub (pv 8) (pv 5)) (pv 6))))
    (pss_one (ps_ret (pe_op op_cat (pv 7) (pe_lc (own := [("rest", 9)]) rfl sc__onward.nd (kKeysN P w (pv 2)) (blkOk_by (own := [("rest", 9)]) (N := N__onward) (sc := defScope s__onward) (by decide +kernel)) (fun _ _ _ _ _ => (pg_name (i := 9) sc__onward.nd rfl (Or.inl rfl))) (fun _ _ _ _ _ => pts_nil) (fun _ _ _ _ _ => (kNGet2 P w K (room9 hr) (pv 2) (pe_call G__left (hr.mono (by first | decide | omega)) rfl T.m__left T.k__left T.b__left .nil pass0 (pa_cons (pv 0) (pa_cons (pv 9) (pa_cons (pv 4) pa_nil)))) (pe_gi rfl T.c_STOPPED) ⟨rfl, rfl, rfl, rfl⟩))))))))), ?_⟩
  refine spR.ok h fun M Hs trk l od xs kvs ds r hR => ?_
  obtain ⟨us, rd, one, other, most, c, L, rfl, hrd, hne, o1, o2, hc, hm, rfl, rfl⟩ := hR
  have P0 := posS_ok one other
  have plen := posS_len one other
  have few1 := o1.few
  have few2 := o2.few
  simp only [restX, List.map_cons, List.map_nil, List.length_cons, List.length_nil, List.cons_append, List.nil_append, Nat.reduceAdd, Nat.reduceSub, Nat.zero_add, Nat.sub_self, List.replicate, slotX, List.take, List.drop]
  have ord : UsOk us rd L := by rcases hrd with rfl | rfl <;> assumption
  obtain ⟨r0, rt, rfl⟩ : ∃ r0 rt, rd = r0 :: rt := by
    cases rd with
    | nil => exact absurd rfl hne
    | cons r0 rt => exact ⟨r0, rt, rfl⟩
  obtain ⟨g1, g2⟩ := ord.getD (List.mem_cons_self (a := r0))
  have g3 : (us.getD r0 [])[c]? = some ((us.getD r0 []).getD c 0) := getDN (by omega)
  refine sw_seq (sw_set (ev_op (ev_op (ev_var rfl (ev_op (ev_var rfl (ev_int (rd_ixT (j := 0) rfl rfl (rd_ixTm g1 (ev_var rfl (rd_ixTm g3 ?_)))))))))))
  dsimp only [List.set_cons_succ, List.set_cons_zero]
  refine sw_seq (sw_set (ev_nget2 (rdAt_lck rfl) (ev_call ?_)))
  walk_at "ev"
  rw [show (some (1 : Int)) = some ((1 : Nat) : Int) from rfl, cut_drop (by simp), ← List.map_drop, List.drop_succ_cons, List.drop_zero]
  refine rc_pure rfl ⟨us, rt, c, L, rfl, ord.sub (List.suffix_cons r0 rt), hc, rfl⟩ ?_
  walk_at "ev"
  refine ⟨keyT (leftF us rt c), isK_T _, ?_⟩
  rw [look_code]
  refine sw_seq (sw_set (ev_lcP (fun _ => true) (fun n => .int (codeO most (posS one other) (stepR us (r0 :: rt) (.num n) c))) (ei_rng1 ?_)))
  walk_at "ev"
  refine ⟨by omega, by omega, by omega, fun n hn => ?_, ?_⟩
  · have est : codeO most (posS one other) (stepR us (r0 :: rt) (.num n) c) = if (us.getD r0 []).getD c 0 ≤ n then ((n : Int) - ((us.getD r0 []).getD c 0 : Nat)) else codeP most (posS one other) (leftF us rt c) := by
      show codeO most (posS one other) (if (us.getD r0 []).getD c 0 ≤ n then some (RSt.num (n - (us.getD r0 []).getD c 0)) else nzR (leftF us rt c)) = _
      by_cases hle : (us.getD r0 []).getD c 0 ≤ n
      · rw [if_pos hle, if_pos hle]
        show ((n - (us.getD r0 []).getD c 0 : Nat) : Int) = _
        omega
      · rw [if_neg hle, if_neg hle, code_nz P0]
    rw [est]
    walk_at "go"
    refine if_split (fun h => ?_) (fun h => ?_)
    · have h := of_decide_eq_true h
      rw [if_pos (by omega)]
      walk_at "go"
    · have h := of_decide_eq_false h
      rw [if_neg (by omega)]
      walk_at "go"
  · rw [List.filter_eq_self.mpr fun _ _ => rfl, show ((most : Int) + 1).toNat = most + 1 by omega]
    refine sw_ret (ev_op (ev_var rfl (ev_lcXP (fun _ => true) (fun j => .int (codeP most (posS one other) (leftF us ((posS one other).getD j []) c))) (ex_keysN (posS one other) rfl (encPos_keys most _) ?_))))
    refine ⟨by omega, fun j hj => ?_, ?_⟩
    · have hm2 : (posS one other).getD j [] ∈ posS one other := by
        rw [List.getD_eq_getElem?_getD, List.getElem?_eq_getElem hj]
        exact List.getElem_mem hj
      have sub : UsOk us ((posS one other).getD j []) L := by
        rcases (foldS_mem _ _ _).mp hm2 with h | h
        · exact nomatch h
        · rcases List.mem_append.mp h with h | h
          · exact o1.sub ((sufs_mem.mp h).1.trans (List.tail_suffix _))
          · exact o2.sub ((sufs_mem.mp h).1.trans (List.tail_suffix _))
      dsimp only
      generalize (posS one other).getD j [] = s at sub
      walk_at "tg"
      refine et_yes ⟨rfl, rfl, fun _ => ev_nget2 (rdAt_lck rfl) (ev_call ?_)⟩
      walk_at "ev"
      refine rc_pure rfl ⟨us, s, c, L, rfl, sub, hc, rfl⟩ ?_
      walk_at "ev"
      refine ⟨keyT (leftF us s c), isK_T _, ?_⟩
      rw [look_code]
      exact ⟨rfl, rfl⟩
    · rw [List.filter_eq_self.mpr fun _ _ => rfl]
      refine rd_catL (by simp; omega) ?_
      unfold onF
      rw [List.map_append, List.map_map, List.map_map]
      congr 2
      apply List.ext_getElem?
      intro i
      rw [List.getElem?_map, List.getElem?_map]
      by_cases h : i < (posS one other).length
      · rw [List.getElem?_range h, List.getElem?_eq_getElem h]
        show some (PyData.int (codeP most (posS one other) (leftF us ((posS one other).getD i []) c))) = _
        rw [List.getD_eq_getElem?_getD, List.getElem?_eq_getElem h]
        rfl
      · have h1 : (List.range (posS one other).length)[i]? = none := by simp; omega
        have h2 : (posS one other)[i]? = none := by simp; omega
        rw [h1, h2]
        rfl
def R_pair (ds : List PyData) (r : PyData) : Prop := ∃ (f1 f2 : List Int) (h t : Int) (most : Nat), ds = [.tuple [.list (f1.map .int), .list (f2.map .int)], .int h, .int t, nI most] ∧ (h = -2 ∨ (0 ≤ h ∧ h < f1.length ∧ 0 ≤ t ∧ t < f2.length)) ∧ r = .tuple [.int (pairF f1 f2 most h t).1, .int (pairF f1 f2 most h t).2]
theorem ok__pair_on (T : Txt K mg A) : FnOk P w K mg base CX0 1 A.f__pair_on A.d__pair_on ["onward", "here", "there", "most"] (spP K 4 R_pair) := by
  refine T.F__pair_on.ok sc__pair_on (fun vs H Q E h => ?_) (fun cdv Ar outer s H vs Q E hr h => ?_)
  · exact spP.len h
  refine ⟨_, (pss_cons (ps_if (pt_cmpR op_eq (pv 1) (pe_gi rfl T.c_APART) (nomark _)) (pss_one (ps_ret (pe_tup (pa_cons (pv 1) (pa_cons (pv 2) pa_nil)))))
    pss_nil)
    (pss_cons (ps_par (i := 1) (j := 2) (by rfl) sc__pair_on.nd rfl rfl (by decide) rfl rfl (pa_cons (pe_ix (kIxL K) (pe_ix (kIxT K) (pv 0) pe_int (fun _ _ => rfl)) (pv 1) (fun _ _ => rfl)) (pa_cons (pe_ix (kIxL K) (pe_ix (kIxT K) (pv 0) pe_int (fun _ _ => rfl)) (pv 2) (fun _ _ => rfl)) pa_nil)) (by rfl))
    (pss_cons (ps_if (pt_cmpR op_eq (pv 1) (pv 2) (nomark _)) (pss_one (ps_ret (pe_ifExp (pt_cmpR op_le (pv 1) (pv 3) (nomark _)) (pe_tup (pa_cons (pv 1) (pa_cons (pv 2) pa_nil))) (pe_tup (pa_cons (pe_gi rfl T.c_STOPPED) (pa_cons (pe_gi rfl T.c_STOPPED) pa_nil))))))
    pss_nil)
    (pss_one (ps_ret (pe_ifExp (PW.pt (pw_or (pt_cmpR op_eq (pv 1) (pe_gi rfl T.c_STOPPED) (nomark _)) (pw_or1 (pt_cmpR op_eq (pv 2) (pe_gi rfl T.c_STOPPED) (nomark _))))) (pe_tup (pa_cons (pe_gi rfl T.c_APART) (pa_cons (pe_gi rfl T.c_APART) pa_nil))) (pe_tup (pa_cons (pv 1) (pa_cons (pv 2) pa_nil))))))))), ?_⟩
  refine spP.ok h fun W ds r hR => ?_
  obtain ⟨f1, f2, h, t, most, rfl, ok, rfl⟩ := hR
  walk_at "st"
  walk_at "go"
  unfold pairF
  refine if_split (fun h0 => ?_) (fun h0 => ?_)
  · have h0 := of_decide_eq_true h0
    rw [if_pos h0]
    walk_at "go"
  · have h0 := of_decide_eq_false h0
    rw [if_neg h0]
    obtain ⟨a1, a2, a3, a4⟩ := ok.resolve_left h0
    have e1 : f1[h.toNat]? = some (f1.getD h.toNat 0) := by rw [List.getD_eq_getElem?_getD, List.getElem?_eq_getElem (by omega)]; rfl
    have e2 : f2[t.toNat]? = some (f2.getD t.toNat 0) := by rw [List.getD_eq_getElem?_getD, List.getElem?_eq_getElem (by omega)]; rfl
    generalize f1.getD h.toNat 0 = x at e1
    generalize f2.getD t.toNat 0 = y at e2
    dsimp only
    walk_at "go"
    refine rd_ixL (j := h.toNat) (by omega) (at_map e1) ?_
    walk_at "go"
    refine rd_ixL (j := t.toNat) (by omega) (at_map e2) ?_
    walk_at "go"
    refine if_split (fun h1 => ?_) (fun h1 => ?_)
    · have h1 := of_decide_eq_true h1
      rw [if_pos h1]
      walk_at "go"
      refine if_split (fun h2 => ?_) (fun h2 => ?_)
      · have h2 := of_decide_eq_true h2
        rw [if_pos h2]
        walk_at "go"
      · have h2 := of_decide_eq_false h2
        rw [if_neg h2]
        walk_at "go"
    · have h1 := of_decide_eq_false h1
      rw [if_neg h1]
      walk_at "go"
      refine if_split (fun h2 => ?_) (fun h2 => ?_)
      · have h2 := of_decide_eq_true h2
        rw [if_pos (.inl h2)]
        walk_at "go"
      · have h2 := of_decide_eq_false h2
        walk_at "go"
        refine if_split (fun h3 => ?_) (fun h3 => ?_)
        · have h3 := of_decide_eq_true h3
          rw [if_pos (.inr h3)]
          walk_at "go"
        · have h3 := of_decide_eq_false h3
          rw [if_neg (fun z => z.elim h2 h3)]
          walk_at "go"
end

-- SPLIT
/-! ### first_word, as it goes -/
abbrev FI := List PyData × Option (Nat × Nat) × List Nat
def encFI (x : FI) : PyData := match x.2.1 with | none => .tuple [.list x.1, .none, .none] | some (a, c) => .tuple [.list x.1, nI a, nI c]
section
variable {γ : Type} (aft : γ → PyData → Nat → List PyData × γ) (fin : PyData → Bool) (key : PyData → NestedKey)
def addT (S : List PyData × List PyData) (t : PyData) : List PyData × List PyData := if key t ∈ S.1.map key then S else (S.1 ++ [t], S.2 ++ [t])
def nodeF (le : Nat) (S : γ × List PyData × List PyData) (d : PyData) : γ × List PyData × List PyData := ((aft S.1 d le).2, (aft S.1 d le).1.foldl (addT key) S.2)
def letF (nodes : List PyData) (at_ : Nat) (w : List Nat) (S : γ × List PyData × List FI) (le : Nat) : γ × List PyData × List FI :=
  ((nodes.foldl (nodeF aft key le) (S.1, S.2.1, [])).1, (nodes.foldl (nodeF aft key le) (S.1, S.2.1, [])).2.1,
    if (nodes.foldl (nodeF aft key le) (S.1, S.2.1, [])).2.2 = [] then S.2.2 else S.2.2 ++ [((nodes.foldl (nodeF aft key le) (S.1, S.2.1, [])).2.2, some (at_, le), w ++ [le])])
def fwRun (L : Nat) : Nat → γ → List PyData → List FI → Nat → Option (Option (List Nat) × γ)
  | 0, _, _, _, _ => none
  | f + 1, k, sn, fo, a => match fo[a]? with
    | none => some (none, k)
    | some x => if x.1.any fin then some (some x.2.2, k) else
      if ((List.range L).foldl (letF aft key x.1 a x.2.2) (k, sn, fo)).2.1.length ≤ 60000 ∧ ((List.range L).foldl (letF aft key x.1 a x.2.2) (k, sn, fo)).2.2.length ≤ 60000 then
        fwRun L f ((List.range L).foldl (letF aft key x.1 a x.2.2) (k, sn, fo)).1 ((List.range L).foldl (letF aft key x.1 a x.2.2) (k, sn, fo)).2.1 ((List.range L).foldl (letF aft key x.1 a x.2.2) (k, sn, fo)).2.2 (a + 1)
      else none
def seenK (sn : List PyData) : List (NestedKey × PyData) := sn.map fun d => (key d, .bool true)
end
theorem fold_mono {α β : Type} (m : β → Nat) (f : β → α → β) (h : ∀ S x, m S ≤ m (f S x)) : ∀ (l : List α) (s : β), m s ≤ m (l.foldl f s)
  | [], s => Nat.le_refl _
  | x :: l, s => Nat.le_trans (h s x) (fold_mono m f h l (f s x))
theorem fold_take {α β : Type} (m : β → Nat) (f : β → α → β) (h : ∀ S x, m S ≤ m (f S x)) (l : List α) (s : β) (j : Nat) : m ((l.take j).foldl f s) ≤ m (l.foldl f s) := by
  have e : l.foldl f s = (l.drop j).foldl f ((l.take j).foldl f s) := by rw [← List.foldl_append, List.take_append_drop]
  rw [e]
  exact fold_mono m f h _ _
theorem take_fold {α β : Type} (f : β → α → β) (l : List α) (s : β) {j : Nat} (h : j < l.length) : (l.take (j + 1)).foldl f s = f ((l.take j).foldl f s) l[j] := by
  rw [List.take_add_one, List.getElem?_eq_getElem h, List.foldl_append]
  rfl
section
variable {γ : Type} {aft : γ → PyData → Nat → List PyData × γ} {key : PyData → NestedKey}
theorem addT_mono (S : List PyData × List PyData) (t : PyData) : S.1.length ≤ (addT key S t).1.length ∧ S.2.length ≤ (addT key S t).2.length ∧ (addT key S t).2.length + S.1.length ≤ S.2.length + (addT key S t).1.length := by
  unfold addT
  split
  · omega
  · simp; omega
theorem addT_sn (l : List PyData) (S : List PyData × List PyData) : S.1.length ≤ (l.foldl (addT key) S).1.length := fold_mono (fun S => S.1.length) _ (fun S t => (addT_mono S t).1) l S
theorem nodeF_sn (le : Nat) (l : List PyData) (S : γ × List PyData × List PyData) : S.2.1.length ≤ (l.foldl (nodeF aft key le) S).2.1.length := fold_mono (fun S => S.2.1.length) _ (fun S t => addT_sn _ _) l S
theorem letF_sn (nodes : List PyData) (a : Nat) (w : List Nat) (S : γ × List PyData × List FI) (le : Nat) : S.2.1.length ≤ (letF aft key nodes a w S le).2.1.length := nodeF_sn le nodes (S.1, S.2.1, [])
theorem letF_fo (nodes : List PyData) (a : Nat) (w : List Nat) (S : γ × List PyData × List FI) (le : Nat) : S.2.2.length ≤ (letF aft key nodes a w S le).2.2.length := by
  show S.2.2.length ≤ (if _ then _ else _ : List FI).length
  split
  · exact Nat.le_refl _
  · simp
theorem look_seenK (sn : List PyData) (t : NestedKey) : (lookN (seenK key sn) t).isSome = decide (t ∈ sn.map key) := by
  induction sn with
  | nil => rfl
  | cons d sn ih =>
    unfold lookN seenK at ih ⊢
    rw [List.map_cons, List.find?_cons]
    by_cases e : key d = t
    · simp [e]
    · have e2 : ¬ t = key d := fun z => e z.symm
      simp only [e, decide_false]
      rw [ih]
      simp [e2]
theorem put_seenK {sn : List PyData} {t : PyData} (h : key t ∉ sn.map key) : putN (seenK key sn) (key t) (.bool true) = seenK key (sn ++ [t]) := by
  unfold putN
  rw [look_seenK, decide_eq_false h, if_neg Bool.false_ne_true]
  unfold seenK
  rw [List.map_append]
  rfl
theorem kvN_seenK {bs : List PyData} (h : (bs.map key).Nodup) : ∀ n, n ≤ bs.length → kvN (fun i => key (itemD bs i)) (fun _ => .bool true) n = seenK key (bs.take n)
  | 0, _ => rfl
  | n + 1, hn => by
    have hl : n < bs.length := hn
    have ei : itemD bs n = bs[n] := by unfold itemD; simp [hl]
    rw [kvN_succ, kvN_seenK h n (by omega), ei, List.take_add_one, List.getElem?_eq_getElem hl]
    refine put_seenK fun hm => ?_
    obtain ⟨d, hd, e⟩ := List.mem_map.mp hm
    obtain ⟨j, hj, rfl⟩ := List.mem_take_iff_getElem.mp hd
    have := List.pairwise_iff_getElem.mp h j n (by simp; omega) (by simp; omega) (by omega)
    simp at this
    exact this e
end

/-! ### the search for the first word that parts two roads -/
def encI (x : Itm) : PyData := .tuple [nI x.1, .int x.2.1, .int x.2.2]
def encF (l : List Itm) : PyData := .list (l.map encI)
def keyI : PyData → NestedKey | .tuple [.int s, .int h, .int t] => .tup [.num s, .num h, .num t] | _ => .none
def seenI (l : List Itm) : List (NestedKey × PyData) := seenK keyI (l.map encI)
theorem isK_I (x : Itm) : IsK (encI x) (keyI (encI x)) := ⟨⟨_, rfl⟩, rfl, by show NestedKey.depth (.tup [.num _, .num _, .num _]) ≤ 8; simp [NestedKey.depth, NestedKey.depthAll]⟩
theorem keyI_inj {x y : Itm} (h : keyI (encI x) = keyI (encI y)) : x = y := by
  have h : NestedKey.tup [.num ((x.1 : Nat) : Int), .num x.2.1, .num x.2.2] = .tup [.num ((y.1 : Nat) : Int), .num y.2.1, .num y.2.2] := h
  injection h with h
  injection h with h1 h
  injection h with h2 h
  injection h with h3 h
  injection h1 with h1
  injection h2 with h2
  injection h3 with h3
  obtain ⟨a, b, c⟩ := x
  obtain ⟨a', b', c'⟩ := y
  have : a = a' := Int.ofNat.inj h1
  have h2 : b = b' := h2
  have h3 : c = c' := h3
  rw [this, h2, h3]
theorem look_seenI (l : List Itm) (x : Itm) : (lookN (seenI l) (keyI (encI x))).isSome = decide (x ∈ l) := by
  unfold seenI
  rw [look_seenK, List.map_map]
  by_cases h : x ∈ l
  · rw [decide_eq_true h]
    exact decide_eq_true (List.mem_map.mpr ⟨x, h, rfl⟩)
  · rw [decide_eq_false h]
    refine decide_eq_false fun z => ?_
    obtain ⟨y, hy, e⟩ := List.mem_map.mp z
    exact h (keyI_inj e ▸ hy)
theorem put_seenI {l : List Itm} {x : Itm} (h : x ∉ l) : putN (seenI l) (keyI (encI x)) (.bool true) = seenI (l ++ [x]) := by
  unfold seenI
  rw [put_seenK, List.map_append]
  · rfl
  · rw [List.map_map]
    intro z
    obtain ⟨y, hy, e⟩ := List.mem_map.mp z
    exact h (keyI_inj e ▸ hy)
theorem seenI_len (l : List Itm) : (seenI l).length = l.length := by unfold seenI seenK; rw [List.length_map, List.length_map]
def FirstR (rows : List (List (Option Nat))) (ends : List Bool) (us : List (List Nat)) (one other : List Nat) (most : Nat) : Option (List Nat) → Prop
  | none => ∀ u, ¬ (InK rows ends u ∧ difF us one other most u)
  | some w => (InK rows ends w ∧ difF us one other most w) ∧ ∀ u, (InK rows ends u ∧ difF us one other most u) → ¬ slt u w
def encW : Option (List Nat) → PyData | none => .none | some w => nX w
/-- what an item is -/
def ItOk (most N : Nat) (ps : List (List Nat)) (x : Itm) : Prop := x.1 < N ∧ ((x.2.1 = -2 ∧ x.2.2 = -2) ∨ ∃ p q, ValR most ps p ∧ ValR most ps q ∧ x.2.1 = codeR most ps p ∧ x.2.2 = codeR most ps q)
section
variable {us : List (List Nat)} {one other : List Nat} {ps : List (List Nat)} {most N : Nat} {stp : Nat → Nat → Option Nat}
theorem codeR_lt (P : PsOk ps one other) {a : RSt} (h : ValR most ps a) : codeR most ps a < (most : Int) + 1 + ps.length := by
  cases a with
  | num n =>
    have h : n ≤ most := h
    show (n : Int) < _
    omega
  | rest s =>
    obtain ⟨i, hi, _, e⟩ := codeP_in (most := most) P (show s ∈ ps from h)
    show codeP most ps s < _
    omega
theorem dI_ok (P : PsOk ps one other) (hst : ∀ s c t, s < N → stp s c = some t → t < N) {x y : Itm} {c : Nat} (h : ItOk most N ps x) (e : dI us one other ps most stp x c = some y) : ItOk most N ps y := by
  obtain ⟨s, a, b⟩ := x
  obtain ⟨h1, h2⟩ := h
  have e : ((stp s c).bind fun s' => if (pairF (onF us one ps most c) (onF us other ps most c) most a b).1 = -1 then none else some (s', pairF (onF us one ps most c) (onF us other ps most c) most a b)) = some y := e
  obtain ⟨s', hs, e⟩ := Option.bind_eq_some_iff.mp e
  split at e
  · cases e
  rename_i hne
  cases e
  refine ⟨hst s c s' h1 hs, ?_⟩
  rcases h2 with ⟨h2, h3⟩ | ⟨p, q, vp, vq, h2, h3⟩
  · have h2 : a = -2 := h2
    have h3 : b = -2 := h3
    subst h2 h3
    exact .inl ⟨rfl, rfl⟩
  · have h2 : a = codeR most ps p := h2
    have h3 : b = codeR most ps q := h3
    subst h2 h3
    rw [pair_is P vp vq c] at hne ⊢
    cases e1 : stepR us one p c with
    | none =>
      cases e2 : stepR us other q c with
      | none =>
        rw [e1, e2] at hne
        simp [codeO] at hne
      | some q' =>
        have nq := code_nn P (step_val P (.inr rfl) vq e2)
        have : ¬ (-1 : Int) = codeR most ps q' := by omega
        left
        simp [codeO, this]
    | some p' =>
      have vp' := step_val P (.inl rfl) vp e1
      have np := code_nn P vp'
      cases e2 : stepR us other q c with
      | none =>
        have : ¬ codeR most ps p' = (-1 : Int) := by omega
        left
        simp [codeO, this]
      | some q' =>
        have vq' := step_val P (.inr rfl) vq e2
        have nq := code_nn P vq'
        rw [e1, e2] at hne
        right
        refine ⟨p', q', vp', vq', ?_⟩
        have c1 : codeO most ps (some p') = codeR most ps p' := rfl
        have c2 : codeO most ps (some q') = codeR most ps q' := rfl
        rw [c1, c2] at hne ⊢
        dsimp only at hne ⊢
        by_cases eq : codeR most ps p' = codeR most ps q'
        · rw [if_pos eq] at hne ⊢
          by_cases le : codeR most ps p' ≤ most
          · rw [if_pos le]; exact ⟨rfl, rfl⟩
          · rw [if_neg le] at hne; exact absurd rfl hne
        · rw [if_neg eq, if_neg (show ¬ (codeR most ps p' = -1 ∨ codeR most ps q' = -1) by omega)]
          exact ⟨rfl, rfl⟩
theorem begins_ok (hN : 1 ≤ N) : ∀ x ∈ beginsI most, ItOk most N ps x ∧ x.2.1 ≠ -2 := fun x hx => by
  obtain ⟨n, hn, rfl⟩ := List.mem_map.mp hx
  have hn := List.mem_range.mp hn
  have v : ValR most ps (.num n) := show n ≤ most by omega
  refine ⟨⟨by show 0 < N; omega, .inr ⟨.num n, .num n, v, v, rfl, rfl⟩⟩, ?_⟩
  show (n : Int) ≠ -2
  omega
theorem begins_nodup : (beginsI most).Nodup := by
  unfold beginsI
  refine List.pairwise_map.mpr ((List.nodup_range (n := most + 1)).imp fun {a b} hab z => hab ?_)
  injection z with _ z
  injection z with z _
  omega
def natI (x : Itm) : Nat := (x.1 * 64 + (x.2.1 + 2).toNat) * 64 + (x.2.2 + 2).toNat
theorem it_few (P : PsOk ps one other) (hm : most ≤ 20) (hp : ps.length ≤ 20) (hN : N ≤ 9) {l : List Itm} (nd : l.Nodup) (h : ∀ x ∈ l, ItOk most N ps x) : l.length ≤ 36864 := by
  have b : ∀ x, ItOk most N ps x → x.1 < 9 ∧ -2 ≤ x.2.1 ∧ x.2.1 < 60 ∧ -2 ≤ x.2.2 ∧ x.2.2 < 60 := fun x hx => by
    obtain ⟨h1, h2⟩ := hx
    rcases h2 with ⟨h2, h3⟩ | ⟨p, q, vp, vq, h2, h3⟩
    · omega
    · have := code_nn P vp
      have := code_nn P vq
      have := codeR_lt P vp
      have := codeR_lt P vq
      omega
  have nd2 : (l.map natI).Nodup := by
    refine List.pairwise_map.mpr (List.Pairwise.imp_of_mem (fun {x y} hx hy hne z => hne ?_) nd)
    have bx := b x (h x hx)
    have byy := b y (h y hy)
    unfold natI at z
    obtain ⟨a1, a2, a3⟩ := x
    obtain ⟨b1, b2, b3⟩ := y
    simp only at bx byy z
    have e1 : a1 = b1 := by omega
    have e2 : a2 = b2 := by omega
    have e3 : a3 = b3 := by omega
    rw [e1, e2, e3]
  have := nodup_le 36864 (l.map natI) nd2 fun n hn => by
    obtain ⟨x, hx, rfl⟩ := List.mem_map.mp hn
    have := b x (h x hx)
    unfold natI
    omega
  rwa [List.length_map] at this
theorem flat_len : ∀ (fs : List (List Itm)), (∀ l ∈ fs, l ≠ []) → fs.length ≤ fs.flatten.length
  | [], _ => Nat.le_refl _
  | l :: fs, h => by
    rw [List.length_cons, List.flatten_cons, List.length_append]
    have := flat_len fs fun m hm => h m (.tail _ hm)
    have : l.length ≠ 0 := fun z => h l (.head _) (List.length_eq_zero_iff.mp z)
    omega
end
theorem trRow_len {L N : Nat} {rows : List (List (Option Nat))} {ends Av Bv : List Bool} (ok : KOk L N rows ends) {s : Nat} (hs : s < N) : (trRow L rows Av Bv s).length = L := by
  unfold trRow
  split
  · rw [List.length_map]
    have hs2 : s < rows.length := by rw [ok.lr]; exact hs
    rw [List.getD_eq_getElem?_getD, List.getElem?_eq_getElem hs2]
    exact (ok.row _ (List.getElem_mem hs2)).1
  · simp
theorem trStep_at {L N : Nat} {rows : List (List (Option Nat))} {Av Bv : List Bool} {s c : Nat} (hs : s < N) : stepL (trRows L N rows Av Bv) s c = (trRow L rows Av Bv s).getD c none := by
  unfold stepL trRows
  rw [List.getD_eq_getElem?_getD (l := (List.range N).map _), List.getElem?_map, List.getElem?_range hs]
  rfl
section
variable {K : PySem.W.Frag} {γ : Type} {W : Wd γ} {ρ : Rho} {k : γ} {Φ : PyData → γ → Prop}
theorem rd_ixQ {x : PyData} {ds : List PyData} {i : Int} {j : Nat} {d : PyData} (hx : x = .list ds ∨ x = .tuple ds) (hi : i = (j : Int)) (h : ds[j]? = some d) (q : Φ d k) : RD K W (rIx K) x (.int i) ρ k Φ := fun L0 H0 L H σ vx vy S tx ty Q c => by
  rcases hx with rfl | rfl
  · exact .inl (rd_ixL hi h q L0 H0 L H σ vx vy S tx ty Q c)
  · exact .inr (.inl (rd_ixT hi h q L0 H0 L H σ vx vy S tx ty Q c))
end
def onD (us : List (List Nat)) (one other : List Nat) (ps : List (List Nat)) (most c : Nat) : PyData := .tuple [.list ((onF us one ps most c).map .int), .list ((onF us other ps most c).map .int)]
section
variable {P : Program} {w : World} {K : PySem.W.Frag} {mg : Str → Option Value} {base : Heap} {A : Adrs}
def R_fur (ds : List PyData) (G : PyData → Prop) : Prop := ∃ (L N : Nat) (rows : List (List (Option Nat))) (ends Av Bv : List Bool) (us : List (List Nat)) (one other : List Nat) (most : Nat), ds = [trimD L N rows ends Av Bv, .tuple (us.map encU), encR one, encR other, nI most] ∧ KOk L N rows ends ∧ Trims N rows ends Av Bv ∧
  one ≠ [] ∧ other ≠ [] ∧ UsOk us one L ∧ UsOk us other L ∧ most ≤ 20 ∧ G = fun r => ∃ res, FirstR rows ends us one other most res ∧ r = encW res ∧ ∀ u, res = some u → (∀ c ∈ u, c < L) ∧ u.length ≤ 40000
theorem ok__first_unlike (T : Txt K mg A) : FnOk P w K mg base CX0 3 A.f__first_unlike A.d__first_unlike ["kind", "units", "one", "other", "most"] (spQ K 5 R_fur) := by
  have G__positions : FnOk P w K mg base CX0 1 A.f__positions A.d__positions ["one", "other", "most"] (spG P w K 3 R_pos) := ok__positions T
  have G__onward : FnOk P w K mg base CX0 2 A.f__onward A.d__onward ["units", "road", "positions", "most", "letter"] (spR P w K 5 2 R_onward) := ok__onward T
  have G__pair_on : FnOk P w K mg base CX0 1 A.f__pair_on A.d__pair_on ["onward", "here", "there", "most"] (spP K 4 R_pair) := ok__pair_on T
  have G_word_to : FnOk P w K mg base CX0 1 A.f_word_to A.d_word_to ["came", "at"] (spP K 2 R_word_to) := ok_word_to T
  refine T.F__first_unlike.ok sc__first_unlike (fun vs H Q E h => ?_) (fun cdv Ar outer s H vs Q E hr h => ?_)
  · exact spQ.len h
  refine ⟨_, (pss_cons (ps_asg (pv 0) (kTgT K (n := 3) (by rfl) (pgs_cons (pg_name (i := 5) sc__first_unlike.nd rfl (Or.inl rfl)) (pgs_cons (pg_name (i := 6) sc__first_unlike.nd rfl (Or.inl rfl)) (pgs_cons (pg_name (i := 7) sc__first_unlike.nd rfl (Or.inl rfl)) pgs_nil)))))
    (pss_cons (ps_set (i := 8) sc__first_unlike.nd rfl (Or.inr rfl) (pe_call G__positions (hr.mono (by first | decide | omega)) rfl T.m__positions T.k__positions T.b__positions .nil pass0 (pa_cons (pv 2) (pa_cons (pv 3) (pa_cons (pv 4) pa_nil)))))
    (pss_cons (ps_lock (ps_setLc (i := 9) (own := [("letter", 14)]) (by rfl) sc__first_unlike.nd rfl rfl (sw_true rfl rfl rfl (by decide +kernel)) (pi_range1 (by rfl) T.z_range (pa_cons (pv 5) pa_nil)) (blkOk_by (own := [("letter", 14)]) (N := N__first_unlike) (sc := defScope s__first_unlike) (by decide +kernel)) (fun _ _ _ _ _ => (pg_name (i := 14) sc__first_unlike.nd rfl (Or.inl rfl))) (fun _ _ _ _ _ => pts_nil) (fun _ _ _ _ _ => (pe_tup (pa_cons (pe_call G__onward (hr.mono (by first | decide | omega)) rfl T.m__onward T.k__onward T.b__onward .nil pass0 (pa_cons (pv 1) (pa_cons (pv 2) (pa_cons (pv 8) (pa_cons (pv 4) (pa_cons (pv 14) pa_nil)))))) (pa_cons (pe_call G__onward (hr.mono (by first | decide | omega)) rfl T.m__onward T.k__onward T.b__onward .nil pass0 (pa_cons (pv 1) (pa_cons (pv 3) (pa_cons (pv 8) (pa_cons (pv 4) (pa_cons (pv 14) pa_nil)))))) pa_nil))))))
    (pss_cons (ps_set (i := 10) sc__first_unlike.nd rfl (Or.inl rfl) (pe_lst (pa_cons (pe_lc (own := [("number", 20)]) rfl sc__first_unlike.nd (pi_range1 (by rfl) T.z_range (pa_cons (pe_op op_add (pv 4) pe_int) pa_nil)) (blkOk_by (own := [("number", 20)]) (N := N__first_unlike) (sc := defScope s__first_unlike) (by decide +kernel)) (fun _ _ _ _ _ => (pg_name (i := 20) sc__first_unlike.nd rfl (Or.inl rfl))) (fun _ _ _ _ _ => pts_nil) (fun _ _ _ _ _ => (pe_tup (pa_cons pe_int (pa_cons (pv 20) (pa_cons (pv 20) pa_nil)))))) pa_nil)))
    (pss_cons (ps_setDcN (K := K) (i := 11) (own := [("item", 19)]) (room9 hr) (by rfl) sc__first_unlike.nd rfl rfl (sw_trueD rfl rfl rfl (by decide +kernel)) (kPiL K (pe_ix (kIxL K) (pv 10) pe_int (fun _ _ => rfl))) (blkOk_by (own := [("item", 19)]) (N := N__first_unlike) (sc := defScope s__first_unlike) (by decide +kernel)) (fun _ _ _ _ _ => (pg_name (i := 19) sc__first_unlike.nd rfl (Or.inl rfl))) (fun _ _ _ _ _ => pts_nil) (fun _ _ _ _ _ => (pv 19)) (fun _ _ _ _ _ => pe_bl))
    (pss_cons (ps_set (i := 12) sc__first_unlike.nd rfl (Or.inl rfl) (pe_lst (pa_cons pe_non pa_nil)))
    (pss_cons (ps_set (i := 13) sc__first_unlike.nd rfl (Or.inl rfl) pe_int)
    (pss_cons (ps_while PassesOwn.never (pt_cmpR op_lt (pv 13) (pe_callB (id := "len") (kLenQ K) (by rfl) T.z_len (by decide +kernel) (pa_cons (pv 10) pa_nil)) (nomark _))
    (pss_cons (ps_for PassesOwn.never rfl (pi_range1 (by rfl) T.z_range (pa_cons (pv 5) pa_nil)) (pg_name (i := 14) sc__first_unlike.nd rfl (Or.inl rfl))
    (pss_cons (ps_set (i := 15) sc__first_unlike.nd rfl (Or.inl rfl) (pe_lst pa_nil))
    (pss_cons (ps_for PassesOwn.never rfl (kPiL K (pe_ix (kIxL K) (pv 10) (pv 13) (fun _ _ => rfl))) (kTgT K (n := 3) (by rfl) (pgs_cons (pg_name (i := 16) sc__first_unlike.nd rfl (Or.inl rfl)) (pgs_cons (pg_name (i := 17) sc__first_unlike.nd rfl (Or.inl rfl)) (pgs_cons (pg_name (i := 18) sc__first_unlike.nd rfl (Or.inl rfl)) pgs_nil))))
    (pss_cons (ps_asg (pe_call G__pair_on (hr.mono (by first | decide | omega)) rfl T.m__pair_on T.k__pair_on T.b__pair_on .nil pass0 (pa_cons (pe_ix (kIxL K) (pv 9) (pv 14) (fun _ _ => rfl)) (pa_cons (pv 17) (pa_cons (pv 18) (pa_cons (pv 4) pa_nil))))) (kTgT K (n := 2) (by rfl) (pgs_cons (pg_name (i := 17) sc__first_unlike.nd rfl (Or.inl rfl)) (pgs_cons (pg_name (i := 18) sc__first_unlike.nd rfl (Or.inl rfl)) pgs_nil))))
    (pss_cons (ps_set (i := 19) sc__first_unlike.nd rfl (Or.inl rfl) (pe_tup (pa_cons (pe_ix (kIxQ K) (pe_ix (kIxL K) (pv 6) (pv 16) (fun _ _ => rfl)) (pv 14) (fun _ _ => rfl)) (pa_cons (pv 17) (pa_cons (pv 18) pa_nil)))))
    (pss_one (ps_if (PW.pt (pw_and (pt_cmpR op_notN (pe_ix (kIxT K) (pv 19) pe_int (fun _ _ => rfl)) pe_non (nomark _)) (pw_and (pt_cmpR op_ne (pv 17) (pe_gi rfl T.c_STOPPED) (nomark _)) (pw_and1 (pt_cmp (pc_nnotin (K := K) (room9 hr) (pv 19) (pv 11)) (by rfl)))))) (pss_cons (ps_if (PW.pt (pw_and (pt_cmpR op_eq (pv 17) (pe_gi rfl T.c_APART) (nomark _)) (pw_and1 (pt_val (pe_ix (kIxL K) (pv 7) (pe_ix (kIxT K) (pv 19) pe_int (fun _ _ => rfl)) (fun _ _ => rfl)))))) (pss_one (ps_ret (pe_op op_add_str (pe_call G_word_to (hr.mono (by first | decide | omega)) rfl T.m_word_to T.k_word_to T.b_word_to .nil pass0 (pa_cons (pv 12) (pa_cons (pv 13) pa_nil))) (pe_ix ix_str (pe_gs rfl T.c_LETTERS) (pv 14) (fun _ _ => rfl)))))
    pss_nil)
    (pss_cons (ps_nput (K := K) (room9 hr) (pv 11) (pv 19) pe_bl rfl)
    (pss_one (ps_expr (kBm K (pe_bm PySem.F.plainAttrs_list PySem.F.slot_list_append PySem.F.type_list_append mt_append (pv 15) (pa_cons (pv 19) pa_nil)))))))
    pss_nil)))))
    (pss_one (ps_if (kTruth K (pv 15) (by intro _; rfl)) (pss_cons (ps_expr (kBm K (pe_bm PySem.F.plainAttrs_list PySem.F.slot_list_append PySem.F.type_list_append mt_append (pv 10) (pa_cons (pv 15) pa_nil))))
    (pss_one (ps_expr (kBm K (pe_bm PySem.F.plainAttrs_list PySem.F.slot_list_append PySem.F.type_list_append mt_append (pv 12) (pa_cons (pe_tup (pa_cons (pv 13) (pa_cons (pv 14) pa_nil))) pa_nil))))))
    pss_nil)))))
    (pss_one (ps_aug (i := 13) sc__first_unlike.nd rfl (Or.inl rfl) pe_int ip_add))))
    (pss_one (ps_ret pe_non)))))))))), ?_⟩
  refine spQ.ok h fun W ds G hR => ?_
  obtain ⟨L, N, rows, ends, Av, Bv, us, one, other, most, rfl, ok, tr, n1, n2, o1, o2, hm, rfl⟩ := hR
  have l4 := ok.l4
  have N1 := ok.n1
  have N9 := ok.n9
  have P0 := posS_ok one other
  have plen := posS_len one other
  have few1 := o1.few
  have few2 := o2.few
  have psl : (posS one other).length ≤ 20 := by omega
  walk_at "st"
  rw [show trimD L N rows ends Av Bv = .tuple [nI L, .list ((List.range N).map (trD L rows Av Bv)), .list ((lastOf N ends Av).map PyData.bool)] from rfl]
  refine sw_seq (sw_asg (ev_var rfl ?_))
  walk_at "tg"
  refine sw_seq (sw_setG (ea_cons (ev_var rfl (ea_cons (ev_var rfl (ea_cons (ev_var rfl (ea_nil ⟨rfl, _, ⟨one, other, most, rfl, few1, few2, hm, rfl⟩, ?_⟩))))))))
  refine sw_seq (sw_lockN (i := 8) (j := 9) (by decide) rfl fun od => ev_lcP (fun _ => true) (fun c => onD us one other (posS one other) most c) (ei_rng1 ?_))
  dsimp only [List.set_cons_succ, List.set_cons_zero]
  walk_at "ev"
  refine ⟨by omega, by omega, by omega, fun c hc => ?_, ?_⟩
  · have hcL : c < L := by omega
    walk_at "tg"
    refine et_yes ⟨rfl, rfl, fun _ => ev_tup (ea_cons (ev_callR rfl rfl rfl rfl rfl ⟨us, one, one, other, most, c, L, rfl, .inl rfl, n1, o1, o2, hcL, hm, rfl, rfl⟩ (ea_cons (ev_callR rfl rfl rfl rfl rfl ⟨us, other, one, other, most, c, L, rfl, .inr rfl, n2, o1, o2, hcL, hm, rfl, rfl⟩ (ea_nil ⟨by simp, rfl, rfl⟩)))))⟩
  rw [List.filter_eq_self.mpr fun _ _ => rfl, show (L : Int).toNat = L from rfl]
  refine sw_seq (sw_own (ea_cons (ev_lcP (fun _ => true) (fun n => encI (0, (n : Int), (n : Int))) (ei_rng1 ?_))))
  walk_at "ev"
  refine ⟨by omega, by omega, by omega, fun n hn => ?_, ?_⟩
  · walk_at "go"
    exact ⟨rfl, rfl⟩
  rw [List.filter_eq_self.mpr fun _ _ => rfl, show ((most : Int) + 1).toNat = most + 1 by omega]
  have eb : ((List.range (most + 1)).map fun (n : Nat) => encI (0, (n : Int), (n : Int))) = (beginsI most).map encI := by
    unfold beginsI
    rw [List.map_map]
    rfl
  rw [eb]
  refine ea_nil ⟨by simp, ?_⟩
  have bl : (beginsI most).length = most + 1 := by simp [beginsI]
  have bat : ∀ i, (h : i < ((beginsI most).map encI).length) → itemD ((beginsI most).map encI) i = encI ((beginsI most)[i]'(by simpa using h)) := fun i h => by
    rw [List.length_map] at h
    exact itemD_map h
  refine sw_seq (sw_dcN (fun i => keyI (itemD ((beginsI most).map encI) i)) (fun _ => .bool true) (ei_list (ev_ownIx rfl (ev_int ⟨0, rfl, _, rfl, _, rfl, ?_⟩))))
  refine ⟨by rw [List.length_map, bl]; omega, fun i hi => ?_, ?_⟩
  · walk_at "tg"
    refine et_yes ⟨rfl, rfl, ev_var rfl ⟨rfl, ?_, ev_bl ⟨rfl, rfl⟩⟩⟩
    rw [bat i hi]
    exact isK_I _
  have knd : (((beginsI most).map encI).map keyI).Nodup := by
    rw [List.map_map]
    exact List.pairwise_map.mpr ((begins_nodup (most := most)).imp fun hne z => hne (keyI_inj z))
  rw [kvN_seenK knd _ (Nat.le_refl _), List.take_length]
  rw [show seenK keyI ((beginsI most).map encI) = seenI (beginsI most) from rfl]
  refine sw_seq (sw_own (ea_cons (ev_non (ea_nil ⟨by simp, ?_⟩))))
  walk_at "go"
  have hst : ∀ s c t, s < N → stepL (trRows L N rows Av Bv) s c = some t → t < N := fun s c t hs h => (trim_out ok [c] s t hs (by show ((stepL (trRows L N rows Av Bv) s c).bind some) = some t; rw [h]; rfl)).2
  have hacc : ∀ u, AccX (dI us one other (posS one other) most (stepL (trRows L N rows Av Bv))) (goalI (lastOf N ends Av)) (beginsI most) u ↔ InK rows ends u ∧ difF us one other most u := fun u => by
    rw [accI_iff P0, trim_acc ok tr]
  have lstl : (lastOf N ends Av).length = N := by simp [lastOf]
  refine sw_while (fun m ρ _ => ∃ (fs : List (List Itm)) (ws : List (List Nat)) (came : List (Option (Nat × Nat))) (a : Nat) (t1 t2 t3 t4 t5 t6 t7 : Slot), ρ = [.dat (.tuple [nI L, .list ((List.range N).map (trD L rows Av Bv)), .list ((lastOf N ends Av).map PyData.bool)]), .dat (.tuple (us.map encU)), .dat (encR one), .dat (encR other), .dat (nI most), .dat (nI L), .dat (.list ((List.range N).map (trD L rows Av Bv))), .dat (.list ((lastOf N ends Av).map PyData.bool)), .ownN (DN P w) (encPos most (posS one other)), .dat (.list ((List.range L).map (onD us one other (posS one other) most))), .own (fs.map encF), .ownN (DN P w) (seenI fs.flatten), .own (came.map encCame), .dat (nI a), t1, t2, t3, t4, t5, t6, t7] ∧ m = 40000 - a ∧
    Mbf (dI us one other (posS one other) most (stepL (trRows L N rows Av Bv))) (goalI (lastOf N ends Av)) (beginsI most) fs ws a 0 ∧ (∀ x ∈ fs.flatten, ItOk most N (posS one other) x) ∧ fs.flatten.Nodup ∧ (∀ l ∈ fs, l ≠ []) ∧ came.length = fs.length ∧ (∀ i w, ws[i]? = some w → WordAt came i w ∧ (∀ c ∈ w, c < L) ∧ w.length ≤ i) ∧ a ≤ fs.length) 40000
    ⟨[beginsI most], [[]], [none], 0, _, _, _, _, _, _, _, by simp only [List.flatten_cons, List.flatten_nil, List.append_nil]; rfl, rfl, Mbf.start (fun b hb => ?_), fun x hx => ?_, ?_, fun l hl z => ?_, rfl, fun i w hw => ?_, by simp⟩ ?_
  · have := (begins_ok (ps := posS one other) N1 b hb).2
    unfold goalI
    rw [decide_eq_false this]
    rfl
  · exact (begins_ok N1 x (by simpa using hx)).1
  · simpa using begins_nodup (most := most)
  · rw [List.mem_singleton.mp hl] at z
    have := congrArg List.length z
    rw [bl] at this
    cases this
  · match i, hw with
    | 0, hw => cases hw; exact ⟨.nil rfl, (fun _ z => nomatch z), Nat.le_refl _⟩
    | i + 1, hw => simp at hw
  rintro m ρ1 k1 ⟨fs, ws, came, a, t1, t2, t3, t4, t5, t6, t7, rfl, rfl, B, hok, hnd, hne, hcl, hwa, hale⟩
  have few := it_few P0 hm psl N9 hnd hok
  have flen := flat_len fs hne
  refine et_test (ev_op (ev_var rfl (ev_ownLen rfl ?_)))
  walk_at "go"
  rw [List.length_map]
  refine if_split (fun h1 => ?_) (fun h1 => ?_)
  rotate_left
  · have ea : a = fs.length := by have := of_decide_eq_false h1; omega
    subst ea
    walk_at "go"
    exact ⟨none, fun u hu => B.finish u ((hacc u).mpr hu), rfl, fun u z => by cases z⟩
  have ha : a < fs.length := by have := of_decide_eq_true h1; omega
  have ha2 : a < ws.length := by rw [B.len]; exact ha
  have hfa : fs[a]? = some fs[a] := List.getElem?_eq_getElem ha
  have hwsa : ws[a]? = some ws[a] := List.getElem?_eq_getElem ha2
  generalize fs[a] = l at hfa
  generalize ws[a] = w0 at hwsa
  refine sw_seq (sw_forW (ei_rng1 ?_))
  walk_at "ev"
  refine ⟨by omega, by omega, ?_⟩
  rw [show (L : Int).toNat = L from rfl]
  refine ⟨fun j ρ _ => ∃ (fs : List (List Itm)) (ws : List (List Nat)) (came : List (Option (Nat × Nat))), ρ = [.dat (.tuple [nI L, .list ((List.range N).map (trD L rows Av Bv)), .list ((lastOf N ends Av).map PyData.bool)]), .dat (.tuple (us.map encU)), .dat (encR one), .dat (encR other), .dat (nI most), .dat (nI L), .dat (.list ((List.range N).map (trD L rows Av Bv))), .dat (.list ((lastOf N ends Av).map PyData.bool)), .ownN (DN P w) (encPos most (posS one other)), .dat (.list ((List.range L).map (onD us one other (posS one other) most))), .own (fs.map encF), .ownN (DN P w) (seenI fs.flatten), .own (came.map encCame), .dat (nI a), .no, .no, .no, .no, .no, .no, .no] ∧
    Mbf (dI us one other (posS one other) most (stepL (trRows L N rows Av Bv))) (goalI (lastOf N ends Av)) (beginsI most) fs ws a j ∧ (∀ x ∈ fs.flatten, ItOk most N (posS one other) x) ∧ fs.flatten.Nodup ∧ (∀ l ∈ fs, l ≠ []) ∧ came.length = fs.length ∧ (∀ i w, ws[i]? = some w → WordAt came i w ∧ (∀ c ∈ w, c < L) ∧ w.length ≤ i) ∧ a < fs.length ∧ fs[a]? = some l ∧ ws[a]? = some w0, ⟨_, by walk_at "le", fs, ws, came, rfl, B, hok, hnd, hne, hcl, hwa, ha, hfa, hwsa⟩, ?_, ?_⟩
  · clear B hok hnd hne hcl hwa hale few flen h1 ha ha2 hfa hwsa fs ws came
    rintro j ρ2 k2 hj ⟨fs, ws, came, rfl, B, hok, hnd, hne, hcl, hwa, ha, hfa, hwsa⟩
    have few := it_few P0 hm psl N9 hnd hok
    have flen := flat_len fs hne
    have hlok : ∀ x ∈ l, ItOk most N (posS one other) x := fun x hx => hok x (List.mem_flatten.mpr ⟨l, List.mem_of_getElem? hfa, hx⟩)
    have hllen : l.length ≤ 36864 := Nat.le_trans (List.sublist_flatten_of_mem (List.mem_of_getElem? hfa)).length_le few
    walk_at "tg"
    refine sw_seq (sw_own (ea_nil ⟨by simp, ?_⟩))
    refine sw_seq (sw_forW (ei_list (ev_ownIx rfl (ev_var rfl ⟨a, rfl, encF l, at_map hfa, _, rfl, ?_⟩))))
    rw [List.length_map]
    dsimp only [List.set_cons_succ, List.set_cons_zero]
    obtain ⟨wA, wL, wlen⟩ := hwa a w0 hwsa
    rw [show seenI fs.flatten = seenI (fs.flatten ++ []) by rw [List.append_nil]]
    refine ⟨fun i ρ _ => ∃ l' : List Itm, ρ = [.dat (.tuple [nI L, .list ((List.range N).map (trD L rows Av Bv)), .list ((lastOf N ends Av).map PyData.bool)]), .dat (.tuple (us.map encU)), .dat (encR one), .dat (encR other), .dat (nI most), .dat (nI L), .dat (.list ((List.range N).map (trD L rows Av Bv))), .dat (.list ((lastOf N ends Av).map PyData.bool)), .ownN (DN P w) (encPos most (posS one other)), .dat (.list ((List.range L).map (onD us one other (posS one other) most))), .own (fs.map encF), .ownN (DN P w) (seenI (fs.flatten ++ l')), .own (came.map encCame), .dat (nI a), .dat (nI j), .own (l'.map encI), .no, .no, .no, .no, .no] ∧
      (∀ x ∈ l.take i, ∀ y, dI us one other (posS one other) most (stepL (trRows L N rows Av Bv)) x j = some y → y ∈ fs.flatten ∨ y ∈ l') ∧ (∀ y ∈ l', ∃ x ∈ l, dI us one other (posS one other) most (stepL (trRows L N rows Av Bv)) x j = some y) ∧ (∀ y ∈ l', goalI (lastOf N ends Av) y = false) ∧ (∀ y ∈ l', ItOk most N (posS one other) y) ∧ (fs.flatten ++ l').Nodup, ⟨_, by walk_at "le", [], rfl, fun x hx => (by simp at hx), (fun _ z => nomatch z), (fun _ z => nomatch z), (fun _ z => nomatch z), by rw [List.append_nil]; exact hnd⟩, ?_, ?_⟩
    · rintro i ρ3 k3 hi ⟨l', rfl, c1, c2, c3, c4, c5⟩
      rw [itemD_map hi]
      have hxl := List.getElem_mem hi
      have hx := hlok _ hxl
      have et : l.take (i + 1) = l.take i ++ [l[i]] := by rw [List.take_add_one, List.getElem?_eq_getElem hi]; rfl
      have few2 := it_few P0 hm psl N9 c5 fun x hx => (List.mem_append.mp hx).elim (hok x) (c4 x)
      dsimp only
      rw [et]
      generalize l[i] = x at hx hxl
      obtain ⟨s, h, t⟩ := x
      obtain ⟨hs, hht⟩ := hx
      have hs : s < N := hs
      rw [show encI (s, h, t) = .tuple [nI s, .int h, .int t] from rfl]
      have hpc : h = -2 ∨ (0 ≤ h ∧ h < (onF us one (posS one other) most j).length ∧ 0 ≤ t ∧ t < (onF us other (posS one other) most j).length) := by
        rcases hht with ⟨h2, _⟩ | ⟨p, q, vp, vq, h2, h3⟩
        · exact .inl h2
        · obtain ⟨i1, e1, g1, _⟩ := onF_at (us := us) (rd := one) (c := j) P0 vp
          obtain ⟨i2, e2, g2, _⟩ := onF_at (us := us) (rd := other) (c := j) P0 vq
          have h2 : h = codeR most (posS one other) p := h2
          have h3 : t = codeR most (posS one other) q := h3
          exact .inr (by omega)
      have hdI : dI us one other (posS one other) most (stepL (trRows L N rows Av Bv)) (s, h, t) j = (stepL (trRows L N rows Av Bv) s j).bind fun s' => if (pairF (onF us one (posS one other) most j) (onF us other (posS one other) most j) most h t).1 = -1 then none else some (s', pairF (onF us one (posS one other) most j) (onF us other (posS one other) most j) most h t) := rfl
      have honD : ((List.range L).map (onD us one other (posS one other) most))[j]? = some (.tuple [.list ((onF us one (posS one other) most j).map .int), .list ((onF us other (posS one other) most j).map .int)]) := by
        rw [List.getElem?_map, List.getElem?_range hj]
        rfl
      walk_at "tg"
      refine sw_seq (sw_asg (ev_call ?_))
      walk_at "ev"
      refine rd_ixL (j := j) rfl honD ?_
      walk_at "ev"
      refine rc_pure rfl ⟨_, _, h, t, most, rfl, hpc, rfl⟩ ?_
      generalize pairF (onF us one (posS one other) most j) (onF us other (posS one other) most j) most h t = pr at hdI
      walk_at "tg"
      have hl2 : j < (trRow L rows Av Bv s).length := by rw [trRow_len ok hs]; exact hj
      have hrow : ((List.range N).map (trD L rows Av Bv))[s]? = some (trD L rows Av Bv s) := by rw [List.getElem?_map, List.getElem?_range hs]; rfl
      have hQ : trD L rows Av Bv s = .list ((trRow L rows Av Bv s).map optD) ∨ trD L rows Av Bv s = .tuple ((trRow L rows Av Bv s).map optD) := by
        unfold trD
        split
        · exact .inl rfl
        · exact .inr rfl
      have hcell : ((trRow L rows Av Bv s).map optD)[j]? = some (optD (stepL (trRows L N rows Av Bv) s j)) := by
        rw [List.getElem?_map, trStep_at hs, List.getD_eq_getElem?_getD, List.getElem?_eq_getElem hl2]
        rfl
      refine sw_seq (sw_set (ev_tup (ea_cons (ev_op (ev_op (ev_var rfl (ev_var rfl (rd_ixL (j := s) rfl hrow (ev_var rfl (rd_ixQ hQ rfl hcell ?_))))))))))
      walk_at "ev"
      refine sw_if ?_
      walk_at "ev"
      have stay : (∀ y, dI us one other (posS one other) most (stepL (trRows L N rows Av Bv)) (s, h, t) j = some y → y ∈ fs.flatten ∨ y ∈ l') → ∀ x ∈ l.take i ++ [(s, h, t)], ∀ y, dI us one other (posS one other) most (stepL (trRows L N rows Av Bv)) x j = some y → y ∈ fs.flatten ∨ y ∈ l' := fun hy x hx y e => by
        rcases List.mem_append.mp hx with hx | hx
        · exact c1 x hx y e
        · rw [List.mem_singleton.mp hx] at e; exact hy y e
      cases ho : stepL (trRows L N rows Av Bv) s j with
      | none =>
        rw [ho] at hdI
        rw [show (!isNone (optD none)) = false from rfl]
        refine if_split (fun z => by cases z) (fun _ => ?_)
        walk_at "go"
        exact ⟨_, by walk_at "le", l', rfl, stay (fun y e => (by rw [hdI] at e; cases e)), c2, c3, c4, c5⟩
      | some s' =>
        rw [ho] at hdI
        have hs' := hst s j s' hs ho
        rw [show (!isNone (optD (some s'))) = true from rfl, show optD (some s') = nI s' from rfl]
        refine if_split (fun _ => ?_) (fun z => by cases z)
        have hdI : dI us one other (posS one other) most (stepL (trRows L N rows Av Bv)) (s, h, t) j = if pr.1 = -1 then none else some (s', pr) := hdI
        walk_at "ev"
        by_cases hp1 : pr.1 = -1
        · rw [if_pos hp1] at hdI
          rw [hp1, decide_eq_true rfl]
          refine if_split (fun z => by cases z) (fun _ => ?_)
          walk_at "go"
          exact ⟨_, by walk_at "le", l', rfl, stay (fun y e => (by rw [hdI] at e; cases e)), c2, c3, c4, c5⟩
        · rw [if_neg hp1] at hdI
          rw [decide_eq_false hp1]
          refine if_split (fun _ => ?_) (fun z => by cases z)
          rw [show PyData.tuple [nI s', .int pr.1, .int pr.2] = encI (s', pr) from rfl]
          refine et_B (ev_nnotin (atN_own rfl) (ev_var rfl ⟨keyI (encI (s', pr)), isK_I _, ?_⟩))
          rw [look_seenI]
          by_cases hin : (s', pr) ∈ fs.flatten ++ l'
          · rw [decide_eq_true hin]
            refine ⟨_, rfl, ?_⟩
            refine if_split (fun z => by cases z) (fun _ => ?_)
            walk_at "go"
            exact ⟨_, by walk_at "le", l', rfl, stay (fun y e => (by rw [hdI] at e; cases e; exact List.mem_append.mp hin)), c2, c3, c4, c5⟩
          · rw [decide_eq_false hin]
            refine ⟨_, rfl, ?_⟩
            refine if_split (fun _ => ?_) (fun z => by cases z)
            have hes : (lastOf N ends Av)[s']? = some ((lastOf N ends Av).getD s' false) := by rw [List.getD_eq_getElem?_getD, List.getElem?_eq_getElem (by rw [lstl]; exact hs')]; rfl
            have hgy : goalI (lastOf N ends Av) (s', pr) = (decide (pr.1 = -2) && (lastOf N ends Av).getD s' false) := rfl
            refine sw_mid (fun ρ _ => ρ = [.dat (.tuple [nI L, .list ((List.range N).map (trD L rows Av Bv)), .list ((lastOf N ends Av).map PyData.bool)]), .dat (.tuple (us.map encU)), .dat (encR one), .dat (encR other), .dat (nI most), .dat (nI L), .dat (.list ((List.range N).map (trD L rows Av Bv))), .dat (.list ((lastOf N ends Av).map PyData.bool)), .ownN (DN P w) (encPos most (posS one other)), .dat (.list ((List.range L).map (onD us one other (posS one other) most))), .own (fs.map encF), .ownN (DN P w) (seenI (fs.flatten ++ l')), .own (came.map encCame), .dat (nI a), .dat (nI j), .own (l'.map encI), .dat (nI s), .dat (.int pr.1), .dat (.int pr.2), .dat (encI (s', pr)), .no] ∧ goalI (lastOf N ends Av) (s', pr) = false) ?_ ?_
            · refine sw_if ?_
              walk_at "ev"
              refine if_split (fun h2 => ?_) (fun h2 => ?_)
              · have h2 := of_decide_eq_true h2
                refine et_B (ev_op (ev_var rfl (ev_op (ev_var rfl (ev_int ?_)))))
                rw [show encI (s', pr) = PyData.tuple [nI s', .int pr.1, .int pr.2] from rfl]
                refine rd_ixT0 (rd_ixL (j := s') rfl (at_map hes) ⟨_, rfl, ?_⟩)
                refine if_split (fun h3 => ?_) (fun h3 => ?_)
                · have hg : goalI (lastOf N ends Av) (s', pr) = true := by rw [hgy, h3, decide_eq_true h2]; rfl
                  obtain ⟨f1, f2⟩ := B.found hfa hwsa hxl hdI hg
                  have flenx := flat_len fs hne
                  refine sw_freeze 12 rfl ?_
                  refine sw_ret (ev_op (ev_call ?_))
                  walk_at "ev"
                  refine rc_pure rfl ⟨came, a, w0, rfl, wA, by omega, rfl⟩ ?_
                  refine ev_op (ev_str (ev_var rfl ?_))
                  rw [txt_LET]
                  refine rd_ixX (by simp) (show j < (List.range 26).length by simp; omega) ?_
                  have : (List.range 26)[j]'(by simp; omega) = j := by simp
                  rw [this]
                  refine rd_catS (by rw [txt_len]; show w0.length + 1 ≤ _; omega) ?_
                  rw [show (⟨#[97 + j]⟩ : Str) = txt [j] from rfl, txt_app]
                  refine ⟨some (w0 ++ [j]), ⟨(hacc _).mp f1, fun u hu => f2 u ((hacc u).mpr hu)⟩, rfl, fun u e => ?_⟩
                  cases e
                  refine ⟨fun c hc => ?_, by rw [List.length_append]; simp only [List.length_singleton]; omega⟩
                  rcases List.mem_append.mp hc with hc | hc
                  · exact wL c hc
                  · rw [List.mem_singleton.mp hc]; exact hj
                · exact sw_nx ⟨rfl, by rw [hgy, h3, Bool.and_false]⟩
              · have h2 := of_decide_eq_false h2
                exact sw_nx ⟨rfl, by rw [hgy, decide_eq_false h2, Bool.false_and]⟩
            · rintro ρ4 k4 ⟨rfl, hg⟩
              refine sw_seq (sw_nput rfl (ev_bl (ev_var rfl ⟨keyI (encI (s', pr)), isK_I _, by rw [seenI_len]; omega, ?_⟩)))
              rw [put_seenI hin]
              rw [List.length_append] at few2
              refine sw_append (ev_var rfl ⟨_, rfl, by rw [List.length_map]; omega, ?_⟩) ⟨_, rfl⟩
              dsimp only [List.set_cons_succ, List.set_cons_zero]
              rw [show l'.map encI ++ [encI (s', pr)] = (l' ++ [(s', pr)]).map encI by rw [List.map_append]; rfl, List.append_assoc]
              refine ⟨_, by walk_at "le", l' ++ [(s', pr)], rfl, fun x hx y e => ?_, fun y hy => ?_, fun y hy => ?_, fun y hy => ?_, ?_⟩
              · rcases List.mem_append.mp hx with hx | hx
                · exact (c1 x hx y e).imp_right fun z => List.mem_append_left _ z
                · rw [List.mem_singleton.mp hx, hdI] at e
                  cases e
                  exact .inr (List.mem_append_right _ (.head _))
              · rcases List.mem_append.mp hy with hy | hy
                · exact c2 y hy
                · rw [List.mem_singleton.mp hy]
                  exact ⟨_, hxl, hdI⟩
              · rcases List.mem_append.mp hy with hy | hy
                · exact c3 y hy
                · rw [List.mem_singleton.mp hy]; exact hg
              · rcases List.mem_append.mp hy with hy | hy
                · exact c4 y hy
                · rw [List.mem_singleton.mp hy]
                  exact dI_ok P0 hst ⟨hs, hht⟩ hdI
              · rw [← List.append_assoc, List.nodup_append]
                exact ⟨c5, by simp, fun x hx y hy => by
                  rw [List.mem_singleton.mp hy]
                  rintro rfl
                  exact hin hx⟩
    · rintro ρ3 k3 ⟨l', rfl, c1, c2, c3, c4, c5⟩
      rw [List.take_length] at c1
      have few2 := it_few P0 hm psl N9 c5 fun x hx => (List.mem_append.mp hx).elim (hok x) (c4 x)
      rw [List.length_append] at few2
      refine sw_freeze 15 rfl ?_
      dsimp only [List.set_cons_succ, List.set_cons_zero]
      refine sw_if ?_
      walk_at "ev"
      refine ⟨by first | exact True.intro | (show _ ≤ _; rw [List.length_map]; omega), ?_⟩
      cases hl' : l' with
      | nil =>
        subst hl'
        refine if_split (fun z => by cases z) (fun _ => ?_)
        refine sw_nx ?_
        rw [List.append_nil]
        exact ⟨_, by walk_at "le", fs, ws, came, rfl, B.skip hfa (fun x hx y e => (c1 x hx y e).elim (fun z => List.mem_flatten.mp z) (fun z => nomatch z)), hok, hnd, hne, hcl, hwa, ha, hfa, hwsa⟩
      | cons y0 ys =>
        rw [← hl']
        have hne' : l' ≠ [] := by rw [hl']; simp
        refine if_split (fun _ => ?_) (fun z => by rw [hl'] at z; cases z)
        refine sw_seq (sw_append (ev_var rfl ⟨_, rfl, by rw [List.length_map]; omega, ?_⟩) ⟨_, rfl⟩)
        refine sw_append (ev_tup (ea_cons (ev_var rfl (ea_cons (ev_var rfl (ea_nil ⟨by simp, _, rfl, by rw [List.length_map]; omega, ?_⟩)))))) ⟨_, rfl⟩
        dsimp only [List.set_cons_succ, List.set_cons_zero]
        have e1 : fs.map encF ++ [PyData.list (l'.map encI)] = (fs ++ [l']).map encF := by rw [List.map_append]; rfl
        have e2 : came.map encCame ++ [PyData.tuple [.int (a : Int), .int (j : Int)]] = (came ++ [some (a, j)]).map encCame := by rw [List.map_append]; rfl
        have e3 : fs.flatten ++ l' = (fs ++ [l']).flatten := by simp
        rw [e1, e2, e3]
        have nw : ∀ i w, (ws ++ [w0 ++ [j]])[i]? = some w → WordAt (came ++ [some (a, j)]) i w ∧ (∀ c ∈ w, c < L) ∧ w.length ≤ i := fun i w hw => by
          by_cases hi : i < ws.length
          · rw [List.getElem?_append_left hi] at hw
            obtain ⟨g1, g2, g3⟩ := hwa i w hw
            exact ⟨g1.more _, g2, g3⟩
          · rw [List.getElem?_append_right (by omega)] at hw
            have l0 := (List.getElem?_eq_some_iff.mp hw).1
            simp at l0
            have ei : i = ws.length := by omega
            subst ei
            simp at hw
            subst hw
            have bl := B.len
            refine ⟨.snoc (k := a) (by rw [bl, ← hcl]; simp) (by omega) (by omega) (wA.more _), fun c hc => ?_, ?_⟩
            · rcases List.mem_append.mp hc with hc | hc
              · exact wL c hc
              · rw [List.mem_singleton.mp hc]; omega
            · rw [List.length_append]; simp only [List.length_singleton]; omega
        refine ⟨_, by walk_at "le", fs ++ [l'], ws ++ [w0 ++ [j]], came ++ [some (a, j)], rfl, B.add hfa hwsa (fun x hx y e => (c1 x hx y e).imp_left fun z => List.mem_flatten.mp z) c2 c3, fun x hx => ?_, by rw [← e3]; exact c5, fun m hm => ?_, by simp [hcl], nw, by rw [List.length_append]; omega, ?_, ?_⟩
        · rw [← e3] at hx
          exact (List.mem_append.mp hx).elim (hok x) (c4 x)
        · rcases List.mem_append.mp hm with hm | hm
          · exact hne m hm
          · rw [List.mem_singleton.mp hm]; exact hne'
        · rw [List.getElem?_append_left ha]; exact hfa
        · rw [List.getElem?_append_left (by rw [B.len]; exact ha)]; exact hwsa
  · rintro ρ2 k2 ⟨fs, ws, came, rfl, B, hok, hnd, hne, hcl, hwa, ha, hfa, hwsa⟩
    have few := it_few P0 hm psl N9 hnd hok
    have flen := flat_len fs hne
    refine sw_aug ⟨_, rfl⟩ ?_
    walk_at "go"
    refine ⟨_, _, rfl, rfl, 40000 - (a + 1), by omega, fs, ws, came, a + 1, _, _, _, _, _, _, _, rfl, rfl, B.next hfa (fun x _ c hc => ?_), hok, hnd, hne, hcl, hwa, by omega⟩
    unfold dI
    rw [trStep_big ok x.1 c hc]
    rfl
def R_ur (ds : List PyData) (G : PyData → Prop) : Prop := ∃ (L N : Nat) (rows : List (List (Option Nat))) (ends : List Bool) (us : List (List Nat)) (one other : List Nat) (most : Nat), ds = [kindD L rows ends, .tuple (us.map encU), encR one, encR other, nI most] ∧ KOk L N rows ends ∧
  one ≠ [] ∧ other ≠ [] ∧ UsOk us one L ∧ UsOk us other L ∧ most ≤ 20 ∧ G = fun r => (r = .none ∧ FirstR rows ends us one other most none) ∨ ∃ u n, r = .tuple [nX u, nI n] ∧ FirstR rows ends us one other most (some u) ∧ n ≤ most ∧ comesF us one u n ≠ comesF us other u n ∧ (∀ m, m < n → comesF us one u m = comesF us other u m) ∧ (∀ c ∈ u, c < L) ∧ u.length ≤ 40000
theorem filter_first {p : Nat → Bool} {n x : Nat} {xs : List Nat} (h : (List.range n).filter p = x :: xs) : p x = true ∧ x < n ∧ ∀ y, y < n → p y = true → x ≤ y := by
  have hx : x ∈ (List.range n).filter p := by rw [h]; exact .head _
  obtain ⟨h1, h2⟩ := List.mem_filter.mp hx
  refine ⟨h2, List.mem_range.mp h1, fun y hy hp => ?_⟩
  have hm : y ∈ (List.range n).filter p := List.mem_filter.mpr ⟨List.mem_range.mpr hy, hp⟩
  have pw : ((List.range n).filter p).Pairwise (· < ·) := List.Pairwise.filter _ List.pairwise_lt_range
  rw [h] at hm pw
  rcases List.mem_cons.mp hm with e | e
  · omega
  · exact Nat.le_of_lt ((List.pairwise_cons.mp pw).1 y e)
theorem UsOk.rd {us : List (List Nat)} {rd ws : List Nat} {L : Nat} (h : UsOk us rd L) (hn : rd ≠ []) (hw : ∀ c ∈ ws, c < L) (hl : ws.length ≤ 40000) : RdOk us rd ws := ⟨hn, Nat.le_trans h.few (by decide), fun i hi => by
  obtain ⟨u, h1, h2⟩ := h.at_ i hi
  exact ⟨u, h1, fun c hc => by rw [h2]; exact hw c hc⟩, hl⟩
theorem ok_unlike_roads (T : Txt K mg A) : FnOk P w K mg base CX0 4 A.f_unlike_roads A.d_unlike_roads ["kind", "units", "one", "other", "most"] (spQ K 5 R_ur) := by
  have G__first_unlike : FnOk P w K mg base CX0 3 A.f__first_unlike A.d__first_unlike ["kind", "units", "one", "other", "most"] (spQ K 5 R_fur) := ok__first_unlike T
  have G_trimmed : FnOk P w K mg base CX0 3 A.f_trimmed A.d_trimmed ["kind"] (spQ K 1 R_trimmed) := ok_trimmed T
  have G_comes_to : FnOk P w K mg base CX0 3 A.f_comes_to A.d_comes_to ["units", "road", "word", "number"] (spP K 4 R_comes) := ok_comes_to T
  refine T.F_unlike_roads.ok sc_unlike_roads (fun vs H Q E h => ?_) (fun cdv Ar outer s H vs Q E hr h => ?_)
  · exact spQ.len h
  refine ⟨_, (pss_cons (ps_set (i := 5) sc_unlike_roads.nd rfl (Or.inr rfl) (pe_call G__first_unlike (hr.mono (by first | decide | omega)) rfl T.m__first_unlike T.k__first_unlike T.b__first_unlike .nil pass0 (pa_cons (pe_call G_trimmed (hr.mono (by first | decide | omega)) rfl T.m_trimmed T.k_trimmed T.b_trimmed .nil pass0 (pa_cons (pv 0) pa_nil)) (pa_cons (pv 1) (pa_cons (pv 2) (pa_cons (pv 3) (pa_cons (pv 4) pa_nil)))))))
    (pss_cons (ps_if (pt_cmpR op_isN (pv 5) pe_non (nomark _)) (pss_one (ps_ret pe_non))
    pss_nil)
    (pss_cons (ps_setLc (i := 6) (own := [("number", 7)]) (by rfl) sc_unlike_roads.nd rfl rfl (sw_true rfl rfl rfl (by decide +kernel)) (pi_range1 (by rfl) T.z_range (pa_cons (pe_op op_add (pv 4) pe_int) pa_nil)) (blkOk_by (own := [("number", 7)]) (N := N_unlike_roads) (sc := defScope s_unlike_roads) (by decide +kernel)) (fun _ _ _ _ _ => (pg_name (i := 7) sc_unlike_roads.nd rfl (Or.inl rfl))) (fun _ _ _ _ _ => (pts_one (pt_cmpR op_ne (pe_call G_comes_to (hr.mono (by first | decide | omega)) rfl T.m_comes_to T.k_comes_to T.b_comes_to .nil pass0 (pa_cons (pv 1) (pa_cons (pv 2) (pa_cons (pv 5) (pa_cons (pv 7) pa_nil))))) (pe_call G_comes_to (hr.mono (by first | decide | omega)) rfl T.m_comes_to T.k_comes_to T.b_comes_to .nil pass0 (pa_cons (pv 1) (pa_cons (pv 3) (pa_cons (pv 5) (pa_cons (pv 7) pa_nil))))) (nomark _)))) (fun _ _ _ _ _ => (pv 7)))
    (pss_one (ps_ret (pe_tup (pa_cons (pv 5) (pa_cons (pe_ix (kIxL K) (pv 6) pe_int (fun _ _ => rfl)) pa_nil)))))))), ?_⟩
  refine spQ.ok h fun W ds G hR => ?_
  obtain ⟨L, N, rows, ends, us, one, other, most, rfl, ok, n1, n2, o1, o2, hm, rfl⟩ := hR
  walk_at "st"
  refine sw_seq (sw_set (ev_call (ea_cons (ev_call (ea_cons (ev_var rfl (ea_nil ?_)))))))
  refine rc_q rfl ⟨L, N, rows, ends, rfl, ok, rfl⟩ ?_
  rintro _ ⟨Av, Bv, rfl, tr⟩
  walk_at "ev"
  refine rc_q rfl ⟨L, N, rows, ends, Av, Bv, us, one, other, most, rfl, ok, tr, n1, n2, o1, o2, hm, rfl⟩ ?_
  rintro _ ⟨res, hres, rfl, hlet⟩
  walk_at "go"
  cases res with
  | none =>
    rw [show isNone (encW none) = true from rfl]
    refine if_split (fun _ => ?_) (fun z => by cases z)
    walk_at "go"
    exact .inl ⟨rfl, hres⟩
  | some u =>
    obtain ⟨hu1, hu2⟩ := hlet u rfl
    rw [show isNone (encW (some u)) = false from rfl, show encW (some u) = nX u from rfl]
    refine if_split (fun z => by cases z) (fun _ => ?_)
    refine sw_nx (sw_seq (sw_set (ev_lcP (fun n => decide (comesF us one u n ≠ comesF us other u n)) (fun n => nI n) (ei_rng1 ?_))))
    walk_at "ev"
    refine ⟨by omega, by omega, by omega, fun n hn => ?_, ?_⟩
    · walk_at "go"
      refine rc_pure rfl ⟨us, one, u, n, rfl, o1.rd n1 hu1 hu2, rfl⟩ ?_
      walk_at "go"
      refine rc_pure rfl ⟨us, other, u, n, rfl, o2.rd n2 hu1 hu2, rfl⟩ ?_
      walk_at "go"
      refine ⟨?_, rfl, fun _ => ?_⟩
      · by_cases e : comesF us one u n = comesF us other u n
        · rw [decide_eq_true (show ((comesF us one u n : Nat) : Int) = comesF us other u n by omega), decide_eq_false (fun z => z e)]
          rfl
        · rw [decide_eq_false (show ¬ ((comesF us one u n : Nat) : Int) = comesF us other u n by omega), decide_eq_true e]
          rfl
      · walk_at "go"
    · rw [show ((most : Int) + 1).toNat = most + 1 by omega]
      obtain ⟨⟨hk, n0, hn0, hd0⟩, hmin⟩ := hres
      have hin : n0 ∈ (List.range (most + 1)).filter fun n => decide (comesF us one u n ≠ comesF us other u n) := List.mem_filter.mpr ⟨List.mem_range.mpr (by omega), decide_eq_true hd0⟩
      cases hf : (List.range (most + 1)).filter fun n => decide (comesF us one u n ≠ comesF us other u n) with
      | nil => rw [hf] at hin; exact nomatch hin
      | cons x xs =>
        obtain ⟨g1, g2, g3⟩ := filter_first hf
        walk_at "go"
        refine rd_ixL (j := 0) rfl rfl ?_
        walk_at "go"
        exact .inr ⟨u, x, rfl, ⟨⟨hk, n0, hn0, hd0⟩, hmin⟩, by omega, of_decide_eq_true g1, fun m hm => Classical.byContradiction fun z => by have := g3 m (by omega) (decide_eq_true z); omega, hu1, hu2⟩
end

-- SPLIT
section
variable {P : Program} {w : World} {K : PySem.W.Frag} {mg : Str → Option Value} {base : Heap} {A : Adrs}
theorem ok__law_deck (T : Txt K mg A) : FnOk P w K mg base CX0 1 A.f__law_deck A.d__law_deck ["_law_script"] (spDeck K) := by
  refine T.F__law_deck.ok sc__law_deck (fun vs H Q E h => ?_) (fun cdv Ar outer s H vs Q E hr h => ?_)
  · obtain ⟨_, _, rfl, _⟩ := h
    rfl
  obtain ⟨a, ns, rfl, hS, hl, k⟩ := h
  refine ⟨_, (pss_one (ps_ret (pe_lst (pa_cons (pe_lc (own := [("_law_cell", 1)]) rfl sc__law_deck.nd (kPiL K (pe_slice (kSlL K) (pv 0) po_none (po_some pe_int))) (blkOk_by (own := [("_law_cell", 1)]) (N := N__law_deck) (sc := defScope s__law_deck) (by decide +kernel)) (fun _ _ _ _ _ => (pg_name (i := 1) sc__law_deck.nd rfl (Or.inl rfl))) (fun _ _ _ _ _ => pts_nil) (fun _ _ _ _ _ => (pe_callB (id := "abs") call_abs (by rfl) T.z_abs (by decide +kernel) (pa_cons (pv 1) pa_nil)))) (pa_cons pe_int pa_nil))))), ?_⟩
  refine ⟨_, rfl, _, rfl, a, ns.map V.int, rfl, hS, fun l hl0 => ?_⟩
  have cut : cutV (ns.map V.int) none (some 63) = ns.map V.int := by
    unfold cutV
    rw [show HT.sIx (ns.map V.int).length 0 none = 0 from rfl, show (some (63 : Int)) = some ((63 : Nat) : Int) from rfl, HT.sIx_nat, List.drop_zero, List.length_map]
    exact List.take_of_length_le (by rw [List.length_map]; omega)
  rw [cut]
  refine ⟨l, rfl, ⟨_, SqL.of upd_same⟩, fun D hD => ?_⟩
  have hDl : D ≠ l := by
    intro e
    rw [e, upd_same] at hD
    cases hD
  have hD0 : H D = none := (upd_ne hDl).symm.trans hD
  refine lc_list (K := K) (a := l) (xs := ns.map V.int) (fun i H' => H' D = some (.lst (((ns.take i).map fun c => if c < 0 then -c else c).map V.int)) ∧ H' l = some (.lst (ns.map V.int)) ∧ Same H H')
    ⟨upd_same, by rw [upd_ne hDl.symm, upd_same], Same.newer (Same.new hl0) hD0⟩ (fun i H' _ h => SqL.of h.2.1) ?_ ?_
  · rintro i x H' hx ⟨h1, h2, h3⟩
    rw [List.getElem?_map] at hx
    obtain ⟨c, hc, rfl⟩ := Option.map_eq_some_iff.mp hx
    have hi : i < ns.length := (List.getElem?_eq_some_iff.mp hc).1
    refine ⟨rfl, ?_⟩
    refine yes_ ?_
    refine ⟨_, rfl, c, rfl, _, h1, ?_, ?_, ?_, ?_⟩
    · rw [List.length_map, List.length_map, List.length_take]
      exact Nat.lt_of_le_of_lt (show min i ns.length ≤ 63 by omega) (by decide)
    · rw [upd_same, List.take_add_one, hc, List.map_append, List.map_append]
      rfl
    · rw [upd_ne hDl.symm]
      exact h2
    · exact Same.newer h3 hD0
  · rintro H' ⟨h1, h2, h3⟩
    refine ⟨(show 2 ≤ sizeLine by decide), fun p hp => ?_⟩
    have hDp : D ≠ p := ne_of_none h1 hp
    refine k _ p D (Same.free h3 hp) hD0 ⟨upd_same, _, by rw [upd_ne hDp]; exact h1, ?_, ?_⟩ (Same.newer h3 (Same.free h3 hp))
    · intro c hc
      obtain ⟨b, _, rfl⟩ := List.mem_map.mp hc
      split <;> omega
    · rw [List.length_map, List.length_take]
      omega
theorem ok_draw0 (T : Txt K mg A) : FnOk P w K mg base CX0 1 A.f__law_draw A.d__law_draw ["_law_deck_here", "_law_most"] spDraw := by
  refine T.F__law_draw.ok sc__law_draw (fun vs H Q E h => ?_) (fun cdv Ar outer s H vs Q E hr h => ?_)
  · obtain ⟨_, _, _, _, rfl, _⟩ := h
    rfl
  obtain ⟨p, q, n, many, rfl, hD, hn, h0, h9, k⟩ := h
  obtain ⟨cs, hq, hc, hl⟩ := hD.cells
  have hp := hD.top
  have pq := hD.ne
  refine ⟨_, (pss_cons (ps_asg (pe_op op_add (pe_ix (kIxL K) (pv 0) pe_int (fun _ _ => rfl)) pe_int) (pg_sub (pv 0) pe_int set_list))
    (pss_cons (ps_asg (pe_tup (pa_cons pe_int (pa_cons (pe_un un_neg pe_int) pa_nil))) (kTgT K (n := 2) (by rfl) (pgs_cons (pg_name (i := 2) sc__law_draw.nd rfl (Or.inl rfl)) (pgs_cons (pg_name (i := 3) sc__law_draw.nd rfl (Or.inl rfl)) pgs_nil))))
    (pss_cons (ps_if (pt_cmpR op_gt (pe_callB (id := "len") (kLenQ K) (by rfl) T.z_len (by decide +kernel) (pa_cons (pe_ix (kIxL K) (pv 0) pe_int (fun _ _ => rfl)) pa_nil)) pe_int (nomark _)) (pss_cons (ps_set (i := 3) sc__law_draw.nd rfl (Or.inl rfl) (pe_op op_mod (pe_callTy (T := "int") call_int1 (by rfl) T.z_int (by decide +kernel) (pa_cons (pe_ix (kIxL K) (pv 0) pe_int (fun _ _ => rfl)) pa_nil)) (pe_callB (id := "len") (kLenQ K) (by rfl) T.z_len (by decide +kernel) (pa_cons (pe_ix (kIxL K) (pv 0) pe_int (fun _ _ => rfl)) pa_nil))))
    (pss_one (ps_set (i := 2) sc__law_draw.nd rfl (Or.inl rfl) (pe_ix (kIxL K) (pe_ix (kIxL K) (pv 0) pe_int (fun _ _ => rfl)) (pv 3) (fun _ _ => rfl)))))
    pss_nil)
    (pss_cons (ps_if (pt_cmpR op_ge (pv 2) (pe_op op_pow pe_int pe_int) (nomark _)) (pss_cons (ps_asg (pe_op op_fdiv (pe_callTy (T := "int") call_int1 (by rfl) T.z_int (by decide +kernel) (pa_cons (pv 2) pa_nil)) (pv 1)) (pg_sub (pe_ix (kIxL K) (pv 0) pe_int (fun _ _ => rfl)) (pv 3) set_list))
    (pss_one (ps_ret (pe_op op_mod (pe_callTy (T := "int") call_int1 (by rfl) T.z_int (by decide +kernel) (pa_cons (pv 2) pa_nil)) (pv 1)))))
    pss_nil)
    (pss_cons (ps_set (i := 4) sc__law_draw.nd rfl (Or.inl rfl) (pe_op op_add (pe_op op_add (pe_op op_mod (pe_callTy (T := "int") call_int1 (by rfl) T.z_int (by decide +kernel) (pa_cons (pv 2) pa_nil)) pe_int) (pe_op op_mul pe_int (pe_ix (kIxL K) (pv 0) pe_int (fun _ _ => rfl)))) pe_int))
    (pss_one (ps_ret (pe_op op_mod (pe_callTy (T := "int") call_int1 (by rfl) T.z_int (by decide +kernel) (pa_cons (pe_op op_mod (pe_callTy (T := "int") call_int1 (by rfl) T.z_int (by decide +kernel) (pa_cons (pe_op op_pow (pv 4) pe_int) pa_nil)) pe_int) pa_nil)) (pv 1))))))))), ?_⟩
  refine ⟨_, rfl, p, _, 1, _, rfl, rfl, SqL.of hp, rfl, _, _, rfl, rfl, _, rfl, p, _, 1, 1, rfl, rfl, hp, rfl, ?_⟩
  refine ⟨_, rfl, by decide, fun t ht => ?_⟩
  refine ⟨t, _, rfl, SqT.of upd_same, rfl, ?_⟩
  have tp : t ≠ p := by
    intro e
    rw [e, upd_same] at ht
    cases ht
  have ht0 : H t = none := (upd_ne tp).symm.trans ht
  have tq : t ≠ q := fun e => by rw [e, hq] at ht0; cases ht0
  have hp2 : (upd (upd H p (.lst ([V.ref q, V.int (n : Int)].set 1 (.int ((n : Int) + 1))))) t (.tup [V.int 0, .int (-1)])) p = some (.lst [V.ref q, V.int ((n : Int) + 1)]) := by
    rw [upd_ne tp.symm, upd_same]
    rfl
  have hq2 : (upd (upd H p (.lst ([V.ref q, V.int (n : Int)].set 1 (.int ((n : Int) + 1))))) t (.tup [V.int 0, .int (-1)])) q = some (.lst (cs.map V.int)) := by
    rw [upd_ne tq.symm, upd_ne pq.symm]
    exact hq
  have he2 : Ext [p, q] H (upd (upd H p (.lst ([V.ref q, V.int (n : Int)].set 1 (.int ((n : Int) + 1))))) t (.tup [V.int 0, .int (-1)])) :=
    Ext.trans (Ext.put (by simp)) (Ext.new ht)
  revert hp2 hq2 he2
  intro hp2 hq2 he2
  refine two_ ?_
  dsimp only
  revert hp2 hq2 he2
  generalize upd (upd H p (.lst ([V.ref q, V.int (n : Int)].set 1 (.int ((n : Int) + 1))))) t (.tup [V.int 0, .int (-1)]) = H2
  intro hp2 hq2 he2
  refine sq (fun σ' H' => H' = H2 ∧ ∃ (c : Int) (z : Int), 0 ≤ c ∧ σ' = [some (.ref p), some (.int many), some (.int c), some (.int z), none] ∧ (c = 0 ∨ ∃ i : Nat, z = (i : Int) ∧ cs[i]? = some c)) (fun N hN => ?_) ?_
  · refine ⟨_, rfl, p, _, 0, _, rfl, rfl, SqL.of hp2, rfl, q, _, rfl, .inl (SqL.of hq2), _, _, rfl, rfl, _, rfl, idec (fun hlen => ?_) (fun hlen => ?_)⟩
    · rw [List.length_map] at hlen
      have hm0 : 0 ≤ ((n : Int) + 1) % (cs.length : Int) := Int.emod_nonneg _ (by omega)
      have hm1 : ((n : Int) + 1) % (cs.length : Int) < cs.length := Int.emod_lt_of_pos _ (by omega)
      obtain ⟨i, hi⟩ : ∃ i : Nat, ((n : Int) + 1) % (cs.length : Int) = (i : Int) := ⟨_, (Int.toNat_of_nonneg hm0).symm⟩
      have hil : i < cs.length := by omega
      obtain ⟨c, hci⟩ : ∃ c, cs[i]? = some c := ⟨cs[i], by simp [hil]⟩
      refine ⟨_, rfl, p, _, 1, _, rfl, rfl, SqL.of hp2, rfl, .inl ⟨_, rfl, _, rfl, p, _, 0, _, rfl, rfl, SqL.of hp2, rfl, q, _, rfl, .inl (SqL.of hq2), _, _, rfl, rfl, ?_, ?_⟩⟩
      · rw [List.length_map]
        exact hlen
      · dsimp only
        rw [List.length_map, hi]
        refine ⟨_, rfl, p, _, 0, _, rfl, rfl, SqL.of hp2, rfl, _, rfl, q, _, (i : Int), .int c, rfl, rfl, SqL.of hq2, atI_nat (by rw [List.getElem?_map, hci]; rfl), ?_⟩
        exact hN _ _ ⟨rfl, c, (i : Int), hc c (List.mem_of_getElem? hci), rfl, .inr ⟨i, rfl, hci⟩⟩
    · exact hN _ _ ⟨rfl, 0, -1, Int.le_refl 0, rfl, .inl rfl⟩
  rintro σ' H' ⟨rfl, c, z, hc0, rfl, hcz⟩
  refine sq (fun σ' H'' => H'' = H' ∧ σ' = [some (.ref p), some (.int many), some (.int c), some (.int z), none]) (fun N hN => ?_) ?_
  · refine ⟨_, rfl, (10 : Int), (18 : Int), rfl, rfl, ⟨by decide, by decide, by decide⟩, _, _, rfl, rfl, _, rfl, idec (fun hbig => ?_) (fun _ => ?_)⟩
    · -- a great cell
      obtain ⟨i, rfl, hci⟩ : ∃ i : Nat, z = (i : Int) ∧ cs[i]? = some c := by
        rcases hcz with rfl | h
        · exact absurd hbig (by decide)
        · exact h
      have hil : i < cs.length := (List.getElem?_eq_some_iff.mp hci).1
      refine ⟨_, rfl, .inl ⟨_, rfl, _, rfl, _, _, rfl, rfl, ⟨h0, by omega⟩, ?_⟩⟩
      refine ⟨_, rfl, p, _, 0, _, rfl, rfl, SqL.of hp2, rfl, _, rfl, q, _, (i : Int), i, rfl, rfl, hq2, ?_, ?_⟩
      · unfold ixN
        rw [List.length_map, if_pos (by omega), if_pos (by omega)]
        simp
      refine ⟨_, rfl, .inl ⟨_, rfl, _, rfl, _, _, rfl, rfl, h0, ?_⟩⟩
      refine k _ _ ⟨by rw [upd_ne pq]; exact hp2, cs.set i (c / many), by rw [upd_same, List.map_set], ?_, by rw [List.length_set]; exact hl⟩ (Ext.trans he2 (Ext.put (by simp))) (Int.emod_nonneg _ (by omega)) (Int.emod_lt_of_pos _ h0)
      intro d hd
      rcases List.mem_or_eq_of_mem_set hd with h | rfl
      · exact hc d h
      · exact Int.ediv_nonneg hc0 (by omega)
    · exact hN _ _ ⟨rfl, rfl⟩
  rintro σ' H'' ⟨rfl, rfl⟩
  have hm0 : 0 ≤ c % 2147483399 := Int.emod_nonneg _ (by decide)
  have hm1 : c % 2147483399 < 2147483399 := Int.emod_lt_of_pos _ (by decide)
  refine ⟨_, rfl, .inl ⟨_, rfl, _, _, rfl, rfl, (show (0 : Int) < 2147483399 by decide), _, rfl, p, _, 1, _, rfl, rfl, SqL.of hp2, rfl, _, _, rfl, rfl, .inl ⟨by decide, by decide⟩, _, _, rfl, rfl, _, _, rfl, rfl, ?_⟩⟩
  refine ⟨_, rfl, _, _, rfl, rfl, ⟨by decide, by decide, by omega⟩, .inl ⟨_, rfl, _, _, rfl, rfl, (show (0 : Int) < 2147483549 by decide), .inl ⟨_, rfl, _, rfl, _, _, rfl, rfl, h0, ?_⟩⟩⟩
  exact k _ _ ⟨hp2, cs, hq2, hc, hl⟩ he2 (Int.emod_nonneg _ (by omega)) (Int.emod_lt_of_pos _ h0)
theorem ok__law_draw (T : Txt K mg A) : FnOk P w K mg base CX0 1 A.f__law_draw A.d__law_draw ["_law_deck_here", "_law_most"] (spD K 2 R_draw) :=
  FnOk.less (ok_draw0 T) fun vs H Q E h => by
    obtain ⟨M, p, q, n, us, ds, c, G, rfl, dk, hp, hq, ta, tr, hl, ⟨many, rfl, h1, h2, rfl, rfl⟩, hn, k⟩ := h
    obtain ⟨v, rfl, t⟩ := ta.one_
    cases t
    refine ⟨p, q, n, many, rfl, dk, by omega, h1, h2, fun H' r dk' e r0 r1 => ?_⟩
    obtain ⟨r', rfl⟩ : ∃ r' : Nat, r = (r' : Int) := ⟨r.toNat, by omega⟩
    exact k _ (nI r') H' (n + 1) dk' (Nat.le_refl _) e (.int _) ⟨r', r1, rfl⟩
end
section
variable {P : Program} {w : World} {K : PySem.W.Frag} {mg : Str → Option Value} {base : Heap} {A : Adrs}
theorem ok__law_one (T : Txt K mg A) : FnOk P w K mg base CX0 2 A.f__law_one A.d__law_one ["_law_deck_here", "_law_items"] (spD K 2 R_one) := by
  have G__law_draw : FnOk P w K mg base CX0 1 A.f__law_draw A.d__law_draw ["_law_deck_here", "_law_most"] (spD K 2 R_draw) := ok__law_draw T
  refine T.F__law_one.ok sc__law_one (fun vs H Q E h => ?_) (fun cdv Ar outer s H vs Q E hr h => ?_)
  · exact spD.len h
  refine ⟨_, (pss_one (ps_ret (pe_ix (kIxQ K) (pv 1) (pe_call G__law_draw (hr.mono (by first | decide | omega)) rfl T.m__law_draw T.k__law_draw T.b__law_draw .nil pass0 (pa_cons (pv 0) (pa_cons (pe_callB (id := "len") (kLenA K) (by rfl) T.z_len (by decide +kernel) (pa_cons (pv 1) pa_nil)) pa_nil))) (fun _ _ => rfl)))), ?_⟩
  refine spD.ok h fun M p q hp hq Hs tr ds cc k0 G hR hk0 => ?_
  obtain ⟨rfl, hR⟩ := hR
  have main : ∀ (x : PyData) (n : Nat), ds = [x] → lenD x = some n → 0 < n → n ≤ 1000 → sizeOk x → (∀ j, j < n → ∃ d, nthD x j = some d ∧ G d) →
      SW K (deckW M p q Hs tr hp hq) (tRet (tOp (rIx K) (tVar 1) (tCall (spD K 2 R_draw) [] E0 (tCons (tVar 0) (tCons (tCB (rLenA K) (tCons (tVar 1) tNil)) tNil))))) [.raw (.ref p), .dat x] k0 ⟨fun _ k => G .none ∧ k ≤ k0 + 1, fun d k => G d ∧ k ≤ k0 + 1, fun _ _ => False, fun _ _ => False⟩ := fun x n e hn n0 n1 hz hG => by
    walk_at "go"
    refine rc_lenA hn (by omega) ?_
    walk_at "go"
    refine ⟨by omega, by omega, by omega, fun r hr => ?_⟩
    obtain ⟨d, h1, h2⟩ := hG r (by omega)
    exact U.rd_ixQ rfl hz h1 ⟨h2, Nat.le_refl _⟩
  rcases hR with ⟨es, rfl | rfl, h0, h1, rfl⟩ | ⟨ws, rfl, h0, h1, rfl⟩
  · exact main (.list es) es.length rfl rfl (List.length_pos_iff.mpr h0) h1 trivial fun j hj => ⟨es[j], by simp [nthD, hj], List.getElem_mem hj⟩
  · exact main (.tuple es) es.length rfl rfl (List.length_pos_iff.mpr h0) h1 trivial fun j hj => ⟨es[j], by simp [nthD, hj], List.getElem_mem hj⟩
  · exact main (.str (txt ws)) ws.length rfl (by simp [lenD, txt_len]) (List.length_pos_iff.mpr h0) h1 (by show (txt ws).length ≤ 100000; rw [txt_len]; omega) fun j hj => ⟨.str (txt [ws[j]]), by simp [nthD, txt_get, hj, txt], ws[j], List.getElem_mem hj, rfl⟩
end

/-! ### the law's units, cuts, words -/
theorem ints_sum (u : List Nat) (ws : List Nat) : ((ws.map fun c => nI (u.getD c 0))) = (ws.map fun c => ((u.getD c 0 : Nat) : Int)).map PyData.int := by rw [List.map_map]; rfl
theorem sum_cast (f : Nat → Nat) (l : List Nat) : (l.map fun c => ((f c : Nat) : Int)).sum = (((l.map f).sum : Nat) : Int) := by
  induction l with
  | nil => rfl
  | cons x xs ih => rw [List.map_cons, List.map_cons, List.sum_cons, List.sum_cons, ih]; omega
theorem txt_at {ws : List Nat} {j : Nat} (h : j < ws.length) : (txt ws).cps[j]?.getD 0 = 97 + ws[j] := by rw [txt_get]; simp [h]
theorem range_map {α : Type} (ws : List Nat) (f : Nat → α) : (List.range ws.length).map (fun j => f (ws.getD j 0)) = ws.map f := by
  apply List.ext_getElem?
  intro i
  rw [List.getElem?_map, List.getElem?_map]
  by_cases h : i < ws.length
  · rw [List.getElem?_range h]; simp [h]
  · simp [h]
theorem keep_all {α : Type} (l : List α) : (l.filter fun _ => true) = l := List.filter_eq_self.mpr fun _ _ => rfl
structure UOk (L : Nat) (u : List Nat) : Prop where
  len : u.length = L
  small : ∀ n ∈ u, n ≤ 9
structure COk (L U most : Nat) (c : Nat × Nat × List Nat) : Prop where
  unit : c.1 < U
  small : c.2.1 ≤ most
  cl : ∃ f : Nat → Bool, c.2.2 = (List.range L).filter f
section
variable {P : Program} {w : World} {K : PySem.W.Frag} {mg : Str → Option Value} {base : Heap} {A : Adrs}
def R_count (ds : List PyData) (r : PyData) : Prop := ∃ u ws : List Nat, ds = [encU u, nX ws] ∧ (∀ c ∈ ws, c < u.length ∧ c < 4) ∧ ws.length ≤ 100000 ∧ r = nI (cntN u ws)
theorem ok__law_count (T : Txt K mg A) : FnOk P w K mg base CX0 1 A.f__law_count A.d__law_count ["_law_unit_here", "_law_word"] (spP K 2 R_count) := by
  refine T.F__law_count.ok sc__law_count (fun vs H Q E h => ?_) (fun cdv Ar outer s H vs Q E hr h => ?_)
  · exact spP.len h
  refine ⟨_, (pss_one (ps_ret (pe_callB (id := "sum") (kSum K rfl) (by rfl) T.z_sum (by decide +kernel) (pa_cons (pe_lc (own := [("_law_letter", 2)]) rfl sc__law_count.nd (pi_str (pv 1)) (blkOk_by (own := [("_law_letter", 2)]) (N := N__law_count) (sc := defScope s__law_count) (by decide +kernel)) (fun _ _ _ _ _ => (pg_name (i := 2) sc__law_count.nd rfl (Or.inl rfl))) (fun _ _ _ _ _ => pts_nil) (fun _ _ _ _ _ => (pe_ix (kIxT K) (pv 0) (kBm K (pe_bm PySem.F.plainAttrs_str PySem.F.slot_str_index PySem.F.type_str_index mt_sindex pe_str (pa_cons (pv 2) pa_nil))) (fun _ _ => rfl)))) pa_nil)))), ?_⟩
  refine spP.ok h fun W ds r hR => ?_
  obtain ⟨u, ws, rfl, hw, hl, rfl⟩ := hR
  walk_at "st"
  walk_at "gof"
  refine ev_lcP (fun _ => true) (fun j => nI (u.getD (ws.getD j 0) 0)) (ei_str (ev_var rfl ⟨_, rfl, ?_⟩))
  rw [txt_size]
  refine ⟨by omega, fun j hj => ?_, ?_⟩
  · dsimp only
    rw [txt_at hj]
    have := hw ws[j] (List.getElem_mem hj)
    walk_at "gof"
    refine ⟨this.2, ?_⟩
    refine rd_ixT rfl (at_map (f := nI) (u := u.getD ws[j] 0) (by simp [this.1])) ?_
    exact ⟨by simp [hj], rfl⟩
  · rw [keep_all, range_map ws (fun c => nI (u.getD c 0)), ints_sum]
    walk_at "gof"
    refine rc_sum _ rfl ?_
    rw [sum_cast (fun c => u.getD c 0)]
    rfl
theorem abcd_cut {L : Nat} (h : L ≤ 4) : cutS (Str.ofString "abcd") none (some (L : Int)) = txt (List.range L) := by
  rw [txt_abcd, cut_to]
  have : L = 0 ∨ L = 1 ∨ L = 2 ∨ L = 3 ∨ L = 4 := by omega
  rcases this with rfl | rfl | rfl | rfl | rfl <;> rfl
theorem join_ones (ws : List Nat) : Txt.join (Str.ofString "") (ws.map fun c => txt [c]) = txt ws := by
  have := join_txt (ws.map fun c => [c])
  rw [List.map_map] at this
  rw [show (fun c => txt [c]) = txt ∘ fun c => [c] from rfl, this]
  congr 1
  induction ws with
  | nil => rfl
  | cons x xs ih => rw [List.map_cons, List.flatten_cons, ih (by simpa using join_txt (xs.map fun c => [c]))]; rfl
theorem ones_len (ws : List Nat) : ((ws.map fun c => txt [c]).map fun z : Str => z.length).sum = ws.length := by
  rw [List.map_map]
  induction ws with
  | nil => rfl
  | cons x xs ih =>
    rw [List.map_cons, List.sum_cons, ih, List.length_cons]
    show 1 + _ = _
    omega
theorem range_take_filter {L j : Nat} (h : j < L) (f : Nat → Bool) : ((List.range (j + 1)).filter f) = (List.range j).filter f ++ (if f j = true then [j] else []) := by
  rw [List.range_succ, List.filter_append]
  by_cases hf : f j = true <;> simp [hf]
end

-- SPLIT
/-! ### the law's kinds and words -/
def isOfB (rows : List (List (Option Nat))) (ends : List Bool) (w : List Nat) : Bool := match runF (stepL rows) 0 w with | some t => ends.getD t false | none => false
theorem isOfB_iff (rows : List (List (Option Nat))) (ends : List Bool) (w : List Nat) : isOfB rows ends w = true ↔ InK rows ends w := by
  unfold isOfB InK AccF
  cases h : runF (stepL rows) 0 w with
  | none => simp
  | some t => simp
def wordsN (L : Nat) : Nat → List (List Nat)
  | 0 => [[]]
  | n + 1 => (wordsN L n).flatMap fun w => (List.range L).map fun c => w ++ [c]
theorem wordsN_ok (L : Nat) : ∀ (n : Nat), (wordsN L n).length = L ^ n ∧ ∀ w ∈ wordsN L n, w.length = n ∧ ∀ c ∈ w, c < L
  | 0 => ⟨rfl, fun w hw => by rw [List.mem_singleton.mp hw]; exact ⟨rfl, fun _ z => nomatch z⟩⟩
  | n + 1 => by
    obtain ⟨h1, h2⟩ := wordsN_ok L n
    refine ⟨?_, fun w hw => ?_⟩
    · rw [wordsN, List.length_flatMap]
      have : ((wordsN L n).map fun w => ((List.range L).map fun c => w ++ [c]).length) = List.replicate (L ^ n) L := by
        rw [← h1]
        generalize wordsN L n = l
        induction l with
        | nil => rfl
        | cons x xs ih => rw [List.map_cons, ih, List.length_cons, List.replicate_succ]; simp
      rw [this, List.sum_replicate_nat, Nat.pow_succ]
    · obtain ⟨v, hv, h⟩ := List.mem_flatMap.mp hw
      obtain ⟨c, hc, rfl⟩ := List.mem_map.mp h
      obtain ⟨g1, g2⟩ := h2 v hv
      exact ⟨by simp [g1], fun x hx => (List.mem_append.mp hx).elim (g2 x) fun e => by rw [List.mem_singleton.mp e]; exact List.mem_range.mp hc⟩
def allK (L : Nat) (rows : List (List (Option Nat))) (ends : List Bool) (k : Nat) : List (List Nat) := (List.range k).flatMap fun n => (wordsN L n).filter (isOfB rows ends)
theorem keepF {α : Type} (f : α → Bool) (d : α) (l : List α) : (((List.range l.length).filter fun i => f (l.getD i d)).map fun i => l.getD i d) = l.filter f := by
  have h : (List.range l.length).map (fun i => l.getD i d) = l := by
    apply List.ext_getElem?
    intro i
    rw [List.getElem?_map]
    by_cases hi : i < l.length
    · rw [List.getElem?_range hi]; simp [hi]
    · have : (List.range l.length)[i]? = none := by simp; omega
      rw [this]; simp [hi]
  conv => rhs; rw [← h]
  rw [List.filter_map]
  rfl
theorem getDX {α : Type} {l : List α} {d : α} {i : Nat} (h : i < l.length) : l[i]? = some (l.getD i d) := by
  rw [List.getD_eq_getElem?_getD, List.getElem?_eq_getElem h]; rfl
section
variable {P : Program} {w : World} {K : PySem.W.Frag} {mg : Str → Option Value} {base : Heap} {A : Adrs}
def R_lkind (ds : List PyData) (c : Nat) (G : PyData → Prop) : Prop := ∃ M S : Nat, ds = [nI M, nI S] ∧ 1 ≤ M ∧ M ≤ 4 ∧ 1 ≤ S ∧ S ≤ 8 ∧ c = 3 + 12 * S ∧ G = fun d => ∃ L N rows ends, d = kindD L rows ends ∧ KOk L N rows ends
theorem ok__law_kind (T : Txt K mg A) : FnOk P w K mg base CX0 3 A.f__law_kind A.d__law_kind ["_law_deck_here", "_law_most", "_law_states"] (spD K 3 R_lkind) := by
  have G__law_draw : FnOk P w K mg base CX0 1 A.f__law_draw A.d__law_draw ["_law_deck_here", "_law_most"] (spD K 2 R_draw) := ok__law_draw T
  have G__law_one : FnOk P w K mg base CX0 2 A.f__law_one A.d__law_one ["_law_deck_here", "_law_items"] (spD K 2 R_one) := ok__law_one T
  refine T.F__law_kind.ok sc__law_kind (fun vs H Q E h => ?_) (fun cdv Ar outer s H vs Q E hr h => ?_)
  · exact spD.len h
  refine ⟨_, (pss_cons (ps_par (i := 3) (j := 4) (by rfl) sc__law_kind.nd rfl rfl (by decide) rfl rfl (pa_cons (pe_op op_add pe_int (pe_call G__law_draw (hr.mono (by first | decide | omega)) rfl T.m__law_draw T.k__law_draw T.b__law_draw .nil pass0 (pa_cons (pv 0) (pa_cons (pv 1) pa_nil)))) (pa_cons (pe_op op_add pe_int (pe_call G__law_draw (hr.mono (by first | decide | omega)) rfl T.m__law_draw T.k__law_draw T.b__law_draw .nil pass0 (pa_cons (pv 0) (pa_cons (pv 2) pa_nil)))) pa_nil)) (by rfl))
    (pss_cons (ps_if (pt_cmpR op_eq (pe_call G__law_draw (hr.mono (by first | decide | omega)) rfl T.m__law_draw T.k__law_draw T.b__law_draw .nil pass0 (pa_cons (pv 0) (pa_cons pe_int pa_nil))) pe_int (nomark _)) (pss_one (ps_ret (pe_tup (pa_cons (pv 3) (pa_cons (pe_tup (pa_cons (pe_op (kTimes K) (pe_tup (pa_cons pe_int pa_nil)) (pv 3)) pa_nil)) (pa_cons (pe_tup (pa_cons pe_bl pa_nil)) pa_nil))))))
    pss_nil)
    (pss_cons (ps_par (i := 5) (j := 6) (by rfl) sc__law_kind.nd rfl rfl (by decide) rfl rfl (pa_cons (pe_lst pa_nil) (pa_cons (pe_lst pa_nil) pa_nil)) (by rfl))
    (pss_cons (ps_for PassesOwn.never rfl (pi_range1 (by rfl) T.z_range (pa_cons (pv 4) pa_nil)) (pg_name (i := 7) sc__law_kind.nd rfl (Or.inl rfl))
    (pss_cons (ps_set (i := 8) sc__law_kind.nd rfl (Or.inr rfl) (pe_lst (pa_cons pe_non (pa_cons pe_int (pa_cons (pe_op op_mod (pe_callTy (T := "int") call_int1 (by rfl) T.z_int (by decide +kernel) (pa_cons (pe_op op_add (pv 7) pe_int) pa_nil)) (pv 4)) (pa_cons (pe_call G__law_draw (hr.mono (by first | decide | omega)) rfl T.m__law_draw T.k__law_draw T.b__law_draw .nil pass0 (pa_cons (pv 0) (pa_cons (pv 4) pa_nil))) (pa_cons (pe_call G__law_draw (hr.mono (by first | decide | omega)) rfl T.m__law_draw T.k__law_draw T.b__law_draw .nil pass0 (pa_cons (pv 0) (pa_cons (pv 4) pa_nil))) (pa_cons (pe_call G__law_draw (hr.mono (by first | decide | omega)) rfl T.m__law_draw T.k__law_draw T.b__law_draw .nil pass0 (pa_cons (pv 0) (pa_cons (pv 4) pa_nil))) pa_nil))))))))
    (pss_cons (ps_expr (kBm K (pe_bm PySem.F.plainAttrs_list PySem.F.slot_list_append PySem.F.type_list_append mt_append (pv 5) (pa_cons (pe_callTy (T := "tuple") (kTupOf K) (by rfl) T.z_tuple (by decide +kernel) (pa_cons (pe_lc (own := [("_law_letter", 9)]) rfl sc__law_kind.nd (pi_range1 (by rfl) T.z_range (pa_cons (pv 3) pa_nil)) (blkOk_by (own := [("_law_letter", 9)]) (N := N__law_kind) (sc := defScope s__law_kind) (by decide +kernel)) (fun _ _ _ _ _ => (pg_name (i := 9) sc__law_kind.nd rfl (Or.inl rfl))) (fun _ _ _ _ _ => pts_nil) (fun _ _ _ _ _ => (pe_call G__law_one (hr.mono (by first | decide | omega)) rfl T.m__law_one T.k__law_one T.b__law_one .nil pass0 (pa_cons (pv 0) (pa_cons (pe_slice (kSlL K) (pv 8) (po_some (pe_call G__law_draw (hr.mono (by first | decide | omega)) rfl T.m__law_draw T.k__law_draw T.b__law_draw .nil pass0 (pa_cons (pv 0) (pa_cons pe_int pa_nil)))) po_none) pa_nil))))) pa_nil)) pa_nil))))
    (pss_one (ps_expr (kBm K (pe_bm PySem.F.plainAttrs_list PySem.F.slot_list_append PySem.F.type_list_append mt_append (pv 6) (pa_cons (pe_cmpR op_gt (pe_call G__law_draw (hr.mono (by first | decide | omega)) rfl T.m__law_draw T.k__law_draw T.b__law_draw .nil pass0 (pa_cons (pv 0) (pa_cons pe_int pa_nil))) pe_int (nomark _)) pa_nil))))))))
    (pss_one (ps_ret (pe_tup (pa_cons (pv 3) (pa_cons (pe_callTy (T := "tuple") (kTupOf K) (by rfl) T.z_tuple (by decide +kernel) (pa_cons (pv 5) pa_nil)) (pa_cons (pe_callTy (T := "tuple") (kTupOf K) (by rfl) T.z_tuple (by decide +kernel) (pa_cons (pv 6) pa_nil)) pa_nil)))))))))), ?_⟩
  refine spD.ok h fun M p q hp hq Hs tr ds cc k0 G hR hk0 => ?_
  obtain ⟨M, S, rfl, m1, m4, s1, s8, rfl, rfl⟩ := hR
  walk_at "st"
  walk_at "go"
  refine ⟨by omega, by omega, by omega, fun r1 hr1 => ?_⟩
  walk_at "go"
  refine ⟨by omega, by omega, by omega, fun r2 hr2 => ?_⟩
  walk_at "go"
  refine ⟨by omega, fun r3 hr3 => ?_⟩
  obtain ⟨L, hL, l1, l4⟩ : ∃ L : Nat, (1 : Int) + (r1 : Int) = (L : Int) ∧ 1 ≤ L ∧ L ≤ 4 := ⟨1 + r1, by omega, by omega, by omega⟩
  obtain ⟨N, hN, n1, n8⟩ : ∃ N : Nat, (1 : Int) + (r2 : Int) = (N : Int) ∧ 1 ≤ N ∧ N ≤ S := ⟨1 + r2, by omega, by omega, by omega⟩
  rw [hL, hN]
  walk_at "go"
  refine if_split (fun _ => ?_) (fun _ => ?_)
  · walk_at "go"
    refine rd_times l1 (by omega) ?_
    walk_at "go"
    refine ⟨⟨L, 1, [List.replicate L (some 0)], [true], ?_, ⟨rfl, rfl, fun r hr => ?_, l1, l4, by omega, by omega⟩⟩, by omega⟩
    · show PyData.tuple [_, .tuple [.tuple (List.replicate L (.int 0))], _] = PyData.tuple [_, .tuple [.tuple ((List.replicate L (some 0)).map optD)], _]
      rw [List.map_replicate]
      rfl
    · rw [List.mem_singleton.mp hr]
      exact ⟨by simp, fun t ht => by have := List.eq_of_mem_replicate ht; cases this; exact Nat.zero_lt_one⟩
  refine sw_nx (sw_seq (sw_parOO ?_))
  walk_at "tg"
  refine sw_seq (sw_forW (ei_rng1 ?_))
  walk_at "go"
  refine ⟨by omega, by omega, ?_⟩
  refine ⟨fun j ρ k2 => ∃ (rows : List (List (Option Nat))) (ends : List Bool), ρ = [.raw (.ref p), .dat (nI M), .dat (nI S), .dat (nI L), .dat (nI N), .own (rows.map rowD), .own (ends.map PyData.bool), .no, .no, .no] ∧ rows.length = j ∧ ends.length = j ∧ (∀ r ∈ rows, r.length = L ∧ ∀ t, some t ∈ r → t < N) ∧ k2 ≤ k0 + 3 + 12 * j, ⟨_, by walk_at "le", [], [], rfl, rfl, rfl, (fun _ z => nomatch z), by omega⟩, ?_, ?_⟩
  · rintro j ρ1 k2 hj ⟨rows, ends, rfl, hr, he, hrow, hk⟩
    have hjN : j < N := by omega
    walk_at "go"
    refine rd_mod (by omega) ?_
    walk_at "go"
    refine ⟨by omega, by omega, by omega, fun a1 ha1 => ?_⟩
    walk_at "go"
    refine ⟨by omega, by omega, by omega, fun a2 ha2 => ?_⟩
    walk_at "go"
    refine ⟨by omega, by omega, by omega, fun a3 ha3 => ?_⟩
    refine ea_nil ⟨by simp, ?_⟩
    walk_at "tg"
    have hmod0 : 0 ≤ ((j : Int) + 1) % (N : Int) := Int.emod_nonneg _ (by omega)
    have hmod1 : ((j : Int) + 1) % (N : Int) < N := Int.emod_lt_of_pos _ (by omega)
    obtain ⟨b, hb⟩ : ∃ b : Nat, ((j : Int) + 1) % (N : Int) = (b : Int) := ⟨_, (Int.toNat_of_nonneg hmod0).symm⟩
    rw [hb]
    refine sw_seq (sw_append (ev_cb (ea_cons ?_)) ⟨_, rfl⟩)
    refine ev_lc (ei_rng1 ?_)
    walk_at "go"
    refine ⟨by omega, by omega, ?_⟩
    refine ⟨by omega, fun i acc k3 => ∃ row : List (Option Nat), acc = row.map optD ∧ row.length = i ∧ (∀ t, some t ∈ row → t < N) ∧ k3 ≤ k0 + 3 + 12 * j + 3 + 2 * i, ⟨[], rfl, rfl, (fun _ z => nomatch z), by omega⟩, ?_, ?_⟩
    · rintro i acc k3 hi ⟨row, rfl, hl, hlt, hk3⟩
      walk_at "go"
      refine ⟨by omega, fun z hz => ?_⟩
      walk_at "go"
      have cut : cutD [PyData.none, .int 0, .int (b : Int), .int (a1 : Int), .int (a2 : Int), .int (a3 : Int)] (some (z : Int)) none = [PyData.none, .int 0, .int (b : Int), .int (a1 : Int), .int (a2 : Int), .int (a3 : Int)].drop z := cut_drop (by simp; omega)
      rw [cut]
      refine ⟨by omega, fun e => ?_, by simp only [List.length_drop, List.length_cons, List.length_nil]; omega, fun d hd => ?_⟩
      · have := congrArg List.length e
        simp at this
        omega
      · have hd := List.mem_of_mem_drop hd
        have hd' : ∃ o : Option Nat, d = optD o ∧ ∀ t, o = some t → t < N := by
          simp only [List.mem_cons, List.not_mem_nil, or_false] at hd
          rcases hd with rfl | rfl | rfl | rfl | rfl | rfl
          · exact ⟨none, rfl, fun _ e => by cases e⟩
          · exact ⟨some 0, rfl, fun _ e => by cases e; omega⟩
          · exact ⟨some b, rfl, fun _ e => by cases e; omega⟩
          · exact ⟨some a1, rfl, fun _ e => by cases e; omega⟩
          · exact ⟨some a2, rfl, fun _ e => by cases e; omega⟩
          · exact ⟨some a3, rfl, fun _ e => by cases e; omega⟩
        obtain ⟨o, rfl, ho⟩ := hd'
        exact ⟨row ++ [o], by rw [List.map_append]; rfl, by rw [List.length_append, hl]; rfl, fun t ht => by
          rcases List.mem_append.mp ht with h | h
          · exact hlt t h
          · exact ho t (List.mem_singleton.mp h).symm, by omega⟩
    · rintro acc k3 _ ⟨row, rfl, hl, hlt, hk3⟩
      walk_at "go"
      refine ⟨by rw [List.length_map]; omega, ?_⟩
      refine sw_append ?_ ⟨_, rfl⟩
      walk_at "go"
      refine ⟨by omega, fun z hz => ?_⟩
      walk_at "go"
      refine ⟨by rw [List.length_map]; omega, ?_⟩
      have e1 : rows.map rowD ++ [PyData.tuple (row.map optD)] = (rows ++ [row]).map rowD := by rw [List.map_append]; rfl
      have e2 : ends.map PyData.bool ++ [PyData.bool (decide ((0 : Int) < (z : Int)))] = (ends ++ [decide ((0 : Int) < (z : Int))]).map PyData.bool := by rw [List.map_append]; rfl
      rw [e1, e2]
      exact ⟨_, by walk_at "le", rows ++ [row], ends ++ [_], rfl, by rw [List.length_append, hr]; rfl, by rw [List.length_append, he]; rfl, fun r hr' => by
        rcases List.mem_append.mp hr' with h | h
        · exact hrow r h
        · rw [List.mem_singleton.mp h]; exact ⟨by omega, hlt⟩, by omega⟩
  · rintro ρ1 k2 ⟨rows, ends, rfl, hr, he, hrow, hk⟩
    refine sw_freeze 5 rfl (sw_freeze 6 rfl ?_)
    walk_at "go"
    exact ⟨⟨L, N, rows, ends, rfl, ⟨by omega, by omega, hrow, l1, l4, n1, by omega⟩⟩, by omega⟩
def R_isof (ds : List PyData) (r : PyData) : Prop := ∃ (L N : Nat) (rows : List (List (Option Nat))) (ends : List Bool) (ws : List Nat), ds = [kindD L rows ends, nX ws] ∧ KOk L N rows ends ∧ (∀ c ∈ ws, c < L) ∧ ws.length ≤ 100000 ∧ r = .bool (isOfB rows ends ws)
theorem ok__law_is_of (T : Txt K mg A) : FnOk P w K mg base CX0 1 A.f__law_is_of A.d__law_is_of ["_law_kind_here", "_law_word"] (spP K 2 R_isof) := by
  refine T.F__law_is_of.ok sc__law_is_of (fun vs H Q E h => ?_) (fun cdv Ar outer s H vs Q E hr h => ?_)
  · exact spP.len h
  refine ⟨_, (pss_cons (ps_set (i := 2) sc__law_is_of.nd rfl (Or.inl rfl) pe_int)
    (pss_cons (ps_for PassesOwn.never rfl (pi_str (pv 1)) (pg_name (i := 3) sc__law_is_of.nd rfl (Or.inl rfl))
    (pss_one (ps_set (i := 2) sc__law_is_of.nd rfl (Or.inl rfl) (pe_ifExp (pt_cmpR op_notN (pv 2) pe_non (nomark _)) (pe_ix (kIxT K) (pe_ix (kIxT K) (pe_ix (kIxT K) (pv 0) pe_int (fun _ _ => rfl)) (pv 2) (fun _ _ => rfl)) (kBm K (pe_bm PySem.F.plainAttrs_str PySem.F.slot_str_index PySem.F.type_str_index mt_sindex pe_str (pa_cons (pv 3) pa_nil))) (fun _ _ => rfl)) pe_non))))
    (pss_one (ps_ret (pe_and (pe_cmpR op_notN (pv 2) pe_non (nomark _)) (pe_one (pe_ix (kIxT K) (pe_ix (kIxT K) (pv 0) pe_int (fun _ _ => rfl)) (pv 2) (fun _ _ => rfl)))))))), ?_⟩
  refine spP.ok h fun W ds r hR => ?_
  obtain ⟨L, N, rows, ends, ws, rfl, ok, hc, hl, rfl⟩ := hR
  have n1 := ok.n1
  have l4 := ok.l4
  walk_at "st"
  walk_at "go"
  refine sw_forW ?_
  walk_at "go"
  rw [txt_size]
  refine ⟨fun j ρ _ => ρ = [.dat (kindD L rows ends), .dat (nX ws), .dat (optD (runF (stepL rows) 0 (ws.take j))), .no], ⟨_, by walk_at "le", rfl⟩, ?_, ?_⟩
  · rintro j ρ1 k2 hj rfl
    have hx : (txt ws).cps[j]?.getD 0 = 97 + ws[j] := by rw [txt_get]; simp [hj]
    have hcj := hc ws[j] (List.getElem_mem hj)
    have e : ws.take (j + 1) = ws.take j ++ [ws[j]] := by rw [List.take_add_one]; simp [hj]
    dsimp only
    rw [hx, e, runF_snoc]
    walk_at "go"
    cases hr : runF (stepL rows) 0 (ws.take j) with
    | none =>
      rw [show (!isNone (optD none)) = false from rfl]
      refine if_split (fun z => by cases z) (fun _ => ?_)
      walk_at "go"
      exact ⟨_, by walk_at "le", rfl⟩
    | some s =>
      have hs := (run_lt ok _ 0 s (by omega) hr).1
      have ra := getDR ok.lr hs
      have rok := ok.row _ (List.mem_of_getElem? ra)
      rw [show (!isNone (optD (some s))) = true from rfl]
      refine if_split (fun _ => ?_) (fun z => by cases z)
      walk_at "go"
      refine rd_ixT (j := s) rfl (at_map ra) ?_
      walk_at "go"
      refine ⟨by omega, ?_⟩
      refine rd_ixT (j := ws[j]) rfl (at_map (getDO rok.1 hcj)) ?_
      walk_at "go"
      exact ⟨_, by walk_at "le", rfl⟩
  · rintro ρ1 k2 rfl
    rw [List.take_length]
    walk_at "go"
    unfold isOfB
    cases hr : runF (stepL rows) 0 ws with
    | none =>
      rw [show (!isNone (optD none)) = false from rfl]
      refine if_split (fun z => by cases z) (fun _ => ?_)
      rfl
    | some s =>
      have hs := (run_lt ok _ 0 s (by omega) hr).1
      rw [show (!isNone (optD (some s))) = true from rfl]
      refine if_split (fun _ => ?_) (fun z => by cases z)
      walk_at "go"
      refine rd_ixT (j := s) rfl (at_map (getDB ok.le hs)) ?_
      rfl
def R_lwords (ds : List PyData) (r : PyData) : Prop := ∃ L n : Nat, ds = [nI L, nI n] ∧ 1 ≤ L ∧ L ≤ 4 ∧ L ^ n ≤ 20000 ∧ n ≤ 100 ∧ r = .list ((wordsN L n).map nX)
theorem ok__law_words (T : Txt K mg A) : FnOk P w K mg base CX0 1 A.f__law_words A.d__law_words ["_law_letters", "_law_size"] (spP K 2 R_lwords) := by
  refine T.F__law_words.ok sc__law_words (fun vs H Q E h => ?_) (fun cdv Ar outer s H vs Q E hr h => ?_)
  · exact spP.len h
  refine ⟨_, (pss_cons (ps_set (i := 2) sc__law_words.nd rfl (Or.inl rfl) (pe_lst (pa_cons pe_str pa_nil)))
    (pss_cons (ps_for PassesOwn.never rfl (pi_range1 (by rfl) T.z_range (pa_cons (pv 1) pa_nil)) (pg_name (i := 3) sc__law_words.nd rfl (Or.inl rfl))
    (pss_cons (ps_set (i := 4) sc__law_words.nd rfl (Or.inl rfl) (pe_lst pa_nil))
    (pss_cons (ps_for PassesOwn.never rfl (kPiL K (pv 2)) (pg_name (i := 5) sc__law_words.nd rfl (Or.inr rfl))
    (pss_one (ps_expr (kBm K (pe_bm PySem.F.plainAttrs_list PySem.F.slot_list_extend PySem.F.type_list_extend mt_extend (pv 4) (pa_cons (pe_lc (own := [("_law_letter", 6)]) rfl sc__law_words.nd (pi_str (pe_slice sl_str pe_str po_none (po_some (pv 0)))) (blkOk_by (own := [("_law_letter", 6)]) (N := N__law_words) (sc := defScope s__law_words) (by decide +kernel)) (fun _ _ _ _ _ => (pg_name (i := 6) sc__law_words.nd rfl (Or.inl rfl))) (fun _ _ _ _ _ => pts_nil) (fun _ _ _ _ _ => (pe_op op_add_str (pv 5) (pv 6)))) pa_nil))))))
    (pss_one (ps_set (i := 2) sc__law_words.nd rfl (Or.inl rfl) (pv 4))))))
    (pss_one (ps_ret (pv 2))))), ?_⟩
  refine spP.ok h fun W ds r hR => ?_
  obtain ⟨L, n, rfl, l1, l4, hp, hn, rfl⟩ := hR
  have mono : ∀ j, j ≤ n → (wordsN L j).length ≤ 20000 := fun j hj => by
    rw [(wordsN_ok L j).1]
    exact Nat.le_trans (Nat.pow_le_pow_right l1 hj) hp
  walk_at "st"
  walk_at "go"
  refine sw_forW ?_
  walk_at "go"
  refine ⟨by omega, by omega, ?_⟩
  refine ⟨fun j ρ _ => ρ = [.dat (nI L), .dat (nI n), .dat (.list ((wordsN L j).map nX)), .no, .no, .no, .no], ⟨_, by walk_at "le", rfl⟩, ?_, ?_⟩
  · rintro j ρ1 k2 hj rfl
    have hjn : j < n := by omega
    walk_at "tg"
    refine sw_seq (sw_own (ea_nil ⟨by simp, ?_⟩))
    walk_at "tg"
    refine sw_seq (sw_forW ?_)
    walk_at "go"
    rw [List.length_map]
    refine ⟨fun i ρ _ => ρ = [.dat (nI L), .dat (nI n), .dat (.list ((wordsN L j).map nX)), .no, .own ((((wordsN L j).take i).flatMap fun w => (List.range L).map fun c => w ++ [c]).map nX), .no, .no], ⟨_, by walk_at "le", rfl⟩, ?_, ?_⟩
    · rintro i ρ2 k3 hi rfl
      have hx : (wordsN L j)[i]? = some ((wordsN L j).getD i []) := getDX hi
      rw [itemD_at hx]
      obtain ⟨wl, wc⟩ := (wordsN_ok L j).2 _ (List.mem_of_getElem? hx)
      have et : (wordsN L j).take (i + 1) = (wordsN L j).take i ++ [(wordsN L j).getD i []] := by rw [List.take_add_one, hx]; rfl
      dsimp only
      rw [et]
      generalize (wordsN L j).getD i [] = w0 at wl wc
      walk_at "tg"
      refine sw_extend ?_ ⟨_, rfl⟩
      refine ev_lcP (fun _ => true) (fun c => nX (w0 ++ [c])) (ei_str ?_)
      walk_at "go"
      refine rsl_S (by decide) ?_
      rw [abcd_cut l4]
      walk_at "go"
      rw [txt_size, List.length_range]
      refine ⟨by omega, fun c hcL => ?_, ?_⟩
      · have hx : (txt (List.range L)).cps[c]?.getD 0 = 97 + c := by rw [txt_get]; simp [hcL]
        rw [hx]
        walk_at "go"
        refine rd_catS (by rw [txt_len]; show w0.length + 1 ≤ _; omega) ?_
        rw [show (⟨#[97 + c]⟩ : Str) = txt [c] from rfl, txt_app]
        exact ⟨rfl, rfl⟩
      · rw [List.filter_eq_self.mpr fun _ _ => rfl]
        have e1 : ((((wordsN L j).take i).flatMap fun w => (List.range L).map fun c => w ++ [c]).map nX) ++ ((List.range L).map fun c => nX (w0 ++ [c])) = (((wordsN L j).take i ++ [w0]).flatMap fun w => (List.range L).map fun c => w ++ [c]).map nX := by
          rw [List.flatMap_append, List.map_append]
          simp
        have hb : ((((wordsN L j).take i).flatMap fun w => (List.range L).map fun c => w ++ [c])).length ≤ 80000 := by
          rw [List.length_flatMap]
          have : ((wordsN L j).take i).map (fun w => ((List.range L).map fun c => w ++ [c]).length) = List.replicate ((wordsN L j).take i).length L := by
            generalize (wordsN L j).take i = l
            induction l with
            | nil => rfl
            | cons x xs ih => rw [List.map_cons, ih, List.length_cons, List.replicate_succ]; simp
          rw [this, List.sum_replicate_nat, List.length_take]
          have h1 := mono j (by omega)
          have h2 : min i (wordsN L j).length ≤ 20000 := by omega
          have := Nat.mul_le_mul h2 l4
          omega
        refine ⟨_, _, rfl, rfl, by simp only [List.length_map, List.length_range]; omega, ?_⟩
        rw [← e1]
        exact ⟨_, by walk_at "le", rfl⟩
    · rintro ρ2 k3 rfl
      rw [List.take_length]
      refine sw_freeze 4 rfl ?_
      walk_at "go"
      exact ⟨_, by walk_at "le", rfl⟩
  · rintro ρ1 k2 rfl
    rw [Int.toNat_natCast]
    walk_at "go"
def R_lall (ds : List PyData) (r : PyData) : Prop := ∃ (L N : Nat) (rows : List (List (Option Nat))) (ends : List Bool) (k : Nat), ds = [kindD L rows ends, nI k] ∧ KOk L N rows ends ∧ L ^ k ≤ 2000 ∧ k ≤ 20 ∧ r = .list ((allK L rows ends (k + 1)).map nX)
theorem ok__law_all (T : Txt K mg A) : FnOk P w K mg base CX0 2 A.f__law_all A.d__law_all ["_law_kind_here", "_law_most"] (spP K 2 R_lall) := by
  have G__law_words : FnOk P w K mg base CX0 1 A.f__law_words A.d__law_words ["_law_letters", "_law_size"] (spP K 2 R_lwords) := ok__law_words T
  have G__law_is_of : FnOk P w K mg base CX0 1 A.f__law_is_of A.d__law_is_of ["_law_kind_here", "_law_word"] (spP K 2 R_isof) := ok__law_is_of T
  refine T.F__law_all.ok sc__law_all (fun vs H Q E h => ?_) (fun cdv Ar outer s H vs Q E hr h => ?_)
  · exact spP.len h
  refine ⟨_, (pss_cons (ps_set (i := 2) sc__law_all.nd rfl (Or.inl rfl) (pe_lst pa_nil))
    (pss_cons (ps_for PassesOwn.never rfl (pi_range1 (by rfl) T.z_range (pa_cons (pe_op op_add (pv 1) pe_int) pa_nil)) (pg_name (i := 3) sc__law_all.nd rfl (Or.inl rfl))
    (pss_one (ps_expr (kBm K (pe_bm PySem.F.plainAttrs_list PySem.F.slot_list_extend PySem.F.type_list_extend mt_extend (pv 2) (pa_cons (pe_lc (own := [("_law_word", 4)]) rfl sc__law_all.nd (kPiL K (pe_call G__law_words (hr.mono (by first | decide | omega)) rfl T.m__law_words T.k__law_words T.b__law_words .nil pass0 (pa_cons (pe_ix (kIxT K) (pv 0) pe_int (fun _ _ => rfl)) (pa_cons (pv 3) pa_nil)))) (blkOk_by (own := [("_law_word", 4)]) (N := N__law_all) (sc := defScope s__law_all) (by decide +kernel)) (fun _ _ _ _ _ => (pg_name (i := 4) sc__law_all.nd rfl (Or.inl rfl))) (fun _ _ _ _ _ => (pts_one (pt_val (pe_call G__law_is_of (hr.mono (by first | decide | omega)) rfl T.m__law_is_of T.k__law_is_of T.b__law_is_of .nil pass0 (pa_cons (pv 0) (pa_cons (pv 4) pa_nil)))))) (fun _ _ _ _ _ => (pv 4))) pa_nil))))))
    (pss_one (ps_ret (pv 2))))), ?_⟩
  refine spP.ok h fun W ds r hR => ?_
  obtain ⟨L, N, rows, ends, k, rfl, ok, hp, hk, rfl⟩ := hR
  have l1 := ok.l1
  have l4 := ok.l4
  have mono : ∀ j, j ≤ k → (wordsN L j).length ≤ 2000 := fun j hj => by
    rw [(wordsN_ok L j).1]
    exact Nat.le_trans (Nat.pow_le_pow_right l1 hj) hp
  have allLen : ∀ j, j ≤ k + 1 → (allK L rows ends j).length ≤ 2000 * j := by
    intro j
    induction j with
    | zero => intro _; simp [allK]
    | succ j ih =>
      intro hj
      have h1 := ih (by omega)
      have h2 := mono j (by omega)
      have h3 := List.length_filter_le (isOfB rows ends) (wordsN L j)
      have e : allK L rows ends (j + 1) = allK L rows ends j ++ (wordsN L j).filter (isOfB rows ends) := by
        unfold allK
        rw [List.range_succ, List.flatMap_append]
        simp
      rw [e, List.length_append, Nat.mul_add, Nat.mul_one]
      omega
  walk_at "st"
  refine sw_seq (sw_own (ea_nil ⟨by simp, ?_⟩))
  walk_at "tg"
  refine sw_seq (sw_forW ?_)
  walk_at "go"
  refine ⟨by omega, by omega, ?_⟩
  have ek : ((k : Int) + 1).toNat = k + 1 := by omega
  rw [ek]
  refine ⟨fun j ρ _ => ρ = [.dat (kindD L rows ends), .dat (nI k), .own ((allK L rows ends j).map nX), .no, .no], ⟨_, by walk_at "le", rfl⟩, ?_, ?_⟩
  · rintro j ρ1 k2 hj rfl
    have hb := allLen j (by omega)
    have hw := mono j (by omega)
    walk_at "tg"
    refine sw_extend ?_ ⟨_, rfl⟩
    refine ev_lcP (fun i => isOfB rows ends ((wordsN L j).getD i [])) (fun i => nX ((wordsN L j).getD i [])) (ei_list ?_)
    walk_at "go"
    refine rc_pure rfl ⟨L, j, rfl, l1, l4, by rw [← (wordsN_ok L j).1]; omega, by omega, rfl⟩ ?_
    walk_at "go"
    rw [List.length_map]
    refine ⟨by omega, fun i hi => ?_, ?_⟩
    · have hx : (wordsN L j)[i]? = some ((wordsN L j).getD i []) := getDX hi
      rw [itemD_at hx]
      obtain ⟨wl, wc⟩ := (wordsN_ok L j).2 _ (List.mem_of_getElem? hx)
      walk_at "go"
      refine rc_pure rfl ⟨L, N, rows, ends, _, rfl, ok, wc, by omega, rfl⟩ ?_
      walk_at "go"
      refine fun _ => ?_
      walk_at "go"
    · have ef : (((List.range (wordsN L j).length).filter fun i => isOfB rows ends ((wordsN L j).getD i [])).map fun i => nX ((wordsN L j).getD i [])) = ((wordsN L j).filter (isOfB rows ends)).map nX := by
        rw [← keepF (isOfB rows ends) [] (wordsN L j), List.map_map]; rfl
      rw [ef]
      have hf := List.length_filter_le (isOfB rows ends) (wordsN L j)
      have e1 : (allK L rows ends j).map nX ++ ((wordsN L j).filter (isOfB rows ends)).map nX = (allK L rows ends (j + 1)).map nX := by
        rw [← List.map_append]
        congr 1
        unfold allK
        rw [List.range_succ, List.flatMap_append]
        simp
      refine ⟨_, _, rfl, rfl, by rw [List.length_map, List.length_map]; omega, ?_⟩
      rw [← e1]
      exact ⟨_, by walk_at "le", rfl⟩
  · rintro ρ1 k2 rfl
    refine sw_freeze 2 rfl ?_
    walk_at "go"
def R_lfar (ds : List PyData) (c : Nat) (G : PyData → Prop) : Prop := ∃ (L N : Nat) (rows : List (List (Option Nat))) (ends : List Bool) (wide : Nat), ds = [kindD L rows ends, nI wide] ∧ KOk L N rows ends ∧ wide ≤ 20 ∧ c = 40 * wide ∧
  G = fun d => ∃ l : List (List Nat), d = .list (l.map nX) ∧ l.length ≤ wide ∧ ∀ w ∈ l, InK rows ends w ∧ w.length ≤ 40 ∧ ∀ c ∈ w, c < L
theorem ok__law_far (T : Txt K mg A) : FnOk P w K mg base CX0 3 A.f__law_far A.d__law_far ["_law_deck_here", "_law_kind_here", "_law_wide"] (spD K 3 R_lfar) := by
  have G__law_draw : FnOk P w K mg base CX0 1 A.f__law_draw A.d__law_draw ["_law_deck_here", "_law_most"] (spD K 2 R_draw) := ok__law_draw T
  have G__law_one : FnOk P w K mg base CX0 2 A.f__law_one A.d__law_one ["_law_deck_here", "_law_items"] (spD K 2 R_one) := ok__law_one T
  refine T.F__law_far.ok sc__law_far (fun vs H Q E h => ?_) (fun cdv Ar outer s H vs Q E hr h => ?_)
  · exact spD.len h
  refine ⟨_, (pss_cons (ps_set (i := 3) sc__law_far.nd rfl (Or.inl rfl) (pe_lst pa_nil))
    (pss_cons (ps_for PassesOwn.never rfl (pi_range1 (by rfl) T.z_range (pa_cons (pv 2) pa_nil)) (pg_name (i := 4) sc__law_far.nd rfl (Or.inl rfl))
    (pss_cons (ps_asg (pe_tup (pa_cons pe_str (pa_cons pe_int pa_nil))) (kTgT K (n := 2) (by rfl) (pgs_cons (pg_name (i := 5) sc__law_far.nd rfl (Or.inl rfl)) (pgs_cons (pg_name (i := 6) sc__law_far.nd rfl (Or.inr rfl)) pgs_nil))))
    (pss_cons (ps_for PassesOwn.never rfl (pi_range1 (by rfl) T.z_range (pa_cons (pe_call G__law_draw (hr.mono (by first | decide | omega)) rfl T.m__law_draw T.k__law_draw T.b__law_draw .nil pass0 (pa_cons (pv 0) (pa_cons pe_int pa_nil))) pa_nil)) (pg_name (i := 7) sc__law_far.nd rfl (Or.inl rfl))
    (pss_cons (ps_setLc (i := 8) (own := [("_law_k", 10)]) (by rfl) sc__law_far.nd rfl rfl (sw_true rfl rfl rfl (by decide +kernel)) (pi_range1 (by rfl) T.z_range (pa_cons (pe_ix (kIxT K) (pv 1) pe_int (fun _ _ => rfl)) pa_nil)) (blkOk_by (own := [("_law_k", 10)]) (N := N__law_far) (sc := defScope s__law_far) (by decide +kernel)) (fun _ _ _ _ _ => (pg_name (i := 10) sc__law_far.nd rfl (Or.inl rfl))) (fun _ _ _ _ _ => (pts_one (pt_cmpR op_notN (pe_ix (kIxT K) (pe_ix (kIxT K) (pe_ix (kIxT K) (pv 1) pe_int (fun _ _ => rfl)) (pv 6) (fun _ _ => rfl)) (pv 10) (fun _ _ => rfl)) pe_non (nomark _)))) (fun _ _ _ _ _ => (pv 10)))
    (pss_one (ps_if (pt_cmpR (kNeNil K hr) (pv 8) (pe_lst pa_nil) (nomark _)) (pss_cons (ps_set (i := 9) sc__law_far.nd rfl (Or.inl rfl) (pe_call G__law_one (hr.mono (by first | decide | omega)) rfl T.m__law_one T.k__law_one T.b__law_one .nil pass0 (pa_cons (pv 0) (pa_cons (pv 8) pa_nil))))
    (pss_one (ps_asg (pe_tup (pa_cons (pe_op op_add_str (pv 5) (pe_ix ix_str pe_str (pv 9) (fun _ _ => rfl))) (pa_cons (pe_ix (kIxT K) (pe_ix (kIxT K) (pe_ix (kIxT K) (pv 1) pe_int (fun _ _ => rfl)) (pv 6) (fun _ _ => rfl)) (pv 9) (fun _ _ => rfl)) pa_nil))) (kTgT K (n := 2) (by rfl) (pgs_cons (pg_name (i := 5) sc__law_far.nd rfl (Or.inl rfl)) (pgs_cons (pg_name (i := 6) sc__law_far.nd rfl (Or.inr rfl)) pgs_nil))))))
    pss_nil))))
    (pss_one (ps_if (pt_val (pe_ix (kIxT K) (pe_ix (kIxT K) (pv 1) pe_int (fun _ _ => rfl)) (pv 6) (fun _ _ => rfl))) (pss_one (ps_expr (kBm K (pe_bm PySem.F.plainAttrs_list PySem.F.slot_list_append PySem.F.type_list_append mt_append (pv 3) (pa_cons (pv 5) pa_nil)))))
    pss_nil)))))
    (pss_one (ps_ret (pv 3))))), ?_⟩
  refine spD.ok h fun M p q hp hq Hs tr ds cc k0 G hR hk0 => ?_
  obtain ⟨L, N, rows, ends, wide, rfl, ok, hw, rfl, rfl⟩ := hR
  have l4 := ok.l4
  have n1 := ok.n1
  walk_at "st"
  refine sw_seq (sw_own (ea_nil ⟨by simp, ?_⟩))
  walk_at "tg"
  refine sw_seq (sw_forW ?_)
  walk_at "go"
  refine ⟨by omega, by omega, ?_⟩
  refine ⟨fun j ρ k => ∃ l : List (List Nat), ρ = [.raw (.ref p), .dat (kindD L rows ends), .dat (nI wide), .own (l.map nX), .no, .no, .no, .no, .no, .no, .no] ∧ l.length ≤ j ∧ (∀ w ∈ l, InK rows ends w ∧ w.length ≤ 40 ∧ ∀ c ∈ w, c < L) ∧ k ≤ k0 + 40 * j, ⟨_, by walk_at "le", [], rfl, Nat.le_refl _, (fun _ z => nomatch z), by omega⟩, ?_, ?_⟩
  · rintro j ρ1 k2 hj ⟨l, rfl, hl, hin, hk⟩
    walk_at "tg"
    refine sw_seq (sw_asg (ev_tup (ea_cons (ev_str (ea_cons (ev_int (ea_nil ⟨by simp, ?_⟩)))))))
    walk_at "tg"
    refine sw_seq (sw_forW ?_)
    walk_at "go"
    refine ⟨by omega, fun r hr => ?_⟩
    walk_at "go"
    refine ⟨by omega, by omega, ?_⟩
    rw [txt_nil]
    refine ⟨fun i ρ k => ∃ (w0 : List Nat) (s : Nat), ρ = [.raw (.ref p), .dat (kindD L rows ends), .dat (nI wide), .own (l.map nX), .no, .dat (nX w0), .dat (nI s), .no, .no, .no, .no] ∧ w0.length ≤ i ∧ runF (stepL rows) 0 w0 = some s ∧ (∀ c ∈ w0, c < L) ∧ k ≤ k0 + 40 * j + 1 + i, ⟨_, by walk_at "le", [], 0, rfl, Nat.le_refl _, rfl, (fun _ z => nomatch z), by omega⟩, ?_, ?_⟩
    · rintro i ρ2 k3 hi ⟨w0, s, rfl, wl, wr, wc, hk3⟩
      have hs := (run_lt ok _ 0 s (by omega) wr).1
      have ra := getDR ok.lr hs
      have rok := ok.row _ (List.mem_of_getElem? ra)
      have stp : ∀ c, stepL rows s c = (rows.getD s []).getD c none := fun _ => rfl
      generalize rows.getD s [] = row at ra rok stp
      walk_at "go"
      refine ev_lcP (fun c => (row.getD c none).isSome) (fun c => nI c) (ei_rng1 ?_)
      walk_at "go"
      refine ⟨by omega, by omega, ?_⟩
      refine ⟨by omega, fun c hc => ?_, ?_⟩
      · have hc : c < L := hc
        walk_at "go"
        refine rd_ixT (j := s) rfl (at_map ra) ?_
        walk_at "go"
        refine rd_ixT (j := c) rfl (at_map (getDO rok.1 hc)) ?_
        walk_at "go"
        refine ⟨by cases row.getD c none <;> rfl, rfl, fun _ => ?_⟩
        walk_at "go"
      walk_at "go"
      refine rd_neNilL ?_
      walk_at "go"
      refine if_split (fun h => ?_) (fun h => ?_)
      rotate_left
      · walk_at "go"
        exact ⟨_, by walk_at "le", w0, s, rfl, by omega, wr, wc, by omega⟩
      walk_at "go"
      refine ⟨by omega, fun z => ?_, ?_, fun d hd => ?_⟩
      · rw [z] at h; cases h
      · rw [List.length_map]
        have := List.length_filter_le (fun c => (row.getD c none).isSome) (List.range (L : Int).toNat)
        rw [List.length_range] at this
        omega
      obtain ⟨c, hc, rfl⟩ := List.mem_map.mp hd
      obtain ⟨hc1, hc2⟩ := List.mem_filter.mp hc
      have hcL : c < L := by have := List.mem_range.mp hc1; omega
      obtain ⟨t, ht⟩ := Option.isSome_iff_exists.mp hc2
      walk_at "go"
      rw [txt_abcd]
      refine rd_ixX (by simp) (show c < [0, 1, 2, 3].length by show c < 4; omega) ?_
      have hcc : [0, 1, 2, 3][c]'(by show c < 4; omega) = c := by
        have : c = 0 ∨ c = 1 ∨ c = 2 ∨ c = 3 := by omega
        rcases this with rfl | rfl | rfl | rfl <;> rfl
      rw [hcc]
      refine rd_catS (by rw [txt_len]; show w0.length + 1 ≤ _; omega) ?_
      rw [show (⟨#[97 + c]⟩ : Str) = txt [c] from rfl, txt_app]
      walk_at "go"
      refine rd_ixT (j := s) rfl (at_map ra) ?_
      walk_at "go"
      refine rd_ixT (j := c) rfl (at_map (getDO rok.1 hcL)) ?_
      rw [ht]
      walk_at "go"
      refine ⟨_, by walk_at "le", w0 ++ [c], t, rfl, by rw [List.length_append]; simp only [List.length_singleton]; omega, ?_, fun x hx => ?_, by omega⟩
      · rw [runF_snoc, wr]
        show stepL rows s c = some t
        rw [stp, ht]
      · rcases List.mem_append.mp hx with hx | hx
        · exact wc x hx
        · rw [List.mem_singleton.mp hx]; exact hcL
    · rintro ρ2 k3 ⟨w0, s, rfl, wl, wr, wc, hk3⟩
      have hs := (run_lt ok _ 0 s (by omega) wr).1
      walk_at "go"
      refine rd_ixT (j := s) rfl (at_map (getDB ok.le hs)) ?_
      walk_at "go"
      refine if_split (fun h => ?_) (fun h => ?_)
      · refine sw_append (ev_var rfl ⟨_, rfl, by rw [List.length_map]; omega, ?_⟩) ⟨_, rfl⟩
        have e1 : l.map nX ++ [nX w0] = (l ++ [w0]).map nX := by rw [List.map_append]; rfl
        rw [e1]
        refine ⟨_, by walk_at "le", l ++ [w0], rfl, by rw [List.length_append]; simp only [List.length_singleton]; omega, fun v hv => ?_, by omega⟩
        rcases List.mem_append.mp hv with hv | hv
        · exact hin v hv
        · rw [List.mem_singleton.mp hv]
          exact ⟨⟨s, wr, h⟩, by omega, wc⟩
      · walk_at "go"
        exact ⟨_, by walk_at "le", l, rfl, by omega, hin, by omega⟩
  · rintro ρ1 k2 ⟨l, rfl, hl, hin, hk⟩
    refine sw_freeze 3 rfl ?_
    walk_at "go"
    exact ⟨⟨l, rfl, hl, hin⟩, by omega⟩
end

-- SPLIT
section
variable {P : Program} {w : World} {K : PySem.W.Frag} {mg : Str → Option Value} {base : Heap} {A : Adrs}
def R_llong (ds : List PyData) (c : Nat) (G : PyData → Prop) : Prop := ∃ L : Nat, ds = [nI L] ∧ 1 ≤ L ∧ L ≤ 4 ∧ c = 60 ∧ G = fun d => ∃ L N rows ends, d = kindD L rows ends ∧ KOk L N rows ends
theorem ok__law_long (T : Txt K mg A) : FnOk P w K mg base CX0 3 A.f__law_long A.d__law_long ["_law_deck_here", "_law_letters"] (spD K 2 R_llong) := by
  have G__law_draw : FnOk P w K mg base CX0 1 A.f__law_draw A.d__law_draw ["_law_deck_here", "_law_most"] (spD K 2 R_draw) := ok__law_draw T
  have G__law_one : FnOk P w K mg base CX0 2 A.f__law_one A.d__law_one ["_law_deck_here", "_law_items"] (spD K 2 R_one) := ok__law_one T
  refine T.F__law_long.ok sc__law_long (fun vs H Q E h => ?_) (fun cdv Ar outer s H vs Q E hr h => ?_)
  · exact spD.len h
  refine ⟨_, (pss_cons (ps_set (i := 2) sc__law_long.nd rfl (Or.inl rfl) (pe_op op_add pe_int (pe_call G__law_draw (hr.mono (by first | decide | omega)) rfl T.m__law_draw T.k__law_draw T.b__law_draw .nil pass0 (pa_cons (pv 0) (pa_cons pe_int pa_nil)))))
    (pss_cons (ps_set (i := 3) sc__law_long.nd rfl (Or.inl rfl) (pe_lst pa_nil))
    (pss_cons (ps_for PassesOwn.never rfl (pi_range1 (by rfl) T.z_range (pa_cons (pv 2) pa_nil)) (pg_name (i := 4) sc__law_long.nd rfl (Or.inl rfl))
    (pss_cons (ps_set (i := 5) sc__law_long.nd rfl (Or.inl rfl) (pe_op op_rep (pe_lst (pa_cons pe_non pa_nil)) (pv 1)))
    (pss_cons (ps_asg (pe_ifExp (pt_cmpR op_lt (pe_op op_add (pv 4) pe_int) (pv 2) (nomark _)) (pe_op op_add (pv 4) pe_int) (pe_call G__law_one (hr.mono (by first | decide | omega)) rfl T.m__law_one T.k__law_one T.b__law_one .nil pass0 (pa_cons (pv 0) (pa_cons (pe_lst (pa_cons pe_non (pa_cons pe_int (pa_cons (pe_op op_sub (pv 2) pe_int) pa_nil)))) pa_nil)))) (pg_sub (pv 5) (pe_call G__law_draw (hr.mono (by first | decide | omega)) rfl T.m__law_draw T.k__law_draw T.b__law_draw .nil pass0 (pa_cons (pv 0) (pa_cons (pv 1) pa_nil))) set_list))
    (pss_cons (ps_if (pt_cmpR op_eq (pe_call G__law_draw (hr.mono (by first | decide | omega)) rfl T.m__law_draw T.k__law_draw T.b__law_draw .nil pass0 (pa_cons (pv 0) (pa_cons pe_int pa_nil))) pe_int (nomark _)) (pss_one (ps_asg (pe_call G__law_draw (hr.mono (by first | decide | omega)) rfl T.m__law_draw T.k__law_draw T.b__law_draw .nil pass0 (pa_cons (pv 0) (pa_cons (pv 2) pa_nil))) (pg_sub (pv 5) (pe_call G__law_draw (hr.mono (by first | decide | omega)) rfl T.m__law_draw T.k__law_draw T.b__law_draw .nil pass0 (pa_cons (pv 0) (pa_cons (pv 1) pa_nil))) set_list)))
    pss_nil)
    (pss_one (ps_expr (kBm K (pe_bm PySem.F.plainAttrs_list PySem.F.slot_list_append PySem.F.type_list_append mt_append (pv 3) (pa_cons (pe_callTy (T := "tuple") (kTupOf K) (by rfl) T.z_tuple (by decide +kernel) (pa_cons (pv 5) pa_nil)) pa_nil)))))))))
    (pss_one (ps_ret (pe_tup (pa_cons (pv 1) (pa_cons (pe_callTy (T := "tuple") (kTupOf K) (by rfl) T.z_tuple (by decide +kernel) (pa_cons (pv 3) pa_nil)) (pa_cons (pe_op (kCatT K) (pe_callTy (T := "tuple") (kTupOf K) (by rfl) T.z_tuple (by decide +kernel) (pa_cons (pe_lc (own := [("_law_k", 4)]) rfl sc__law_long.nd (pi_range1 (by rfl) T.z_range (pa_cons (pe_op op_sub (pv 2) pe_int) pa_nil)) (blkOk_by (own := [("_law_k", 4)]) (N := N__law_long) (sc := defScope s__law_long) (by decide +kernel)) (fun _ _ _ _ _ => (pg_name (i := 4) sc__law_long.nd rfl (Or.inl rfl))) (fun _ _ _ _ _ => pts_nil) (fun _ _ _ _ _ => (pe_cmpR op_eq (pe_call G__law_draw (hr.mono (by first | decide | omega)) rfl T.m__law_draw T.k__law_draw T.b__law_draw .nil pass0 (pa_cons (pv 0) (pa_cons pe_int pa_nil))) pe_int (nomark _)))) pa_nil)) (pe_tup (pa_cons pe_bl pa_nil))) pa_nil))))))))), ?_⟩
  refine spD.ok h fun M p q hp hq Hs tr ds cc k0 G hR hk0 => ?_
  obtain ⟨L, rfl, l1, l4, rfl, rfl⟩ := hR
  walk_at "st"
  walk_at "go"
  refine ⟨by omega, fun r0 hr0 => ?_⟩
  obtain ⟨N, hN, n4, n8⟩ : ∃ N : Nat, (4 : Int) + (r0 : Int) = (N : Int) ∧ 4 ≤ N ∧ N ≤ 8 := ⟨4 + r0, by omega, by omega, by omega⟩
  refine rd_add ?_
  rw [hN]
  refine sw_seq (sw_own (ea_nil ⟨by simp, ?_⟩))
  walk_at "tg"
  refine sw_seq (sw_forW (ei_rng1 ?_))
  walk_at "go"
  refine ⟨by omega, by omega, ?_⟩
  refine ⟨fun j ρ k2 => ∃ (rows : List (List (Option Nat))), ρ = [.raw (.ref p), .dat (nI L), .dat (nI N), .own (rows.map rowD), .no, .no] ∧ rows.length = j ∧ (∀ r ∈ rows, r.length = L ∧ ∀ t, some t ∈ r → t < N) ∧ k2 ≤ k0 + 1 + 5 * j, ⟨_, by walk_at "le", [], rfl, rfl, (fun _ z => nomatch z), by omega⟩, ?_, ?_⟩
  · rintro j ρ1 k2 hj ⟨rows, rfl, hr, hrow, hk⟩
    have hjN : j < N := by omega
    walk_at "tg"
    refine sw_seq (sw_ownRep ?_)
    walk_at "go"
    refine ⟨by omega, ?_⟩
    have start : List.replicate L PyData.none = (List.replicate L none).map optD := by rw [List.map_replicate]; rfl
    rw [start]
    -- the letter that goes on
    refine sw_mid (fun ρ' k' => ∃ row : List (Option Nat), ρ' = [.raw (.ref p), .dat (nI L), .dat (nI N), .own (rows.map rowD), .dat (nI j), .own (row.map optD)] ∧ row.length = L ∧ (∀ t, some t ∈ row → t < N) ∧ k' ≤ k0 + 1 + 5 * j + 2) ?_ ?_
    · have set1 : ∀ (o : Option Nat) (k3 : Nat), (∀ t, o = some t → t < N) → k3 + 1 ≤ k0 + 1 + 5 * j + 2 →
          EvW K (deckW M p q Hs tr hp hq) (tCall (spD K 2 R_draw) [] E0 (tCons (tVar 0) (tCons (tVar 1) tNil))) [.raw (.ref p), .dat (nI L), .dat (nI N), .own (rows.map rowD), .dat (nI j), .own ((List.replicate L none).map optD)] k3 fun x k2 => ∃ ds i, x = .int ((i : Nat) : Int) ∧ ([Slot.raw (.ref p), .dat (nI L), .dat (nI N), .own (rows.map rowD), .dat (nI j), .own ((List.replicate L none).map optD)] : Rho)[5]? = some (.own ds) ∧ i < ds.length ∧
            ∃ row : List (Option Nat), ([Slot.raw (.ref p), .dat (nI L), .dat (nI N), .own (rows.map rowD), .dat (nI j), .own ((List.replicate L none).map optD)] : Rho).set 5 (.own (ds.set i (optD o))) = [.raw (.ref p), .dat (nI L), .dat (nI N), .own (rows.map rowD), .dat (nI j), .own (row.map optD)] ∧ row.length = L ∧ (∀ t, some t ∈ row → t < N) ∧ k2 ≤ k0 + 1 + 5 * j + 2 := fun o k3 ho hk3 => by
        walk_at "go"
        refine ⟨by omega, by omega, by omega, fun i hi => ?_⟩
        refine ⟨_, i, rfl, rfl, by simp; omega, (List.replicate L none).set i o, ?_, by simp, fun t ht => ?_, hk3⟩
        · rw [List.map_set]
          try rfl
        · rcases List.mem_or_eq_of_mem_set ht with h | h
          · have := List.eq_of_mem_replicate h
            cases this
          · exact ho t h.symm
      refine sw_setL ?_ ⟨_, rfl⟩
      walk_at "go"
      refine if_split (fun h => ?_) (fun h => ?_)
      · have h := of_decide_eq_true h
        refine ev_op (ev_var rfl (ev_int (rd_add ?_)))
        have e : PyData.int ((j : Int) + 1) = optD (some (j + 1)) := rfl
        rw [e]
        refine set1 (some (j + 1)) _ (fun t e => by cases e; omega) ?_
        omega
      · have h := of_decide_eq_false h
        walk_at "go"
        refine ⟨by omega, by simp, by simp, fun d hd => ?_⟩
        have hd' : ∃ o : Option Nat, d = optD o ∧ ∀ t, o = some t → t < N := by
          simp only [List.mem_cons, List.not_mem_nil, or_false] at hd
          rcases hd with rfl | rfl | rfl
          · exact ⟨none, rfl, fun _ e => by cases e⟩
          · exact ⟨some 0, rfl, fun _ e => by cases e; omega⟩
          · exact ⟨some (N - 2), by show PyData.int _ = PyData.int _; congr 1; omega, fun _ e => by cases e; omega⟩
        obtain ⟨o, rfl, ho⟩ := hd'
        refine set1 o _ ho ?_
        omega
    rintro ρ2 k3 ⟨row, rfl, rl, rlt, hk3⟩
    refine sw_mid (fun ρ' k' => ∃ row : List (Option Nat), ρ' = [.raw (.ref p), .dat (nI L), .dat (nI N), .own (rows.map rowD), .dat (nI j), .own (row.map optD)] ∧ row.length = L ∧ (∀ t, some t ∈ row → t < N) ∧ k' ≤ k0 + 1 + 5 * j + 5) ?_ ?_
    · walk_at "go"
      refine ⟨by omega, fun z hz => ?_⟩
      walk_at "go"
      refine if_split (fun h => ?_) (fun h => ?_)
      · refine sw_setL ?_ ⟨_, rfl⟩
        walk_at "go"
        refine ⟨by omega, by omega, by omega, fun v hv => ?_⟩
        walk_at "go"
        refine ⟨by omega, by omega, by omega, fun i hi => ?_⟩
        refine ⟨_, i, rfl, rfl, by rw [List.length_map]; omega, row.set i (some v), ?_, by rw [List.length_set]; exact rl, fun t ht => ?_, by omega⟩
        · rw [List.map_set]
          try rfl
        · rcases List.mem_or_eq_of_mem_set ht with h | h
          · exact rlt t h
          · cases h; omega
      · walk_at "go"
        exact ⟨rl, rlt, by omega⟩
    rintro ρ3 k4 ⟨row, rfl, rl, rlt, hk4⟩
    refine sw_freeze 5 rfl ?_
    refine sw_append (ev_cb (ea_cons (ev_var rfl (ea_nil (rc_tupL ⟨_, rfl, by rw [List.length_map]; omega, ?_⟩))))) ⟨_, rfl⟩
    have e1 : rows.map rowD ++ [PyData.tuple (row.map optD)] = (rows ++ [row]).map rowD := by rw [List.map_append]; rfl
    rw [e1]
    exact ⟨_, by walk_at "le", rows ++ [row], rfl, by rw [List.length_append, hr]; rfl, fun r hr' => by
      rcases List.mem_append.mp hr' with h | h
      · exact hrow r h
      · rw [List.mem_singleton.mp h]; exact ⟨rl, rlt⟩, by omega⟩
  · rintro ρ1 k2 ⟨rows, rfl, hr, hrow, hk⟩
    have eN : ((N : Int)).toNat = N := Int.toNat_natCast N
    rw [eN] at hr hk
    refine sw_freeze 3 rfl ?_
    walk_at "go"
    refine ev_lc (ei_rng1 ?_)
    walk_at "go"
    refine ⟨by omega, by omega, ?_⟩
    have e2 : ((N : Int) - 1).toNat = N - 1 := by omega
    rw [e2]
    refine ⟨by omega, fun i acc k3 => ∃ es : List Bool, acc = es.map PyData.bool ∧ es.length = i ∧ k3 ≤ k0 + 1 + 5 * N + i, ⟨[], rfl, rfl, by omega⟩, ?_, ?_⟩
    · rintro i acc k3 hi ⟨es, rfl, he, hk3⟩
      walk_at "go"
      refine ⟨by omega, fun z hz => ?_⟩
      walk_at "go"
      exact ⟨es ++ [_], by rw [List.map_append]; rfl, by rw [List.length_append, he]; rfl, by omega⟩
    · rintro acc k3 hlen ⟨es, rfl, he, hk3⟩
      walk_at "go"
      refine rd_catT (by rw [List.length_map]; show es.length + 1 ≤ _; omega) ?_
      walk_at "go"
      have e3 : es.map PyData.bool ++ [PyData.bool true] = (es ++ [true]).map PyData.bool := by rw [List.map_append]; rfl
      rw [e3]
      exact ⟨⟨L, N, rows, es ++ [true], rfl, ⟨hr, by rw [List.length_append, he]; simp only [List.length_singleton]; omega, hrow, l1, l4, by omega, by omega⟩⟩, by omega⟩
def R_lsome (ds : List PyData) (c : Nat) (G : PyData → Prop) : Prop := ∃ M : Nat, ds = [nI M] ∧ 1 ≤ M ∧ M ≤ 4 ∧ c = 70 ∧ G = fun d => ∃ L N rows ends, d = kindD L rows ends ∧ KOk L N rows ends
theorem ok__law_some_kind (T : Txt K mg A) : FnOk P w K mg base CX0 4 A.f__law_some_kind A.d__law_some_kind ["_law_deck_here", "_law_most"] (spD K 2 R_lsome) := by
  have G__law_long : FnOk P w K mg base CX0 3 A.f__law_long A.d__law_long ["_law_deck_here", "_law_letters"] (spD K 2 R_llong) := ok__law_long T
  have G__law_draw : FnOk P w K mg base CX0 1 A.f__law_draw A.d__law_draw ["_law_deck_here", "_law_most"] (spD K 2 R_draw) := ok__law_draw T
  have G__law_kind : FnOk P w K mg base CX0 3 A.f__law_kind A.d__law_kind ["_law_deck_here", "_law_most", "_law_states"] (spD K 3 R_lkind) := ok__law_kind T
  refine T.F__law_some_kind.ok sc__law_some_kind (fun vs H Q E h => ?_) (fun cdv Ar outer s H vs Q E hr h => ?_)
  · exact spD.len h
  refine ⟨_, (pss_cons (ps_if (pt_cmpR op_gt (pe_call G__law_draw (hr.mono (by first | decide | omega)) rfl T.m__law_draw T.k__law_draw T.b__law_draw .nil pass0 (pa_cons (pv 0) (pa_cons pe_int pa_nil))) pe_int (nomark _)) (pss_one (ps_ret (pe_call G__law_kind (hr.mono (by first | decide | omega)) rfl T.m__law_kind T.k__law_kind T.b__law_kind .nil pass0 (pa_cons (pv 0) (pa_cons (pv 1) (pa_cons pe_int pa_nil))))))
    pss_nil)
    (pss_one (ps_ret (pe_call G__law_long (hr.mono (by first | decide | omega)) rfl T.m__law_long T.k__law_long T.b__law_long .nil pass0 (pa_cons (pv 0) (pa_cons (pe_op op_add pe_int (pe_call G__law_draw (hr.mono (by first | decide | omega)) rfl T.m__law_draw T.k__law_draw T.b__law_draw .nil pass0 (pa_cons (pv 0) (pa_cons (pv 1) pa_nil)))) pa_nil)))))), ?_⟩
  refine spD.ok h fun M p q hp hq Hs tr ds cc k0 G hR hk0 => ?_
  obtain ⟨M0, rfl, m1, m4, rfl, rfl⟩ := hR
  walk_at "st"
  walk_at "go"
  refine ⟨by omega, fun z hz => ?_⟩
  walk_at "go"
  refine if_split (fun _ => ?_) (fun _ => ?_)
  · walk_at "go"
    refine ⟨3 + 12 * 3, _, ⟨M0, 3, rfl, m1, m4, by omega, by omega, rfl, rfl⟩, by omega, ?_⟩
    rintro d h
    exact ⟨h, by omega⟩
  · walk_at "go"
    refine ⟨by omega, by omega, by omega, fun r hr => ?_⟩
    walk_at "go"
    obtain ⟨L, hL, l1, l4⟩ : ∃ L : Nat, (1 : Int) + (r : Int) = (L : Int) ∧ 1 ≤ L ∧ L ≤ 4 := ⟨1 + r, by omega, by omega, by omega⟩
    rw [hL]
    refine ⟨60, _, ⟨L, rfl, l1, l4, rfl, rfl⟩, by omega, ?_⟩
    rintro d h
    exact ⟨h, by omega⟩
def encL : Option (List (List Nat)) → PyData | none => .none | some l => .list (l.map nX)
end

theorem max_read {u ws : List Nat} {n : Nat} {m : Int} (h1 : m ∈ (((List.range (ws.length + 1)).filter fun p => decide (cntN u (ws.take p) ≤ n)).map fun p => ((p : Nat) : Int)))
    (h2 : ∀ y ∈ (((List.range (ws.length + 1)).filter fun p => decide (cntN u (ws.take p) ≤ n)).map fun p => ((p : Nat) : Int)), y ≤ m) : m = ((readL u ws n : Nat) : Int) := by
  obtain ⟨p, hp, rfl⟩ := List.mem_map.mp h1
  rw [List.mem_filter, List.mem_range] at hp
  have a := readL_max u ws n p (by omega) (of_decide_eq_true hp.2)
  have b := h2 ((readL u ws n : Nat) : Int) (List.mem_map.mpr ⟨_, List.mem_filter.mpr ⟨List.mem_range.mpr (by have := readL_le u ws n; omega), decide_eq_true (readL_cnt u ws n)⟩, rfl⟩)
  omega
theorem due_at (f : Nat → Nat) (N i : Nat) (p : Nat) : ((List.range N).map fun n => ((f n : Nat) : Int))[i]? = some (p : Int) ↔ i < N ∧ f i = p := by
  rw [List.getElem?_map]
  by_cases h : i < N
  · rw [List.getElem?_range h]
    simp only [Option.map_some, Option.some.injEq]
    omega
  · have h2 : (List.range N)[i]? = none := by simp; omega
    rw [h2]; simp [h]
theorem due_mem (f : Nat → Nat) (N : Nat) (p : Nat) : decide ((p : Int) ∈ (List.range N).map fun n => ((f n : Nat) : Int)) = (firstF f N p).isSome := by
  rcases firstF_cases f N p with ⟨e, h⟩ | ⟨j, e, hj, h, _⟩
  · rw [e]
    refine decide_eq_false fun hm => ?_
    obtain ⟨n, hn, e2⟩ := List.mem_map.mp hm
    exact h n (List.mem_range.mp hn) (by omega)
  · rw [e]
    exact decide_eq_true (List.mem_map.mpr ⟨j, List.mem_range.mpr hj, by omega⟩)
section
variable {P : Program} {w : World} {K : PySem.W.Frag} {mg : Str → Option Value} {base : Heap} {A : Adrs}
def R_lread (ds : List PyData) (r : PyData) : Prop := ∃ (u ws : List Nat) (n : Nat), ds = [encU u, nX ws, nI n] ∧ (∀ c ∈ ws, c < u.length ∧ c < 4) ∧ ws.length ≤ 40000 ∧ r = nI (readL u ws n)
theorem ok__law_read (T : Txt K mg A) : FnOk P w K mg base CX0 3 A.f__law_read A.d__law_read ["_law_unit_here", "_law_word", "_law_number"] (spP K 3 R_lread) := by
  have G__law_count : FnOk P w K mg base CX0 1 A.f__law_count A.d__law_count ["_law_unit_here", "_law_word"] (spP K 2 R_count) := ok__law_count T
  refine T.F__law_read.ok sc__law_read (fun vs H Q E h => ?_) (fun cdv Ar outer s H vs Q E hr h => ?_)
  · exact spP.len h
  refine ⟨_, (pss_one (ps_ret (pe_callB (id := "max") (kMax K rfl) (by rfl) T.z_max (by decide +kernel) (pa_cons (pe_lc (own := [("_law_place", 3)]) rfl sc__law_read.nd (pi_range1 (by rfl) T.z_range (pa_cons (pe_op op_add (pe_callB (id := "len") call_len_str (by rfl) T.z_len (by decide +kernel) (pa_cons (pv 1) pa_nil)) pe_int) pa_nil)) (blkOk_by (own := [("_law_place", 3)]) (N := N__law_read) (sc := defScope s__law_read) (by decide +kernel)) (fun _ _ _ _ _ => (pg_name (i := 3) sc__law_read.nd rfl (Or.inl rfl))) (fun _ _ _ _ _ => (pts_one (pt_cmpR op_le (pe_call G__law_count (hr.mono (by first | decide | omega)) rfl T.m__law_count T.k__law_count T.b__law_count .nil pass0 (pa_cons (pv 0) (pa_cons (pe_slice sl_str (pv 1) po_none (po_some (pv 3))) pa_nil))) (pv 2) (nomark _)))) (fun _ _ _ _ _ => (pv 3))) pa_nil)))), ?_⟩
  refine spP.ok h fun W ds r hR => ?_
  obtain ⟨u, ws, n, rfl, hw, hl, rfl⟩ := hR
  walk_at "st"
  walk_at "go"
  refine ev_lcP (fun p => decide (cntN u (ws.take p) ≤ n)) (fun p => nI p) (ei_rng1 ?_)
  walk_at "go"
  refine rc_lenX (by omega) ?_
  walk_at "go"
  refine ⟨by omega, by omega, ?_⟩
  have hn : (((ws.length : Nat) : Int) + 1).toNat = ws.length + 1 := by omega
  rw [hn]
  refine ⟨by omega, fun j hj => ?_, ?_⟩
  · walk_at "go"
    refine rsl_to (by omega) ?_
    walk_at "go"
    refine rc_pure rfl ⟨u, ws.take j, rfl, fun c hc => hw c (List.mem_of_mem_take hc), by rw [List.length_take]; omega, rfl⟩ ?_
    walk_at "go"
    refine ⟨?_, rfl, fun _ => ?_⟩
    · by_cases h : cntN u (ws.take j) ≤ n
      · rw [decide_eq_true h, decide_eq_true (by omega)]
      · rw [decide_eq_false h, decide_eq_false (by omega)]
    · walk_at "go"
  · walk_at "go"
    have hne : 0 < ((((List.range (ws.length + 1)).filter fun p => decide (cntN u (ws.take p) ≤ n)).map fun p => ((p : Nat) : Int))).length := by
      rw [List.length_map]
      exact List.length_pos_iff.mpr fun z => by
        have := List.filter_eq_nil_iff.mp z 0 (List.mem_range.mpr (by omega))
        simp [cntN] at this
    refine rc_max ((((List.range (ws.length + 1)).filter fun p => decide (cntN u (ws.take p) ≤ n)).map fun p => ((p : Nat) : Int))) (by rw [List.map_map]; rfl) hne fun m h1 h2 => ?_
    rw [max_read h1 h2]
def R_lcomes (ds : List PyData) (r : PyData) : Prop := ∃ (us : List (List Nat)) (rd ws : List Nat) (n : Nat), ds = [.tuple (us.map encU), encR rd, nX ws, nI n] ∧ RdOk us rd ws ∧ (∀ c ∈ ws, c < 4) ∧ r = nI (comesF us rd ws n)
theorem ok__law_comes (T : Txt K mg A) : FnOk P w K mg base CX0 4 A.f__law_comes A.d__law_comes ["_law_units", "_law_road_here", "_law_word", "_law_number"] (spP K 4 R_lcomes) := by
  have G__law_read : FnOk P w K mg base CX0 3 A.f__law_read A.d__law_read ["_law_unit_here", "_law_word", "_law_number"] (spP K 3 R_lread) := ok__law_read T
  have G__law_count : FnOk P w K mg base CX0 1 A.f__law_count A.d__law_count ["_law_unit_here", "_law_word"] (spP K 2 R_count) := ok__law_count T
  refine T.F__law_comes.ok sc__law_comes (fun vs H Q E h => ?_) (fun cdv Ar outer s H vs Q E hr h => ?_)
  · exact spP.len h
  refine ⟨_, (pss_cons (ps_set (i := 4) sc__law_comes.nd rfl (Or.inl rfl) (pe_call G__law_read (hr.mono (by first | decide | omega)) rfl T.m__law_read T.k__law_read T.b__law_read .nil pass0 (pa_cons (pe_ix (kIxT K) (pv 0) (pe_ix (kIxT K) (pv 1) pe_int (fun _ _ => rfl)) (fun _ _ => rfl)) (pa_cons (pv 2) (pa_cons (pv 3) pa_nil)))))
    (pss_cons (ps_for PassesOwn.never rfl (kPiT K (pe_slice (kSlT K) (pv 1) (po_some pe_int) po_none)) (pg_name (i := 5) sc__law_comes.nd rfl (Or.inl rfl))
    (pss_one (ps_set (i := 4) sc__law_comes.nd rfl (Or.inl rfl) (pe_call G__law_read (hr.mono (by first | decide | omega)) rfl T.m__law_read T.k__law_read T.b__law_read .nil pass0 (pa_cons (pe_ix (kIxT K) (pv 0) (pv 5) (fun _ _ => rfl)) (pa_cons (pv 2) (pa_cons (pe_call G__law_count (hr.mono (by first | decide | omega)) rfl T.m__law_count T.k__law_count T.b__law_count .nil pass0 (pa_cons (pe_ix (kIxT K) (pv 0) (pv 5) (fun _ _ => rfl)) (pa_cons (pe_slice sl_str (pv 2) po_none (po_some (pv 4))) pa_nil))) pa_nil)))))))
    (pss_one (ps_ret (pv 4))))), ?_⟩
  refine spP.ok h fun W ds r hR => ?_
  obtain ⟨us, rd, ws, n, rfl, ok, h4, rfl⟩ := hR
  have hl := ok.len
  have hc := ok.cons
  have hh : rd.headD 0 ∈ rd := by rw [hc]; exact List.mem_cons_self
  obtain ⟨h1, h2⟩ := ok.getD hh
  walk_at "st"
  walk_at "go"
  refine rd_ixT (j := 0) rfl (at_map (by rw [hc]; rfl)) ?_
  refine rd_ixTm h1 ?_
  walk_at "go"
  refine rc_pure rfl ⟨us.getD (rd.headD 0) [], ws, n, rfl, fun c hc => ⟨h2 c hc, h4 c hc⟩, hl, rfl⟩ ?_
  walk_at "go"
  refine sw_forW ?_
  walk_at "go"
  have et : cutD (rd.map nI) (some 1) none = rd.tail.map nI := by
    rw [hc]
    have := cut_drop (ds := (rd.headD 0 :: rd.tail).map nI) (j := 1) (by simp)
    rw [show (some (1 : Int)) = some ((1 : Nat) : Int) from rfl, this]
    rfl
  rw [et]
  refine ⟨fun j ρ1 _ => ρ1 = [.dat (.tuple (us.map encU)), .dat (encR rd), .dat (nX ws), .dat (nI n), .dat (nI (goP us ws (rd.tail.take j) (readL (us.getD (rd.headD 0) []) ws n))), .no], ⟨_, by walk_at "le", rfl⟩, ?_, ?_⟩
  · rintro j ρ1 k2 hj rfl
    rw [List.length_map] at hj
    rw [itemD_map hj]
    have hm : rd.tail[j] ∈ rd := List.mem_of_mem_tail (List.getElem_mem hj)
    obtain ⟨g1, g2⟩ := ok.getD hm
    have hp := goP_le us ws (rd.tail.take j) _ (readL_le (us.getD (rd.headD 0) []) ws n)
    walk_at "go"
    refine rd_ixTm g1 ?_
    walk_at "go"
    refine rd_ixTm g1 ?_
    walk_at "go"
    refine rsl_to (by omega) ?_
    walk_at "go"
    refine rc_pure rfl ⟨us.getD rd.tail[j] [], ws.take _, rfl, fun c hc => ⟨g2 c (List.mem_of_mem_take hc), h4 c (List.mem_of_mem_take hc)⟩, by rw [List.length_take]; omega, rfl⟩ ?_
    walk_at "go"
    refine rc_pure rfl ⟨us.getD rd.tail[j] [], ws, _, rfl, fun c hc => ⟨g2 c hc, h4 c hc⟩, hl, rfl⟩ ?_
    have e : rd.tail.take (j + 1) = rd.tail.take j ++ [rd.tail[j]] := by rw [List.take_add_one]; simp [hj]
    rw [onP_read hp, ← goP_snoc, ← e]
    walk_at "go"
    exact ⟨_, by walk_at "le", rfl⟩
  · rintro ρ1 k2 rfl
    walk_at "go"
    rw [List.length_map, List.take_length]
    rfl
def R_lroad (ds : List PyData) (c : Nat) (G : PyData → Prop) : Prop := ∃ us : List (List Nat), ds = [.tuple (us.map encU)] ∧ 1 ≤ us.length ∧ us.length ≤ 2 ∧ c = 5 ∧ G = fun d => ∃ rd : List Nat, d = encR rd ∧ rd ≠ [] ∧ rd.length ≤ 4 ∧ ∀ i ∈ rd, i < us.length
theorem ok__law_road (T : Txt K mg A) : FnOk P w K mg base CX0 3 A.f__law_road A.d__law_road ["_law_deck_here", "_law_units"] (spD K 2 R_lroad) := by
  have G__law_draw : FnOk P w K mg base CX0 1 A.f__law_draw A.d__law_draw ["_law_deck_here", "_law_most"] (spD K 2 R_draw) := ok__law_draw T
  refine T.F__law_road.ok sc__law_road (fun vs H Q E h => ?_) (fun cdv Ar outer s H vs Q E hr h => ?_)
  · exact spD.len h
  refine ⟨_, (pss_one (ps_ret (pe_callTy (T := "tuple") (kTupOf K) (by rfl) T.z_tuple (by decide +kernel) (pa_cons (pe_lc (own := [("_law_k", 2)]) rfl sc__law_road.nd (pi_range1 (by rfl) T.z_range (pa_cons (pe_op op_add pe_int (pe_call G__law_draw (hr.mono (by first | decide | omega)) rfl T.m__law_draw T.k__law_draw T.b__law_draw .nil pass0 (pa_cons (pv 0) (pa_cons pe_int pa_nil)))) pa_nil)) (blkOk_by (own := [("_law_k", 2)]) (N := N__law_road) (sc := defScope s__law_road) (by decide +kernel)) (fun _ _ _ _ _ => (pg_name (i := 2) sc__law_road.nd rfl (Or.inl rfl))) (fun _ _ _ _ _ => pts_nil) (fun _ _ _ _ _ => (pe_call G__law_draw (hr.mono (by first | decide | omega)) rfl T.m__law_draw T.k__law_draw T.b__law_draw .nil pass0 (pa_cons (pv 0) (pa_cons (pe_callB (id := "len") (kLenQ K) (by rfl) T.z_len (by decide +kernel) (pa_cons (pv 1) pa_nil)) pa_nil))))) pa_nil)))), ?_⟩
  refine spD.ok h fun M p q hp hq Hs tr ds cc k0 G hR hk0 => ?_
  obtain ⟨us, rfl, hu1, hu2, rfl, rfl⟩ := hR
  walk_at "st"
  walk_at "go"
  refine ev_lc (ei_rng1 ?_)
  walk_at "go"
  refine ⟨by omega, fun r hr => ?_⟩
  walk_at "go"
  refine ⟨by omega, by omega, ?_⟩
  refine ⟨by omega, fun j acc k2 => ∃ rd : List Nat, acc = rd.map nI ∧ rd.length = j ∧ (∀ i ∈ rd, i < us.length) ∧ k2 ≤ k0 + 1 + j, ⟨[], rfl, rfl, (fun _ h => nomatch h), Nat.le_refl _⟩, ?_, ?_⟩
  · rintro j acc k2 hj ⟨rd, rfl, hu, hn, hk⟩
    walk_at "go"
    rw [List.length_map]
    refine ⟨by omega, by omega, by omega, fun x hx => ?_⟩
    exact ⟨rd ++ [x], by rw [List.map_append]; rfl, by rw [List.length_append, hu]; rfl, fun v hv => by
      rcases List.mem_append.mp hv with h | h
      · exact hn v h
      · rw [List.mem_singleton.mp h]; omega, by omega⟩
  · rintro acc k2 _ ⟨rd, rfl, hu, hn, hk⟩
    walk_at "go"
    exact ⟨⟨rd, rfl, fun z => by rw [z] at hu; simp at hu; omega, by omega, hn⟩, by omega⟩
def R_few (ds : List PyData) (c : Nat) (G : PyData → Prop) : Prop := ∃ L : Nat, ds = [nI L] ∧ L ≤ 4 ∧ c = 9 ∧ G = fun d => ∃ us : List (List Nat), d = .tuple (us.map encU) ∧ 1 ≤ us.length ∧ us.length ≤ 2 ∧ ∀ u ∈ us, UOk L u
theorem ok__law_few_units (T : Txt K mg A) : FnOk P w K mg base CX0 3 A.f__law_few_units A.d__law_few_units ["_law_deck_here", "_law_letters"] (spD K 2 R_few) := by
  have G__law_draw : FnOk P w K mg base CX0 1 A.f__law_draw A.d__law_draw ["_law_deck_here", "_law_most"] (spD K 2 R_draw) := ok__law_draw T
  have G__law_one : FnOk P w K mg base CX0 2 A.f__law_one A.d__law_one ["_law_deck_here", "_law_items"] (spD K 2 R_one) := ok__law_one T
  refine T.F__law_few_units.ok sc__law_few_units (fun vs H Q E h => ?_) (fun cdv Ar outer s H vs Q E hr h => ?_)
  · exact spD.len h
  refine ⟨_, (pss_cons (ps_set (i := 2) sc__law_few_units.nd rfl (Or.inl rfl) (pe_lst pa_nil))
    (pss_cons (ps_for PassesOwn.never rfl (pi_range1 (by rfl) T.z_range (pa_cons (pe_op op_add pe_int (pe_call G__law_draw (hr.mono (by first | decide | omega)) rfl T.m__law_draw T.k__law_draw T.b__law_draw .nil pass0 (pa_cons (pv 0) (pa_cons pe_int pa_nil)))) pa_nil)) (pg_name (i := 3) sc__law_few_units.nd rfl (Or.inl rfl))
    (pss_one (ps_expr (kBm K (pe_bm PySem.F.plainAttrs_list PySem.F.slot_list_append PySem.F.type_list_append mt_append (pv 2) (pa_cons (pe_callTy (T := "tuple") (kTupOf K) (by rfl) T.z_tuple (by decide +kernel) (pa_cons (pe_lc (own := [("_law_letter", 4)]) rfl sc__law_few_units.nd (pi_range1 (by rfl) T.z_range (pa_cons (pv 1) pa_nil)) (blkOk_by (own := [("_law_letter", 4)]) (N := N__law_few_units) (sc := defScope s__law_few_units) (by decide +kernel)) (fun _ _ _ _ _ => (pg_name (i := 4) sc__law_few_units.nd rfl (Or.inl rfl))) (fun _ _ _ _ _ => pts_nil) (fun _ _ _ _ _ => (pe_call G__law_one (hr.mono (by first | decide | omega)) rfl T.m__law_one T.k__law_one T.b__law_one .nil pass0 (pa_cons (pv 0) (pa_cons (pe_lst (pa_cons pe_int (pa_cons pe_int (pa_cons pe_int (pa_cons pe_int (pa_cons pe_int (pa_cons pe_int pa_nil))))))) pa_nil))))) pa_nil)) pa_nil))))))
    (pss_one (ps_ret (pe_callTy (T := "tuple") (kTupOf K) (by rfl) T.z_tuple (by decide +kernel) (pa_cons (pv 2) pa_nil)))))), ?_⟩
  refine spD.ok h fun M p q hp hq Hs tr ds cc k0 G hR hk0 => ?_
  obtain ⟨L, rfl, hL, rfl, rfl⟩ := hR
  walk_at "st"
  refine sw_seq (sw_own (ea_nil ⟨by decide, ?_⟩))
  walk_at "go"
  refine sw_forW (ei_rng1 ?_)
  walk_at "go"
  refine ⟨by omega, fun r hr => ?_⟩
  walk_at "go"
  refine ⟨by omega, by omega, ?_⟩
  refine ⟨fun j ρ k2 => ∃ us : List (List Nat), ρ = [.raw (.ref p), .dat (nI L), .own (us.map encU), .no, .no] ∧ us.length = j ∧ (∀ u ∈ us, UOk L u) ∧ k2 ≤ k0 + 1 + 4 * j, ⟨_, by walk_at "le", [], rfl, rfl, (fun _ h => nomatch h), Nat.le_refl _⟩, ?_, ?_⟩
  · rintro j ρ1 k2 hj ⟨us, rfl, hu, hn, hk⟩
    walk_at "tg"
    refine sw_append ?_ ⟨_, rfl⟩
    walk_at "go"
    refine ev_lc (ei_rng1 ?_)
    walk_at "go"
    refine ⟨by omega, by omega, ?_⟩
    refine ⟨by omega, fun t acc k3 => ∃ u : List Nat, acc = u.map nI ∧ u.length = t ∧ (∀ n ∈ u, n ≤ 9) ∧ k3 ≤ k2 + t, ⟨[], rfl, rfl, (fun _ h => nomatch h), Nat.le_refl _⟩, ?_, ?_⟩
    · rintro t acc k3 ht ⟨u, rfl, hul, hun, hk3⟩
      walk_at "go"
      refine ⟨by omega, by simp, by simp, fun d hd => ?_⟩
      have hd' : ∃ x : Nat, d = nI x ∧ x ≤ 9 := by
        simp only [List.mem_cons, List.not_mem_nil, or_false] at hd
        rcases hd with rfl | rfl | rfl | rfl | rfl | rfl
        · exact ⟨0, rfl, by omega⟩
        · exact ⟨0, rfl, by omega⟩
        · exact ⟨1, rfl, by omega⟩
        · exact ⟨1, rfl, by omega⟩
        · exact ⟨2, rfl, by omega⟩
        · exact ⟨3, rfl, by omega⟩
      obtain ⟨x, rfl, hx⟩ := hd'
      exact ⟨u ++ [x], by rw [List.map_append]; rfl, by rw [List.length_append, hul]; rfl, fun n hn' => by
        rcases List.mem_append.mp hn' with h | h
        · exact hun n h
        · rw [List.mem_singleton.mp h]; exact hx, by omega⟩
    · rintro acc k3 _ ⟨u, rfl, hul, hun, hk3⟩
      walk_at "go"
      refine ⟨by rw [List.length_map]; omega, ?_⟩
      have e : us.map encU ++ [PyData.tuple (u.map nI)] = (us ++ [u]).map encU := by rw [List.map_append]; rfl
      rw [e]
      exact ⟨_, by walk_at "le", us ++ [u], rfl, by rw [List.length_append, hu]; rfl, fun v hv => by
        rcases List.mem_append.mp hv with h | h
        · exact hn v h
        · rw [List.mem_singleton.mp h]; exact ⟨by omega, hun⟩, by omega⟩
  · rintro ρ1 k2 ⟨us, rfl, hu, hn, hk⟩
    refine sw_freeze 2 rfl ?_
    walk_at "go"
    exact ⟨⟨us, rfl, by omega, by omega, hn⟩, by omega⟩
end

-- SPLIT
theorem cut_takeG (ds : List PyData) (n : Nat) : U.cutD ds none (some (n : Int)) = ds.take n := by
  by_cases h : n ≤ ds.length
  · exact cut_take h
  · unfold U.cutD
    rw [HT.sIx_nat, HT.sIx_none, List.drop_zero, Nat.sub_zero, Nat.min_eq_right (by omega), List.take_length, List.take_of_length_le (by omega)]
theorem most47 {L : Nat} (l1 : 1 ≤ L) (l4 : L ≤ 4) : ∃ k : Nat, [PyData.int 0, .int 10, .int 6, .int 5, .int 3][L]? = some (nI k) ∧ L ^ k ≤ 2000 ∧ k ≤ 20 := by
  have : L = 1 ∨ L = 2 ∨ L = 3 ∨ L = 4 := by omega
  rcases this with rfl | rfl | rfl | rfl
  · exact ⟨10, rfl, by decide, by decide⟩
  · exact ⟨6, rfl, by decide, by decide⟩
  · exact ⟨5, rfl, by decide, by decide⟩
  · exact ⟨3, rfl, by decide, by decide⟩
theorem allK_mem {L : Nat} {rows : List (List (Option Nat))} {ends : List Bool} {k : Nat} {w : List Nat} (h : w ∈ allK L rows ends k) : InK rows ends w ∧ w.length ≤ k ∧ ∀ c ∈ w, c < L := by
  obtain ⟨n, hn, h⟩ := List.mem_flatMap.mp h
  obtain ⟨h1, h2⟩ := List.mem_filter.mp h
  obtain ⟨g1, g2⟩ := (wordsN_ok L n).2 w h1
  exact ⟨(isOfB_iff _ _ _).mp h2, by have := List.mem_range.mp hn; omega, g2⟩
theorem allK_len {L : Nat} {rows : List (List (Option Nat))} {ends : List Bool} {k : Nat} (l1 : 1 ≤ L) (h : L ^ k ≤ 2000) : ∀ j, j ≤ k + 1 → (allK L rows ends j).length ≤ 2000 * j := by
  intro j
  induction j with
  | zero => intro _; simp [allK]
  | succ j ih =>
    intro hj
    have h1 := ih (by omega)
    have h2 : (wordsN L j).length ≤ 2000 := by
      rw [(wordsN_ok L j).1]
      exact Nat.le_trans (Nat.pow_le_pow_right l1 (by omega)) h
    have h3 := List.length_filter_le (isOfB rows ends) (wordsN L j)
    have e : allK L rows ends (j + 1) = allK L rows ends j ++ (wordsN L j).filter (isOfB rows ends) := by
      unfold allK
      rw [List.range_succ, List.flatMap_append]
      simp
    rw [e, List.length_append, Nat.mul_add, Nat.mul_one]
    omega
theorem lexN_mapR : ∀ a b : List Nat, lexN (a.map (97 + ·)) (b.map (97 + ·)) → lexN a b
  | [], [], h => h
  | [], _ :: _, h => h
  | _ :: _, [], h => h
  | x :: xs, y :: ys, h => by
    have h : 97 + x < 97 + y ∨ (97 + x = 97 + y ∧ lexN (xs.map (97 + ·)) (ys.map (97 + ·))) := h
    rcases h with h | ⟨h, g⟩
    · exact .inl (by omega)
    · exact .inr ⟨by omega, lexN_mapR xs ys g⟩
theorem lt3_slt {a b : List Nat} {m n : Nat} (h : ¬ slt a b) (h2 : a = b → n ≤ m) : lt3B ((a.length : Nat) : Int) (b.length : Int) (txt a) (txt b) (m : Int) (n : Int) = false := by
  unfold lt3B
  rw [Bool.or_eq_false_iff, Bool.and_eq_false_iff]
  refine ⟨decide_eq_false fun z => h (.inl (by omega)), ?_⟩
  by_cases e : a.length = b.length
  · refine .inr ?_
    rw [Bool.or_eq_false_iff, Bool.and_eq_false_iff]
    refine ⟨decide_eq_false fun z => h (.inr ⟨e, ?_⟩), ?_⟩
    · have z : a.map (97 + ·) < b.map (97 + ·) := z
      exact lexN_mapR a b ((lexN_lt _ _ (by simp [e])).mp z)
    · by_cases eq : a = b
      · exact .inr (decide_eq_false fun z => by have := h2 eq; omega)
      · exact .inl (decide_eq_false fun z => eq (txt_inj z))
  · exact .inl (decide_eq_false fun z => e (by omega))
section
variable {P : Program} {w : World} {K : PySem.W.Frag} {mg : Str → Option Value} {base : Heap} {A : Adrs}
theorem ok_law (T : Txt K mg A) : FnG P w K mg base 5 A.f_law A.d_law ["_law_script"] (spLaw K) := by
  have G__law_deck : FnOk P w K mg base CX0 1 A.f__law_deck A.d__law_deck ["_law_script"] (spDeck K) := ok__law_deck T
  have G__law_some_kind : FnOk P w K mg base CX0 4 A.f__law_some_kind A.d__law_some_kind ["_law_deck_here", "_law_most"] (spD K 2 R_lsome) := ok__law_some_kind T
  have G__law_few_units : FnOk P w K mg base CX0 3 A.f__law_few_units A.d__law_few_units ["_law_deck_here", "_law_letters"] (spD K 2 R_few) := ok__law_few_units T
  have G_unlike_roads : FnOk P w K mg base CX0 4 A.f_unlike_roads A.d_unlike_roads ["kind", "units", "one", "other", "most"] (spQ K 5 R_ur) := ok_unlike_roads T
  have G__law_road : FnOk P w K mg base CX0 3 A.f__law_road A.d__law_road ["_law_deck_here", "_law_units"] (spD K 2 R_lroad) := ok__law_road T
  have G__law_one : FnOk P w K mg base CX0 2 A.f__law_one A.d__law_one ["_law_deck_here", "_law_items"] (spD K 2 R_one) := ok__law_one T
  have G__law_all : FnOk P w K mg base CX0 2 A.f__law_all A.d__law_all ["_law_kind_here", "_law_most"] (spP K 2 R_lall) := ok__law_all T
  have G__law_comes : FnOk P w K mg base CX0 4 A.f__law_comes A.d__law_comes ["_law_units", "_law_road_here", "_law_word", "_law_number"] (spP K 4 R_lcomes) := ok__law_comes T
  have G__law_draw : FnOk P w K mg base CX0 1 A.f__law_draw A.d__law_draw ["_law_deck_here", "_law_most"] (spD K 2 R_draw) := ok__law_draw T
  have G__law_is_of : FnOk P w K mg base CX0 1 A.f__law_is_of A.d__law_is_of ["_law_kind_here", "_law_word"] (spP K 2 R_isof) := ok__law_is_of T
  have G__law_far : FnOk P w K mg base CX0 3 A.f__law_far A.d__law_far ["_law_deck_here", "_law_kind_here", "_law_wide"] (spD K 3 R_lfar) := ok__law_far T
  refine okG T.F_law sc_law (fun vs H Q E h => ?_) (fun cdv Ar outer s H vs Q E hG hr h => ?_)
  · exact spLaw.len h
  refine ⟨_, (pss_cons (ps_set (i := 1) sc_law.nd rfl (Or.inl rfl) (pe_call G__law_deck (hr.mono (by first | decide | omega)) rfl T.m__law_deck T.k__law_deck T.b__law_deck .nil pass0 (pa_cons (pv 0) pa_nil)))
    (pss_cons (ps_for PassesOwn.never rfl (pi_range1 (by rfl) T.z_range (pa_cons pe_int pa_nil)) (pg_name (i := 2) sc_law.nd rfl (Or.inl rfl))
    (pss_cons (ps_set (i := 3) sc_law.nd rfl (Or.inl rfl) (pe_call G__law_some_kind (hr.mono (by first | decide | omega)) rfl T.m__law_some_kind T.k__law_some_kind T.b__law_some_kind .nil pass0 (pa_cons (pv 1) (pa_cons pe_int pa_nil))))
    (pss_cons (ps_set (i := 4) sc_law.nd rfl (Or.inl rfl) (pe_call G__law_few_units (hr.mono (by first | decide | omega)) rfl T.m__law_few_units T.k__law_few_units T.b__law_few_units .nil pass0 (pa_cons (pv 1) (pa_cons (pe_ix (kIxT K) (pv 3) pe_int (fun _ _ => rfl)) pa_nil))))
    (pss_cons (ps_par3 (i := 5) (j := 6) (l := 7) (by rfl) sc_law.nd rfl rfl rfl (by decide) (by decide) (by decide) rfl rfl rfl (pa_cons (pe_call G__law_road (hr.mono (by first | decide | omega)) rfl T.m__law_road T.k__law_road T.b__law_road .nil pass0 (pa_cons (pv 1) (pa_cons (pv 4) pa_nil))) (pa_cons (pe_call G__law_road (hr.mono (by first | decide | omega)) rfl T.m__law_road T.k__law_road T.b__law_road .nil pass0 (pa_cons (pv 1) (pa_cons (pv 4) pa_nil))) (pa_cons (pe_call G__law_one (hr.mono (by first | decide | omega)) rfl T.m__law_one T.k__law_one T.b__law_one .nil pass0 (pa_cons (pv 1) (pa_cons (pe_lst (pa_cons pe_int (pa_cons pe_int (pa_cons (pe_call G__law_draw (hr.mono (by first | decide | omega)) rfl T.m__law_draw T.k__law_draw T.b__law_draw .nil pass0 (pa_cons (pv 1) (pa_cons pe_int pa_nil))) pa_nil)))) pa_nil))) pa_nil))) (by rfl))
    (pss_cons (ps_set (i := 6) sc_law.nd rfl (Or.inl rfl) (pe_slice (kSlT K) (pe_call G__law_one (hr.mono (by first | decide | omega)) rfl T.m__law_one T.k__law_one T.b__law_one .nil pass0 (pa_cons (pv 1) (pa_cons (pe_lst (pa_cons (pv 6) (pa_cons (pe_op (kCatT K) (pv 5) (pe_slice (kSlT K) (pv 6) po_none (po_some pe_int))) (pa_cons (pe_op (kCatT K) (pe_slice (kSlT K) (pv 5) po_none (po_some pe_int)) (pv 6)) pa_nil)))) pa_nil))) po_none (po_some pe_int)))
    (pss_cons (ps_set (i := 8) sc_law.nd rfl (Or.inl rfl) (pe_call G_unlike_roads (hr.mono (by first | decide | omega)) rfl T.m_unlike_roads T.k_unlike_roads T.b_unlike_roads .nil pass0 (pa_cons (pv 3) (pa_cons (pv 4) (pa_cons (pv 5) (pa_cons (pv 6) (pa_cons (pv 7) pa_nil)))))))
    (pss_cons (ps_if (pt_cmpR op_notN (pv 8) pe_non (nomark _)) (pss_cons (ps_asg (pv 8) (kTgT K (n := 2) (by rfl) (pgs_cons (pg_name (i := 9) sc_law.nd rfl (Or.inl rfl)) (pgs_cons (pg_name (i := 10) sc_law.nd rfl (Or.inl rfl)) pgs_nil))))
    (pss_cons (ps_if (PW.pt (pw_or (pt_not (pt_val (pe_call G__law_is_of (hr.mono (by first | decide | omega)) rfl T.m__law_is_of T.k__law_is_of T.b__law_is_of .nil pass0 (pa_cons (pv 3) (pa_cons (pv 9) pa_nil))))) (pw_or1 (pt_not (pt_chain op_le op_le pe_int (pv 10) (pv 7)))))) (pss_one (ps_ret pe_bl))
    pss_nil)
    (pss_one (ps_if (pt_cmpR op_eq (pe_call G__law_comes (hr.mono (by first | decide | omega)) rfl T.m__law_comes T.k__law_comes T.b__law_comes .nil pass0 (pa_cons (pv 4) (pa_cons (pv 5) (pa_cons (pv 9) (pa_cons (pv 10) pa_nil))))) (pe_call G__law_comes (hr.mono (by first | decide | omega)) rfl T.m__law_comes T.k__law_comes T.b__law_comes .nil pass0 (pa_cons (pv 4) (pa_cons (pv 6) (pa_cons (pv 9) (pa_cons (pv 10) pa_nil))))) (nomark _)) (pss_one (ps_ret pe_bl))
    pss_nil))))
    pss_nil)
    (pss_cons (ps_set (i := 11) sc_law.nd rfl (Or.inl rfl) (pe_op op_cat (pe_call G__law_all (hr.mono (by first | decide | omega)) rfl T.m__law_all T.k__law_all T.b__law_all .nil pass0 (pa_cons (pv 3) (pa_cons (pe_ix (kIxL K) (pe_lst (pa_cons pe_int (pa_cons pe_int (pa_cons pe_int (pa_cons pe_int (pa_cons pe_int pa_nil)))))) (pe_ix (kIxT K) (pv 3) pe_int (fun _ _ => rfl)) (fun _ _ => rfl)) pa_nil))) (pe_lc (own := [("_law_word", 9)]) rfl sc_law.nd (kPiL K (pe_call G__law_far (hr.mono (by first | decide | omega)) rfl T.m__law_far T.k__law_far T.b__law_far .nil pass0 (pa_cons (pv 1) (pa_cons (pv 3) (pa_cons pe_int pa_nil))))) (blkOk_by (own := [("_law_word", 9)]) (N := N_law) (sc := defScope s_law) (by decide +kernel)) (fun _ _ _ _ _ => (pg_name (i := 9) sc_law.nd rfl (Or.inl rfl))) (fun _ _ _ _ _ => (pts_one (pt_cmpR op_lt (pe_callB (id := "len") call_len_str (by rfl) T.z_len (by decide +kernel) (pa_cons (pv 9) pa_nil)) pe_int (nomark _)))) (fun _ _ _ _ _ => (pv 9)))))
    (pss_one (ps_for PassesOwn.never rfl (kPiL K (pv 11)) (pg_name (i := 9) sc_law.nd rfl (Or.inl rfl))
    (pss_one (ps_for PassesOwn.never rfl (pi_range1 (by rfl) T.z_range (pa_cons (pe_op op_add (pv 7) pe_int) pa_nil)) (pg_name (i := 10) sc_law.nd rfl (Or.inl rfl))
    (pss_one (ps_if (pt_cmpR op_ne (pe_call G__law_comes (hr.mono (by first | decide | omega)) rfl T.m__law_comes T.k__law_comes T.b__law_comes .nil pass0 (pa_cons (pv 4) (pa_cons (pv 5) (pa_cons (pv 9) (pa_cons (pv 10) pa_nil))))) (pe_call G__law_comes (hr.mono (by first | decide | omega)) rfl T.m__law_comes T.k__law_comes T.b__law_comes .nil pass0 (pa_cons (pv 4) (pa_cons (pv 6) (pa_cons (pv 9) (pa_cons (pv 10) pa_nil))))) (nomark _)) (pss_one (ps_if (PW.pt (pw_or (pt_cmpR op_isN (pv 8) pe_non (nomark _)) (pw_or1 (pt_cmpR (kLtP3 K hr) (pe_tup (pa_cons (pe_callB (id := "len") call_len_str (by rfl) T.z_len (by decide +kernel) (pa_cons (pv 9) pa_nil)) (pa_cons (pv 9) (pa_cons (pv 10) pa_nil)))) (pe_tup (pa_cons (pe_callB (id := "len") call_len_str (by rfl) T.z_len (by decide +kernel) (pa_cons (pe_ix (kIxT K) (pv 8) pe_int (fun _ _ => rfl)) pa_nil)) (pa_cons (pe_ix (kIxT K) (pv 8) pe_int (fun _ _ => rfl)) (pa_cons (pe_ix (kIxT K) (pv 8) pe_int (fun _ _ => rfl)) pa_nil)))) (nomark _))))) (pss_one (ps_ret pe_bl))
    pss_nil))
    pss_nil))))))))))))))
    (pss_one (ps_ret pe_bl)))), ?_⟩
  refine spLaw.ok 10 rfl h fun M p q hp hq Hs tr => ?_
  walk_at "st"
  refine sw_seq (sw_forW (ei_rng1 ?_))
  walk_at "go"
  refine ⟨fun i ρ k => ρ = [.no, .raw (.ref p), .no, .no, .no, .no, .no, .no, .no, .no, .no, .no] ∧ k ≤ 400 * i, ⟨_, Le.refl _, rfl, Nat.le_refl _⟩, ?_, ?_⟩
  · rintro i ρ1 k2 hi ⟨rfl, hk⟩
    have hi8 : i < 8 := hi
    walk_at "tg"
    walk_at "go"
    refine ⟨70, _, ⟨4, rfl, by omega, by omega, rfl, rfl⟩, by omega, ?_⟩
    rintro d ⟨L, N, rows, ends, rfl, ok⟩
    have l1 := ok.l1
    have l4 := ok.l4
    walk_at "go"
    refine ⟨9, _, ⟨L, rfl, l4, rfl, rfl⟩, by omega, ?_⟩
    rintro d ⟨us, rfl, u1, u2, hu⟩
    walk_at "tg"
    refine sw_seq (sw_par3 ?_)
    walk_at "ev"
    refine ⟨5, _, ⟨us, rfl, u1, u2, rfl, rfl⟩, by omega, ?_⟩
    rintro d ⟨one, rfl, a1, a2, a3⟩
    walk_at "ev"
    refine ⟨5, _, ⟨us, rfl, u1, u2, rfl, rfl⟩, by omega, ?_⟩
    rintro d ⟨oth0, rfl, b1, b2, b3⟩
    walk_at "ev"
    refine ⟨by omega, fun r hr => ?_⟩
    walk_at "ev"
    refine ⟨by omega, by simp, by simp, fun d hd => ?_⟩
    obtain ⟨most, rfl, hm⟩ : ∃ most : Nat, d = nI most ∧ most ≤ 20 := by
      simp only [List.mem_cons, List.not_mem_nil, or_false] at hd
      rcases hd with rfl | rfl | rfl
      · exact ⟨0, rfl, by omega⟩
      · exact ⟨2, rfl, by omega⟩
      · exact ⟨r, rfl, by omega⟩
    obtain ⟨k9, hk9⟩ : ∃ k9, k2 + 70 + 9 + 5 + 5 + 1 + 1 = k9 := ⟨_, rfl⟩
    rw [hk9]
    have hk9 : k9 ≤ 400 * i + 91 := by omega
    walk_at "ev"
    refine sw_seq (sw_set (ev_sl ?_))
    walk_at "ev"
    rw [show (some (1 : Int)) = some ((1 : Nat) : Int) from rfl, cut_takeG]
    refine rd_catT (by simp; omega) ?_
    walk_at "ev"
    rw [show (some (1 : Int)) = some ((1 : Nat) : Int) from rfl, cut_takeG]
    refine rd_catT (by simp; omega) ?_
    walk_at "ev"
    refine ⟨by omega, by simp, by simp, fun d hd => ?_⟩
    obtain ⟨ob, rfl, hob, hob2⟩ : ∃ ob : List Nat, d = encR ob ∧ ob ≠ [] ∧ ∀ x ∈ ob, x < us.length := by
      simp only [List.mem_cons, List.not_mem_nil, or_false] at hd
      rcases hd with rfl | rfl | rfl
      · exact ⟨oth0, rfl, b1, b3⟩
      · refine ⟨one ++ oth0.take 1, by rw [← List.map_take, ← List.map_append], by simp [a1], fun x hx => ?_⟩
        rcases List.mem_append.mp hx with hx | hx
        · exact a3 x hx
        · exact b3 x (List.mem_of_mem_take hx)
      · refine ⟨one.take 1 ++ oth0, by rw [← List.map_take, ← List.map_append], by simp [b1], fun x hx => ?_⟩
        rcases List.mem_append.mp hx with hx | hx
        · exact a3 x (List.mem_of_mem_take hx)
        · exact b3 x hx
    walk_at "ev"
    rw [show (some (4 : Int)) = some ((4 : Nat) : Int) from rfl, cut_takeG, ← List.map_take]
    obtain ⟨other, hother⟩ : ∃ other, ob.take 4 = other := ⟨_, rfl⟩
    rw [hother]
    have c1 : other ≠ [] := by
      rw [← hother]
      cases ob with
      | nil => exact absurd rfl hob
      | cons x xs => simp
    have c2 : other.length ≤ 4 := by rw [← hother, List.length_take]; omega
    have c3 : ∀ x ∈ other, x < us.length := fun x hx => hob2 x (by rw [← hother] at hx; exact List.mem_of_mem_take hx)
    clear hother hob hob2
    have usok : ∀ rd : List Nat, rd.length ≤ 4 → (∀ x ∈ rd, x < us.length) → UsOk us rd L := fun rd h1 h2 => ⟨fun x hx => ⟨us[x]'(h2 x hx), List.getElem?_eq_getElem _, (hu _ (List.getElem_mem _)).len⟩, by omega⟩
    have o1 := usok one a2 a3
    have o2 := usok other c2 c3
    refine sw_seq (sw_set (ev_call ?_))
    walk_at "ev"
    refine rc_q rfl ⟨L, N, rows, ends, us, one, other, most, rfl, ok, a1, c1, o1, o2, hm, rfl⟩ ?_
    intro told htold
    walk_at "tg"
    have letters : ∀ ws : List Nat, (∀ c ∈ ws, c < L) → ∀ c ∈ ws, c < 4 := fun ws h c hc => by
      have := h c hc
      omega
    refine sw_mid (fun ρ k => ∃ t9 t10 : Slot, ρ = [.no, .raw (.ref p), .dat (.int i), .dat (kindD L rows ends), .dat (.tuple (us.map encU)), .dat (encR one), .dat (encR other), .dat (nI most), .dat told, t9, t10, .no] ∧ k = k9 + 1) ?_ ?_
    · refine sw_if ?_
      walk_at "ev"
      rcases htold with ⟨rfl, _⟩ | ⟨u, n, rfl, ⟨⟨hk1, _⟩, _⟩, hn, hdf, _, hu1, hu2⟩
      · rw [show (!isNone PyData.none) = false from rfl]
        refine if_split (fun z => by cases z) (fun _ => ?_)
        exact sw_nx ⟨_, _, rfl, rfl⟩
      · rw [show (!isNone (PyData.tuple [nX u, nI n])) = true from rfl]
        refine if_split (fun _ => ?_) (fun z => by cases z)
        refine sw_seq (sw_asg (ev_var rfl ?_))
        walk_at "tg"
        refine sw_seq (sw_if ?_)
        walk_at "ev"
        refine rc_pure rfl ⟨L, N, rows, ends, u, rfl, ok, hu1, by omega, rfl⟩ ?_
        rw [(isOfB_iff rows ends u).mpr hk1]
        walk_at "ev"
        rw [decide_eq_true (show (0 : Int) ≤ (n : Int) by omega)]
        refine if_split (fun _ => ?_) (fun z => by cases z)
        walk_at "ev"
        rw [decide_eq_true (show (n : Int) ≤ (most : Int) by omega)]
        refine if_split (fun z => by cases z) (fun _ => ?_)
        refine sw_nx ?_
        refine sw_if ?_
        walk_at "ev"
        refine rc_pure rfl ⟨us, one, u, n, rfl, o1.rd a1 hu1 hu2, letters u hu1, rfl⟩ ?_
        walk_at "ev"
        refine rc_pure rfl ⟨us, other, u, n, rfl, o2.rd c1 hu1 hu2, letters u hu1, rfl⟩ ?_
        walk_at "ev"
        rw [decide_eq_false (show ¬ ((comesF us one u n : Nat) : Int) = comesF us other u n by omega)]
        refine if_split (fun z => by cases z) (fun _ => ?_)
        exact sw_nx ⟨_, _, rfl, rfl⟩
    · rintro ρ3 k3 ⟨t9, t10, rfl, rfl⟩
      obtain ⟨k, hk1, hk2, hk3⟩ := most47 l1 l4
      have alen := allK_len (rows := rows) (ends := ends) l1 hk2 (k + 1) (Nat.le_refl _)
      refine sw_seq (sw_set (ev_op (ev_call ?_)))
      walk_at "ev"
      refine rd_ixL (j := L) rfl hk1 ?_
      walk_at "ev"
      refine rc_pure rfl ⟨L, N, rows, ends, k, rfl, ok, hk2, hk3, rfl⟩ ?_
      refine ev_lc (ei_list ?_)
      walk_at "ev"
      refine ⟨200, _, ⟨L, N, rows, ends, 5, rfl, ok, by decide, rfl, rfl⟩, by omega, ?_⟩
      rintro d ⟨l, rfl, hl, hfar⟩
      refine ⟨_, rfl, by rw [List.length_map]; omega, ?_⟩
      rw [List.length_map]
      refine ⟨fun j acc k' => ∃ ls : List (List Nat), acc = ls.map nX ∧ ls.length ≤ j ∧ (∀ x ∈ ls, InK rows ends x ∧ x.length ≤ 40 ∧ ∀ c ∈ x, c < L) ∧ k' = k9 + 1 + 200, ⟨[], rfl, Nat.zero_le _, (fun _ z => nomatch z), rfl⟩, ?_, ?_⟩
      · rintro j acc k' hj ⟨ls, rfl, h1, h2, rfl⟩
        rw [itemD_map hj]
        have hx := hfar _ (List.getElem_mem hj)
        generalize l[j] = x at hx
        walk_at "tg"
        walk_at "ev"
        refine rc_lenX (by omega) ?_
        walk_at "ev"
        refine if_split (fun _ => ?_) (fun _ => ?_)
        · walk_at "ev"
          exact ⟨ls ++ [x], by rw [List.map_append]; rfl, by rw [List.length_append]; simp only [List.length_singleton]; omega, fun y hy => (List.mem_append.mp hy).elim (h2 y) fun z => by rw [List.mem_singleton.mp z]; exact hx, rfl⟩
        · exact ⟨ls, rfl, by omega, h2, rfl⟩
      · rintro acc k' _ ⟨ls, rfl, h1, h2, rfl⟩
        refine rd_catL (by rw [List.length_map, List.length_map]; omega) ?_
        rw [← List.map_append]
        have hall : ∀ x ∈ allK L rows ends (k + 1) ++ ls, InK rows ends x ∧ x.length ≤ 40 ∧ ∀ c ∈ x, c < L := fun x hx => by
          rcases List.mem_append.mp hx with hx | hx
          · obtain ⟨a, b, c⟩ := allK_mem hx
            exact ⟨a, by omega, c⟩
          · exact h2 x hx
        have hlen : (allK L rows ends (k + 1) ++ ls).length ≤ 100000 := by rw [List.length_append]; omega
        generalize allK L rows ends (k + 1) ++ ls = words at hall hlen
        refine sw_forW (ei_list (ev_var rfl ⟨_, rfl, ?_⟩))
        rw [List.length_map]
        refine ⟨fun _ ρ k' => ρ = [.no, .raw (.ref p), .no, .dat (kindD L rows ends), .dat (.tuple (us.map encU)), .dat (encR one), .dat (encR other), .dat (nI most), .dat told, .no, .no, .no] ∧ k' = k9 + 1 + 200, ⟨_, by walk_at "le", rfl, rfl⟩, ?_, ?_⟩
        · rintro j ρ4 k4 hj ⟨rfl, rfl⟩
          rw [itemD_map hj]
          obtain ⟨w1, w2, w3⟩ := hall _ (List.getElem_mem hj)
          generalize words[j] = ww at w1 w2 w3
          walk_at "tg"
          refine sw_forW (ei_rng1 ?_)
          walk_at "ev"
          refine ⟨by omega, by omega, ?_⟩
          rw [show ((most : Int) + 1).toNat = most + 1 by omega]
          refine ⟨fun _ ρ k' => ρ = [.no, .raw (.ref p), .no, .dat (kindD L rows ends), .dat (.tuple (us.map encU)), .dat (encR one), .dat (encR other), .dat (nI most), .dat told, .dat (nX ww), .no, .no] ∧ k' = k9 + 1 + 200, ⟨_, by walk_at "le", rfl, rfl⟩, ?_, ?_⟩
          · rintro n ρ5 k5 hn ⟨rfl, rfl⟩
            walk_at "tg"
            refine sw_if ?_
            walk_at "ev"
            refine rc_pure rfl ⟨us, one, ww, n, rfl, o1.rd a1 w3 (by omega), letters ww w3, rfl⟩ ?_
            walk_at "ev"
            refine rc_pure rfl ⟨us, other, ww, n, rfl, o2.rd c1 w3 (by omega), letters ww w3, rfl⟩ ?_
            walk_at "ev"
            by_cases e : comesF us one ww n = comesF us other ww n
            · rw [decide_eq_true (show ((comesF us one ww n : Nat) : Int) = comesF us other ww n by omega)]
              refine if_split (fun z => by cases z) (fun _ => ?_)
              refine sw_nx ?_
              exact ⟨_, by walk_at "le", rfl, rfl⟩
            · rw [decide_eq_false (show ¬ ((comesF us one ww n : Nat) : Int) = comesF us other ww n by omega)]
              refine if_split (fun _ => ?_) (fun z => by cases z)
              refine sw_if ?_
              walk_at "ev"
              have hw : InK rows ends ww ∧ difF us one other most ww := ⟨w1, n, by omega, e⟩
              rcases htold with ⟨rfl, no⟩ | ⟨u, n', rfl, ⟨_, hmin⟩, hn', hdf, hleast, hu1, hu2⟩
              · exact absurd hw (no ww)
              · rw [show isNone (PyData.tuple [nX u, nI n']) = false from rfl]
                refine if_split (fun z => by cases z) (fun _ => ?_)
                walk_at "ev"
                refine rc_lenX (by omega) ?_
                walk_at "ev"
                refine rc_lenX (by omega) ?_
                walk_at "ev"
                refine rd_ltP3 ?_
                rw [lt3_slt (hmin ww hw) (fun z => Nat.le_of_not_lt fun lt => e (by rw [z]; exact hleast n lt))]
                refine ⟨_, rfl, ?_⟩
                refine if_split (fun z => by cases z) (fun _ => ?_)
                refine sw_nx ?_
                exact ⟨_, by walk_at "le", rfl, rfl⟩
          · rintro ρ5 k5 ⟨rfl, rfl⟩
            exact ⟨_, by walk_at "le", rfl, rfl⟩
        · rintro ρ4 k4 ⟨rfl, rfl⟩
          exact ⟨_, by walk_at "le", rfl, by omega⟩
  · rintro ρ1 k2 ⟨rfl, hk⟩
    walk_at "go"
end

-- SPLIT
theorem all_mk {l : PySem.W.OpenLaw} {w : World} {K : PySem.W.Frag} {h : Heap} {mg : Str → Option Value} {fa : Addr} (X : K.In h) (G : h.Ns mainGlobals mg) (hfa : mg "law" = some (.ref fa))
    {f_letter_number : Addr} {od_letter_number an_letter_number : Option Addr} {sl_letter_number : Array (Option Value)} {oc_letter_number kV_letter_number dc_letter_number pm_letter_number cd_letter_number ct_letter_number : Value}
    {f_word_to : Addr} {od_word_to an_word_to : Option Addr} {sl_word_to : Array (Option Value)} {oc_word_to kV_word_to dc_word_to pm_word_to cd_word_to ct_word_to : Value}
    {f_least_counts : Addr} {od_least_counts an_least_counts : Option Addr} {sl_least_counts : Array (Option Value)} {oc_least_counts kV_least_counts dc_least_counts pm_least_counts cd_least_counts ct_least_counts : Value}
    {f__turned : Addr} {od__turned an__turned : Option Addr} {sl__turned : Array (Option Value)} {oc__turned kV__turned dc__turned pm__turned cd__turned ct__turned : Value}
    {f_within : Addr} {od_within an_within : Option Addr} {sl_within : Array (Option Value)} {oc_within kV_within dc_within pm_within cd_within ct_within : Value}
    {f_trimmed : Addr} {od_trimmed an_trimmed : Option Addr} {sl_trimmed : Array (Option Value)} {oc_trimmed kV_trimmed dc_trimmed pm_trimmed cd_trimmed ct_trimmed : Value}
    {f_comes_to : Addr} {od_comes_to an_comes_to : Option Addr} {sl_comes_to : Array (Option Value)} {oc_comes_to kV_comes_to dc_comes_to pm_comes_to cd_comes_to ct_comes_to : Value}
    {f__read : Addr} {od__read an__read : Option Addr} {sl__read : Array (Option Value)} {oc__read kV__read dc__read pm__read cd__read ct__read : Value}
    {f__left : Addr} {od__left an__left : Option Addr} {sl__left : Array (Option Value)} {oc__left kV__left dc__left pm__left cd__left ct__left : Value}
    {f__positions : Addr} {od__positions an__positions : Option Addr} {sl__positions : Array (Option Value)} {oc__positions kV__positions dc__positions pm__positions cd__positions ct__positions : Value}
    {f__onward : Addr} {od__onward an__onward : Option Addr} {sl__onward : Array (Option Value)} {oc__onward kV__onward dc__onward pm__onward cd__onward ct__onward : Value}
    {f__pair_on : Addr} {od__pair_on an__pair_on : Option Addr} {sl__pair_on : Array (Option Value)} {oc__pair_on kV__pair_on dc__pair_on pm__pair_on cd__pair_on ct__pair_on : Value}
    {f__first_unlike : Addr} {od__first_unlike an__first_unlike : Option Addr} {sl__first_unlike : Array (Option Value)} {oc__first_unlike kV__first_unlike dc__first_unlike pm__first_unlike cd__first_unlike ct__first_unlike : Value}
    {f_unlike_roads : Addr} {od_unlike_roads an_unlike_roads : Option Addr} {sl_unlike_roads : Array (Option Value)} {oc_unlike_roads kV_unlike_roads dc_unlike_roads pm_unlike_roads cd_unlike_roads ct_unlike_roads : Value}
    {f__law_deck : Addr} {od__law_deck an__law_deck : Option Addr} {sl__law_deck : Array (Option Value)} {oc__law_deck kV__law_deck dc__law_deck pm__law_deck cd__law_deck ct__law_deck : Value}
    {f__law_draw : Addr} {od__law_draw an__law_draw : Option Addr} {sl__law_draw : Array (Option Value)} {oc__law_draw kV__law_draw dc__law_draw pm__law_draw cd__law_draw ct__law_draw : Value}
    {f__law_one : Addr} {od__law_one an__law_one : Option Addr} {sl__law_one : Array (Option Value)} {oc__law_one kV__law_one dc__law_one pm__law_one cd__law_one ct__law_one : Value}
    {f__law_count : Addr} {od__law_count an__law_count : Option Addr} {sl__law_count : Array (Option Value)} {oc__law_count kV__law_count dc__law_count pm__law_count cd__law_count ct__law_count : Value}
    {f__law_kind : Addr} {od__law_kind an__law_kind : Option Addr} {sl__law_kind : Array (Option Value)} {oc__law_kind kV__law_kind dc__law_kind pm__law_kind cd__law_kind ct__law_kind : Value}
    {f__law_is_of : Addr} {od__law_is_of an__law_is_of : Option Addr} {sl__law_is_of : Array (Option Value)} {oc__law_is_of kV__law_is_of dc__law_is_of pm__law_is_of cd__law_is_of ct__law_is_of : Value}
    {f__law_words : Addr} {od__law_words an__law_words : Option Addr} {sl__law_words : Array (Option Value)} {oc__law_words kV__law_words dc__law_words pm__law_words cd__law_words ct__law_words : Value}
    {f__law_all : Addr} {od__law_all an__law_all : Option Addr} {sl__law_all : Array (Option Value)} {oc__law_all kV__law_all dc__law_all pm__law_all cd__law_all ct__law_all : Value}
    {f__law_far : Addr} {od__law_far an__law_far : Option Addr} {sl__law_far : Array (Option Value)} {oc__law_far kV__law_far dc__law_far pm__law_far cd__law_far ct__law_far : Value}
    {f__law_long : Addr} {od__law_long an__law_long : Option Addr} {sl__law_long : Array (Option Value)} {oc__law_long kV__law_long dc__law_long pm__law_long cd__law_long ct__law_long : Value}
    {f__law_some_kind : Addr} {od__law_some_kind an__law_some_kind : Option Addr} {sl__law_some_kind : Array (Option Value)} {oc__law_some_kind kV__law_some_kind dc__law_some_kind pm__law_some_kind cd__law_some_kind ct__law_some_kind : Value}
    {f_law : Addr} {od_law an_law : Option Addr} {sl_law : Array (Option Value)} {oc_law kV_law dc_law pm_law cd_law ct_law : Value}
    {f__law_road : Addr} {od__law_road an__law_road : Option Addr} {sl__law_road : Array (Option Value)} {oc__law_road kV__law_road dc__law_road pm__law_road cd__law_road ct__law_road : Value}
    {f__law_read : Addr} {od__law_read an__law_read : Option Addr} {sl__law_read : Array (Option Value)} {oc__law_read kV__law_read dc__law_read pm__law_read cd__law_read ct__law_read : Value}
    {f__law_comes : Addr} {od__law_comes an__law_comes : Option Addr} {sl__law_comes : Array (Option Value)} {oc__law_comes kV__law_comes dc__law_comes pm__law_comes cd__law_comes ct__law_comes : Value}
    {f__law_few_units : Addr} {od__law_few_units an__law_few_units : Option Addr} {sl__law_few_units : Array (Option Value)} {oc__law_few_units kV__law_few_units dc__law_few_units pm__law_few_units cd__law_few_units ct__law_few_units : Value}
    (a_letter_number : PySem.W.nsIn K mainGlobals "letter_number" = some (some (.ref f_letter_number))) (l_letter_number : K.lookup f_letter_number = some ⟨oc_letter_number, od_letter_number, .func (PySem.W.fnOf "letter_number" "letter_number" (defArgs s_letter_number) (defBody s_letter_number) (defScope s_letter_number) .none kV_letter_number dc_letter_number pm_letter_number an_letter_number cd_letter_number ct_letter_number), sl_letter_number⟩) (e_letter_number : PySem.W.codeIn K cd_letter_number "letter_number" = true) (k_letter_number : PySem.W.keepIn K (.ref f_letter_number) = true)
    (a_word_to : PySem.W.nsIn K mainGlobals "word_to" = some (some (.ref f_word_to))) (l_word_to : K.lookup f_word_to = some ⟨oc_word_to, od_word_to, .func (PySem.W.fnOf "word_to" "word_to" (defArgs s_word_to) (defBody s_word_to) (defScope s_word_to) .none kV_word_to dc_word_to pm_word_to an_word_to cd_word_to ct_word_to), sl_word_to⟩) (e_word_to : PySem.W.codeIn K cd_word_to "word_to" = true) (k_word_to : PySem.W.keepIn K (.ref f_word_to) = true)
    (a_least_counts : PySem.W.nsIn K mainGlobals "least_counts" = some (some (.ref f_least_counts))) (l_least_counts : K.lookup f_least_counts = some ⟨oc_least_counts, od_least_counts, .func (PySem.W.fnOf "least_counts" "least_counts" (defArgs s_least_counts) (defBody s_least_counts) (defScope s_least_counts) .none kV_least_counts dc_least_counts pm_least_counts an_least_counts cd_least_counts ct_least_counts), sl_least_counts⟩) (e_least_counts : PySem.W.codeIn K cd_least_counts "least_counts" = true) (k_least_counts : PySem.W.keepIn K (.ref f_least_counts) = true)
    (a__turned : PySem.W.nsIn K mainGlobals "_turned" = some (some (.ref f__turned))) (l__turned : K.lookup f__turned = some ⟨oc__turned, od__turned, .func (PySem.W.fnOf "_turned" "_turned" (defArgs s__turned) (defBody s__turned) (defScope s__turned) .none kV__turned dc__turned pm__turned an__turned cd__turned ct__turned), sl__turned⟩) (e__turned : PySem.W.codeIn K cd__turned "_turned" = true) (k__turned : PySem.W.keepIn K (.ref f__turned) = true)
    (a_within : PySem.W.nsIn K mainGlobals "within" = some (some (.ref f_within))) (l_within : K.lookup f_within = some ⟨oc_within, od_within, .func (PySem.W.fnOf "within" "within" (defArgs s_within) (defBody s_within) (defScope s_within) .none kV_within dc_within pm_within an_within cd_within ct_within), sl_within⟩) (e_within : PySem.W.codeIn K cd_within "within" = true) (k_within : PySem.W.keepIn K (.ref f_within) = true)
    (a_trimmed : PySem.W.nsIn K mainGlobals "trimmed" = some (some (.ref f_trimmed))) (l_trimmed : K.lookup f_trimmed = some ⟨oc_trimmed, od_trimmed, .func (PySem.W.fnOf "trimmed" "trimmed" (defArgs s_trimmed) (defBody s_trimmed) (defScope s_trimmed) .none kV_trimmed dc_trimmed pm_trimmed an_trimmed cd_trimmed ct_trimmed), sl_trimmed⟩) (e_trimmed : PySem.W.codeIn K cd_trimmed "trimmed" = true) (k_trimmed : PySem.W.keepIn K (.ref f_trimmed) = true)
    (a_comes_to : PySem.W.nsIn K mainGlobals "comes_to" = some (some (.ref f_comes_to))) (l_comes_to : K.lookup f_comes_to = some ⟨oc_comes_to, od_comes_to, .func (PySem.W.fnOf "comes_to" "comes_to" (defArgs s_comes_to) (defBody s_comes_to) (defScope s_comes_to) .none kV_comes_to dc_comes_to pm_comes_to an_comes_to cd_comes_to ct_comes_to), sl_comes_to⟩) (e_comes_to : PySem.W.codeIn K cd_comes_to "comes_to" = true) (k_comes_to : PySem.W.keepIn K (.ref f_comes_to) = true)
    (a__read : PySem.W.nsIn K mainGlobals "_read" = some (some (.ref f__read))) (l__read : K.lookup f__read = some ⟨oc__read, od__read, .func (PySem.W.fnOf "_read" "_read" (defArgs s__read) (defBody s__read) (defScope s__read) .none kV__read dc__read pm__read an__read cd__read ct__read), sl__read⟩) (e__read : PySem.W.codeIn K cd__read "_read" = true) (k__read : PySem.W.keepIn K (.ref f__read) = true)
    (a__left : PySem.W.nsIn K mainGlobals "_left" = some (some (.ref f__left))) (l__left : K.lookup f__left = some ⟨oc__left, od__left, .func (PySem.W.fnOf "_left" "_left" (defArgs s__left) (defBody s__left) (defScope s__left) .none kV__left dc__left pm__left an__left cd__left ct__left), sl__left⟩) (e__left : PySem.W.codeIn K cd__left "_left" = true) (k__left : PySem.W.keepIn K (.ref f__left) = true)
    (a__positions : PySem.W.nsIn K mainGlobals "_positions" = some (some (.ref f__positions))) (l__positions : K.lookup f__positions = some ⟨oc__positions, od__positions, .func (PySem.W.fnOf "_positions" "_positions" (defArgs s__positions) (defBody s__positions) (defScope s__positions) .none kV__positions dc__positions pm__positions an__positions cd__positions ct__positions), sl__positions⟩) (e__positions : PySem.W.codeIn K cd__positions "_positions" = true) (k__positions : PySem.W.keepIn K (.ref f__positions) = true)
    (a__onward : PySem.W.nsIn K mainGlobals "_onward" = some (some (.ref f__onward))) (l__onward : K.lookup f__onward = some ⟨oc__onward, od__onward, .func (PySem.W.fnOf "_onward" "_onward" (defArgs s__onward) (defBody s__onward) (defScope s__onward) .none kV__onward dc__onward pm__onward an__onward cd__onward ct__onward), sl__onward⟩) (e__onward : PySem.W.codeIn K cd__onward "_onward" = true) (k__onward : PySem.W.keepIn K (.ref f__onward) = true)
    (a__pair_on : PySem.W.nsIn K mainGlobals "_pair_on" = some (some (.ref f__pair_on))) (l__pair_on : K.lookup f__pair_on = some ⟨oc__pair_on, od__pair_on, .func (PySem.W.fnOf "_pair_on" "_pair_on" (defArgs s__pair_on) (defBody s__pair_on) (defScope s__pair_on) .none kV__pair_on dc__pair_on pm__pair_on an__pair_on cd__pair_on ct__pair_on), sl__pair_on⟩) (e__pair_on : PySem.W.codeIn K cd__pair_on "_pair_on" = true) (k__pair_on : PySem.W.keepIn K (.ref f__pair_on) = true)
    (a__first_unlike : PySem.W.nsIn K mainGlobals "_first_unlike" = some (some (.ref f__first_unlike))) (l__first_unlike : K.lookup f__first_unlike = some ⟨oc__first_unlike, od__first_unlike, .func (PySem.W.fnOf "_first_unlike" "_first_unlike" (defArgs s__first_unlike) (defBody s__first_unlike) (defScope s__first_unlike) .none kV__first_unlike dc__first_unlike pm__first_unlike an__first_unlike cd__first_unlike ct__first_unlike), sl__first_unlike⟩) (e__first_unlike : PySem.W.codeIn K cd__first_unlike "_first_unlike" = true) (k__first_unlike : PySem.W.keepIn K (.ref f__first_unlike) = true)
    (a_unlike_roads : PySem.W.nsIn K mainGlobals "unlike_roads" = some (some (.ref f_unlike_roads))) (l_unlike_roads : K.lookup f_unlike_roads = some ⟨oc_unlike_roads, od_unlike_roads, .func (PySem.W.fnOf "unlike_roads" "unlike_roads" (defArgs s_unlike_roads) (defBody s_unlike_roads) (defScope s_unlike_roads) .none kV_unlike_roads dc_unlike_roads pm_unlike_roads an_unlike_roads cd_unlike_roads ct_unlike_roads), sl_unlike_roads⟩) (e_unlike_roads : PySem.W.codeIn K cd_unlike_roads "unlike_roads" = true) (k_unlike_roads : PySem.W.keepIn K (.ref f_unlike_roads) = true)
    (a__law_deck : PySem.W.nsIn K mainGlobals "_law_deck" = some (some (.ref f__law_deck))) (l__law_deck : K.lookup f__law_deck = some ⟨oc__law_deck, od__law_deck, .func (PySem.W.fnOf "_law_deck" "_law_deck" (defArgs s__law_deck) (defBody s__law_deck) (defScope s__law_deck) .none kV__law_deck dc__law_deck pm__law_deck an__law_deck cd__law_deck ct__law_deck), sl__law_deck⟩) (e__law_deck : PySem.W.codeIn K cd__law_deck "_law_deck" = true) (k__law_deck : PySem.W.keepIn K (.ref f__law_deck) = true)
    (a__law_draw : PySem.W.nsIn K mainGlobals "_law_draw" = some (some (.ref f__law_draw))) (l__law_draw : K.lookup f__law_draw = some ⟨oc__law_draw, od__law_draw, .func (PySem.W.fnOf "_law_draw" "_law_draw" (defArgs s__law_draw) (defBody s__law_draw) (defScope s__law_draw) .none kV__law_draw dc__law_draw pm__law_draw an__law_draw cd__law_draw ct__law_draw), sl__law_draw⟩) (e__law_draw : PySem.W.codeIn K cd__law_draw "_law_draw" = true) (k__law_draw : PySem.W.keepIn K (.ref f__law_draw) = true)
    (a__law_one : PySem.W.nsIn K mainGlobals "_law_one" = some (some (.ref f__law_one))) (l__law_one : K.lookup f__law_one = some ⟨oc__law_one, od__law_one, .func (PySem.W.fnOf "_law_one" "_law_one" (defArgs s__law_one) (defBody s__law_one) (defScope s__law_one) .none kV__law_one dc__law_one pm__law_one an__law_one cd__law_one ct__law_one), sl__law_one⟩) (e__law_one : PySem.W.codeIn K cd__law_one "_law_one" = true) (k__law_one : PySem.W.keepIn K (.ref f__law_one) = true)
    (a__law_count : PySem.W.nsIn K mainGlobals "_law_count" = some (some (.ref f__law_count))) (l__law_count : K.lookup f__law_count = some ⟨oc__law_count, od__law_count, .func (PySem.W.fnOf "_law_count" "_law_count" (defArgs s__law_count) (defBody s__law_count) (defScope s__law_count) .none kV__law_count dc__law_count pm__law_count an__law_count cd__law_count ct__law_count), sl__law_count⟩) (e__law_count : PySem.W.codeIn K cd__law_count "_law_count" = true) (k__law_count : PySem.W.keepIn K (.ref f__law_count) = true)
    (a__law_kind : PySem.W.nsIn K mainGlobals "_law_kind" = some (some (.ref f__law_kind))) (l__law_kind : K.lookup f__law_kind = some ⟨oc__law_kind, od__law_kind, .func (PySem.W.fnOf "_law_kind" "_law_kind" (defArgs s__law_kind) (defBody s__law_kind) (defScope s__law_kind) .none kV__law_kind dc__law_kind pm__law_kind an__law_kind cd__law_kind ct__law_kind), sl__law_kind⟩) (e__law_kind : PySem.W.codeIn K cd__law_kind "_law_kind" = true) (k__law_kind : PySem.W.keepIn K (.ref f__law_kind) = true)
    (a__law_is_of : PySem.W.nsIn K mainGlobals "_law_is_of" = some (some (.ref f__law_is_of))) (l__law_is_of : K.lookup f__law_is_of = some ⟨oc__law_is_of, od__law_is_of, .func (PySem.W.fnOf "_law_is_of" "_law_is_of" (defArgs s__law_is_of) (defBody s__law_is_of) (defScope s__law_is_of) .none kV__law_is_of dc__law_is_of pm__law_is_of an__law_is_of cd__law_is_of ct__law_is_of), sl__law_is_of⟩) (e__law_is_of : PySem.W.codeIn K cd__law_is_of "_law_is_of" = true) (k__law_is_of : PySem.W.keepIn K (.ref f__law_is_of) = true)
    (a__law_words : PySem.W.nsIn K mainGlobals "_law_words" = some (some (.ref f__law_words))) (l__law_words : K.lookup f__law_words = some ⟨oc__law_words, od__law_words, .func (PySem.W.fnOf "_law_words" "_law_words" (defArgs s__law_words) (defBody s__law_words) (defScope s__law_words) .none kV__law_words dc__law_words pm__law_words an__law_words cd__law_words ct__law_words), sl__law_words⟩) (e__law_words : PySem.W.codeIn K cd__law_words "_law_words" = true) (k__law_words : PySem.W.keepIn K (.ref f__law_words) = true)
    (a__law_all : PySem.W.nsIn K mainGlobals "_law_all" = some (some (.ref f__law_all))) (l__law_all : K.lookup f__law_all = some ⟨oc__law_all, od__law_all, .func (PySem.W.fnOf "_law_all" "_law_all" (defArgs s__law_all) (defBody s__law_all) (defScope s__law_all) .none kV__law_all dc__law_all pm__law_all an__law_all cd__law_all ct__law_all), sl__law_all⟩) (e__law_all : PySem.W.codeIn K cd__law_all "_law_all" = true) (k__law_all : PySem.W.keepIn K (.ref f__law_all) = true)
    (a__law_far : PySem.W.nsIn K mainGlobals "_law_far" = some (some (.ref f__law_far))) (l__law_far : K.lookup f__law_far = some ⟨oc__law_far, od__law_far, .func (PySem.W.fnOf "_law_far" "_law_far" (defArgs s__law_far) (defBody s__law_far) (defScope s__law_far) .none kV__law_far dc__law_far pm__law_far an__law_far cd__law_far ct__law_far), sl__law_far⟩) (e__law_far : PySem.W.codeIn K cd__law_far "_law_far" = true) (k__law_far : PySem.W.keepIn K (.ref f__law_far) = true)
    (a__law_long : PySem.W.nsIn K mainGlobals "_law_long" = some (some (.ref f__law_long))) (l__law_long : K.lookup f__law_long = some ⟨oc__law_long, od__law_long, .func (PySem.W.fnOf "_law_long" "_law_long" (defArgs s__law_long) (defBody s__law_long) (defScope s__law_long) .none kV__law_long dc__law_long pm__law_long an__law_long cd__law_long ct__law_long), sl__law_long⟩) (e__law_long : PySem.W.codeIn K cd__law_long "_law_long" = true) (k__law_long : PySem.W.keepIn K (.ref f__law_long) = true)
    (a__law_some_kind : PySem.W.nsIn K mainGlobals "_law_some_kind" = some (some (.ref f__law_some_kind))) (l__law_some_kind : K.lookup f__law_some_kind = some ⟨oc__law_some_kind, od__law_some_kind, .func (PySem.W.fnOf "_law_some_kind" "_law_some_kind" (defArgs s__law_some_kind) (defBody s__law_some_kind) (defScope s__law_some_kind) .none kV__law_some_kind dc__law_some_kind pm__law_some_kind an__law_some_kind cd__law_some_kind ct__law_some_kind), sl__law_some_kind⟩) (e__law_some_kind : PySem.W.codeIn K cd__law_some_kind "_law_some_kind" = true) (k__law_some_kind : PySem.W.keepIn K (.ref f__law_some_kind) = true)
    (a_law : PySem.W.nsIn K mainGlobals "law" = some (some (.ref f_law))) (l_law : K.lookup f_law = some ⟨oc_law, od_law, .func (PySem.W.fnOf "law" "law" (defArgs s_law) (defBody s_law) (defScope s_law) .none kV_law dc_law pm_law an_law cd_law ct_law), sl_law⟩) (e_law : PySem.W.codeIn K cd_law "law" = true) (k_law : PySem.W.keepIn K (.ref f_law) = true)
    (a__law_road : PySem.W.nsIn K mainGlobals "_law_road" = some (some (.ref f__law_road))) (l__law_road : K.lookup f__law_road = some ⟨oc__law_road, od__law_road, .func (PySem.W.fnOf "_law_road" "_law_road" (defArgs s__law_road) (defBody s__law_road) (defScope s__law_road) .none kV__law_road dc__law_road pm__law_road an__law_road cd__law_road ct__law_road), sl__law_road⟩) (e__law_road : PySem.W.codeIn K cd__law_road "_law_road" = true) (k__law_road : PySem.W.keepIn K (.ref f__law_road) = true)
    (a__law_read : PySem.W.nsIn K mainGlobals "_law_read" = some (some (.ref f__law_read))) (l__law_read : K.lookup f__law_read = some ⟨oc__law_read, od__law_read, .func (PySem.W.fnOf "_law_read" "_law_read" (defArgs s__law_read) (defBody s__law_read) (defScope s__law_read) .none kV__law_read dc__law_read pm__law_read an__law_read cd__law_read ct__law_read), sl__law_read⟩) (e__law_read : PySem.W.codeIn K cd__law_read "_law_read" = true) (k__law_read : PySem.W.keepIn K (.ref f__law_read) = true)
    (a__law_comes : PySem.W.nsIn K mainGlobals "_law_comes" = some (some (.ref f__law_comes))) (l__law_comes : K.lookup f__law_comes = some ⟨oc__law_comes, od__law_comes, .func (PySem.W.fnOf "_law_comes" "_law_comes" (defArgs s__law_comes) (defBody s__law_comes) (defScope s__law_comes) .none kV__law_comes dc__law_comes pm__law_comes an__law_comes cd__law_comes ct__law_comes), sl__law_comes⟩) (e__law_comes : PySem.W.codeIn K cd__law_comes "_law_comes" = true) (k__law_comes : PySem.W.keepIn K (.ref f__law_comes) = true)
    (a__law_few_units : PySem.W.nsIn K mainGlobals "_law_few_units" = some (some (.ref f__law_few_units))) (l__law_few_units : K.lookup f__law_few_units = some ⟨oc__law_few_units, od__law_few_units, .func (PySem.W.fnOf "_law_few_units" "_law_few_units" (defArgs s__law_few_units) (defBody s__law_few_units) (defScope s__law_few_units) .none kV__law_few_units dc__law_few_units pm__law_few_units an__law_few_units cd__law_few_units ct__law_few_units), sl__law_few_units⟩) (e__law_few_units : PySem.W.codeIn K cd__law_few_units "_law_few_units" = true) (k__law_few_units : PySem.W.keepIn K (.ref f__law_few_units) = true)
    (z_abs : PySem.W.nsIn K mainGlobals "abs" = some none)
    (z_enumerate : PySem.W.nsIn K mainGlobals "enumerate" = some none)
    (z_int : PySem.W.nsIn K mainGlobals "int" = some none)
    (z_len : PySem.W.nsIn K mainGlobals "len" = some none)
    (z_list : PySem.W.nsIn K mainGlobals "list" = some none)
    (z_max : PySem.W.nsIn K mainGlobals "max" = some none)
    (z_ord : PySem.W.nsIn K mainGlobals "ord" = some none)
    (z_range : PySem.W.nsIn K mainGlobals "range" = some none)
    (z_sum : PySem.W.nsIn K mainGlobals "sum" = some none)
    (z_tuple : PySem.W.nsIn K mainGlobals "tuple" = some none)
    (z_zip : PySem.W.nsIn K mainGlobals "zip" = some none)
    {t_APART : Tok} (c_APART : PySem.W.nsIn K mainGlobals "APART" = some (some (.int (Int.negSucc 1) t_APART)))
    {t_LETTERS : Tok} (c_LETTERS : PySem.W.nsIn K mainGlobals "LETTERS" = some (some (.str "abcdefghijklmnopqrstuvwxyz" t_LETTERS)))
    {t_STOPPED : Tok} (c_STOPPED : PySem.W.nsIn K mainGlobals "STOPPED" = some (some (.int (Int.negSucc 0) t_STOPPED)))
    : ∃ fd : FuncData, (∀ (s : Shared) (v : Value), BindsTo s fd ⟨[v], []⟩ [("_law_script", v)]) ∧ ∀ base : Heap, K.In base → base.Ns mainGlobals mg → FnG l.prog w K mg base 5 fa fd ["_law_script"] (sp_law K) := by
  have e := (PySem.W.mg_of X G a_law).symm.trans hfa
  have e2 : f_law = fa := by injection e with e; injection e
  subst e2
  have F_letter_number := fun_mk (st := s_letter_number) l_letter_number e_letter_number k_letter_number
  have b_letter_number := F_letter_number.binds (ps := ["letter"]) fun _ _ _ _ _ _ us hl => match us, hl with | [_], _ => rfl
  have F_word_to := fun_mk (st := s_word_to) l_word_to e_word_to k_word_to
  have b_word_to := F_word_to.binds (ps := ["came", "at"]) fun _ _ _ _ _ _ us hl => match us, hl with | [_, _], _ => rfl
  have F_least_counts := fun_mk (st := s_least_counts) l_least_counts e_least_counts k_least_counts
  have b_least_counts := F_least_counts.binds (ps := ["steps", "begins"]) fun _ _ _ _ _ _ us hl => match us, hl with | [_, _], _ => rfl
  have F__turned := fun_mk (st := s__turned) l__turned e__turned k__turned
  have b__turned := F__turned.binds (ps := ["steps"]) fun _ _ _ _ _ _ us hl => match us, hl with | [_], _ => rfl
  have F_within := fun_mk (st := s_within) l_within e_within k_within
  have b_within := F_within.binds (ps := ["kind", "unit", "most"]) fun _ _ _ _ _ _ us hl => match us, hl with | [_, _, _], _ => rfl
  have F_trimmed := fun_mk (st := s_trimmed) l_trimmed e_trimmed k_trimmed
  have b_trimmed := F_trimmed.binds (ps := ["kind"]) fun _ _ _ _ _ _ us hl => match us, hl with | [_], _ => rfl
  have F_comes_to := fun_mk (st := s_comes_to) l_comes_to e_comes_to k_comes_to
  have b_comes_to := F_comes_to.binds (ps := ["units", "road", "word", "number"]) fun _ _ _ _ _ _ us hl => match us, hl with | [_, _, _, _], _ => rfl
  have F__read := fun_mk (st := s__read) l__read e__read k__read
  have b__read := F__read.binds (ps := ["unit", "word", "place", "number"]) fun _ _ _ _ _ _ us hl => match us, hl with | [_, _, _, _], _ => rfl
  have F__left := fun_mk (st := s__left) l__left e__left k__left
  have b__left := F__left.binds (ps := ["units", "rest", "letter"]) fun _ _ _ _ _ _ us hl => match us, hl with | [_, _, _], _ => rfl
  have F__positions := fun_mk (st := s__positions) l__positions e__positions k__positions
  have b__positions := F__positions.binds (ps := ["one", "other", "most"]) fun _ _ _ _ _ _ us hl => match us, hl with | [_, _, _], _ => rfl
  have F__onward := fun_mk (st := s__onward) l__onward e__onward k__onward
  have b__onward := F__onward.binds (ps := ["units", "road", "positions", "most", "letter"]) fun _ _ _ _ _ _ us hl => match us, hl with | [_, _, _, _, _], _ => rfl
  have F__pair_on := fun_mk (st := s__pair_on) l__pair_on e__pair_on k__pair_on
  have b__pair_on := F__pair_on.binds (ps := ["onward", "here", "there", "most"]) fun _ _ _ _ _ _ us hl => match us, hl with | [_, _, _, _], _ => rfl
  have F__first_unlike := fun_mk (st := s__first_unlike) l__first_unlike e__first_unlike k__first_unlike
  have b__first_unlike := F__first_unlike.binds (ps := ["kind", "units", "one", "other", "most"]) fun _ _ _ _ _ _ us hl => match us, hl with | [_, _, _, _, _], _ => rfl
  have F_unlike_roads := fun_mk (st := s_unlike_roads) l_unlike_roads e_unlike_roads k_unlike_roads
  have b_unlike_roads := F_unlike_roads.binds (ps := ["kind", "units", "one", "other", "most"]) fun _ _ _ _ _ _ us hl => match us, hl with | [_, _, _, _, _], _ => rfl
  have F__law_deck := fun_mk (st := s__law_deck) l__law_deck e__law_deck k__law_deck
  have b__law_deck := F__law_deck.binds (ps := ["_law_script"]) fun _ _ _ _ _ _ us hl => match us, hl with | [_], _ => rfl
  have F__law_draw := fun_mk (st := s__law_draw) l__law_draw e__law_draw k__law_draw
  have b__law_draw := F__law_draw.binds (ps := ["_law_deck_here", "_law_most"]) fun _ _ _ _ _ _ us hl => match us, hl with | [_, _], _ => rfl
  have F__law_one := fun_mk (st := s__law_one) l__law_one e__law_one k__law_one
  have b__law_one := F__law_one.binds (ps := ["_law_deck_here", "_law_items"]) fun _ _ _ _ _ _ us hl => match us, hl with | [_, _], _ => rfl
  have F__law_count := fun_mk (st := s__law_count) l__law_count e__law_count k__law_count
  have b__law_count := F__law_count.binds (ps := ["_law_unit_here", "_law_word"]) fun _ _ _ _ _ _ us hl => match us, hl with | [_, _], _ => rfl
  have F__law_kind := fun_mk (st := s__law_kind) l__law_kind e__law_kind k__law_kind
  have b__law_kind := F__law_kind.binds (ps := ["_law_deck_here", "_law_most", "_law_states"]) fun _ _ _ _ _ _ us hl => match us, hl with | [_, _, _], _ => rfl
  have F__law_is_of := fun_mk (st := s__law_is_of) l__law_is_of e__law_is_of k__law_is_of
  have b__law_is_of := F__law_is_of.binds (ps := ["_law_kind_here", "_law_word"]) fun _ _ _ _ _ _ us hl => match us, hl with | [_, _], _ => rfl
  have F__law_words := fun_mk (st := s__law_words) l__law_words e__law_words k__law_words
  have b__law_words := F__law_words.binds (ps := ["_law_letters", "_law_size"]) fun _ _ _ _ _ _ us hl => match us, hl with | [_, _], _ => rfl
  have F__law_all := fun_mk (st := s__law_all) l__law_all e__law_all k__law_all
  have b__law_all := F__law_all.binds (ps := ["_law_kind_here", "_law_most"]) fun _ _ _ _ _ _ us hl => match us, hl with | [_, _], _ => rfl
  have F__law_far := fun_mk (st := s__law_far) l__law_far e__law_far k__law_far
  have b__law_far := F__law_far.binds (ps := ["_law_deck_here", "_law_kind_here", "_law_wide"]) fun _ _ _ _ _ _ us hl => match us, hl with | [_, _, _], _ => rfl
  have F__law_long := fun_mk (st := s__law_long) l__law_long e__law_long k__law_long
  have b__law_long := F__law_long.binds (ps := ["_law_deck_here", "_law_letters"]) fun _ _ _ _ _ _ us hl => match us, hl with | [_, _], _ => rfl
  have F__law_some_kind := fun_mk (st := s__law_some_kind) l__law_some_kind e__law_some_kind k__law_some_kind
  have b__law_some_kind := F__law_some_kind.binds (ps := ["_law_deck_here", "_law_most"]) fun _ _ _ _ _ _ us hl => match us, hl with | [_, _], _ => rfl
  have F_law := fun_mk (st := s_law) l_law e_law k_law
  have b_law := F_law.binds (ps := ["_law_script"]) fun _ _ _ _ _ _ us hl => match us, hl with | [_], _ => rfl
  have F__law_road := fun_mk (st := s__law_road) l__law_road e__law_road k__law_road
  have b__law_road := F__law_road.binds (ps := ["_law_deck_here", "_law_units"]) fun _ _ _ _ _ _ us hl => match us, hl with | [_, _], _ => rfl
  have F__law_read := fun_mk (st := s__law_read) l__law_read e__law_read k__law_read
  have b__law_read := F__law_read.binds (ps := ["_law_unit_here", "_law_word", "_law_number"]) fun _ _ _ _ _ _ us hl => match us, hl with | [_, _, _], _ => rfl
  have F__law_comes := fun_mk (st := s__law_comes) l__law_comes e__law_comes k__law_comes
  have b__law_comes := F__law_comes.binds (ps := ["_law_units", "_law_road_here", "_law_word", "_law_number"]) fun _ _ _ _ _ _ us hl => match us, hl with | [_, _, _, _], _ => rfl
  have F__law_few_units := fun_mk (st := s__law_few_units) l__law_few_units e__law_few_units k__law_few_units
  have b__law_few_units := F__law_few_units.binds (ps := ["_law_deck_here", "_law_letters"]) fun _ _ _ _ _ _ us hl => match us, hl with | [_, _], _ => rfl
  have T : Txt K mg ⟨f_letter_number, PySem.W.fnOf "letter_number" "letter_number" (defArgs s_letter_number) (defBody s_letter_number) (defScope s_letter_number) .none kV_letter_number dc_letter_number pm_letter_number an_letter_number cd_letter_number ct_letter_number, f_word_to, PySem.W.fnOf "word_to" "word_to" (defArgs s_word_to) (defBody s_word_to) (defScope s_word_to) .none kV_word_to dc_word_to pm_word_to an_word_to cd_word_to ct_word_to, f_least_counts, PySem.W.fnOf "least_counts" "least_counts" (defArgs s_least_counts) (defBody s_least_counts) (defScope s_least_counts) .none kV_least_counts dc_least_counts pm_least_counts an_least_counts cd_least_counts ct_least_counts, f__turned, PySem.W.fnOf "_turned" "_turned" (defArgs s__turned) (defBody s__turned) (defScope s__turned) .none kV__turned dc__turned pm__turned an__turned cd__turned ct__turned, f_within, PySem.W.fnOf "within" "within" (defArgs s_within) (defBody s_within) (defScope s_within) .none kV_within dc_within pm_within an_within cd_within ct_within, f_trimmed, PySem.W.fnOf "trimmed" "trimmed" (defArgs s_trimmed) (defBody s_trimmed) (defScope s_trimmed) .none kV_trimmed dc_trimmed pm_trimmed an_trimmed cd_trimmed ct_trimmed, f_comes_to, PySem.W.fnOf "comes_to" "comes_to" (defArgs s_comes_to) (defBody s_comes_to) (defScope s_comes_to) .none kV_comes_to dc_comes_to pm_comes_to an_comes_to cd_comes_to ct_comes_to, f__read, PySem.W.fnOf "_read" "_read" (defArgs s__read) (defBody s__read) (defScope s__read) .none kV__read dc__read pm__read an__read cd__read ct__read, f__left, PySem.W.fnOf "_left" "_left" (defArgs s__left) (defBody s__left) (defScope s__left) .none kV__left dc__left pm__left an__left cd__left ct__left, f__positions, PySem.W.fnOf "_positions" "_positions" (defArgs s__positions) (defBody s__positions) (defScope s__positions) .none kV__positions dc__positions pm__positions an__positions cd__positions ct__positions, f__onward, PySem.W.fnOf "_onward" "_onward" (defArgs s__onward) (defBody s__onward) (defScope s__onward) .none kV__onward dc__onward pm__onward an__onward cd__onward ct__onward, f__pair_on, PySem.W.fnOf "_pair_on" "_pair_on" (defArgs s__pair_on) (defBody s__pair_on) (defScope s__pair_on) .none kV__pair_on dc__pair_on pm__pair_on an__pair_on cd__pair_on ct__pair_on, f__first_unlike, PySem.W.fnOf "_first_unlike" "_first_unlike" (defArgs s__first_unlike) (defBody s__first_unlike) (defScope s__first_unlike) .none kV__first_unlike dc__first_unlike pm__first_unlike an__first_unlike cd__first_unlike ct__first_unlike, f_unlike_roads, PySem.W.fnOf "unlike_roads" "unlike_roads" (defArgs s_unlike_roads) (defBody s_unlike_roads) (defScope s_unlike_roads) .none kV_unlike_roads dc_unlike_roads pm_unlike_roads an_unlike_roads cd_unlike_roads ct_unlike_roads, f__law_deck, PySem.W.fnOf "_law_deck" "_law_deck" (defArgs s__law_deck) (defBody s__law_deck) (defScope s__law_deck) .none kV__law_deck dc__law_deck pm__law_deck an__law_deck cd__law_deck ct__law_deck, f__law_draw, PySem.W.fnOf "_law_draw" "_law_draw" (defArgs s__law_draw) (defBody s__law_draw) (defScope s__law_draw) .none kV__law_draw dc__law_draw pm__law_draw an__law_draw cd__law_draw ct__law_draw, f__law_one, PySem.W.fnOf "_law_one" "_law_one" (defArgs s__law_one) (defBody s__law_one) (defScope s__law_one) .none kV__law_one dc__law_one pm__law_one an__law_one cd__law_one ct__law_one, f__law_count, PySem.W.fnOf "_law_count" "_law_count" (defArgs s__law_count) (defBody s__law_count) (defScope s__law_count) .none kV__law_count dc__law_count pm__law_count an__law_count cd__law_count ct__law_count, f__law_kind, PySem.W.fnOf "_law_kind" "_law_kind" (defArgs s__law_kind) (defBody s__law_kind) (defScope s__law_kind) .none kV__law_kind dc__law_kind pm__law_kind an__law_kind cd__law_kind ct__law_kind, f__law_is_of, PySem.W.fnOf "_law_is_of" "_law_is_of" (defArgs s__law_is_of) (defBody s__law_is_of) (defScope s__law_is_of) .none kV__law_is_of dc__law_is_of pm__law_is_of an__law_is_of cd__law_is_of ct__law_is_of, f__law_words, PySem.W.fnOf "_law_words" "_law_words" (defArgs s__law_words) (defBody s__law_words) (defScope s__law_words) .none kV__law_words dc__law_words pm__law_words an__law_words cd__law_words ct__law_words, f__law_all, PySem.W.fnOf "_law_all" "_law_all" (defArgs s__law_all) (defBody s__law_all) (defScope s__law_all) .none kV__law_all dc__law_all pm__law_all an__law_all cd__law_all ct__law_all, f__law_far, PySem.W.fnOf "_law_far" "_law_far" (defArgs s__law_far) (defBody s__law_far) (defScope s__law_far) .none kV__law_far dc__law_far pm__law_far an__law_far cd__law_far ct__law_far, f__law_long, PySem.W.fnOf "_law_long" "_law_long" (defArgs s__law_long) (defBody s__law_long) (defScope s__law_long) .none kV__law_long dc__law_long pm__law_long an__law_long cd__law_long ct__law_long, f__law_some_kind, PySem.W.fnOf "_law_some_kind" "_law_some_kind" (defArgs s__law_some_kind) (defBody s__law_some_kind) (defScope s__law_some_kind) .none kV__law_some_kind dc__law_some_kind pm__law_some_kind an__law_some_kind cd__law_some_kind ct__law_some_kind, f_law, PySem.W.fnOf "law" "law" (defArgs s_law) (defBody s_law) (defScope s_law) .none kV_law dc_law pm_law an_law cd_law ct_law, f__law_road, PySem.W.fnOf "_law_road" "_law_road" (defArgs s__law_road) (defBody s__law_road) (defScope s__law_road) .none kV__law_road dc__law_road pm__law_road an__law_road cd__law_road ct__law_road, f__law_read, PySem.W.fnOf "_law_read" "_law_read" (defArgs s__law_read) (defBody s__law_read) (defScope s__law_read) .none kV__law_read dc__law_read pm__law_read an__law_read cd__law_read ct__law_read, f__law_comes, PySem.W.fnOf "_law_comes" "_law_comes" (defArgs s__law_comes) (defBody s__law_comes) (defScope s__law_comes) .none kV__law_comes dc__law_comes pm__law_comes an__law_comes cd__law_comes ct__law_comes, f__law_few_units, PySem.W.fnOf "_law_few_units" "_law_few_units" (defArgs s__law_few_units) (defBody s__law_few_units) (defScope s__law_few_units) .none kV__law_few_units dc__law_few_units pm__law_few_units an__law_few_units cd__law_few_units ct__law_few_units⟩ := ⟨F_letter_number, PySem.W.mg_of X G a_letter_number, k_letter_number, b_letter_number, F_word_to, PySem.W.mg_of X G a_word_to, k_word_to, b_word_to, F_least_counts, PySem.W.mg_of X G a_least_counts, k_least_counts, b_least_counts, F__turned, PySem.W.mg_of X G a__turned, k__turned, b__turned, F_within, PySem.W.mg_of X G a_within, k_within, b_within, F_trimmed, PySem.W.mg_of X G a_trimmed, k_trimmed, b_trimmed, F_comes_to, PySem.W.mg_of X G a_comes_to, k_comes_to, b_comes_to, F__read, PySem.W.mg_of X G a__read, k__read, b__read, F__left, PySem.W.mg_of X G a__left, k__left, b__left, F__positions, PySem.W.mg_of X G a__positions, k__positions, b__positions, F__onward, PySem.W.mg_of X G a__onward, k__onward, b__onward, F__pair_on, PySem.W.mg_of X G a__pair_on, k__pair_on, b__pair_on, F__first_unlike, PySem.W.mg_of X G a__first_unlike, k__first_unlike, b__first_unlike, F_unlike_roads, PySem.W.mg_of X G a_unlike_roads, k_unlike_roads, b_unlike_roads, F__law_deck, PySem.W.mg_of X G a__law_deck, k__law_deck, b__law_deck, F__law_draw, PySem.W.mg_of X G a__law_draw, k__law_draw, b__law_draw, F__law_one, PySem.W.mg_of X G a__law_one, k__law_one, b__law_one, F__law_count, PySem.W.mg_of X G a__law_count, k__law_count, b__law_count, F__law_kind, PySem.W.mg_of X G a__law_kind, k__law_kind, b__law_kind, F__law_is_of, PySem.W.mg_of X G a__law_is_of, k__law_is_of, b__law_is_of, F__law_words, PySem.W.mg_of X G a__law_words, k__law_words, b__law_words, F__law_all, PySem.W.mg_of X G a__law_all, k__law_all, b__law_all, F__law_far, PySem.W.mg_of X G a__law_far, k__law_far, b__law_far, F__law_long, PySem.W.mg_of X G a__law_long, k__law_long, b__law_long, F__law_some_kind, PySem.W.mg_of X G a__law_some_kind, k__law_some_kind, b__law_some_kind, F_law, PySem.W.mg_of X G a_law, k_law, b_law, F__law_road, PySem.W.mg_of X G a__law_road, k__law_road, b__law_road, F__law_read, PySem.W.mg_of X G a__law_read, k__law_read, b__law_read, F__law_comes, PySem.W.mg_of X G a__law_comes, k__law_comes, b__law_comes, F__law_few_units, PySem.W.mg_of X G a__law_few_units, k__law_few_units, b__law_few_units, PySem.W.mg_none_of X G z_abs, PySem.W.mg_none_of X G z_enumerate, PySem.W.mg_none_of X G z_int, PySem.W.mg_none_of X G z_len, PySem.W.mg_none_of X G z_list, PySem.W.mg_none_of X G z_max, PySem.W.mg_none_of X G z_ord, PySem.W.mg_none_of X G z_range, PySem.W.mg_none_of X G z_sum, PySem.W.mg_none_of X G z_tuple, PySem.W.mg_none_of X G z_zip, ⟨_, PySem.W.mg_of X G c_APART⟩, ⟨_, PySem.W.mg_of X G c_LETTERS⟩, ⟨_, PySem.W.mg_of X G c_STOPPED⟩⟩
  exact ⟨_, fun s v => .of_eq rfl, fun base _ _ => ok_law T⟩
theorem walk {l : PySem.W.OpenLaw} {q : Program} {loose : List Str} {XP : (Str → Option Value) → Heap → Prop} {YP : World → Heap → Prop} {d : DefRec} {K : Params → PySem.W.Frag} (hn : l.most = some 63) (hdf : d.params.defaults = [])
    (hY : ∀ (w : World) (h : Heap), YP w h → (K w.params).In h)
    (F : ∀ (w : World) (mg : Str → Option Value) (fa : Addr) (h : Heap), (K w.params).In h → h.Ns mainGlobals mg → mg d.name = some (.ref fa) →
      ∃ fd : FuncData, (∀ (s : Shared) (u : Value), BindsTo s fd ⟨[u], []⟩ [("_law_script", u)]) ∧ ∀ base : Heap, (K w.params).In base → base.Ns mainGlobals mg → FnG l.prog w (K w.params) mg base 5 fa fd ["_law_script"] (sp_law (K w.params))) :
    PySem.W.WalkO q loose XP YP l.row.toRowW d [] (fun f vs => PySem.call f vs) :=
  U.walkG (n := 63) (k := 5) (x := "_law_script") (sp := sp_law) hn (by decide) hdf ⟨rfl, by decide, by decide⟩ hY F fun K H a ns hl _ hS => sp_law_end hl hS
end Law

open PySem PySem.W PyProof.Rows in
set_option maxRecDepth 100000 in
set_option maxHeartbeats 0 in
theorem PySem.Challenge.cw_unitlimits_k47_roads_that_part_holds : PySem.Challenge.rw_unitlimits_k47_roads_that_part.Holds := by
  w_on; o_law; k_head; (case hw => w_witness2)
  k_fill
  refine Law.walk (l := PySem.Challenge.rw_unitlimits_k47_roads_that_part) rfl rfl (fun w h Y => PySem.W.kIn_of Y) ?F
  case F =>
    intro w mg fa h KX G hmg
    refine' Law.all_mk KX G hmg ?a_letter_number ?l_letter_number ?e_letter_number ?k_letter_number ?a_word_to ?l_word_to ?e_word_to ?k_word_to ?a_least_counts ?l_least_counts ?e_least_counts ?k_least_counts ?a__turned ?l__turned ?e__turned ?k__turned ?a_within ?l_within ?e_within ?k_within ?a_trimmed ?l_trimmed ?e_trimmed ?k_trimmed ?a_comes_to ?l_comes_to ?e_comes_to ?k_comes_to ?a__read ?l__read ?e__read ?k__read ?a__left ?l__left ?e__left ?k__left ?a__positions ?l__positions ?e__positions ?k__positions ?a__onward ?l__onward ?e__onward ?k__onward ?a__pair_on ?l__pair_on ?e__pair_on ?k__pair_on ?a__first_unlike ?l__first_unlike ?e__first_unlike ?k__first_unlike ?a_unlike_roads ?l_unlike_roads ?e_unlike_roads ?k_unlike_roads ?a__law_deck ?l__law_deck ?e__law_deck ?k__law_deck ?a__law_draw ?l__law_draw ?e__law_draw ?k__law_draw ?a__law_one ?l__law_one ?e__law_one ?k__law_one ?a__law_count ?l__law_count ?e__law_count ?k__law_count ?a__law_kind ?l__law_kind ?e__law_kind ?k__law_kind ?a__law_is_of ?l__law_is_of ?e__law_is_of ?k__law_is_of ?a__law_words ?l__law_words ?e__law_words ?k__law_words ?a__law_all ?l__law_all ?e__law_all ?k__law_all ?a__law_far ?l__law_far ?e__law_far ?k__law_far ?a__law_long ?l__law_long ?e__law_long ?k__law_long ?a__law_some_kind ?l__law_some_kind ?e__law_some_kind ?k__law_some_kind ?a_law ?l_law ?e_law ?k_law ?a__law_road ?l__law_road ?e__law_road ?k__law_road ?a__law_read ?l__law_read ?e__law_read ?k__law_read ?a__law_comes ?l__law_comes ?e__law_comes ?k__law_comes ?a__law_few_units ?l__law_few_units ?e__law_few_units ?k__law_few_units ?z_abs ?z_enumerate ?z_int ?z_len ?z_list ?z_max ?z_ord ?z_range ?z_sum ?z_tuple ?z_zip ?c_APART ?c_LETTERS ?c_STOPPED
    (case a_letter_number => k_is)
    (case l_letter_number => k_is)
    (case e_letter_number => k_is)
    (case k_letter_number => k_is)
    (case a_word_to => k_is)
    (case l_word_to => k_is)
    (case e_word_to => k_is)
    (case k_word_to => k_is)
    (case a_least_counts => k_is)
    (case l_least_counts => k_is)
    (case e_least_counts => k_is)
    (case k_least_counts => k_is)
    (case a__turned => k_is)
    (case l__turned => k_is)
    (case e__turned => k_is)
    (case k__turned => k_is)
    (case a_within => k_is)
    (case l_within => k_is)
    (case e_within => k_is)
    (case k_within => k_is)
    (case a_trimmed => k_is)
    (case l_trimmed => k_is)
    (case e_trimmed => k_is)
    (case k_trimmed => k_is)
    (case a_comes_to => k_is)
    (case l_comes_to => k_is)
    (case e_comes_to => k_is)
    (case k_comes_to => k_is)
    (case a__read => k_is)
    (case l__read => k_is)
    (case e__read => k_is)
    (case k__read => k_is)
    (case a__left => k_is)
    (case l__left => k_is)
    (case e__left => k_is)
    (case k__left => k_is)
    (case a__positions => k_is)
    (case l__positions => k_is)
    (case e__positions => k_is)
    (case k__positions => k_is)
    (case a__onward => k_is)
    (case l__onward => k_is)
    (case e__onward => k_is)
    (case k__onward => k_is)
    (case a__pair_on => k_is)
    (case l__pair_on => k_is)
    (case e__pair_on => k_is)
    (case k__pair_on => k_is)
    (case a__first_unlike => k_is)
    (case l__first_unlike => k_is)
    (case e__first_unlike => k_is)
    (case k__first_unlike => k_is)
    (case a_unlike_roads => k_is)
    (case l_unlike_roads => k_is)
    (case e_unlike_roads => k_is)
    (case k_unlike_roads => k_is)
    (case a__law_deck => k_is)
    (case l__law_deck => k_is)
    (case e__law_deck => k_is)
    (case k__law_deck => k_is)
    (case a__law_draw => k_is)
    (case l__law_draw => k_is)
    (case e__law_draw => k_is)
    (case k__law_draw => k_is)
    (case a__law_one => k_is)
    (case l__law_one => k_is)
    (case e__law_one => k_is)
    (case k__law_one => k_is)
    (case a__law_count => k_is)
    (case l__law_count => k_is)
    (case e__law_count => k_is)
    (case k__law_count => k_is)
    (case a__law_kind => k_is)
    (case l__law_kind => k_is)
    (case e__law_kind => k_is)
    (case k__law_kind => k_is)
    (case a__law_is_of => k_is)
    (case l__law_is_of => k_is)
    (case e__law_is_of => k_is)
    (case k__law_is_of => k_is)
    (case a__law_words => k_is)
    (case l__law_words => k_is)
    (case e__law_words => k_is)
    (case k__law_words => k_is)
    (case a__law_all => k_is)
    (case l__law_all => k_is)
    (case e__law_all => k_is)
    (case k__law_all => k_is)
    (case a__law_far => k_is)
    (case l__law_far => k_is)
    (case e__law_far => k_is)
    (case k__law_far => k_is)
    (case a__law_long => k_is)
    (case l__law_long => k_is)
    (case e__law_long => k_is)
    (case k__law_long => k_is)
    (case a__law_some_kind => k_is)
    (case l__law_some_kind => k_is)
    (case e__law_some_kind => k_is)
    (case k__law_some_kind => k_is)
    (case a_law => k_is)
    (case l_law => k_is)
    (case e_law => k_is)
    (case k_law => k_is)
    (case a__law_road => k_is)
    (case l__law_road => k_is)
    (case e__law_road => k_is)
    (case k__law_road => k_is)
    (case a__law_read => k_is)
    (case l__law_read => k_is)
    (case e__law_read => k_is)
    (case k__law_read => k_is)
    (case a__law_comes => k_is)
    (case l__law_comes => k_is)
    (case e__law_comes => k_is)
    (case k__law_comes => k_is)
    (case a__law_few_units => k_is)
    (case l__law_few_units => k_is)
    (case e__law_few_units => k_is)
    (case k__law_few_units => k_is)
    (case z_abs => k_is)
    (case z_enumerate => k_is)
    (case z_int => k_is)
    (case z_len => k_is)
    (case z_list => k_is)
    (case z_max => k_is)
    (case z_ord => k_is)
    (case z_range => k_is)
    (case z_sum => k_is)
    (case z_tuple => k_is)
    (case z_zip => k_is)
    (case c_APART => k_is)
    (case c_LETTERS => k_is)
    (case c_STOPPED => k_is)
