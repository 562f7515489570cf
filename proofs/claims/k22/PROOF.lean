import PyProof.Rows.All
import Wide.All
import OpenK.AllK
import Wide.FinOn
import HandS.ForMost
import HandS.IsInst
import HandS.Conv
import HandS.TupAny
import HandS.TupMul
import HandS.Codes
import HandS.Replace
import KE.GoesEnum
import HandS.Walk
import HandS.Steps
import HandS.NestedK
import KE.KDictKeyed
import HandS.Style
import PyProof.Rows.StrRev
import PySem.Challenge.RW_unitlimits_k22_words_and_used_states
set_option Elab.async false
set_option linter.all false
set_option maxRecDepth 100000
set_option maxHeartbeats 2000000
namespace U
open PySem PySem.Spec PyProof.Rows L2

/-! ### defs that are run where no guard is on the stack (for repr of lists and tuples) -/
/-- as FnOk, but asked only where no guard runs -/
structure FnG (P : Program) (w : World) (K : PySem.W.Frag) (mg : Str → Option Value) (base : Heap) (k : Nat) (f : Addr) (fd : FuncData) (ps : List Str) (sp : Sp) : Prop where
  arity : ∀ vs H Q E, sp vs H Q E → vs.length = ps.length
  runs : ∀ (A : Around) (outer : List Env) (s : Shared) (H : Hp) (args : Args) (us : List Value) (vs : List V) (Q : VK) (E : XK), A.guards = some [] → Room k A → Env0 P w K mg base A outer s H →
    BindsTo s fd args (ps.zip us) → Vals vs us → sp vs H Q E → codeAny (model P w) A (.call (.ref f) args) (CR CX0 outer P w H s Q E) s

section
variable {P : Program} {w : World} {K : PySem.W.Frag} {mg : Str → Option Value} {base : Heap}
theorem FnG.of {k : Nat} {f : Addr} {fd : FuncData} {ps : List Str} {sp : Sp} (F : FnOk P w K mg base CX0 k f fd ps sp) : FnG P w K mg base k f fd ps sp :=
  ⟨F.len, fun A o s H a us vs Q E _ => F.run A o s H a us vs Q E⟩
theorem FnG.more {j k : Nat} {f : Addr} {fd : FuncData} {ps : List Str} {sp : Sp} (F : FnG P w K mg base j f fd ps sp) (h : j ≤ k) : FnG P w K mg base k f fd ps sp :=
  ⟨F.arity, fun A o s H a us vs Q E g hr => F.runs A o s H a us vs Q E g (hr.mono h)⟩

/-- the body's rule, as Fun.ok, with the guards told -/
theorem okG {x qual : Str} {st : Stmt} {f : Addr} {fd : FuncData} {N ps : List Str} {k : Nat} {sp : Sp} (F : Fun K x qual st f fd) (S : FnScope N ps (defScope st)) (len : ∀ vs H Q E, sp vs H Q E → vs.length = ps.length)
    (hbody : ∀ (cdv : Value) (A : Around) (outer : List Env) (s : Shared) (H : Hp) (vs : List V) (Q : VK) (E : XK), A.guards = some [] → Room k (A.deeper (envOfC qual (defScope st) s.heap.objs.size f cdv)) → sp vs H Q E →
      ∃ t, PSs (cxOf CX0 P w K mg base N qual (defScope st) f cdv A outer s H E).nox (defBody st) t ∧ t { nx := fun _ H' => Q .non H', rt := Q } (start N vs) H) : FnG P w K mg base (k + 1) f fd ps sp := by
  obtain ⟨oc, od, kV, doc, pm, an, cdv, ct, osl, rfl, lk, hcd⟩ := F.ex
  refine ⟨len, fun A outer s H args us vs Q E hg hr e0 hb rel hsp => ?_⟩
  have nargs := len _ _ _ _ hsp
  have inH : K.In s.heap := e0.mod.kin.keeps (fun b o e => And.left (e0.bs b o e))
  have noLim : s.heap.NoLimit := e0.mod.nolimit.keeps (fun b o e => And.left (e0.bs b o e))
  have kinds : ∀ y ∈ ps.zip us, (defScope st).names.lookup y.1 = some .local ∨ ((defScope st).names.lookup y.1 = some .cell ∧ ((cellsFrom (s.heap.objs.size + 1) (defScope st).names []).lookup y.1).isSome = true) := by
    rintro ⟨n, v⟩ hy
    cases S.par n (List.of_mem_zip hy).1 with
    | inl q => exact Or.inl q
    | inr q => exact Or.inr ⟨q, PySem.W.cellsFrom_some _ _ _ (Or.inl q)⟩
  apply codeAny_call_function hr.depth (inH _ _ lk) rfl S.co S.gen rfl (PySem.W.codeRec_of inH hcd)
  refine hb _ _ _ _ (wpAny_newFunctionEnv_cells S.kind kinds fun env he s1 inC => ?_)
  cases he
  obtain ⟨t, ht, start_ok⟩ := hbody cdv A outer s H vs Q E hg (hr.deeper _) hsp
  have I0 : Inv (cxOf CX0 P w K mg base N qual (defScope st) f cdv A outer s H E) [] (start N vs) H s1 := inv_start S hr.hd e0 nargs rel inC
  have done : ∀ {σ' : L2.St} {H' : Hp} {v : V} {u : Value} {s' : Shared}, Inv (cxOf CX0 P w K mg base N qual (defScope st) f cdv A outer s H E) [] σ' H' s' → RelV v u → Q v H' → CE outer P w H s Q u s' :=
    fun {σ' H' v u s'} J rv q => ⟨v, H', J.os, J.bare, J.base, J.hok, rv, q⟩
  refine ⟨noLim.keeps inC.toInCall.keep, codeAny_func (wpAny_mono (ht.nox.run [] s1 (start N vs) H _ I0 start_ok) (fun fl s' hs => ?_) (fun _ _ z => z))⟩
  cases fl with
  | next =>
    obtain ⟨σ', H', J, q⟩ := hs
    exact done (v := V.non) (u := Value.none) J rfl q
  | ret u =>
    obtain ⟨v, σ', H', J, rv, q⟩ := hs
    exact done J rv q
  | brk => exact False.elim (let ⟨_, _, _, q⟩ := hs; q)
  | cont => exact False.elim (let ⟨_, _, _, q⟩ := hs; q)
end

section
variable {X : Cx} {k : Nat} {f : Addr} {fd : FuncData} {ps : List Str} {sp : Sp} {E : XK} {x : Str} {p pos : Pos} {e : Expr} {es : List Expr} {t : TA}
theorem pe_callG (hG : X.A.guards = some []) (F : FnG X.prog X.w X.K X.mg X.base k f fd ps sp) (hr : Room k X.A) (hg : Gl X x) (hm : X.mg x = some (.ref f)) (hk : PySem.W.keepIn X.K (.ref f) = true) (hb : Binds X.K fd ps [])
    (ha : PA X (e :: es) t) (hdb : (x == ("__debug__" : Str)) = false := by decide) (he : starEach (e :: es) X.env = (false, eval e X.env) :: starEach es X.env := by rfl) (hpl : (backTo pos (starEach es X.env)).any (·.1) = false := by rfl) :
    PE X (.Call (.Name x p) (e :: es) [] pos) (tCall sp [] E0 t) := by
  constructor
  intro pins s σ H Q I h
  apply wpAny_Call_Name_kw
  apply ld_glob I hg hm _ hdb
  apply PySem.W.callWith_K (h₀ := X.base) I.ok.mod.kin hk _ he hpl
  refine thn (ha.run pos pins s σ H _ I h) ?_
  rintro us s1 ⟨vs, H1, I1, r, q⟩
  refine ⟨I1.kIn, ?_⟩
  have q' : sp vs H1 Q E0 := by
    have z : sp (vs ++ []) H1 Q E0 := q
    rwa [List.append_nil] at z
  have nargs : (us ++ []).length = ps.length := by rw [List.append_nil, ← r.length]; exact F.arity _ _ _ _ q'
  have bd := hb s1 us I1.kIn nargs
  rw [List.append_nil] at bd
  apply wpAny_call
  refine codeAny_mono (F.runs X.A X.stack s1 H1 ⟨us, []⟩ us vs Q E0 hG hr I1.env0 bd r q') ?_
  intro res s' hres
  match res, hres with
  | .ok (.ret u), hres => exact I1.after hres
  | .ok .next, hres => exact False.elim hres
  | .ok .brk, hres => exact False.elim hres
  | .ok .cont, hres => exact False.elim hres
  | .error _, hres => exact False.elim hres
end

/-! ### the end of a law over such a def -/
theorem lawG {P : Program} {w : World} {K : PySem.W.Frag} {mg mb : Str → Option Value} {k : Nat} {fa a : Addr} {fd : FuncData} {x : Str} {sp : Sp} {s₁ : Shared} {vs : List Value} {ns : List Int}
    (inK : K.In s₁.heap) (glo : s₁.heap.Ns mainGlobals mg) (blt : s₁.heap.Ns builtinsNs mb) (boot : ∀ x : Str, x ≠ "__name__" → mb x = bootBuiltins x) (noLim : s₁.heap.NoLimit) (noGen : s₁.gens = #[])
    (scr : s₁.heap.get? a = some { cls := .type "list", data := .seq vs.toArray }) (nums : IntsAre vs ns) (small : ns.length ≤ sizeLine) (room : Room k callerA)
    (F : ∀ base : Heap, K.In base → base.Ns mainGlobals mg → FnG P w K mg base k fa fd [x] sp) (bind : ∀ (s : Shared) (u : Value), BindsTo s fd ⟨[u], []⟩ [(x, u)])
    (hsp : ∀ H : Hp, Only H → SqL K H a (ns.map V.int) → sp [.ref a] H (fun v _ => v = .bl true) E0) :
    codeAny (model P w) callerA (.call (.ref fa) ⟨[.ref a], []⟩) (fun r s' => r = .ok (.ret (.bool true)) ∧ OldK s₁.heap s'.heap ∧ s'.os = s₁.os ∧ AllBare s'.gens) s₁ := by
  have rel : Vals (ns.map V.int) vs := vals_ints nums
  have many : vs.length = ns.length := nums.length
  -- what is tracked: the script, where it is no object of the module's own
  obtain ⟨H, hOnly, hScr, hOk, hAt, hOwn⟩ : ∃ H : Hp, Only H ∧ SqL K H a (ns.map V.int) ∧ HOk P w H s₁.heap ∧ (∀ b u, H b = some u → b = a) ∧ (∀ u, H a = some u → K.lookup a = none) := by
    cases own : K.lookup a with
    | some o =>
      have e := inK a o own
      rw [scr] at e
      cases e
      exact ⟨fun _ => none, fun _ => Or.inl rfl, Or.inr ⟨_, vs.toArray, _, own, rfl, rfl, rfl, by rw [List.size_toArray, many]; exact small, by simpa using rel⟩,
        (fun b u z => absurd (show (none : Option HO) = some u from z) (by simp)), (fun b u z => absurd (show (none : Option HO) = some u from z) (by simp)), fun u z => absurd (show (none : Option HO) = some u from z) (by simp)⟩
    | none =>
      have at_ : ∀ b u, (fun b => if b = a then some (HO.frz { cls := .type "list", data := .seq vs.toArray } (.lst (ns.map V.int))) else none : Hp) b = some u → b = a ∧ u = HO.frz { cls := .type "list", data := .seq vs.toArray } (.lst (ns.map V.int)) := by
        intro b u z
        by_cases hb : b = a
        · exact ⟨hb, (Option.some.inj ((if_pos hb).symm.trans z)).symm⟩
        · exact nomatch (if_neg hb).symm.trans z
      refine ⟨fun b => if b = a then some (.frz { cls := .type "list", data := .seq vs.toArray } (.lst (ns.map V.int))) else none, fun b => ?_, Or.inl (Or.inr ⟨_, if_pos rfl⟩), fun b u z => ?_, fun b u z => (at_ b u z).1, fun _ _ => rfl⟩
      · by_cases hb : b = a
        · exact Or.inr ⟨_, _, if_pos hb⟩
        · exact Or.inl (if_neg hb)
      · obtain ⟨rfl, rfl⟩ := at_ b u z
        exact ⟨scr, by rw [List.length_map]; exact small, vs, _, rel, scr⟩
  have dictFree : ∀ {b : Addr} {o : Obj} {es : Array DictEntry} {ep : Nat}, s₁.heap.get? b = some o → o.data = .dict es ep → H b = none := by
    intro b o es ep e d
    cases q : H b with
    | none => rfl
    | some u =>
      cases hAt b u q
      rw [scr] at e
      cases e
      exact nomatch (show Data.seq vs.toArray _ = Data.dict es ep from d)
  have nsKeep : ∀ {b : Addr} {m : Str → Option Value}, s₁.heap.Ns b m → (hidT s₁.heap H).Ns b m := by
    rintro b m ⟨o, es, ep, e, d, r⟩
    exact ⟨o, es, ep, hidT_get e (dictFree e d), d, r⟩
  have inB : K.In (hidT s₁.heap H) := by
    intro b o e
    refine hidT_get (inK b o e) ?_
    cases q : H b with
    | none => rfl
    | some u =>
      cases hAt b u q
      rw [hOwn u q] at e
      cases e
  have M : Mod K mg (hidT s₁.heap H) := by
    obtain ⟨mc, h1, h2⟩ := noLim
    exact ⟨inB, nsKeep glo, ⟨mb, nsKeep blt, boot⟩, ⟨mc, nsKeep h1, h2⟩⟩
  have env : Env0 P w K mg (hidT s₁.heap H) callerA [] s₁ H := by
    refine ⟨rfl, M, fun b o e => of_hidT e, Nat.le_of_eq (hidT_size _ _), trivial, fun b hb => ?_, hOk, .of_eq noGen⟩
    exact nomatch (show b ∈ ([] : List Addr) from hb)
  refine codeAny_mono ((F _ inB (nsKeep glo)).runs callerA [] s₁ H ⟨[.ref a], []⟩ [.ref a] [.ref a] _ _ rfl room env (bind s₁ (.ref a)) (.cons rfl .nil) (hsp H hOnly hScr)) ?_
  intro res s' hres
  match res, hres with
  | .error _, hres => exact False.elim hres
  | .ok .next, hres => exact False.elim hres
  | .ok .brk, hres => exact False.elim hres
  | .ok .cont, hres => exact False.elim hres
  | .ok (.ret u), hres =>
    obtain ⟨v, H', os, bare, un, ok', rv, q⟩ := hres
    cases (show v = .bl true from q)
    cases (show u = Value.bool true from rv)
    refine ⟨rfl, OldK.of_keep (fun b o e => ?_), os, bare⟩
    cases q : H b with
    | none => exact un.keep b o e q (fun z => nomatch (show b ∈ ([] : List Addr) from z)) (by simp)
    | some u =>
      rcases hOnly b with z | ⟨ob, xs, z⟩
      · rw [q] at z
        cases z
      · have before := (hOk b _ z).1
        have after := (ok' b _ (un.frzs b ob _ z)).1
        rw [e] at before
        cases before
        exact after

theorem walkG {l : PySem.W.OpenLaw} {n k : Nat} {q : Program} {loose : List Str} {XP : (Str → Option Value) → Heap → Prop} {YP : World → Heap → Prop} {d : DefRec} {K : Params → PySem.W.Frag} {sp : PySem.W.Frag → Sp} {x : Str}
    (many : l.most = some n) (small : n ≤ sizeLine) (noDef : d.params.defaults = []) (room : Room k callerA)
    (inK : ∀ (w : World) (h : Heap), YP w h → (K w.params).In h)
    (F : ∀ (w : World) (mg : Str → Option Value) (fa : Addr) (h : Heap), (K w.params).In h → h.Ns mainGlobals mg → mg d.name = some (.ref fa) →
      ∃ fd : FuncData, (∀ (s : Shared) (u : Value), BindsTo s fd ⟨[u], []⟩ [(x, u)]) ∧
        ∀ base : Heap, (K w.params).In base → base.Ns mainGlobals mg → FnG l.prog w (K w.params) mg base k fa fd [x] (sp (K w.params)))
    (hsp : ∀ (K : PySem.W.Frag) (H : Hp) (a : Addr) (ns : List Int), ns.length ≤ n → Only H → SqL K H a (ns.map V.int) → sp K [.ref a] H (fun v _ => v = .bl true) E0) :
    PySem.W.WalkO q loose XP YP l.row.toRowW d [] (fun f vs => PySem.call f vs) := by
  apply Att.attach_call many noDef
  intro w s₀ s₁ mg mb fa o pm cd doc a vs ns G Y ho hd hcd hmg hobj hints hlen hg
  obtain ⟨fd, hb, hF⟩ := F w mg fa _ (inK w _ Y) G.T.g hmg
  exact lawG (inK w _ Y) G.T.g G.T.b G.T.builtins G.T.nolimit hg hobj hints (Nat.le_trans hlen small) room hF hb fun H hO hS => hsp (K w.params) H a ns hlen hO hS
end U

set_option Elab.async false
set_option linter.all false
set_option maxRecDepth 100000
set_option maxHeartbeats 2000000
namespace U
open PySem PySem.Spec PyProof.Rows L2

/-! ### data in the heap, off the places that are written (M) -/
mutual
inductive T (K : PySem.W.Frag) (M : List Addr) (H : Hp) : V → PyData → Prop
  | non : T K M H .non .none
  | bl (b : Bool) : T K M H (.bl b) (.bool b)
  | int (i : Int) : T K M H (.int i) (.int i)
  | str (x : Str) : T K M H (.str x) (.str x)
  | lst {a : Addr} {xs : List V} {ds : List PyData} : a ∉ M → H a = some (.lst xs) → TA K M H xs ds → T K M H (.ref a) (.list ds)
  | tup {a : Addr} {xs : List V} {ds : List PyData} : a ∉ M → H a = some (.tup xs) → TA K M H xs ds → T K M H (.ref a) (.tuple ds)
  | dct {a : Addr} {kvs : List (Key × V)} {es : List (PyData × PyData)} : a ∉ M → H a = some (.dK kvs) → TK K M H kvs es → T K M H (.ref a) (.dict es)
inductive TA (K : PySem.W.Frag) (M : List Addr) (H : Hp) : List V → List PyData → Prop
  | nil : TA K M H [] []
  | cons {v : V} {vs : List V} {d : PyData} {ds : List PyData} : T K M H v d → TA K M H vs ds → TA K M H (v :: vs) (d :: ds)
inductive TK (K : PySem.W.Frag) (M : List Addr) (H : Hp) : List (Key × V) → List (PyData × PyData) → Prop
  | nil : TK K M H [] []
  | cons {k : Key} {v : V} {e d : PyData} {kvs : List (Key × V)} {es : List (PyData × PyData)} : T K M H (kV k) e → T K M H v d → TK K M H kvs es → TK K M H ((k, v) :: kvs) ((e, d) :: es)
end

/-- what was tracked off M stands as before -/
def Ext (M : List Addr) (H H' : Hp) : Prop := ∀ b o, b ∉ M → H b = some o → H' b = some o
theorem Ext.refl (M : List Addr) (H : Hp) : Ext M H H := fun _ _ _ h => h
theorem Ext.trans {M : List Addr} {H H1 H2 : Hp} (a : Ext M H H1) (b : Ext M H1 H2) : Ext M H H2 := fun c o h e => b c o h (a c o h e)
theorem Ext.same {M : List Addr} {H H' : Hp} (a : Same H H') : Ext M H H' := fun b o _ e => a b o e
theorem Ext.sub {M N : List Addr} {H H' : Hp} (a : Ext M H H') (h : ∀ b ∈ M, b ∈ N) : Ext N H H' := fun b o n e => a b o (fun z => n (h b z)) e
theorem Ext.new {M : List Addr} {H : Hp} {p : Addr} {o : HO} (h : H p = none) : Ext M H (upd H p o) := fun b u _ e => by
  rw [upd_ne (ne_of_none e h)]
  exact e
theorem Ext.put {M : List Addr} {H : Hp} {p : Addr} {o : HO} (h : p ∈ M) : Ext M H (upd H p o) := fun b u n e => by
  have q : b ≠ p := by
    rintro rfl
    exact n h
  rw [upd_ne q]
  exact e
theorem Same.new {H : Hp} {p : Addr} {o : HO} (h : H p = none) : Same H (upd H p o) := fun b u e => by
  rw [upd_ne (ne_of_none e h)]
  exact e
theorem Same.newer {H H' : Hp} {p : Addr} {o : HO} (s : Same H H') (h : H p = none) : Same H (upd H' p o) := fun b u e => by
  rw [upd_ne (ne_of_none e h)]
  exact s b u e

section
variable {K : PySem.W.Frag} {M N : List Addr} {H H' : Hp}
theorem SqT.ext {a : Addr} {xs : List V} (e : Ext M H H') (n : a ∉ M) (h : SqT K H a xs) : SqT K H' a xs := by
  rcases h with (h | ⟨o, h⟩) | h
  · exact Or.inl (Or.inl (e _ _ n h))
  · exact Or.inl (Or.inr ⟨o, e _ _ n h⟩)
  · exact Or.inr h
mutual
theorem T.ext (e : Ext M H H') : ∀ {v : V} {d : PyData}, T K M H v d → T K M H' v d
  | _, _, .non => .non
  | _, _, .bl b => .bl b
  | _, _, .int i => .int i
  | _, _, .str x => .str x
  | _, _, .lst n h t => .lst n (e _ _ n h) (TA.ext e t)
  | _, _, .tup n h t => .tup n (e _ _ n h) (TA.ext e t)
  | _, _, .dct n h t => .dct n (e _ _ n h) (TK.ext e t)
theorem TA.ext (e : Ext M H H') : ∀ {vs : List V} {ds : List PyData}, TA K M H vs ds → TA K M H' vs ds
  | _, _, .nil => .nil
  | _, _, .cons h t => .cons (T.ext e h) (TA.ext e t)
theorem TK.ext (e : Ext M H H') : ∀ {kvs : List (Key × V)} {es : List (PyData × PyData)}, TK K M H kvs es → TK K M H' kvs es
  | _, _, .nil => .nil
  | _, _, .cons h g t => .cons (T.ext e h) (T.ext e g) (TK.ext e t)
end
mutual
/-- off fewer places -/
theorem T.off (s : ∀ b ∈ N, b ∈ M) : ∀ {v : V} {d : PyData}, T K M H v d → T K N H v d
  | _, _, .non => .non
  | _, _, .bl b => .bl b
  | _, _, .int i => .int i
  | _, _, .str x => .str x
  | _, _, .lst n h t => .lst (fun z => n (s _ z)) h (TA.off s t)
  | _, _, .tup n h t => .tup (fun z => n (s _ z)) h (TA.off s t)
  | _, _, .dct n h t => .dct (fun z => n (s _ z)) h (TK.off s t)
theorem TA.off (s : ∀ b ∈ N, b ∈ M) : ∀ {vs : List V} {ds : List PyData}, TA K M H vs ds → TA K N H vs ds
  | _, _, .nil => .nil
  | _, _, .cons h t => .cons (T.off s h) (TA.off s t)
theorem TK.off (s : ∀ b ∈ N, b ∈ M) : ∀ {kvs : List (Key × V)} {es : List (PyData × PyData)}, TK K M H kvs es → TK K N H kvs es
  | _, _, .nil => .nil
  | _, _, .cons h g t => .cons (T.off s h) (T.off s g) (TK.off s t)
end
mutual
/-- off one more place, which is free -/
theorem T.plus {p : Addr} (hp : H p = none) : ∀ {v : V} {d : PyData}, T K M H v d → T K (p :: M) H v d
  | _, _, .non => .non
  | _, _, .bl b => .bl b
  | _, _, .int i => .int i
  | _, _, .str x => .str x
  | _, _, .lst n h t => .lst (fun z => (List.mem_cons.mp z).elim (ne_of_none h hp) n) h (TA.plus hp t)
  | _, _, .tup n h t => .tup (fun z => (List.mem_cons.mp z).elim (ne_of_none h hp) n) h (TA.plus hp t)
  | _, _, .dct n h t => .dct (fun z => (List.mem_cons.mp z).elim (ne_of_none h hp) n) h (TK.plus hp t)
theorem TA.plus {p : Addr} (hp : H p = none) : ∀ {vs : List V} {ds : List PyData}, TA K M H vs ds → TA K (p :: M) H vs ds
  | _, _, .nil => .nil
  | _, _, .cons h t => .cons (T.plus hp h) (TA.plus hp t)
theorem TK.plus {p : Addr} (hp : H p = none) : ∀ {kvs : List (Key × V)} {es : List (PyData × PyData)}, TK K M H kvs es → TK K (p :: M) H kvs es
  | _, _, .nil => .nil
  | _, _, .cons h g t => .cons (T.plus hp h) (T.plus hp g) (TK.plus hp t)
end
theorem T.same (s : Same H H') {v : V} {d : PyData} (h : T K M H v d) : T K M H' v d := T.ext (Ext.same s) h
theorem TA.same (s : Same H H') {v : List V} {d : List PyData} (h : TA K M H v d) : TA K M H' v d := TA.ext (Ext.same s) h
theorem TA.len : ∀ {vs : List V} {ds : List PyData}, TA K M H vs ds → vs.length = ds.length
  | _, _, .nil => rfl
  | _, _, .cons _ t => by rw [List.length_cons, List.length_cons, TA.len t]
theorem TA.get : ∀ {vs : List V} {ds : List PyData} {i : Nat} {v : V}, TA K M H vs ds → vs[i]? = some v → ∃ d, ds[i]? = some d ∧ T K M H v d
  | _, _, _, _, .nil, e => by simp at e
  | _, _, 0, _, .cons h _, e => by simp at e; subst e; exact ⟨_, rfl, h⟩
  | _, _, i + 1, _, .cons _ t, e => by
    obtain ⟨d, h1, h2⟩ := TA.get (i := i) t (by simpa using e)
    exact ⟨d, by simpa using h1, h2⟩
theorem TA.app : ∀ {vs us : List V} {ds es : List PyData}, TA K M H vs ds → TA K M H us es → TA K M H (vs ++ us) (ds ++ es)
  | _, _, _, _, .nil, s => s
  | _, _, _, _, .cons h t, s => .cons h (TA.app t s)
theorem TA.take : ∀ {vs : List V} {ds : List PyData} (n : Nat), TA K M H vs ds → TA K M H (vs.take n) (ds.take n)
  | _, _, 0, _ => .nil
  | _, _, _ + 1, .nil => .nil
  | _, _, n + 1, .cons h t => .cons h (TA.take n t)
theorem TA.drop : ∀ {vs : List V} {ds : List PyData} (n : Nat), TA K M H vs ds → TA K M H (vs.drop n) (ds.drop n)
  | _, _, 0, h => h
  | _, _, _ + 1, .nil => .nil
  | _, _, n + 1, .cons _ t => TA.drop n t
theorem TA.one {v : V} {d : PyData} (h : T K M H v d) : TA K M H [v] [d] := .cons h .nil
theorem TA.ints : ∀ (is : List Int), TA K M H (is.map V.int) (is.map PyData.int)
  | [] => .nil
  | i :: is => .cons (.int i) (TA.ints is)
theorem TA.bls : ∀ (is : List Bool), TA K M H (is.map V.bl) (is.map PyData.bool)
  | [] => .nil
  | i :: is => .cons (.bl i) (TA.bls is)
end

/-! ### such data is read off the concrete heap -/
section
variable {X : Cx} {pins : List (Addr × Obj)} {σ : L2.St} {H : Hp} {s : Shared} {M : List Addr}
theorem pairs_two {P : Program} {w : World} : ∀ {es : List DictEntry} {kvs : List (Key × V)} {us : List (Key × Value)}, Pairs (mixKind P w) es us → KV kvs us →
    Vals (kvs.map fun p => kV p.1) (es.map (·.key)) ∧ Vals (kvs.map (·.2)) (es.map (·.val))
  | _, _, _, .nil, .nil => ⟨.nil, .nil⟩
  | _, _, _, .cons (e := e) h1 h2 t, .cons r rs => by
    obtain ⟨a, b⟩ := pairs_two t rs
    refine ⟨.cons ?_ a, .cons ?_ b⟩
    · show L2.RelV (kV _) _
      rw [r.1]
      rcases keyIs_shape h1 with ⟨i, t, e1, e2⟩ | ⟨x, t, e1, e2⟩
      · rw [e1]
        exact ⟨t, e2⟩
      · rw [e1]
        exact ⟨t, e2⟩
    · show L2.RelV _ (DictEntry.val _)
      rw [h2]
      exact r.2
mutual
theorem T.reads (I : Inv X pins σ H s) : ∀ (d : PyData) (v : V) (u : Value), T X.K M H v d → RelV v u → ∃ as, Reads s.heap u d as
  | .none, _, _, h, r => by
    cases h
    cases r
    exact ⟨_, .none⟩
  | .bool b, _, _, h, r => by
    cases h
    cases r
    exact ⟨_, .bool b⟩
  | .int i, _, _, h, r => by
    cases h
    obtain ⟨t, rfl⟩ := r
    exact ⟨_, .int i t⟩
  | .str x, _, _, h, r => by
    cases h
    obtain ⟨t, rfl⟩ := r
    exact ⟨_, .str x t⟩
  | .list ds, _, _, h, r => by
    cases h with
    | lst n ha t =>
      cases r
      obtain ⟨its, rv, ⟨o, k, ho, hc, _, hd⟩, _⟩ := I.list (SqL.of ha)
      obtain ⟨as, q⟩ := TA.reads I ds _ its t rv
      exact ⟨_, .list ho hc hd q⟩
  | .tuple ds, _, _, h, r => by
    cases h with
    | tup n ha t =>
      cases r
      obtain ⟨its, rv, ⟨o, ho, hc, k, hd⟩, _⟩ := I.tuple (SqT.of ha)
      obtain ⟨as, q⟩ := TA.reads I ds _ its t rv
      exact ⟨_, .tuple ho hc hd q⟩
  | .dict es, _, _, h, r => by
    cases h with
    | dct n ha t =>
      cases r
      obtain ⟨_, _, us, kv, o, es', ep, ho, hx, hd, _, hp, _⟩ := I.hok _ _ ha
      obtain ⟨r1, r2⟩ := pairs_two hp kv
      obtain ⟨⟨as, q1⟩, ⟨bs, q2⟩⟩ := TK.reads I es _ _ _ t r1 r2
      exact ⟨_, .dict ho hx.1 hd q1 q2⟩
theorem TA.reads (I : Inv X pins σ H s) : ∀ (ds : List PyData) (vs : List V) (us : List Value), TA X.K M H vs ds → Vals vs us → ∃ as, ReadsAll s.heap us ds as
  | [], _, _, h, r => by
    cases h
    cases r
    exact ⟨_, .nil⟩
  | d :: ds, _, _, h, r => by
    cases h with
    | cons h1 h2 =>
      cases r with
      | cons r1 r2 =>
        obtain ⟨as, q1⟩ := T.reads I d _ _ h1 r1
        obtain ⟨bs, q2⟩ := TA.reads I ds _ _ h2 r2
        exact ⟨_, .cons q1 q2⟩
theorem TK.reads (I : Inv X pins σ H s) : ∀ (es : List (PyData × PyData)) (kvs : List (Key × V)) (ks us : List Value), TK X.K M H kvs es → Vals (kvs.map fun p => kV p.1) ks → Vals (kvs.map (·.2)) us →
    (∃ as, ReadsAll s.heap ks (es.map (·.1)) as) ∧ ∃ bs, ReadsAll s.heap us (es.map (·.2)) bs
  | [], _, _, _, h, r1, r2 => by
    cases h
    cases r1
    cases r2
    exact ⟨⟨_, .nil⟩, ⟨_, .nil⟩⟩
  | (e, d) :: es, _, _, _, h, r1, r2 => by
    cases h with
    | cons h1 h2 h3 =>
      cases r1 with
      | cons a1 b1 =>
        cases r2 with
        | cons a2 b2 =>
          obtain ⟨as, q1⟩ := T.reads I e _ _ h1 a1
          obtain ⟨bs, q2⟩ := T.reads I d _ _ h2 a2
          obtain ⟨⟨cs, q3⟩, ⟨fs, q4⟩⟩ := TK.reads I es _ _ _ h3 b1 b2
          exact ⟨⟨_, .cons q1 q3⟩, ⟨_, .cons q2 q4⟩⟩
end
mutual
/-- .. and shown -/
theorem T.shows (I : Inv X pins σ H s) : ∀ (d : PyData) (v : V) (u : Value), T X.K M H v d → RelV v u → d.showable = true → d.shown.length ≤ sizeLine →
    ∃ bs, ReadAtMost s.heap d.depth bs ∧ ReprK X.prog X.w bs s.heap d.depth u d.shown
  | .none, _, _, h, r, _, _ => by
    cases h
    cases r
    exact ⟨[], (fun _ z => nomatch z), by simpa only [PyData.shown] using ReprK.of_is ReprIs.none [] s.heap _⟩
  | .bool b, _, _, h, r, _, _ => by
    cases h
    cases r
    exact ⟨[], (fun _ z => nomatch z), by simpa only [PyData.shown] using ReprK.of_is (ReprIs.bool b) [] s.heap _⟩
  | .int i, _, _, h, r, hs, _ => by
    cases h
    obtain ⟨t, rfl⟩ := r
    exact ⟨[], (fun _ z => nomatch z), by simpa only [PyData.shown] using ReprK.of_is (ReprIs.int t (by simpa [PyData.showable] using hs)) [] s.heap _⟩
  | .str x, _, _, h, r, _, hz => by
    cases h
    obtain ⟨t, rfl⟩ := r
    exact ⟨[], (fun _ z => nomatch z), by simpa only [PyData.shown] using ReprK.of_is (ReprIs.str x t (by simpa only [PyData.shown] using hz)) [] s.heap _⟩
  | .list ds, v, u, h, r, hs, hz => by
    obtain ⟨as0, rd⟩ := T.reads I _ v u h r
    cases h with
    | lst n ha t =>
      cases r
      obtain ⟨its, rv, ⟨o, k, ho, hc, _, hd⟩, _⟩ := I.list (SqL.of ha)
      have z' : (listText (PyData.shownAll ds)).length ≤ sizeLine := by simpa only [PyData.shown] using hz
      obtain ⟨bs, low, all⟩ := TA.shows I ds _ its t rv (by simpa [PyData.showable] using hs) fun x hx => Nat.le_trans (listText_mem_le hx) z'
      have out := not_mem_of_deeper rd (by simp only [PyData.depth]; omega) low
      refine ⟨_ :: bs, ReadAtMost.cons rd (by simp only [PyData.depth]; omega) low, ?_⟩
      simp only [PyData.depth, PyData.shown]
      cases its with
      | nil =>
        cases rv
        cases t
        simp only [PyData.shownAll, listText_nil]
        exact ReprK.listEmpty ho hc hd
      | cons x l => exact ReprK.list ho hc hd out (by simpa using all.length_eq) fun i y e => all.item i y (by simpa using e)
  | .tuple ds, v, u, h, r, hs, hz => by
    obtain ⟨as0, rd⟩ := T.reads I _ v u h r
    cases h with
    | tup n ha t =>
      cases r
      obtain ⟨its, rv, ⟨o, ho, hc, k, hd⟩, _⟩ := I.tuple (SqT.of ha)
      have z' : (tupleText (PyData.shownAll ds)).length ≤ sizeLine := by simpa only [PyData.shown] using hz
      obtain ⟨bs, low, all⟩ := TA.shows I ds _ its t rv (by simpa [PyData.showable] using hs) fun x hx => Nat.le_trans (tupleText_mem_le hx) z'
      have out := not_mem_of_deeper rd (by simp only [PyData.depth]; omega) low
      refine ⟨_ :: bs, ReadAtMost.cons rd (by simp only [PyData.depth]; omega) low, ?_⟩
      simp only [PyData.depth, PyData.shown]
      exact ReprK.tuple ho hc hd out (by simpa using all)
  | .dict es, v, u, h, r, hs, hz => by
    obtain ⟨as0, rd⟩ := T.reads I _ v u h r
    cases h with
    | dct n ha t =>
      cases r
      obtain ⟨_, sys, us, kv, o, es', ep, ho, hx, hd, _, hp, _⟩ := I.hok _ _ ha
      obtain ⟨r1, r2⟩ := pairs_two hp kv
      have z' : (dictText (PyData.shownKv es)).length ≤ sizeLine := by simpa only [PyData.shown] using hz
      obtain ⟨s1, s2⟩ := PyData.showableKv_split es (by simpa [PyData.showable] using hs)
      obtain ⟨⟨b1, l1, k1⟩, ⟨b2, l2, k2⟩⟩ := TK.shows I es _ _ _ t r1 r2 s1 s2
        (fun x hx => let ⟨p, hp, hl⟩ := PyData.shownKv_key_le es x hx; Nat.le_trans hl (Nat.le_trans (dictText_mem_le hp) z'))
        (fun x hx => let ⟨p, hp, hl⟩ := PyData.shownKv_val_le es x hx; Nat.le_trans hl (Nat.le_trans (dictText_mem_le hp) z'))
      have low : ReadAtMost s.heap (PyData.depthKv es) (b1 ++ b2) := (l1.mono (PyData.depthAll_keys_le es)).append (l2.mono (PyData.depthAll_vals_le es))
      have out := not_mem_of_deeper rd (by simp only [PyData.depth]; omega) low
      refine ⟨_ :: (b1 ++ b2), ReadAtMost.cons rd (by simp only [PyData.depth]; omega) low, ?_⟩
      simp only [PyData.depth, PyData.shown, PyData.shownKv_eq]
      exact ReprK.dict ho hx.1 hd sys out (ReprEntriesK.of_two es'.toList _ _ (k1.more_le (fun b hb => List.mem_append_left _ hb) (PyData.depthAll_keys_le es))
        (k2.more_le (fun b hb => List.mem_append_right _ hb) (PyData.depthAll_vals_le es)))
theorem TA.shows (I : Inv X pins σ H s) : ∀ (ds : List PyData) (vs : List V) (us : List Value), TA X.K M H vs ds → Vals vs us → PyData.showableAll ds = true → (∀ t ∈ PyData.shownAll ds, t.length ≤ sizeLine) →
    ∃ bs, ReadAtMost s.heap (PyData.depthAll ds) bs ∧ ReprAllK X.prog X.w bs s.heap (PyData.depthAll ds) us (PyData.shownAll ds)
  | [], _, _, h, r, _, _ => by
    cases h
    cases r
    exact ⟨[], (fun _ z => nomatch z), by simpa only [PyData.shownAll] using ReprAllK.nil⟩
  | d :: ds, _, _, h, r, hs, hz => by
    cases h with
    | cons h1 h2 =>
      cases r with
      | cons r1 r2 =>
        have hs' : d.showable = true ∧ PyData.showableAll ds = true := by simpa [PyData.showableAll] using hs
        obtain ⟨b1, l1, k1⟩ := T.shows I d _ _ h1 r1 hs'.1 (hz _ (by simp only [PyData.shownAll]; exact List.mem_cons_self ..))
        obtain ⟨b2, l2, k2⟩ := TA.shows I ds _ _ h2 r2 hs'.2 fun t ht => hz t (by simp only [PyData.shownAll]; exact List.mem_cons_of_mem _ ht)
        refine ⟨b1 ++ b2, ?_, ?_⟩
        · simp only [PyData.depthAll]
          exact (l1.mono (Nat.le_max_left _ _)).append (l2.mono (Nat.le_max_right _ _))
        · simp only [PyData.depthAll, PyData.shownAll]
          exact .cons ((k1.more fun b hb => List.mem_append_left _ hb).level_le (Nat.le_max_left _ _)) (k2.more_le (fun b hb => List.mem_append_right _ hb) (Nat.le_max_right _ _))
theorem TK.shows (I : Inv X pins σ H s) : ∀ (es : List (PyData × PyData)) (kvs : List (Key × V)) (ks us : List Value), TK X.K M H kvs es → Vals (kvs.map fun p => kV p.1) ks → Vals (kvs.map (·.2)) us →
    PyData.showableAll (es.map (·.1)) = true → PyData.showableAll (es.map (·.2)) = true → (∀ t ∈ PyData.shownAll (es.map (·.1)), t.length ≤ sizeLine) → (∀ t ∈ PyData.shownAll (es.map (·.2)), t.length ≤ sizeLine) →
    (∃ bs, ReadAtMost s.heap (PyData.depthAll (es.map (·.1))) bs ∧ ReprAllK X.prog X.w bs s.heap (PyData.depthAll (es.map (·.1))) ks (PyData.shownAll (es.map (·.1)))) ∧
    (∃ bs, ReadAtMost s.heap (PyData.depthAll (es.map (·.2))) bs ∧ ReprAllK X.prog X.w bs s.heap (PyData.depthAll (es.map (·.2))) us (PyData.shownAll (es.map (·.2))))
  | [], _, _, _, h, r1, r2, _, _, _, _ => by
    cases h
    cases r1
    cases r2
    exact ⟨⟨[], (fun _ z => nomatch z), by simpa only [List.map_nil, PyData.shownAll] using ReprAllK.nil⟩, ⟨[], (fun _ z => nomatch z), by simpa only [List.map_nil, PyData.shownAll] using ReprAllK.nil⟩⟩
  | (e, d) :: es, _, _, _, h, r1, r2, s1, s2, z1, z2 => by
    cases h with
    | cons h1 h2 h3 =>
      cases r1 with
      | cons a1 c1 =>
        cases r2 with
        | cons a2 c2 =>
          simp only [List.map_cons] at s1 s2 z1 z2 ⊢
          have t1 : e.showable = true ∧ PyData.showableAll (es.map (·.1)) = true := by simpa [PyData.showableAll] using s1
          have t2 : d.showable = true ∧ PyData.showableAll (es.map (·.2)) = true := by simpa [PyData.showableAll] using s2
          obtain ⟨b1, l1, k1⟩ := T.shows I e _ _ h1 a1 t1.1 (z1 _ (by simp only [PyData.shownAll]; exact List.mem_cons_self ..))
          obtain ⟨b2, l2, k2⟩ := T.shows I d _ _ h2 a2 t2.1 (z2 _ (by simp only [PyData.shownAll]; exact List.mem_cons_self ..))
          obtain ⟨⟨b3, l3, k3⟩, ⟨b4, l4, k4⟩⟩ := TK.shows I es _ _ _ h3 c1 c2 t1.2 t2.2 (fun t ht => z1 t (by simp only [PyData.shownAll]; exact List.mem_cons_of_mem _ ht)) (fun t ht => z2 t (by simp only [PyData.shownAll]; exact List.mem_cons_of_mem _ ht))
          refine ⟨⟨b1 ++ b3, ?_, ?_⟩, ⟨b2 ++ b4, ?_, ?_⟩⟩
          · simp only [PyData.depthAll]
            exact (l1.mono (Nat.le_max_left _ _)).append (l3.mono (Nat.le_max_right _ _))
          · simp only [PyData.depthAll, PyData.shownAll]
            exact .cons ((k1.more fun b hb => List.mem_append_left _ hb).level_le (Nat.le_max_left _ _)) (k3.more_le (fun b hb => List.mem_append_right _ hb) (Nat.le_max_right _ _))
          · simp only [PyData.depthAll]
            exact (l2.mono (Nat.le_max_left _ _)).append (l4.mono (Nat.le_max_right _ _))
          · simp only [PyData.depthAll, PyData.shownAll]
            exact .cons ((k2.more fun b hb => List.mem_append_left _ hb).level_le (Nat.le_max_left _ _)) (k4.more_le (fun b hb => List.mem_append_right _ hb) (Nat.le_max_right _ _))
end
end

/-! ### repr -/
/-- what repr asks of data: ints of a size that is written out, a text that fits -/
def Shown (d : PyData) : Prop := d.showable = true ∧ d.shown.length ≤ sizeLine ∧ d.depth ≤ 100
def rRepr (K : PySem.W.Frag) : List V → Hp → VK → Prop := fun xs H Q => ∃ (v : V) (M : List Addr) (d : PyData), xs = [v] ∧ T K M H v d ∧ Shown d ∧ Q (.str d.shown) H
section
variable {X : Cx}
theorem call_repr {k : Nat} (hG : X.A.guards = some []) (hr : Room k X.A) : CallR X (.builtin "repr") (rRepr X.K) := by
  intro pins s σ H xs us Q I r h
  obtain ⟨v, M, d, rfl, ht, ⟨hs, hz, hd⟩, q⟩ := h
  obtain ⟨u, rfl, ru⟩ := vals1 r
  have room := hr.un
  have back : ∀ h' tok tk, (∀ b o, s.heap.get? b = some o → h'.get? b = some o) → EP X pins σ Q (.str d.shown tok) { s with heap := h', toks := tk } := fun h' tok tk kp => ⟨.str d.shown, H, I.kept kp, ⟨tok, rfl⟩, q⟩
  have ofCall : ∀ h' tok tk, (∀ b o, s.heap.get? b = some o → h'.get? b = some o) → ∃ y t, Value.str d.shown tok = Value.str y t ∧ EP X pins σ Q (.str d.shown tok) { s with heap := h', toks := tk } := fun h' tok tk kp => ⟨_, _, rfl, back h' tok tk kp⟩
  cases ht with
  | non =>
    cases ru
    exact PySem.P.repr_of_none (by simpa only [PyData.shown] using back s.heap _ _ fun _ _ e => e)
  | bl b =>
    cases ru
    exact PySem.P.repr_of_bool (by simpa only [PyData.shown] using back s.heap _ _ fun _ _ e => e)
  | int i =>
    obtain ⟨t, rfl⟩ := ru
    exact PySem.P.repr_of_int (by simpa [PyData.showable] using hs) (by simpa only [PyData.shown] using back s.heap _ _ fun _ _ e => e)
  | str x =>
    obtain ⟨t, rfl⟩ := ru
    exact PySem.P.repr_of_str (by simpa only [PyData.shown] using back s.heap _ _ fun _ _ e => e) (by simpa only [PyData.shown] using hz)
  | @lst a xs ds n ha t =>
    obtain ⟨as0, rd⟩ := T.reads I _ _ _ (T.lst n ha t) ru
    cases ru
    obtain ⟨its, rv, ⟨o, k', ho, hc, _, hdat⟩, _⟩ := I.list (SqL.of ha)
    have z' : (listText (PyData.shownAll ds)).length ≤ sizeLine := by simpa only [PyData.shown] using hz
    obtain ⟨bs, low, all⟩ := TA.shows I ds _ its t rv (by simpa [PyData.showable] using hs) fun x hx => Nat.le_trans (listText_mem_le hx) z'
    have out := not_mem_of_deeper rd (by simp only [PyData.depth]; omega) low
    simp only [PyData.depth] at hd
    simp only [PyData.shown] at ofCall
    refine call_repr_slot (T := "list") (idr := "list.__repr__") (by omega) ⟨o, ho, hc⟩ F.slot_list_repr.toG ?_
    cases its with
    | nil =>
      cases rv
      cases t
      simp only [PyData.shownAll, listText_nil] at ofCall
      exact call_list_repr_empty ⟨o, ho, hc⟩ ho hdat (ofCall s.heap _ _ fun _ _ e => e)
    | cons x l =>
      exact call_list_reprK ho hc hdat out (by simpa using all.length_eq) (fun i y e => all.item i y (by simpa using e)) hG (fun b _ => Clear.nil b) (by show X.A.units + 1 + (_ + 1) < cLine; omega) (fun _ _ e => e) ofCall z'
  | @tup a xs ds n ha t =>
    obtain ⟨as0, rd⟩ := T.reads I _ _ _ (T.tup n ha t) ru
    cases ru
    obtain ⟨its, rv, ⟨o, ho, hc, k', hdat⟩, _⟩ := I.tuple (SqT.of ha)
    have z' : (tupleText (PyData.shownAll ds)).length ≤ sizeLine := by simpa only [PyData.shown] using hz
    obtain ⟨bs, low, all⟩ := TA.shows I ds _ its t rv (by simpa [PyData.showable] using hs) fun x hx => Nat.le_trans (tupleText_mem_le hx) z'
    have out := not_mem_of_deeper rd (by simp only [PyData.depth]; omega) low
    simp only [PyData.depth] at hd
    simp only [PyData.shown] at ofCall
    refine call_repr_slot (T := "tuple") (idr := "tuple.__repr__") (by omega) ⟨o, ho, hc⟩ F.slot_tuple_repr ?_
    exact call_tuple_reprK ho hc hdat out (by simpa using all) hG (fun b _ => Clear.nil b) (by show X.A.units + 1 + (_ + 1) < cLine; omega) (fun _ _ e => e) ofCall z'
  | @dct a kvs es n ha t =>
    obtain ⟨as0, rd⟩ := T.reads I _ _ _ (T.dct n ha t) ru
    cases ru
    obtain ⟨_, sys, us, kv, o, es', ep, ho, hx, hdat, _, hp, _⟩ := I.hok _ _ ha
    obtain ⟨r1, r2⟩ := pairs_two hp kv
    have z' : (dictText (PyData.shownKv es)).length ≤ sizeLine := by simpa only [PyData.shown] using hz
    obtain ⟨s1, s2⟩ := PyData.showableKv_split es (by simpa [PyData.showable] using hs)
    obtain ⟨⟨b1, l1, k1⟩, ⟨b2, l2, k2⟩⟩ := TK.shows I es _ _ _ t r1 r2 s1 s2
      (fun x hx => let ⟨p, hp, hl⟩ := PyData.shownKv_key_le es x hx; Nat.le_trans hl (Nat.le_trans (dictText_mem_le hp) z'))
      (fun x hx => let ⟨p, hp, hl⟩ := PyData.shownKv_val_le es x hx; Nat.le_trans hl (Nat.le_trans (dictText_mem_le hp) z'))
    have low : ReadAtMost s.heap (PyData.depthKv es) (b1 ++ b2) := (l1.mono (PyData.depthAll_keys_le es)).append (l2.mono (PyData.depthAll_vals_le es))
    have out := not_mem_of_deeper rd (by simp only [PyData.depth]; omega) low
    simp only [PyData.depth] at hd
    simp only [PyData.shown, PyData.shownKv_eq] at ofCall
    refine call_repr_slot (T := "dict") (idr := "dict.__repr__") (by omega) ⟨o, ho, hx.1⟩ F.slot_dict_repr ?_
    exact call_dict_reprK ho hx.1 hdat sys out (ReprEntriesK.of_two es'.toList _ _ (k1.more_le (fun b hb => List.mem_append_left _ hb) (PyData.depthAll_keys_le es))
        (k2.more_le (fun b hb => List.mem_append_right _ hb) (PyData.depthAll_vals_le es))) hG (fun b _ => Clear.nil b) (by show X.A.units + 1 + (PyData.depthKv es + 1) < cLine; omega) (fun _ _ e => e) ofCall (by rw [← PyData.shownKv_eq]; exact z')
end
end U

set_option Elab.async false
set_option linter.all false
set_option maxRecDepth 100000
set_option maxHeartbeats 2000000
namespace U
open PySem PySem.Spec PyProof.Rows L2

/-! ### short steps of a reading -/
section
variable {a b : TS} {D : Ends} {σ : L2.St} {H : Hp}
/-- two statements, what holds between them -/
theorem sq (J : L2.St → Hp → Prop) (h1 : ∀ N : L2.St → Hp → Prop, (∀ σ' H', J σ' H' → N σ' H') → a { D with nx := N } σ H) (h2 : ∀ σ' H', J σ' H' → b D σ' H') : tSeq a b D σ H := h1 _ h2
theorem nx_ {N : L2.St → Hp → Prop} (h : N σ H) : tNext { D with nx := N } σ H := h
theorem two_ {i j : Nat} {x y : V} {Q : L2.St → Hp → Prop} (h : Q ((σ.set i (some x)).set j (some y)) H) : gCons (gName i) (gCons (gName j) gNil) [x, y] σ H Q := ⟨_, _, rfl, _, _, rfl, rfl, h⟩
theorem if_ {P Q : Prop} {c : Bool} (h1 : c = true → P) (h2 : c = false → Q) : if c = true then P else Q := by
  cases c with
  | true => exact iteT (h1 rfl)
  | false => exact iteF (h2 rfl)
theorem idec {P Q c : Prop} [Decidable c] (h1 : c → P) (h2 : ¬ c → Q) : if (decide c) = true then P else Q := by
  by_cases h : c
  · rw [decide_eq_true h]
    exact iteT (h1 h)
  · rw [decide_eq_false h]
    exact iteF (h2 h)
theorem ndec {P Q c : Prop} [Decidable c] (h1 : c → Q) (h2 : ¬ c → P) : if (!decide c) = true then P else Q := by
  by_cases h : c
  · rw [decide_eq_true h]
    exact iteF (h1 h)
  · rw [decide_eq_false h]
    exact iteT (h2 h)
theorem if_t {P Q : Prop} {c : Bool} (e : c = true) (h : P) : if c = true then P else Q := by rw [e]; exact iteT h
theorem if_f {P Q : Prop} {c : Bool} (e : c = false) (h : Q) : if c = true then P else Q := by rw [e]; exact iteF h
end
/-- a comprehension's turn without a test -/
theorem yes_ {te : TE} {σ : L2.St} {H : Hp} {Q : VK} {R : Hp → Prop} (h : te σ H Q) : tYes σ H fun b H' => if b = true then te σ H' Q else R H' := by
  show if true = true then te σ H Q else R H
  rw [if_pos rfl]
  exact h
/-- a module's number -/
theorem pe_gi {X : Cx} {x : Str} {i : Int} {pos : Pos} (hg : Gl X x) (h : ∃ t, X.mg x = some (.int i t)) (hd : (x == ("__debug__" : Str)) = false := by decide) : PE X (.Name x pos) (tC (.int i)) := by
  obtain ⟨t, e⟩ := h
  exact pe_glob hg e ⟨t, rfl⟩ hd
theorem ne_new {H : Hp} {a p : Addr} {o u : HO} (h : H a = some o) (hp : H p = none) : upd H p u a = some o := by
  rw [upd_ne (ne_of_none h hp)]
  exact h
end U

set_option Elab.async false
set_option linter.all false
set_option maxRecDepth 100000
set_option maxHeartbeats 2000000
namespace U
open PySem PySem.Spec PyProof.Rows L2

/-! ### a list or tuple against the empty one -/
section
variable {X : Cx}
theorem lstOf {pins : List (Addr × Obj)} {σ : L2.St} {H : Hp} {s : Shared} {a : Addr} {xs : List V} (I : Inv X pins σ H s) (h : SqL X.K H a xs) : ∃ its : List Value, its.length = xs.length ∧ s.heap.IsList a its.toArray := by
  obtain ⟨its, rv, ⟨o, n, ho, hc, _, hd⟩, _⟩ := I.list h
  exact ⟨its, rv.length.symm, o, ho, hc, n, hd⟩
theorem tupOf {pins : List (Addr × Obj)} {σ : L2.St} {H : Hp} {s : Shared} {a : Addr} {xs : List V} (I : Inv X pins σ H s) (h : SqT X.K H a xs) : ∃ its : List Value, its.length = xs.length ∧ s.heap.IsTuple a its.toArray := by
  obtain ⟨its, rv, ⟨o, ho, hc, n, hd⟩, _⟩ := I.tuple h
  exact ⟨its, rv.length.symm, o, ho, hc, n, hd⟩
def rNil (K : PySem.W.Frag) (neg : Bool) : R2 := fun x y H Q => ∃ a b xs, x = .ref a ∧ y = .ref b ∧ ((SqL K H a xs ∧ SqL K H b []) ∨ (SqT K H a xs ∧ SqT K H b [])) ∧ Q (.bl (if neg then !xs.isEmpty else xs.isEmpty)) H
theorem op_neNil {k : Nat} (hr : Room k X.A) : OpR X (compareOp .NotEq) (rNil X.K true) := by
  intro pins s σ H x y v u Q I rx ry h
  obtain ⟨a, b, xs, rfl, rfl, h, q⟩ := h
  cases (show v = Value.ref a from rx)
  cases (show u = Value.ref b from ry)
  have room := hr.un
  have q' : EP X pins σ Q (.bool (!xs.isEmpty)) s := ⟨.bl (!xs.isEmpty), H, I, rfl, q⟩
  rcases h with ⟨h1, h2⟩ | ⟨h1, h2⟩
  · obtain ⟨i1, l1, L1⟩ := lstOf I h1
    obtain ⟨i2, l2, L2⟩ := lstOf I h2
    have e2 : i2 = [] := List.length_eq_zero_iff.mp l2
    subst e2
    cases xs with
    | nil =>
      have e1 : i1 = [] := List.length_eq_zero_iff.mp l1
      subst e1
      exact PySem.SeqAt.RcNeAt.lists (e := fun _ => true) L1 L2 rfl (by omega) (fun j h1 h2 => absurd h1 (by simp)) _ _ _ _ (by simpa using q')
    | cons x xs =>
      exact PySem.SeqAt.RcNeAt.lists_lengths L1 L2 (by simp [l1]) (by omega) _ _ _ _ q'
  · obtain ⟨i1, l1, L1⟩ := tupOf I h1
    obtain ⟨i2, l2, L2⟩ := tupOf I h2
    have e2 : i2 = [] := List.length_eq_zero_iff.mp l2
    subst e2
    refine PySem.SeqAt.RcNeAt.tuples (e := fun _ => true) L1 L2 (by omega) (fun j h1 h2 => absurd h2 (by simp)) _ _ _ _ ?_
    cases xs with
    | nil => simpa [l1] using q'
    | cons x xs => simpa [l1] using q'
theorem op_eqNil {k : Nat} (hr : Room k X.A) : OpR X (compareOp .Eq) (rNil X.K false) := by
  intro pins s σ H x y v u Q I rx ry h
  obtain ⟨a, b, xs, rfl, rfl, h, q⟩ := h
  cases (show v = Value.ref a from rx)
  cases (show u = Value.ref b from ry)
  have room := hr.un
  have q' : EP X pins σ Q (.bool xs.isEmpty) s := ⟨.bl xs.isEmpty, H, I, rfl, q⟩
  rcases h with ⟨h1, h2⟩ | ⟨h1, h2⟩
  · obtain ⟨i1, l1, L1⟩ := lstOf I h1
    obtain ⟨i2, l2, L2⟩ := lstOf I h2
    have e2 : i2 = [] := List.length_eq_zero_iff.mp l2
    subst e2
    cases xs with
    | nil =>
      have e1 : i1 = [] := List.length_eq_zero_iff.mp l1
      subst e1
      exact PySem.SeqAt.RcAt.lists (e := fun _ => true) L1 L2 rfl (by omega) (fun j h1 h2 => absurd h1 (by simp)) _ _ _ _ (by simpa using q')
    | cons x xs =>
      exact PySem.SeqAt.RcAt.lists_lengths L1 L2 (by simp [l1]) (by omega) _ _ _ _ q'
  · obtain ⟨i1, l1, L1⟩ := tupOf I h1
    obtain ⟨i2, l2, L2⟩ := tupOf I h2
    have e2 : i2 = [] := List.length_eq_zero_iff.mp l2
    subst e2
    refine PySem.SeqAt.RcAt.tuples (e := fun _ => true) L1 L2 (by omega) (fun j h1 h2 => absurd h2 (by simp)) _ _ _ _ ?_
    cases xs with
    | nil => simpa [l1] using q'
    | cons x xs => simpa [l1] using q'
end

/-! ### isinstance of data -/
def tyName : PyData → String
  | .none => "NoneType" | .bool _ => "bool" | .int _ => "int" | .str _ => "str" | .list _ => "list" | .tuple _ => "tuple" | .dict _ => "dict"
theorem T.ty {K : PySem.W.Frag} {M : List Addr} {H : Hp} {v : V} {d : PyData} (h : T K M H v d) : TyX K H v (.type (tyName d)) := by
  cases h with
  | non => exact .base .non
  | bl b => exact .base (.bl b)
  | int i => exact .base (.int i)
  | str x => exact .base (.str x)
  | lst n h t => exact .base (.lst h)
  | tup n h t => exact .base (.tup h)
  | dct n h t => exact .base (.dK h)
def isInt : PyData → Bool | .bool _ => true | .int _ => true | _ => false
def isBool : PyData → Bool | .bool _ => true | _ => false
def isTup : PyData → Bool | .tuple _ => true | _ => false
def isList : PyData → Bool | .list _ => true | _ => false
def isStr : PyData → Bool | .str _ => true | _ => false
theorem kit_int (d : PyData) : kitB (tyName d) "int" = some (isInt d) := by
  cases d with
  | none => exact (by decide +kernel : kitB "NoneType" "int" = some false)
  | bool _ => exact (by decide +kernel : kitB "bool" "int" = some true)
  | int _ => exact (by decide +kernel : kitB "int" "int" = some true)
  | str _ => exact (by decide +kernel : kitB "str" "int" = some false)
  | list _ => exact (by decide +kernel : kitB "list" "int" = some false)
  | tuple _ => exact (by decide +kernel : kitB "tuple" "int" = some false)
  | dict _ => exact (by decide +kernel : kitB "dict" "int" = some false)
theorem kit_bool (d : PyData) : kitB (tyName d) "bool" = some (isBool d) := by
  cases d with
  | none => exact (by decide +kernel : kitB "NoneType" "bool" = some false)
  | bool _ => exact (by decide +kernel : kitB "bool" "bool" = some true)
  | int _ => exact (by decide +kernel : kitB "int" "bool" = some false)
  | str _ => exact (by decide +kernel : kitB "str" "bool" = some false)
  | list _ => exact (by decide +kernel : kitB "list" "bool" = some false)
  | tuple _ => exact (by decide +kernel : kitB "tuple" "bool" = some false)
  | dict _ => exact (by decide +kernel : kitB "dict" "bool" = some false)
theorem kit_tup (d : PyData) : kitB (tyName d) "tuple" = some (isTup d) := by
  cases d with
  | none => exact (by decide +kernel : kitB "NoneType" "tuple" = some false)
  | bool _ => exact (by decide +kernel : kitB "bool" "tuple" = some false)
  | int _ => exact (by decide +kernel : kitB "int" "tuple" = some false)
  | str _ => exact (by decide +kernel : kitB "str" "tuple" = some false)
  | list _ => exact (by decide +kernel : kitB "list" "tuple" = some false)
  | tuple _ => exact (by decide +kernel : kitB "tuple" "tuple" = some true)
  | dict _ => exact (by decide +kernel : kitB "dict" "tuple" = some false)
theorem kit_list (d : PyData) : kitB (tyName d) "list" = some (isList d) := by
  cases d with
  | none => exact (by decide +kernel : kitB "NoneType" "list" = some false)
  | bool _ => exact (by decide +kernel : kitB "bool" "list" = some false)
  | int _ => exact (by decide +kernel : kitB "int" "list" = some false)
  | str _ => exact (by decide +kernel : kitB "str" "list" = some false)
  | list _ => exact (by decide +kernel : kitB "list" "list" = some true)
  | tuple _ => exact (by decide +kernel : kitB "tuple" "list" = some false)
  | dict _ => exact (by decide +kernel : kitB "dict" "list" = some false)
theorem kit_str (d : PyData) : kitB (tyName d) "str" = some (isStr d) := by
  cases d with
  | none => exact (by decide +kernel : kitB "NoneType" "str" = some false)
  | bool _ => exact (by decide +kernel : kitB "bool" "str" = some false)
  | int _ => exact (by decide +kernel : kitB "int" "str" = some false)
  | str _ => exact (by decide +kernel : kitB "str" "str" = some true)
  | list _ => exact (by decide +kernel : kitB "list" "str" = some false)
  | tuple _ => exact (by decide +kernel : kitB "tuple" "str" = some false)
  | dict _ => exact (by decide +kernel : kitB "dict" "str" = some false)
/-- isinstance(x, type): the answer by the datum -/
theorem isi_ {K : PySem.W.Frag} {M : List Addr} {H : Hp} {v : V} {d : PyData} {n : String} {b : Bool} {Q : VK} (t : T K M H v d) (e : kitB (tyName d) n = some b) (q : Q (.bl b) H) : rIsi K [v, .ty n] H Q :=
  ⟨v, .ty n, _, _, b, rfl, .ty n, t.ty, kit_ty e, q⟩
end U

set_option Elab.async false
set_option linter.all false
set_option maxRecDepth 100000
set_option maxHeartbeats 2000000
namespace U
open PySem PySem.Spec PyProof.Rows L2

theorem not_mem_of_none {N : List Addr} {H : Hp} {D : Addr} (tr : ∀ b ∈ N, H b ≠ none) (h : H D = none) : D ∉ N := fun z => tr D z h
theorem Ext.tracked {N : List Addr} {H H' : Hp} {b : Addr} {o : HO} (e : Ext N H H') (n : b ∉ N) (h : H b = some o) : H' b = some o := e b o n h
theorem Ext.fresh {N : List Addr} {H H' : Hp} {p : Addr} (e : Ext N H H') (n : p ∉ N) (h : H' p = none) : H p = none := by
  cases q : H p with
  | none => rfl
  | some o =>
    rw [e p o n q] at h
    cases h
theorem TA.of_bools {K : PySem.W.Frag} {M : List Addr} {H : Hp} : ∀ {ys : List V} {bs : List Bool}, TA K M H ys (bs.map .bool) → ys = bs.map V.bl
  | _, [], h => by
    cases h
    rfl
  | _, b :: bs, h => by
    cases h with
    | cons h1 h2 =>
      cases h1
      rw [TA.of_bools h2]
      rfl
theorem T.mut {K : PySem.W.Frag} {M : List Addr} {H : Hp} {p : Addr} {o : HO} {v : V} {d : PyData} (h : T K M H v d) (hp : p ∈ M) : T K M (upd H p o) v d := h.ext (Ext.put hp)
section
variable {K : PySem.W.Frag} {M N : List Addr} {g : TG} {tt : TT} {te : TE} {vs : List Nat} {σ : L2.St} {H1 : Hp} {D : Addr} {Qd : Hp → Prop}
/-- what one turn of a comprehension is asked: the item taken, the test, the element; Ky: what is wanted of the element, Kn: where the item is not kept -/
def Turn (g : TG) (tt : TT) (te : TE) (vs : List Nat) (σ : L2.St) (x : V) (H : Hp) (Ky : V → Hp → Prop) (Kn : Hp → Prop) : Prop :=
  g x (wipe σ vs) H fun σ2 H2 => wipe σ2 vs = wipe σ vs ∧ tt σ2 H2 fun b H3 => if b = true then te σ2 H3 Ky else Kn H3

/-- the state ahead of turn i: the list so far -/
def Sofar (K : PySem.W.Frag) (M N : List Addr) (H1 : Hp) (D : Addr) (J : Nat → Hp → Prop) (keep : PyData → Bool) (f : PyData → PyData → Prop) (ds : List PyData) (i : Nat) (H : Hp) : Prop :=
  ∃ (ys : List V) (es : List PyData), Ext N H1 H ∧ J i H ∧ H D = some (.lst ys) ∧ TA K M H ys es ∧ Paired f ((ds.take i).filter keep) es
theorem Paired.snoc {α β : Type} {F : α → β → Prop} : ∀ {l : List α} {m : List β} {a : α} {b : β}, Paired F l m → F a b → Paired F (l ++ [a]) (m ++ [b])
  | _, _, _, _, .nil, h => .cons h .nil
  | _, _, _, _, .cons r t, h => .cons r (Paired.snoc t h)
theorem Paired.len {α β : Type} {F : α → β → Prop} : ∀ {l : List α} {m : List β}, Paired F l m → l.length = m.length
  | _, _, .nil => rfl
  | _, _, .cons _ t => by rw [List.length_cons, List.length_cons, Paired.len t]
theorem paired_map {α β : Type} {h : α → β} : ∀ {l : List α} {m : List β}, Paired (fun a b => b = h a) l m → m = l.map h
  | _, _, .nil => rfl
  | _, _, .cons r t => by rw [r, paired_map t]; rfl

theorem sofar_turn {J : Nat → Hp → Prop} {keep : PyData → Bool} {f : PyData → PyData → Prop} {ds : List PyData} {i : Nat} {x : V} {d : PyData} {H : Hp} (hl : ds.length ≤ 100000)
    (hNM : ∀ b ∈ N, b ∈ M) (hDN : D ∉ N) (hDM : D ∉ M) (hD : H1 D = none) (hJ : ∀ i H o, J i H → J i (upd H D o)) (hd : ds[i]? = some d)
    (p : Sofar K (D :: M) N H1 D J keep f ds i H)
    (turn : ∀ (Ky : V → Hp → Prop) (Kn : Hp → Prop), (keep d = false → ∀ H', Ext N H H' → J (i + 1) H' → Kn H') →
      (keep d = true → ∀ H' y e, Ext N H H' → J (i + 1) H' → T K (D :: M) H' y e → f d e → Ky y H') → Turn g tt te vs σ x H Ky Kn) :
    g x (wipe σ vs) H fun σ2 H2 => wipe σ2 vs = wipe σ vs ∧ tt σ2 H2 fun b H3 => if b = true then te σ2 H3 fun y H4 => ∃ acc, H4 D = some (.lst acc) ∧ acc.length < sizeLine ∧ Sofar K (D :: M) N H1 D J keep f ds (i + 1) (upd H4 D (.lst (acc ++ [y])))
      else Sofar K (D :: M) N H1 D J keep f ds (i + 1) H3 := by
  obtain ⟨ys, es, e, j, hDy, ht, pr⟩ := p
  have eM : ∀ {A B : Hp}, Ext N A B → Ext (D :: M) A B := fun x => x.sub fun b hb => List.mem_cons_of_mem _ (hNM b hb)
  refine turn _ _ (fun hk H' e' j' => ⟨ys, es, e.trans e', j', e' _ _ hDN hDy, ht.ext (eM e'), ?_⟩) (fun hk H' y ed e' j' ty fy => ⟨ys, e' _ _ hDN hDy, ?_, ys ++ [y], es ++ [ed], ?_, hJ _ _ _ j', upd_same, ?_, ?_⟩)
  · rw [List.take_add_one, hd, List.filter_append]
    simpa [hk] using pr
  · have l1 := ht.len
    have l2 := Paired.len pr
    have l3 := List.length_filter_le keep (ds.take i)
    rw [List.length_take] at l3
    exact Nat.lt_of_le_of_lt (show ys.length ≤ 100000 by omega) (by decide)
  · intro b o nb hb
    have hbD : b ≠ D := ne_of_none hb hD
    rw [upd_ne hbD]
    exact e' _ _ nb (e _ _ nb hb)
  · exact ((ht.ext (eM e')).app (.one ty)).ext (Ext.put (by simp))
  · rw [List.take_add_one, hd, List.filter_append]
    have : (some d).toList.filter keep = [d] := by simp [hk]
    rw [this]
    exact Paired.snoc pr fy

/-- a comprehension over a tuple of data -/
theorem lcT {a : Addr} {xs : List V} {ds : List PyData} (J : Nat → Hp → Prop) (keep : PyData → Bool) (f : PyData → PyData → Prop) (ha : H1 a = some (.tup xs)) (na : a ∉ M) (ht : TA K M H1 xs ds) (hl : ds.length ≤ 100000)
    (hNM : ∀ b ∈ N, b ∈ M) (hN : ∀ b ∈ M, H1 b ≠ none) (hD : H1 D = none) (j0 : J 0 H1) (hJ : ∀ i H o, J i H → J i (upd H D o))
    (turn : ∀ i x d H, ds[i]? = some d → T K (D :: M) H x d → Ext N H1 H → J i H → ∀ (Ky : V → Hp → Prop) (Kn : Hp → Prop), (keep d = false → ∀ H', Ext N H H' → J (i + 1) H' → Kn H') →
      (keep d = true → ∀ H' y e, Ext N H H' → J (i + 1) H' → T K (D :: M) H' y e → f d e → Ky y H') → Turn g tt te vs σ x H Ky Kn)
    (hd : ∀ H ys es, Ext N H1 H → J ds.length H → H D = some (.lst ys) → TA K M H ys es → Paired f (ds.filter keep) es → Qd H) :
    ∃ W : Nat → Nat → Hp → Prop, (∃ m, W 0 m (upd H1 D (.lst []))) ∧ ∀ i m H, W i m H →
      ((Itt K a).stop i H ∧ Qd H) ∨ ((Itt K a).go i H ∧ ∃ Nx : Hp → Prop, (∀ H', Nx H' → ∃ m', m' < m ∧ W (i + 1) m' H') ∧ ∀ x H', (Itt K a).yld i H x H' → g x (wipe σ vs) H' fun σ2 H2 => wipe σ2 vs = wipe σ vs ∧ tt σ2 H2 fun b H3 =>
        if b = true then te σ2 H3 fun y H4 => ∃ acc, H4 D = some (.lst acc) ∧ acc.length < sizeLine ∧ Nx (upd H4 D (.lst (acc ++ [y]))) else Nx H3) := by
  have hDM : D ∉ M := fun z => hN D z hD
  have hDN : D ∉ N := fun z => hDM (hNM D z)
  have naN : a ∉ N := fun z => na (hNM a z)
  have hT : TA K (D :: M) H1 xs ds := ht.plus hD
  refine lc_tup (K := K) (a := a) (xs := xs) (fun i H => Sofar K (D :: M) N H1 D J keep f ds i H) ⟨[], [], Ext.new hD, hJ _ _ _ j0, upd_same, .nil, by simpa using Paired.nil⟩ (fun i H _ p => ?_) (fun i x H hx p => ?_) (fun H p => ?_)
  · obtain ⟨_, _, e, _⟩ := p
    exact SqT.of (e _ _ naN ha)
  · obtain ⟨d, hdi, td⟩ := hT.get hx
    have e := let ⟨_, _, e, _⟩ := p; e
    have j := let ⟨_, _, _, j, _⟩ := p; j
    exact sofar_turn hl hNM hDN hDM hD hJ hdi p (turn i x d H hdi (td.ext (e.sub fun b hb => List.mem_cons_of_mem _ (hNM b hb))) e j)
  · obtain ⟨ys, es, e, j, h1, h2, h3⟩ := p
    rw [ht.len, List.take_length] at h3
    rw [ht.len] at j
    exact hd H ys es e j h1 (h2.off fun b hb => List.mem_cons_of_mem _ hb) h3
/-- over a list of data -/
theorem lcL {a : Addr} {xs : List V} {ds : List PyData} (J : Nat → Hp → Prop) (keep : PyData → Bool) (f : PyData → PyData → Prop) (ha : H1 a = some (.lst xs)) (na : a ∉ M) (ht : TA K M H1 xs ds) (hl : ds.length ≤ 100000)
    (hNM : ∀ b ∈ N, b ∈ M) (hN : ∀ b ∈ M, H1 b ≠ none) (hD : H1 D = none) (j0 : J 0 H1) (hJ : ∀ i H o, J i H → J i (upd H D o))
    (turn : ∀ i x d H, ds[i]? = some d → T K (D :: M) H x d → Ext N H1 H → J i H → ∀ (Ky : V → Hp → Prop) (Kn : Hp → Prop), (keep d = false → ∀ H', Ext N H H' → J (i + 1) H' → Kn H') →
      (keep d = true → ∀ H' y e, Ext N H H' → J (i + 1) H' → T K (D :: M) H' y e → f d e → Ky y H') → Turn g tt te vs σ x H Ky Kn)
    (hd : ∀ H ys es, Ext N H1 H → J ds.length H → H D = some (.lst ys) → TA K M H ys es → Paired f (ds.filter keep) es → Qd H) :
    ∃ W : Nat → Nat → Hp → Prop, (∃ m, W 0 m (upd H1 D (.lst []))) ∧ ∀ i m H, W i m H →
      ((Itl K a).stop i H ∧ Qd H) ∨ ((Itl K a).go i H ∧ ∃ Nx : Hp → Prop, (∀ H', Nx H' → ∃ m', m' < m ∧ W (i + 1) m' H') ∧ ∀ x H', (Itl K a).yld i H x H' → g x (wipe σ vs) H' fun σ2 H2 => wipe σ2 vs = wipe σ vs ∧ tt σ2 H2 fun b H3 =>
        if b = true then te σ2 H3 fun y H4 => ∃ acc, H4 D = some (.lst acc) ∧ acc.length < sizeLine ∧ Nx (upd H4 D (.lst (acc ++ [y]))) else Nx H3) := by
  have hDM : D ∉ M := fun z => hN D z hD
  have hDN : D ∉ N := fun z => hDM (hNM D z)
  have naN : a ∉ N := fun z => na (hNM a z)
  have hT : TA K (D :: M) H1 xs ds := ht.plus hD
  refine lc_list (K := K) (a := a) (xs := xs) (fun i H => Sofar K (D :: M) N H1 D J keep f ds i H) ⟨[], [], Ext.new hD, hJ _ _ _ j0, upd_same, .nil, by simpa using Paired.nil⟩ (fun i H _ p => ?_) (fun i x H hx p => ?_) (fun H p => ?_)
  · obtain ⟨_, _, e, _⟩ := p
    exact SqL.of (e _ _ naN ha)
  · obtain ⟨d, hdi, td⟩ := hT.get hx
    have e := let ⟨_, _, e, _⟩ := p; e
    have j := let ⟨_, _, _, j, _⟩ := p; j
    exact sofar_turn hl hNM hDN hDM hD hJ hdi p (turn i x d H hdi (td.ext (e.sub fun b hb => List.mem_cons_of_mem _ (hNM b hb))) e j)
  · obtain ⟨ys, es, e, j, h1, h2, h3⟩ := p
    rw [ht.len, List.take_length] at h3
    rw [ht.len] at j
    exact hd H ys es e j h1 (h2.off fun b hb => List.mem_cons_of_mem _ hb) h3
/-- over a range from 0 -/
theorem lcR {n : Nat} (J : Nat → Hp → Prop) (keep : PyData → Bool) (f : PyData → PyData → Prop) (hl : n ≤ 100000)
    (hNM : ∀ b ∈ N, b ∈ M) (hN : ∀ b ∈ M, H1 b ≠ none) (hD : H1 D = none) (j0 : J 0 H1) (hJ : ∀ i H o, J i H → J i (upd H D o))
    (turn : ∀ (i : Nat) H, i < n → Ext N H1 H → J i H → ∀ (Ky : V → Hp → Prop) (Kn : Hp → Prop), (keep (.int (i : Int)) = false → ∀ H', Ext N H H' → J (i + 1) H' → Kn H') →
      (keep (.int (i : Int)) = true → ∀ H' y e, Ext N H H' → J (i + 1) H' → T K (D :: M) H' y e → f (.int (i : Int)) e → Ky y H') → Turn g tt te vs σ (.int (i : Int)) H Ky Kn)
    (hd : ∀ H ys es, Ext N H1 H → J n H → H D = some (.lst ys) → TA K M H ys es → Paired f (((List.range n).map fun i : Nat => PyData.int (i : Int)).filter keep) es → Qd H) :
    ∃ W : Nat → Nat → Hp → Prop, (∃ m, W 0 m (upd H1 D (.lst []))) ∧ ∀ i m H, W i m H →
      ((Itr 0 n).stop i H ∧ Qd H) ∨ ((Itr 0 n).go i H ∧ ∃ Nx : Hp → Prop, (∀ H', Nx H' → ∃ m', m' < m ∧ W (i + 1) m' H') ∧ ∀ x H', (Itr 0 n).yld i H x H' → g x (wipe σ vs) H' fun σ2 H2 => wipe σ2 vs = wipe σ vs ∧ tt σ2 H2 fun b H3 =>
        if b = true then te σ2 H3 fun y H4 => ∃ acc, H4 D = some (.lst acc) ∧ acc.length < sizeLine ∧ Nx (upd H4 D (.lst (acc ++ [y]))) else Nx H3) := by
  have hDM : D ∉ M := fun z => hN D z hD
  have hDN : D ∉ N := fun z => hDM (hNM D z)
  refine lc_range (lo := 0) (n := n) (fun i H => Sofar K (D :: M) N H1 D J keep f ((List.range n).map fun i : Nat => PyData.int (i : Int)) i H) ⟨[], [], Ext.new hD, hJ _ _ _ j0, upd_same, .nil, by simpa using Paired.nil⟩ (fun i H hi p => ?_) (fun H p => ?_)
  · have e := let ⟨_, _, e, _⟩ := p; e
    have j := let ⟨_, _, _, j, _⟩ := p; j
    have z : (0 : Int) + (i : Int) = (i : Int) := Int.zero_add _
    rw [z]
    exact sofar_turn (d := .int (i : Int)) (by simpa using hl) hNM hDN hDM hD hJ (by simp [hi]) p (turn i H hi e j)
  · obtain ⟨ys, es, e, j, h1, h2, h3⟩ := p
    rw [List.take_of_length_le (by simp)] at h3
    exact hd H ys es e j h1 (h2.off fun b hb => List.mem_cons_of_mem _ hb) h3
end
section
variable {K : PySem.W.Frag} {M N : List Addr} {H : Hp}
theorem filter_all (ds : List PyData) : (ds.filter fun _ => true) = ds := List.filter_eq_self.mpr fun _ _ => rfl
theorem bools_of {h : PyData → Bool} {ds es : List PyData} {ys : List V} (pr : Paired (fun d e => e = .bool (h d)) (ds.filter fun _ => true) es) (ty : TA K M H ys es) : ys = (ds.map h).map V.bl := by
  rw [filter_all] at pr
  have e := paired_map pr
  rw [e, show (fun a => PyData.bool (h a)) = PyData.bool ∘ h from rfl, ← List.map_map] at ty
  exact TA.of_bools ty
theorem same_ext {H' : Hp} (e : Ext [] H H') : Same H H' := fun b o h => e b o (by simp) h
theorem T.non_ {d : PyData} (h : T K M H .non d) : d = .none := by
  cases h
  rfl
theorem all_id (bs : List Bool) : bs.all id = bs.all fun b => b := rfl
theorem all_map {h : PyData → Bool} (ds : List PyData) : (ds.map h).all id = ds.all h := by
  rw [List.all_map]
  rfl
end
end U

set_option Elab.async false
set_option linter.all false
set_option maxRecDepth 100000
set_option maxHeartbeats 2000000
namespace U
open PySem PySem.Spec PyProof.Rows L2

/-! ### the rules with the written part named (K), so that a comprehension's reading hangs on K alone -/
def rLenQ (K : PySem.W.Frag) : List V → Hp → VK → Prop := fun xs H Q => ∃ p ys, xs = [.ref p] ∧ (SqL K H p ys ∨ SqT K H p ys) ∧ Q (.int (ys.length : Nat)) H
def rLenA (K : PySem.W.Frag) : List V → Hp → VK → Prop := fun xs H Q => ∃ x n, xs = [x] ∧ LenV K x H n ∧ Q (.int (n : Nat)) H
def rListOf (K : PySem.W.Frag) : List V → Hp → VK → Prop := fun xs H Q => ∃ p ys, xs = [.ref p] ∧ (SqL K H p ys ∨ SqT K H p ys) ∧ ∀ l, H l = none → Q (.ref l) (upd H l (.lst ys))
def rTupOf (K : PySem.W.Frag) : List V → Hp → VK → Prop := fun xs H Q => ∃ p ys, xs = [.ref p] ∧ ((SqL K H p ys ∧ ∀ l, H l = none → Q (.ref l) (upd H l (.tup ys))) ∨ (SqT K H p ys ∧ Q (.ref p) H))
theorem room1 {k : Nat} {A : Around} (r : Room k A) : A.units + 1 < cLine := by have := r.units; omega
section
variable {X : Cx}
theorem kLenQ (K : PySem.W.Frag) (h : X.K = K := by rfl) : CallR X (.builtin "len") (rLenQ K) := by subst h; exact call_len_seq
theorem kLenA (K : PySem.W.Frag) (h : X.K = K := by rfl) : CallR X (.builtin "len") (rLenA K) := by subst h; exact call_len
theorem kListOf (K : PySem.W.Frag) (h : X.K = K := by rfl) : CallR X (.type "list") (rListOf K) := by subst h; exact call_list_of
theorem kTupOf (K : PySem.W.Frag) (h : X.K = K := by rfl) : CallR X (.type "tuple") (rTupOf K) := by subst h; exact call_tuple_of
theorem kIsi (K : PySem.W.Frag) (h : X.K = K := by rfl) : CallR X (.builtin "isinstance") (rIsi K) := by subst h; exact call_isi
theorem kAll (K : PySem.W.Frag) (hc : X.calm = true) (h : X.K = K := by rfl) : CallR X (.builtin "all") (rAll K) := by subst h; exact cr_all hc
theorem kAny (K : PySem.W.Frag) (hc : X.calm = true) (h : X.K = K := by rfl) : CallR X (.builtin "any") (rAny K) := by subst h; exact cr_any hc
theorem kSum (K : PySem.W.Frag) (hc : X.calm = true) (h : X.K = K := by rfl) : CallR X (.builtin "sum") (rSum K) := by subst h; exact cr_sum hc
theorem kMax (K : PySem.W.Frag) (hc : X.calm = true) (h : X.K = K := by rfl) : CallR X (.builtin "max") (rMax K) := by subst h; exact cr_max hc
theorem kMin (K : PySem.W.Frag) (hc : X.calm = true) (h : X.K = K := by rfl) : CallR X (.builtin "min") (rMin K) := by subst h; exact cr_min hc
theorem kRepr (K : PySem.W.Frag) {k : Nat} (hG : X.A.guards = some []) (hr : Room k X.A) (h : X.K = K := by rfl) : CallR X (.builtin "repr") (rRepr K) := by subst h; exact call_repr hG hr
theorem kIxL (K : PySem.W.Frag) (h : X.K = K := by rfl) : IxR X (rIxL K) := by subst h; exact ix_list
theorem kIxT (K : PySem.W.Frag) (h : X.K = K := by rfl) : IxR X (rIxT K) := by subst h; exact ix_tup
theorem kIxQ (K : PySem.W.Frag) (h : X.K = K := by rfl) : IxR X (rIx K) := by subst h; exact ix_seq
theorem kSlL (K : PySem.W.Frag) (h : X.K = K := by rfl) : SlR X (rSlL K) := by subst h; exact sl_list
theorem kSlT (K : PySem.W.Frag) (h : X.K = K := by rfl) : SlR X (rSlA K) := by subst h; exact sl_tupA
theorem kCatT (K : PySem.W.Frag) (h : X.K = K := by rfl) : OpR X (binaryOp .Add) (rCatA K) := by subst h; exact op_catA
theorem kRepT (K : PySem.W.Frag) (h : X.K = K := by rfl) : OpR X (binaryOp .Mult) (rRepT K) := by subst h; exact op_repT
theorem kIn (K : PySem.W.Frag) (h : X.K = K := by rfl) : OpR X (compareOp .In) (rIn K false) := by subst h; exact op_in_seq
theorem kNotIn (K : PySem.W.Frag) (h : X.K = K := by rfl) : OpR X (compareOp .NotIn) (rIn K true) := by subst h; exact op_notIn_seq
theorem kEqD (K : PySem.W.Frag) {k : Nat} (hr : Room k X.A) (h : X.K = K := by rfl) : OpR X (compareOp .Eq) (rEqD K) := by subst h; exact op_eqD hr.units
theorem kNeD (K : PySem.W.Frag) {k : Nat} (hr : Room k X.A) (h : X.K = K := by rfl) : OpR X (compareOp .NotEq) (rNeD K) := by subst h; exact op_neD hr.units
theorem kEqNil (K : PySem.W.Frag) {k : Nat} (hr : Room k X.A) (h : X.K = K := by rfl) : OpR X (compareOp .Eq) (rNil K false) := by subst h; exact op_eqNil hr
theorem kNeNil (K : PySem.W.Frag) {k : Nat} (hr : Room k X.A) (h : X.K = K := by rfl) : OpR X (compareOp .NotEq) (rNil K true) := by subst h; exact op_neNil hr
theorem kPiL (K : PySem.W.Frag) {tg l : Expr} {tl : TE} (hl : PE X l tl) (h : X.K = K := by rfl) : PI X tg l (iList K tl) := by subst h; exact pi_list hl
theorem kPiT (K : PySem.W.Frag) {tg l : Expr} {tl : TE} (hl : PE X l tl) (h : X.K = K := by rfl) : PI X tg l (iTup K tl) := by subst h; exact pi_tup hl
theorem kTgT (K : PySem.W.Frag) {es : List Expr} {k : Nat} {t : TGs} {n : Nat} {pos : Pos} (hc : X.calm = true) (g : PGs X es t) (h : X.K = K := by rfl)
    (hn : (assignEach es X.env).length = n := by rfl) (hst : (assignEach es X.env).findIdx? (·.1) = none := by rfl) : PG X (.Tuple es k pos) (gTup K n t) := by
  subst h
  exact pg_tup hc g hn hst
theorem kBm (K : PySem.W.Frag) {e : Expr} {t : String} {r : V → List V → Hp → VK → Prop} {to : TE} {ts : L2.TA} (p : PE X e (tBM X.K t r to ts)) (h : X.K = K := by rfl) : PE X e (tBM K t r to ts) := by subst h; exact p
theorem kBm0 (K : PySem.W.Frag) {e : Expr} {t : String} {r : V → List V → Hp → VK → Prop} {to : TE} (p : PE X e (tBM0 X.K t r to)) (h : X.K = K := by rfl) : PE X e (tBM0 K t r to) := by subst h; exact p
theorem kTruth (K : PySem.W.Frag) {a : Expr} {ta : TE} (ha : PE X a ta) (he : ∀ whole, isTrue a X.env whole = (do let v ← whole; standAt a.pos; holding [v] (truthy v))) (h : X.K = K := by rfl) :
    PT X a (fun σ H Q => ta σ H fun x H' => ∃ k, TruV K x H' k ∧ Q k H') := by subst h; exact pt_truth ha he
theorem kEnum (K : PySem.W.Frag) {e : Expr} {ta : L2.TA} {p pos tpos : Pos} {elts : List Expr} {kk : Nat} (hg : Gl X "enumerate") (hm : X.mg "enumerate" = none) (ha : PA X [e] ta) (h : X.K = K := by rfl) (hs : starEach [e] X.env = [(false, eval e X.env)] := by rfl) :
    PI X (.Tuple elts kk tpos) (.Call (.Name "enumerate" p) [e] [] pos) (iEnum K ta) := by subst h; exact pi_enum hg hm ha hs
end
end U

set_option Elab.async false
set_option linter.all false
set_option maxRecDepth 100000
set_option maxHeartbeats 2000000
namespace U
open PySem PySem.Spec PyProof.Rows L2
/-- the places that are written are tracked -/
def Trk (M : List Addr) (H : Hp) : Prop := ∀ b ∈ M, H b ≠ none
theorem Trk.same {M : List Addr} {H H' : Hp} (t : Trk M H) (s : Same H H') : Trk M H' := fun b hb z => t b hb (Same.free s z)
theorem Trk.new {M : List Addr} {H : Hp} {p : Addr} (t : Trk M H) (h : H p = none) : p ∉ M := fun z => t p z h
theorem Trk.upd {M : List Addr} {H : Hp} {p : Addr} {o : HO} (t : Trk M H) : Trk M (upd H p o) := fun b hb z => by
  by_cases e : b = p
  · rw [e, upd_same] at z
    cases z
  · rw [upd_ne e] at z
    exact t b hb z
section
variable {K : PySem.W.Frag} {M : List Addr} {H : Hp} {xs : List V} {ds : List PyData} {Q : VK}
theorem newT (tr : Trk M H) (t : TA K M H xs ds) (k : ∀ p H', H p = none → Same H H' → Trk M H' → H' p = some (.tup xs) → T K M H' (.ref p) (.tuple ds) → Q (.ref p) H') : ∀ p, H p = none → Q (.ref p) (upd H p (.tup xs)) := fun p hp =>
  k p _ hp (Same.new hp) (tr.same (Same.new hp)) upd_same (.tup (tr.new hp) upd_same (t.same (Same.new hp)))
theorem newL (tr : Trk M H) (t : TA K M H xs ds) (k : ∀ p H', H p = none → Same H H' → Trk M H' → H' p = some (.lst xs) → T K M H' (.ref p) (.list ds) → Q (.ref p) H') : ∀ p, H p = none → Q (.ref p) (upd H p (.lst xs)) := fun p hp =>
  k p _ hp (Same.new hp) (tr.same (Same.new hp)) upd_same (.lst (tr.new hp) upd_same (t.same (Same.new hp)))
theorem newD (tr : Trk M H) (k : ∀ p H', H p = none → Same H H' → Trk M H' → T K M H' (.ref p) (.dict []) → Q (.ref p) H') : ∀ p, H p = none → Q (.ref p) (upd H p (.dK [])) := fun p hp =>
  k p _ hp (Same.new hp) (tr.same (Same.new hp)) (.dct (tr.new hp) upd_same .nil)
end
section
variable {K : PySem.W.Frag} {M : List Addr} {H : Hp} {xs : List V} {ds : List PyData} {p : Addr}
theorem atT (tr : Trk M H) (t : TA K M H xs ds) (hp : H p = none) : Same H (upd H p (.tup xs)) ∧ Trk M (upd H p (.tup xs)) ∧ T K M (upd H p (.tup xs)) (.ref p) (.tuple ds) ∧ (upd H p (.tup xs)) p = some (.tup xs) :=
  ⟨Same.new hp, tr.upd, .tup (tr.new hp) upd_same (t.same (Same.new hp)), upd_same⟩
theorem atL (tr : Trk M H) (t : TA K M H xs ds) (hp : H p = none) : Same H (upd H p (.lst xs)) ∧ Trk M (upd H p (.lst xs)) ∧ T K M (upd H p (.lst xs)) (.ref p) (.list ds) ∧ (upd H p (.lst xs)) p = some (.lst xs) :=
  ⟨Same.new hp, tr.upd, .lst (tr.new hp) upd_same (t.same (Same.new hp)), upd_same⟩
theorem atD (tr : Trk M H) (hp : H p = none) : Same H (upd H p (.dK [])) ∧ Trk M (upd H p (.dK [])) ∧ T K M (upd H p (.dK [])) (.ref p) (.dict []) ∧ (upd H p (.dK [])) p = some (.dK []) :=
  ⟨Same.new hp, tr.upd, .dct (tr.new hp) upd_same .nil, upd_same⟩
end
/-! ### parts of tuples, tuples put together -/
def cutD (ds : List PyData) (lo hi : Option Int) : List PyData := (ds.drop (HT.sIx ds.length 0 lo)).take (HT.sIx ds.length ds.length hi - HT.sIx ds.length 0 lo)
section
variable {K : PySem.W.Frag} {M : List Addr} {H : Hp} {a b : Addr} {ds es : List PyData} {lo hi : Option Int} {Q : VK}
theorem slA {x : V} (tr : Trk M H) (t : T K M H x (.tuple ds)) (k : ∀ r H', Same H H' → Trk M H' → T K M H' r (.tuple (cutD ds lo hi)) → Q r H') : rSlA K x lo hi H Q := by
  cases t with
  | @tup a xs _ na ha t =>
    have lx := t.len
    refine ⟨a, xs, rfl, SqT.of ha, fun w => ?_, fun w p hp => ?_⟩
    · rw [lx] at w
      refine k _ _ (Same.refl _) tr ?_
      have e : cutD ds lo hi = ds := by
        unfold cutD
        rw [w.1, w.2, List.drop_zero, Nat.sub_zero, List.take_length]
      rw [e]
      exact .tup na ha t
    · have tc : TA K M H (cutV xs lo hi) (cutD ds lo hi) := by
        unfold cutV cutD
        rw [lx]
        exact (t.drop _).take _
      obtain ⟨s, tr', t', _⟩ := atT tr tc hp
      exact k _ _ s tr' t'
theorem catA {x y : V} (tr : Trk M H) (t : T K M H x (.tuple ds)) (u : T K M H y (.tuple es)) (hl : ds.length + es.length ≤ 100000) (k : ∀ r H', Same H H' → Trk M H' → T K M H' r (.tuple (ds ++ es)) → Q r H') : rCatA K x y H Q := by
  cases t with
  | @tup a xs _ na ha t =>
    cases u with
    | @tup b ys _ nb hb u =>
      have lx := t.len
      have ly := u.len
      refine ⟨a, b, xs, ys, rfl, rfl, SqT.of ha, SqT.of hb, Nat.le_trans (show xs.length + ys.length ≤ 100000 by omega) (by decide), fun e => ?_, fun e1 e2 => ?_, fun e1 e2 p hp => ?_⟩
      · subst e
        cases t
        exact k _ _ (Same.refl _) tr (.tup nb hb u)
      · subst e2
        cases u
        exact k _ _ (Same.refl _) tr (.tup na ha (by rw [List.append_nil]; exact t))
      · obtain ⟨s, tr', t', _⟩ := atT tr (t.app u) hp
        exact k _ _ s tr' t'
theorem T.get {v : V} {j : Nat} (t : T K M H v (.tuple ds)) (hj : j < ds.length) : ∃ a xs x, v = .ref a ∧ H a = some (.tup xs) ∧ xs[j]? = some x ∧ T K M H x ds[j] := by
  cases t with
  | @tup a xs _ na ha t =>
    have lx := t.len
    have hx : xs[j]? = some xs[j] := by simp [lx, hj]
    obtain ⟨d, hd, td⟩ := t.get hx
    refine ⟨a, xs, _, rfl, ha, hx, ?_⟩
    have e : d = ds[j] := by
      rw [List.getElem?_eq_getElem hj] at hd
      exact (Option.some.inj hd).symm
    rw [← e]
    exact td
end
/-! ### data that is small enough to be shown -/
structure Fine (w dp : Nat) (d : PyData) : Prop where
  show_ : d.showable = true
  short : d.leavesShort 60 = true
  weight : d.weight ≤ w
  depth : d.depth ≤ dp
theorem Fine.shown {w dp : Nat} {d : PyData} (f : Fine w dp d) (hw : w ≤ 200000) (hd : dp ≤ 100) : Shown d := by
  refine ⟨f.show_, ?_, Nat.le_trans f.depth hd⟩
  have h := PyData.shown_le 60 (by decide) d f.short
  have h2 : (60 + 2) * d.weight ≤ (60 + 2) * 200000 := Nat.mul_le_mul_left _ (Nat.le_trans f.weight hw)
  rw [sizeLine_eq]
  omega
theorem Fine.more {w dp w' dp' : Nat} {d : PyData} (f : Fine w dp d) (hw : w ≤ w') (hd : dp ≤ dp') : Fine w' dp' d := ⟨f.show_, f.short, Nat.le_trans f.weight hw, Nat.le_trans f.depth hd⟩
theorem fine_all {w dp : Nat} : ∀ {ds : List PyData}, (∀ d ∈ ds, Fine w dp d) → PyData.showableAll ds = true ∧ PyData.leavesShortAll 60 ds = true ∧ PyData.weightAll ds ≤ (w + 1) * ds.length ∧ PyData.depthAll ds ≤ dp
  | [], _ => ⟨rfl, rfl, Nat.le_refl _, Nat.zero_le _⟩
  | d :: ds, h => by
    obtain ⟨a, b, c, e⟩ := fine_all fun x hx => h x (List.mem_cons_of_mem _ hx)
    have f := h d List.mem_cons_self
    refine ⟨?_, ?_, ?_, ?_⟩
    · simp only [PyData.showableAll, f.show_, a, Bool.and_self]
    · simp only [PyData.leavesShortAll, f.short, b, Bool.and_self]
    · simp only [PyData.weightAll, List.length_cons, Nat.mul_add, Nat.mul_one]
      have := f.weight
      omega
    · simp only [PyData.depthAll]
      have := f.depth
      omega
theorem fine_tup {w dp n : Nat} {ds : List PyData} (h : ∀ d ∈ ds, Fine w dp d) (hn : ds.length ≤ n) : Fine ((w + 1) * n) (dp + 1) (.tuple ds) := by
  obtain ⟨a, b, c, e⟩ := fine_all h
  refine ⟨by simp only [PyData.showable, a], by simp only [PyData.leavesShort, b], ?_, ?_⟩
  · simp only [PyData.weight]
    exact Nat.le_trans c (Nat.mul_le_mul_left _ hn)
  · simp only [PyData.depth]
    omega
theorem fine_list {w dp n : Nat} {ds : List PyData} (h : ∀ d ∈ ds, Fine w dp d) (hn : ds.length ≤ n) : Fine ((w + 1) * n) (dp + 1) (.list ds) := by
  obtain ⟨a, b, c, e⟩ := fine_all h
  refine ⟨by simp only [PyData.showable, a], by simp only [PyData.leavesShort, b], ?_, ?_⟩
  · simp only [PyData.weight]
    exact Nat.le_trans c (Nat.mul_le_mul_left _ hn)
  · simp only [PyData.depth]
    omega
theorem fine_of {w dp : Nat} {d : PyData} (h : (d.showable && d.leavesShort 60 && decide (d.weight ≤ w) && decide (d.depth ≤ dp)) = true) : Fine w dp d := by
  simp only [Bool.and_eq_true, decide_eq_true_eq] at h
  exact ⟨h.1.1.1, h.1.1.2, h.1.2, h.2⟩
theorem fine_int {i : Int} (h : i.natAbs < 10 ^ 12) : Fine 40 0 (.int i) := by
  have h1 := PyData.shown_int_le h
  have h2 : i.natAbs.log2 < 40 := by
    by_cases z : i.natAbs = 0
    · rw [z]
      decide
    · exact (Nat.log2_lt z).mpr (Nat.lt_trans h (by decide))
  refine ⟨?_, ?_, ?_, Nat.le_refl _⟩
  · simp only [PyData.showable, decide_eq_true_eq]
    omega
  · simp only [PyData.leavesShort, decide_eq_true_eq]
    omega
  · simp only [PyData.weight]
    split <;> omega
theorem fine_bool (b : Bool) : Fine 0 0 (.bool b) := ⟨rfl, rfl, Nat.le_refl _, Nat.le_refl _⟩
theorem fine_none : Fine 0 0 .none := ⟨rfl, rfl, Nat.le_refl _, Nat.le_refl _⟩
/-- the parts of data that is fine -/
theorem Fine.items {w dp : Nat} {ds : List PyData} (f : Fine w dp (.tuple ds)) : ∀ d ∈ ds, Fine w (dp - 1) d := by
  have s : PyData.showableAll ds = true := by simpa only [PyData.showable] using f.show_
  have l : PyData.leavesShortAll 60 ds = true := by simpa only [PyData.leavesShort] using f.short
  have wt : PyData.weightAll ds ≤ w := f.weight
  have dt : PyData.depthAll ds + 1 ≤ dp := by simpa only [PyData.depth] using f.depth
  clear f
  induction ds with
  | nil => intro d hd; cases hd
  | cons x xs ih =>
    simp only [PyData.showableAll, Bool.and_eq_true] at s
    simp only [PyData.leavesShortAll, Bool.and_eq_true] at l
    simp only [PyData.weightAll] at wt
    simp only [PyData.depthAll] at dt
    intro d hd
    rcases List.mem_cons.mp hd with rfl | hd
    · exact ⟨s.1, l.1, by omega, by omega⟩
    · exact ih s.2 l.2 (by omega) (by omega) d hd
/-! ### rows of data that are fine together -/
structure FineL (w dp : Nat) (ds : List PyData) : Prop where
  show_ : PyData.showableAll ds = true
  short : PyData.leavesShortAll 60 ds = true
  weight : PyData.weightAll ds ≤ w
  depth : PyData.depthAll ds ≤ dp
theorem FineL.nil {dp : Nat} : FineL 0 dp [] := ⟨rfl, rfl, Nat.le_refl _, Nat.zero_le _⟩
theorem FineL.cons {w v dp : Nat} {d : PyData} {ds : List PyData} (f : Fine v dp d) (g : FineL w dp ds) : FineL (v + 1 + w) dp (d :: ds) := by
  refine ⟨?_, ?_, ?_, ?_⟩
  · simp only [PyData.showableAll, f.show_, g.show_, Bool.and_self]
  · simp only [PyData.leavesShortAll, f.short, g.short, Bool.and_self]
  · simp only [PyData.weightAll]
    have := f.weight
    have := g.weight
    omega
  · simp only [PyData.depthAll]
    have := f.depth
    have := g.depth
    omega
theorem FineL.head {w dp : Nat} {d : PyData} {ds : List PyData} (h : FineL w dp (d :: ds)) : Fine w dp d ∧ FineL w dp ds ∧ d.weight + 1 + PyData.weightAll ds ≤ w := by
  obtain ⟨a, b, c, e⟩ := h
  simp only [PyData.showableAll, Bool.and_eq_true] at a
  simp only [PyData.leavesShortAll, Bool.and_eq_true] at b
  simp only [PyData.weightAll] at c
  simp only [PyData.depthAll] at e
  exact ⟨⟨a.1, b.1, by omega, by omega⟩, ⟨a.2, b.2, by omega, by omega⟩, c⟩
theorem FineL.more {w dp w' dp' : Nat} {ds : List PyData} (f : FineL w dp ds) (hw : w ≤ w') (hd : dp ≤ dp') : FineL w' dp' ds := ⟨f.show_, f.short, Nat.le_trans f.weight hw, Nat.le_trans f.depth hd⟩
theorem FineL.app {v w dp : Nat} : ∀ {as bs : List PyData}, FineL v dp as → FineL w dp bs → FineL (v + w) dp (as ++ bs)
  | [], _, _, g => g.more (by omega) (Nat.le_refl _)
  | a :: as, bs, f, g => by
    obtain ⟨h1, h2, h3⟩ := f.head
    have h4 : FineL (PyData.weightAll as) dp as := ⟨h2.show_, h2.short, Nat.le_refl _, h2.depth⟩
    have h5 : Fine a.weight dp a := ⟨h1.show_, h1.short, Nat.le_refl _, h1.depth⟩
    exact (FineL.cons h5 (h4.app g)).more (by omega) (Nat.le_refl _)
theorem FineL.drop {w dp : Nat} : ∀ {ds : List PyData} (n : Nat), FineL w dp ds → FineL w dp (ds.drop n)
  | _, 0, f => f
  | [], _ + 1, f => f
  | _ :: ds, n + 1, f => f.head.2.1.drop n
theorem FineL.take {w dp : Nat} : ∀ {ds : List PyData} (n : Nat), FineL w dp ds → FineL w dp (ds.take n)
  | _, 0, f => FineL.nil.more (Nat.zero_le _) (Nat.le_refl _)
  | [], _ + 1, f => f
  | d :: ds, n + 1, f => by
    obtain ⟨h1, h2, h3⟩ := f.head
    have h4 : FineL (PyData.weightAll ds) dp ds := ⟨h2.show_, h2.short, Nat.le_refl _, h2.depth⟩
    have h5 : Fine d.weight dp d := ⟨h1.show_, h1.short, Nat.le_refl _, h1.depth⟩
    exact (FineL.cons h5 (h4.take n)).more (by omega) (Nat.le_refl _)
theorem FineL.cut {w dp : Nat} {ds : List PyData} (f : FineL w dp ds) (lo hi : Option Int) : FineL w dp (cutD ds lo hi) := (f.drop _).take _
theorem FineL.get {w dp : Nat} : ∀ {ds : List PyData} {d : PyData}, FineL w dp ds → d ∈ ds → Fine w dp d
  | _ :: _, d, f, h => by
    rcases List.mem_cons.mp h with rfl | h
    · exact f.head.1
    · exact f.head.2.1.get h
theorem FineL.len {w dp : Nat} {ds : List PyData} (f : FineL w dp ds) : ds.length ≤ w := by
  have : ds.length ≤ PyData.weightAll ds := by
    clear f
    induction ds with
    | nil => exact Nat.zero_le _
    | cons y ys ih => simp only [List.length_cons, PyData.weightAll]; omega
  exact Nat.le_trans this f.weight
theorem FineL.tup {w dp : Nat} {ds : List PyData} (f : FineL w dp ds) : Fine w (dp + 1) (.tuple ds) :=
  ⟨by simp only [PyData.showable, f.show_], by simp only [PyData.leavesShort, f.short], f.weight, by simp only [PyData.depth]; have := f.depth; omega⟩
theorem FineL.list {w dp : Nat} {ds : List PyData} (f : FineL w dp ds) : Fine w (dp + 1) (.list ds) :=
  ⟨by simp only [PyData.showable, f.show_], by simp only [PyData.leavesShort, f.short], f.weight, by simp only [PyData.depth]; have := f.depth; omega⟩
theorem Fine.row {w dp : Nat} {ds : List PyData} (f : Fine w dp (.tuple ds)) : FineL w (dp - 1) ds ∧ 1 ≤ dp := by
  have d := f.depth
  simp only [PyData.depth] at d
  exact ⟨⟨by simpa only [PyData.showable] using f.show_, by simpa only [PyData.leavesShort] using f.short, f.weight, by omega⟩, by omega⟩
theorem cut_take {ds : List PyData} {j : Nat} (h : j ≤ ds.length) : cutD ds none (some (j : Int)) = ds.take j := by
  unfold cutD
  rw [HT.sIx_nat, HT.sIx_none, List.drop_zero, Nat.sub_zero, Nat.min_eq_left h]
theorem cut_drop {ds : List PyData} {j : Nat} (h : j ≤ ds.length) : cutD ds (some (j : Int)) none = ds.drop j := by
  unfold cutD
  rw [HT.sIx_nat, HT.sIx_none, Nat.min_eq_left h]
  exact List.take_of_length_le (by rw [List.length_drop]; exact Nat.le_refl _)
theorem weight_split : ∀ {ds : List PyData} {j : Nat} (h : j < ds.length), PyData.weightAll (ds.take j) + (ds[j].weight + 1) + PyData.weightAll (ds.drop (j + 1)) = PyData.weightAll ds
  | d :: ds, 0, _ => by
    simp only [List.take_zero, PyData.weightAll, List.getElem_cons_zero, List.drop_succ_cons, List.drop_zero]
    omega
  | d :: ds, j + 1, h => by
    have := weight_split (ds := ds) (j := j) (by simpa using h)
    simp only [List.take_succ_cons, PyData.weightAll, List.getElem_cons_succ, List.drop_succ_cons]
    omega
end U

set_option Elab.async false
set_option linter.all false
set_option maxRecDepth 100000
set_option maxHeartbeats 2000000
namespace U
open PySem PySem.Spec PyProof.Rows L2

/-! ### enumerate(tuple) -/
section
open AutoSeq1 (wpAny_loadPart')
theorem enumNew {v : Value} {it0 : Obj} {C : Heap → Prop} (B : Begins v it0 C) :
    Meets (Builtin.«enumerate.__new__» ⟨[.type "enumerate", v], []⟩) (fun _ R z => C z.heap ∧
      R (.ok (.ret (.ref (z.heap.push it0).objs.size))) { z with heap := (z.heap.push it0).push { cls := .type "enumerate", data := .fields #[.none, .bool false, .ref z.heap.objs.size, rawInt 0, .none, .none] } }) :=
  .of_wp fun prog w A R z h => by
    obtain ⟨p0, g, d, k0, os⟩ := z
    obtain ⟨c0, h⟩ := h
    have isE := sub_enumerate
    have start : ∀ {A2 : Around} {E : Value → Shared → Prop} {Q : Value → Shared → Prop}, Q (.ref p0.objs.size) ⟨p0.push it0, g, d, k0, os⟩ → wpAny (model prog w) A2 (pyIter v) Q E ⟨p0, g, d, k0, os⟩ :=
      fun y => B.iter prog w _ _ ⟨p0, g, d, k0, os⟩ _ c0 y
    wp_walk using start
    refine wpAny_stack_any fun _ => wpAny_pure ?_
    split
    · rename_i c _ _ _ _ _
      by_cases hc : (c == Value.type "enumerate") = true
      · simp only [hc]
        wp_walk using start
        exact ⟨_, rfl, h⟩
      · simp only [Bool.not_eq_true] at hc
        simp only [hc]
        wp_walk using start
        exact ⟨_, rfl, h⟩
    · wp_walk using start
      exact ⟨_, rfl, h⟩
theorem enumMake {prog : Program} {w : World} {A : Around} {E : Value → Shared → Prop} {z : Shared} {v : Value} {it0 : Obj} {C : Heap → Prop} {Q : Value → Shared → Prop} (B : Begins v it0 C) (c0 : C z.heap)
    (h : ∀ h', IsEnum h' (z.heap.objs.size + 1) z.heap.objs.size 0 .none → h'.get? z.heap.objs.size = some it0 → (∀ b ob, z.heap.get? b = some ob → h'.get? b = some ob) → Q (.ref (z.heap.objs.size + 1)) { z with heap := h' }) :
    wpAny (model prog w) A (call (.type "enumerate") [v]) Q E z := by
  refine callType_new F.called_enumerate (by decide) (F.typeCall_enumerate_1 _) (F.newCall_enumerate_1 _) (fun ob => F.args_object_init_2 ob _) F.entry_enumerate_new (enumNew B) ⟨c0, ?_⟩
  have size1 : (z.heap.push it0).objs.size = z.heap.objs.size + 1 := Heap.size_push ..
  show _ ∧ _
  rw [size1]
  have made : IsEnum ((z.heap.push it0).push { cls := .type "enumerate", data := .fields #[.none, .bool false, .ref z.heap.objs.size, rawInt 0, .none, .none] }) (z.heap.objs.size + 1) z.heap.objs.size 0 .none := by
    have y := Heap.get?_push_size (z.heap.push it0) (o := { cls := .type "enumerate", data := .fields #[.none, .bool false, .ref z.heap.objs.size, rawInt 0, .none, .none] }) rfl
    rw [size1] at y
    exact y
  exact ⟨⟨_, made, rfl⟩, h _ made (Heap.get?_push_of_some _ (Heap.get?_push_size _ B.free)) fun b ob y => Heap.get?_push_of_some _ (Heap.get?_push_of_some _ y)⟩
end
/-- the tuple at a, each item in a new pair with its number -/
def ItE (K : PySem.W.Frag) (a : Addr) : It :=
  ⟨fun i H => ∃ (xs : List V) (x : V), SqT K H a xs ∧ xs[i]? = some x,
    fun i H v H' => ∃ (p : Addr) (x : V), v = .ref p ∧ H p = none ∧ H' = upd H p (.tup [.int (i : Nat), x]) ∧ ∀ xs, SqT K H a xs → xs[i]? = some x,
    fun i H => ∃ xs : List V, SqT K H a xs ∧ xs.length ≤ i⟩
theorem apart_iter {h : Heap} {a it : Addr} {i : Nat} {items : Array Value} (h1 : h.IsTupleIter it a i) (h2 : h.IsTuple a items) : a ≠ it := by
  rintro rfl
  obtain ⟨o, ho, hc, _⟩ := h1
  obtain ⟨o2, ho2, hc2, _⟩ := h2
  rw [ho] at ho2
  cases ho2
  have z : Value.type "tuple_iterator" = Value.type "tuple" := hc.symm.trans hc2
  injection z with z
  exact absurd z (by decide)
theorem turnE {P : Program} {w : World} {K : PySem.W.Frag} {elts : List Expr} {kk : Nat} {tpos : Pos} (a e it : Addr) :
    L2.Turn P w K (.Tuple elts kk tpos) (ItE K a) [e, it] e (fun i h => (∃ old, IsEnum h e it ((i : Nat) : Int) old) ∧ h.IsTupleIter it a i ∧ e ≠ it) where
  mem := List.mem_cons_self
  obj := fun i h st b hb => by
    obtain ⟨⟨old, he⟩, ⟨o, ho, _, hd⟩, _⟩ := st
    rcases List.mem_cons.mp hb with rfl | hb
    · exact ⟨_, he, fun _ q => nomatch q⟩
    · obtain rfl : b = it := by simpa using hb
      exact ⟨o, ho, fun _ q => by rw [hd] at q; cases q⟩
  keep := fun i h h' st k => ⟨st.1.imp fun _ he => k e (by simp) _ he, st.2.1.at fun o q => k it (by simp) o q, st.2.2⟩
  item := by
    rintro X rfl rfl rfl hc i pins s σ H E I hf ⟨⟨old, he⟩, hit, hne⟩ ⟨xs, x, hq, hx⟩
    obtain ⟨its, rv, p, hz⟩ := I.tuple hq
    obtain ⟨u, hu, ru⟩ := rv.get hx
    have p2 : s.heap.IsTuple a its.toArray := p
    have el : e < s.heap.objs.size := Heap.lt_size he
    have il : it < s.heap.objs.size := by obtain ⟨_, q, _⟩ := hit; exact Heap.lt_size q
    have hlt : i < its.toArray.size := by
      have := (List.getElem?_eq_some_iff.mp hu).1
      simpa using this
    have hea : e ≠ a := by
      rintro rfl
      obtain ⟨o2, ho2, hc2, _⟩ := p2
      rw [he] at ho2
      cases ho2
      have z : Value.type "enumerate" = Value.type "tuple" := hc2
      injection z with z
      exact absurd z (by decide)
    have D := Draws.tuple (prog := X.prog) (w := X.w) (A := X.A.in1) (I.ok.hd hc) it a (apart_iter hit p2) its.toArray
    refine wpAny_pyNext_enum_itemD D he ⟨hit, p2⟩ hlt hne (by simp [hne, hea]) fun y h' tk hy ho hst hT hsz hk => ?_
    have ey : y = u := by
      have h2 : its.toArray[i]? = some u := by simpa using hu
      exact Option.some.inj (hy.symm.trans h2)
    subst ey
    refine ⟨_, rfl, wpAny_letOwnedTupleGo_enum (s := { s with heap := h', toks := tk + 1 }) ho fun h'' he' sb => ?_⟩
    have hT2 := (sb.2 _ (Nat.ne_of_gt el)).trans hT
    have new : ObjOk X.prog X.w (upd H s.heap.objs.size (.tup [.int (i : Nat), x])) h'' s.heap.objs.size (.tup [.int (i : Nat), x]) :=
      ⟨(show 2 ≤ sizeLine by decide), [.int i tk, y], .cons ⟨_, rfl⟩ (.cons ru .nil), ⟨_, hT2, rfl, _, rfl⟩⟩
    have I1 : Inv X pins σ (upd H s.heap.objs.size (.tup [.int (i : Nat), x])) { s with heap := h'', toks := tk + 1 } :=
      I.turnedNew (ch := [e, it]) (fun b ob hb q => (sb.2 b (fun z => hb (by simp [z]))).trans (hk b ob (fun z => hb (by simp [z])) (fun z => hb (by simp [z])) q)) hf (Nat.le_refl _) new
    refine ⟨.ref s.heap.objs.size, _, I1, rfl, ⟨_, x, rfl, I.hok.fresh (Nat.le_refl _), rfl, fun ys hy => by rw [I.tuple_inj hy hq]; exact hx⟩, ⟨⟨y, ?_⟩, hst.1.at fun o q => (sb.2 it (Ne.symm hne)).trans q, hne⟩, fun b hb => ?_⟩
    · rw [show ((i + 1 : Nat) : Int) = (i : Int) + 1 by omega]
      exact he'
    · have lt : b < s.heap.objs.size := by
        rcases List.mem_cons.mp hb with rfl | hb
        · exact el
        · obtain rfl : b = it := by simpa using hb
          exact il
      rw [upd_ne (Nat.ne_of_lt lt)]
      exact (hf b hb).1
  done := by
    rintro X rfl rfl rfl hc i pins s σ H E I hf ⟨⟨old, he⟩, hit, hne⟩ ⟨xs, hq, hx⟩
    obtain ⟨its, rv, p, hz⟩ := I.tuple hq
    have p2 : s.heap.IsTuple a its.toArray := p
    obtain ⟨f0, f1, f2, f3, f4, f5⟩ := hf it (by simp)
    have hl := rv.length
    unfold pyNext
    have hT : s.TypeIs (.ref e) "enumerate" := ⟨_, he, rfl⟩
    have none_ : its.toArray[i]? = none := by
      rw [List.getElem?_toArray]
      exact List.getElem?_eq_none (by omega)
    refine wpAny_bind (wpAny_attempt (wpAny_callSpecial?_slot (name := Str.ofString "__next__") hT F.slot_enumerate_next (wpAny_call_entry F.slot_enumerate_next hT F.entry_enumerate_next ?_ (F.args_enumerate_next_1 _))))
    show wpAny _ _ (field (.ref e) 2 >>= _) _ _ _
    refine wpAny_bind (wpAny_field he rfl (x := .ref it) rfl (wpAny_bind (wpAny_nextOf_tuple_end (I.ok.hd hc) hit p2 none_ fun h' y eb hy => ?_)))
    obtain ⟨o, ho, hoc⟩ := hy
    refine wpAny_bind (wpAny_isInstance (T := "StopIteration") (b := true) ⟨o, ho, hoc⟩ isSubtype_stop (wpAny_pure ?_))
    exact ⟨rfl, I.turned (t' := s.toks) (fun b o hb q => eb b o hb q) f0 f1 f3 f4 f5⟩
  self := fun _ _ _ _ _ st h => by
    obtain ⟨⟨_, he⟩, _⟩ := st
    exact wpAny_pyIter_enum he h
def iEnumT (K : PySem.W.Frag) (ta : L2.TA) : TI := fun σ H R => ta σ H fun vs H1 => ∃ (a : Addr) (xs : List V), vs = [.ref a] ∧ SqT K H1 a xs ∧ R (ItE K a) H1
theorem kEnumT (K : PySem.W.Frag) {X : Cx} {e : Expr} {ta : L2.TA} {p pos tpos : Pos} {elts : List Expr} {kk : Nat} (hg : Gl X "enumerate") (hm : X.mg "enumerate" = none) (ha : PA X [e] ta) (hK : X.K = K := by rfl)
    (hs : starEach [e] X.env = [(false, eval e X.env)] := by rfl) : PI X (.Tuple elts kk tpos) (.Call (.Name "enumerate" p) [e] [] pos) (iEnumT K ta) := by
  subst hK
  refine ⟨fun pins s σ H R I h => ?_⟩
  refine Call_ (ld_blt I hg hm boot_enumerate (PyProof.Rows.callWith_type1 (thn (ha.run pos pins s σ H _ I h) fun us s1 ⟨vs, H1, I1, r1, a, xs, ev, hq, q⟩ => ?_) hs rfl))
  subst ev
  cases r1 with
  | cons r rr =>
    cases rr
    cases r
    obtain ⟨its, rv, p', hz⟩ := I1.tuple hq
    have p2 : s1.heap.IsTuple a its.toArray := p'
    refine enumMake (begins_tuple a its.toArray) p2 fun h' he hit hk => wpAny_pyIter_enum he ?_
    refine ⟨s1.heap.objs.size + 1, [s1.heap.objs.size + 1, s1.heap.objs.size], _, _, H1, rfl, I1.kept (t' := s1.toks) hk, turnE a (s1.heap.objs.size + 1) s1.heap.objs.size, ⟨⟨.none, he⟩, ⟨_, hit, rfl, rfl⟩, Nat.succ_ne_self _⟩, fun b hb => ?_, q⟩
    have le_ : s1.heap.objs.size ≤ b := by
      rcases List.mem_cons.mp hb with rfl | hb
      · exact Nat.le_add_right _ _
      · obtain rfl : b = s1.heap.objs.size := by simpa using hb
        exact Nat.le_refl _
    exact I1.fpOk le_ (I1.hok.fresh le_)
/-- a comprehension over such pairs, the tuple staying as it is -/
theorem lc_enumT {K : PySem.W.Frag} {a : Addr} {xs : List V} {g : TG} {tt : TT} {te : TE} {vs : List Nat} {σ : L2.St} {H1 : Hp} {D : Addr} {Qd : Hp → Prop} (Pv : Nat → Hp → Prop) (h0 : Pv 0 (upd H1 D (.lst []))) (hl : ∀ i H, i ≤ xs.length → Pv i H → SqT K H a xs)
    (hs : ∀ i x H p, xs[i]? = some x → Pv i H → H p = none → g (.ref p) (wipe σ vs) (upd H p (.tup [.int (i : Nat), x])) fun σ2 H2 => wipe σ2 vs = wipe σ vs ∧ tt σ2 H2 fun b H3 =>
      if b = true then te σ2 H3 fun y H4 => ∃ acc, H4 D = some (.lst acc) ∧ acc.length < sizeLine ∧ Pv (i + 1) (upd H4 D (.lst (acc ++ [y]))) else Pv (i + 1) H3) (hd : ∀ H, Pv xs.length H → Qd H) :
    ∃ W : Nat → Nat → Hp → Prop, (∃ m, W 0 m (upd H1 D (.lst []))) ∧ ∀ i m H, W i m H →
      ((ItE K a).stop i H ∧ Qd H) ∨ ((ItE K a).go i H ∧ ∃ Nx : Hp → Prop, (∀ H', Nx H' → ∃ m', m' < m ∧ W (i + 1) m' H') ∧ ∀ x H', (ItE K a).yld i H x H' → g x (wipe σ vs) H' fun σ2 H2 => wipe σ2 vs = wipe σ vs ∧ tt σ2 H2 fun b H3 =>
        if b = true then te σ2 H3 fun y H4 => ∃ acc, H4 D = some (.lst acc) ∧ acc.length < sizeLine ∧ Nx (upd H4 D (.lst (acc ++ [y]))) else Nx H3) := by
  refine ⟨fun i m H => m + i = xs.length ∧ Pv i H, ⟨xs.length, rfl, h0⟩, ?_⟩
  rintro i m H ⟨hm, pv⟩
  have q := hl i H (by omega) pv
  by_cases hlt : i < xs.length
  · refine .inr ⟨⟨xs, xs[i], q, by simp [hlt]⟩, Pv (i + 1), fun H' p' => ⟨m - 1, by omega, by omega, p'⟩, ?_⟩
    rintro v H' ⟨p, x, rfl, hp, rfl, hx⟩
    exact hs i x H p (hx xs q) pv hp
  · obtain rfl : i = xs.length := by omega
    exact .inl ⟨⟨xs, q, Nat.le_refl _⟩, hd H pv⟩
/-- the same over a list -/
theorem lc_enumL {K : PySem.W.Frag} {a : Addr} {xs : List V} {g : TG} {tt : TT} {te : TE} {vs : List Nat} {σ : L2.St} {H1 : Hp} {D : Addr} {Qd : Hp → Prop} (Pv : Nat → Hp → Prop) (h0 : Pv 0 (upd H1 D (.lst []))) (hl : ∀ i H, i ≤ xs.length → Pv i H → SqL K H a xs)
    (hs : ∀ i x H p, xs[i]? = some x → Pv i H → H p = none → g (.ref p) (wipe σ vs) (upd H p (.tup [.int (i : Nat), x])) fun σ2 H2 => wipe σ2 vs = wipe σ vs ∧ tt σ2 H2 fun b H3 =>
      if b = true then te σ2 H3 fun y H4 => ∃ acc, H4 D = some (.lst acc) ∧ acc.length < sizeLine ∧ Pv (i + 1) (upd H4 D (.lst (acc ++ [y]))) else Pv (i + 1) H3) (hd : ∀ H, Pv xs.length H → Qd H) :
    ∃ W : Nat → Nat → Hp → Prop, (∃ m, W 0 m (upd H1 D (.lst []))) ∧ ∀ i m H, W i m H →
      ((Ite K a).stop i H ∧ Qd H) ∨ ((Ite K a).go i H ∧ ∃ Nx : Hp → Prop, (∀ H', Nx H' → ∃ m', m' < m ∧ W (i + 1) m' H') ∧ ∀ x H', (Ite K a).yld i H x H' → g x (wipe σ vs) H' fun σ2 H2 => wipe σ2 vs = wipe σ vs ∧ tt σ2 H2 fun b H3 =>
        if b = true then te σ2 H3 fun y H4 => ∃ acc, H4 D = some (.lst acc) ∧ acc.length < sizeLine ∧ Nx (upd H4 D (.lst (acc ++ [y]))) else Nx H3) := by
  refine ⟨fun i m H => m + i = xs.length ∧ Pv i H, ⟨xs.length, rfl, h0⟩, ?_⟩
  rintro i m H ⟨hm, pv⟩
  have q := hl i H (by omega) pv
  by_cases hlt : i < xs.length
  · refine .inr ⟨⟨xs, xs[i], q, by simp [hlt]⟩, Pv (i + 1), fun H' p' => ⟨m - 1, by omega, by omega, p'⟩, ?_⟩
    rintro v H' ⟨p, x, rfl, hp, rfl, hx⟩
    exact hs i x H p (hx xs q) pv hp
  · obtain rfl : i = xs.length := by omega
    exact .inl ⟨⟨xs, q, Nat.le_refl _⟩, hd H pv⟩
section
variable {K : PySem.W.Frag} {M N : List Addr} {g : TG} {tt : TT} {te : TE} {vs : List Nat} {σ : L2.St} {H1 : Hp} {D : Addr} {Qd : Hp → Prop}
/-- lcT, and the new list is known to be there -/
theorem lcT2 {a : Addr} {xs : List V} {ds : List PyData} (J : Nat → Hp → Prop) (keep : PyData → Bool) (f : PyData → PyData → Prop) (ha : H1 a = some (.tup xs)) (na : a ∉ M) (ht : TA K M H1 xs ds) (hl : ds.length ≤ 100000)
    (hNM : ∀ b ∈ N, b ∈ M) (hN : ∀ b ∈ M, H1 b ≠ none) (hD : H1 D = none) (j0 : J 0 H1) (hJ : ∀ i H o, J i H → J i (upd H D o))
    (turn : ∀ i x d H, ds[i]? = some d → T K (D :: M) H x d → Ext N H1 H → J i H → H D ≠ none → ∀ (Ky : V → Hp → Prop) (Kn : Hp → Prop), (keep d = false → ∀ H', Ext N H H' → J (i + 1) H' → Kn H') →
      (keep d = true → ∀ H' y e, Ext N H H' → J (i + 1) H' → T K (D :: M) H' y e → f d e → Ky y H') → Turn g tt te vs σ x H Ky Kn)
    (hd : ∀ H ys es, Ext N H1 H → J ds.length H → H D = some (.lst ys) → TA K M H ys es → Paired f (ds.filter keep) es → Qd H) :
    ∃ W : Nat → Nat → Hp → Prop, (∃ m, W 0 m (upd H1 D (.lst []))) ∧ ∀ i m H, W i m H →
      ((Itt K a).stop i H ∧ Qd H) ∨ ((Itt K a).go i H ∧ ∃ Nx : Hp → Prop, (∀ H', Nx H' → ∃ m', m' < m ∧ W (i + 1) m' H') ∧ ∀ x H', (Itt K a).yld i H x H' → g x (wipe σ vs) H' fun σ2 H2 => wipe σ2 vs = wipe σ vs ∧ tt σ2 H2 fun b H3 =>
        if b = true then te σ2 H3 fun y H4 => ∃ acc, H4 D = some (.lst acc) ∧ acc.length < sizeLine ∧ Nx (upd H4 D (.lst (acc ++ [y]))) else Nx H3) := by
  have hDM : D ∉ M := fun z => hN D z hD
  have hDN : D ∉ N := fun z => hDM (hNM D z)
  have naN : a ∉ N := fun z => na (hNM a z)
  have hT : TA K (D :: M) H1 xs ds := ht.plus hD
  refine lc_tup (K := K) (a := a) (xs := xs) (fun i H => Sofar K (D :: M) N H1 D J keep f ds i H) ⟨[], [], Ext.new hD, hJ _ _ _ j0, upd_same, .nil, by simpa using Paired.nil⟩ (fun i H _ p => ?_) (fun i x H hx p => ?_) (fun H p => ?_)
  · obtain ⟨_, _, e, _⟩ := p
    exact SqT.of (e _ _ naN ha)
  · obtain ⟨d, hdi, td⟩ := hT.get hx
    have e := let ⟨_, _, e, _⟩ := p; e
    have j := let ⟨_, _, _, j, _⟩ := p; j
    have hy : H D ≠ none := let ⟨_, _, _, _, h, _⟩ := p; fun z => by rw [z] at h; cases h
    exact sofar_turn hl hNM hDN hDM hD hJ hdi p (turn i x d H hdi (td.ext (e.sub fun b hb => List.mem_cons_of_mem _ (hNM b hb))) e j hy)
  · obtain ⟨ys, es, e, j, h1, h2, h3⟩ := p
    rw [ht.len, List.take_length] at h3
    rw [ht.len] at j
    exact hd H ys es e j h1 (h2.off fun b hb => List.mem_cons_of_mem _ hb) h3
/-- lcL, and the new list is known to be there -/
theorem lcL2 {a : Addr} {xs : List V} {ds : List PyData} (J : Nat → Hp → Prop) (keep : PyData → Bool) (f : PyData → PyData → Prop) (ha : H1 a = some (.lst xs)) (na : a ∉ M) (ht : TA K M H1 xs ds) (hl : ds.length ≤ 100000)
    (hNM : ∀ b ∈ N, b ∈ M) (hN : ∀ b ∈ M, H1 b ≠ none) (hD : H1 D = none) (j0 : J 0 H1) (hJ : ∀ i H o, J i H → J i (upd H D o))
    (turn : ∀ i x d H, ds[i]? = some d → T K (D :: M) H x d → Ext N H1 H → J i H → H D ≠ none → ∀ (Ky : V → Hp → Prop) (Kn : Hp → Prop), (keep d = false → ∀ H', Ext N H H' → J (i + 1) H' → Kn H') →
      (keep d = true → ∀ H' y e, Ext N H H' → J (i + 1) H' → T K (D :: M) H' y e → f d e → Ky y H') → Turn g tt te vs σ x H Ky Kn)
    (hd : ∀ H ys es, Ext N H1 H → J ds.length H → H D = some (.lst ys) → TA K M H ys es → Paired f (ds.filter keep) es → Qd H) :
    ∃ W : Nat → Nat → Hp → Prop, (∃ m, W 0 m (upd H1 D (.lst []))) ∧ ∀ i m H, W i m H →
      ((Itl K a).stop i H ∧ Qd H) ∨ ((Itl K a).go i H ∧ ∃ Nx : Hp → Prop, (∀ H', Nx H' → ∃ m', m' < m ∧ W (i + 1) m' H') ∧ ∀ x H', (Itl K a).yld i H x H' → g x (wipe σ vs) H' fun σ2 H2 => wipe σ2 vs = wipe σ vs ∧ tt σ2 H2 fun b H3 =>
        if b = true then te σ2 H3 fun y H4 => ∃ acc, H4 D = some (.lst acc) ∧ acc.length < sizeLine ∧ Nx (upd H4 D (.lst (acc ++ [y]))) else Nx H3) := by
  have hDM : D ∉ M := fun z => hN D z hD
  have hDN : D ∉ N := fun z => hDM (hNM D z)
  have naN : a ∉ N := fun z => na (hNM a z)
  have hT : TA K (D :: M) H1 xs ds := ht.plus hD
  refine lc_list (K := K) (a := a) (xs := xs) (fun i H => Sofar K (D :: M) N H1 D J keep f ds i H) ⟨[], [], Ext.new hD, hJ _ _ _ j0, upd_same, .nil, by simpa using Paired.nil⟩ (fun i H _ p => ?_) (fun i x H hx p => ?_) (fun H p => ?_)
  · obtain ⟨_, _, e, _⟩ := p
    exact SqL.of (e _ _ naN ha)
  · obtain ⟨d, hdi, td⟩ := hT.get hx
    have e := let ⟨_, _, e, _⟩ := p; e
    have j := let ⟨_, _, _, j, _⟩ := p; j
    have hy : H D ≠ none := let ⟨_, _, _, _, h, _⟩ := p; fun z => by rw [z] at h; cases h
    exact sofar_turn hl hNM hDN hDM hD hJ hdi p (turn i x d H hdi (td.ext (e.sub fun b hb => List.mem_cons_of_mem _ (hNM b hb))) e j hy)
  · obtain ⟨ys, es, e, j, h1, h2, h3⟩ := p
    rw [ht.len, List.take_length] at h3
    rw [ht.len] at j
    exact hd H ys es e j h1 (h2.off fun b hb => List.mem_cons_of_mem _ hb) h3
/-- lcR, and the new list is known to be there -/
theorem lcR2 {n : Nat} (J : Nat → Hp → Prop) (keep : PyData → Bool) (f : PyData → PyData → Prop) (hl : n ≤ 100000)
    (hNM : ∀ b ∈ N, b ∈ M) (hN : ∀ b ∈ M, H1 b ≠ none) (hD : H1 D = none) (j0 : J 0 H1) (hJ : ∀ i H o, J i H → J i (upd H D o))
    (turn : ∀ (i : Nat) H, i < n → Ext N H1 H → J i H → H D ≠ none → ∀ (Ky : V → Hp → Prop) (Kn : Hp → Prop), (keep (.int (i : Int)) = false → ∀ H', Ext N H H' → J (i + 1) H' → Kn H') →
      (keep (.int (i : Int)) = true → ∀ H' y e, Ext N H H' → J (i + 1) H' → T K (D :: M) H' y e → f (.int (i : Int)) e → Ky y H') → Turn g tt te vs σ (.int (i : Int)) H Ky Kn)
    (hd : ∀ H ys es, Ext N H1 H → J n H → H D = some (.lst ys) → TA K M H ys es → Paired f (((List.range n).map fun i : Nat => PyData.int (i : Int)).filter keep) es → Qd H) :
    ∃ W : Nat → Nat → Hp → Prop, (∃ m, W 0 m (upd H1 D (.lst []))) ∧ ∀ i m H, W i m H →
      ((Itr 0 n).stop i H ∧ Qd H) ∨ ((Itr 0 n).go i H ∧ ∃ Nx : Hp → Prop, (∀ H', Nx H' → ∃ m', m' < m ∧ W (i + 1) m' H') ∧ ∀ x H', (Itr 0 n).yld i H x H' → g x (wipe σ vs) H' fun σ2 H2 => wipe σ2 vs = wipe σ vs ∧ tt σ2 H2 fun b H3 =>
        if b = true then te σ2 H3 fun y H4 => ∃ acc, H4 D = some (.lst acc) ∧ acc.length < sizeLine ∧ Nx (upd H4 D (.lst (acc ++ [y]))) else Nx H3) := by
  have hDM : D ∉ M := fun z => hN D z hD
  have hDN : D ∉ N := fun z => hDM (hNM D z)
  refine lc_range (lo := 0) (n := n) (fun i H => Sofar K (D :: M) N H1 D J keep f ((List.range n).map fun i : Nat => PyData.int (i : Int)) i H) ⟨[], [], Ext.new hD, hJ _ _ _ j0, upd_same, .nil, by simpa using Paired.nil⟩ (fun i H hi p => ?_) (fun H p => ?_)
  · have e := let ⟨_, _, e, _⟩ := p; e
    have j := let ⟨_, _, _, j, _⟩ := p; j
    have z : (0 : Int) + (i : Int) = (i : Int) := Int.zero_add _
    rw [z]
    have hy : H D ≠ none := let ⟨_, _, _, _, h, _⟩ := p; fun z => by rw [z] at h; cases h
    exact sofar_turn (d := .int (i : Int)) (by simpa using hl) hNM hDN hDM hD hJ (by simp [hi]) p (turn i H hi e j hy)
  · obtain ⟨ys, es, e, j, h1, h2, h3⟩ := p
    rw [List.take_of_length_le (by simp)] at h3
    exact hd H ys es e j h1 (h2.off fun b hb => List.mem_cons_of_mem _ hb) h3
end
end U

set_option Elab.async false
set_option linter.all false
set_option maxRecDepth 100000
set_option maxHeartbeats 4000000
namespace U
open PySem PySem.Spec PyProof.Rows L2
section
open AutoSeq1 (wpAny_loadPart')
theorem tupTimes1 (l : Addr) (its : Array Value) (n : Nat) (dd : Option Addr) (sl : Array (Option Value)) (u : Tok) :
    Meets (Builtin.«tuple.__mul__» ⟨[.ref l, .int 1 u], []⟩) (fun _ R z => z.heap.get? l = some { cls := .type "tuple", dict := dd, data := .seq its n, slots := sl } ∧ R (.ok (.ret (Value.ref l))) z) :=
  .of_wp fun prog w A R z h => by
    obtain ⟨p0, g, d, k0, os⟩ := z
    obtain ⟨hl, h⟩ := h
    have f1 := AutoSeq1.idx_int
    wp_walk using wpAny_loadPart' hl
    exact ⟨_, rfl, h⟩
end
/-- a tuple k times, k from 1 on; once is the tuple itself -/
def rTimes (K : PySem.W.Frag) : R2 := fun x y H Q => ∃ (l : Addr) (k : Int) (xs : List V), x = .ref l ∧ y = .int k ∧ SqT K H l xs ∧ xs ≠ [] ∧ 1 ≤ k ∧ k ≤ 1000 ∧ xs.length ≤ 1000 ∧ (k = 1 → Q (.ref l) H) ∧ (2 ≤ k → ∀ p, H p = none → Q (.ref p) (upd H p (.tup (List.replicate k.toNat xs).flatten)))
theorem op_times {X : Cx} : OpR X (binaryOp .Mult) (rTimes X.K) := by
  intro pins z σ H x y v u Q I rx ry h
  obtain ⟨l, k, xs, rfl, rfl, hT, hne, k1, k2, hz, q1, q2⟩ := h
  by_cases e : k = 1
  · subst e
    have q1 := q1 rfl
    have rx' : RelV (.ref l) v := rx
    cases rx
    obtain ⟨t, rfl⟩ := ry
    obtain ⟨its, r, ⟨⟨cls, dd, data, sl⟩, ho, hc, m, hd⟩, hs⟩ := I.tuple hT
    simp only at hc hd
    subst hc hd
    exact wpAny_binaryOp_repeat_ref (T := "tuple") (U := "int") (by decide) ⟨_, ho, rfl⟩ (fun z' => typeIs_int z' 1 t) noFill_tuple_mul F.fills_int_mul F.slot_int_rmul repeat_tuple F.slot_int_index.lookup
      (call_meets F.slot_int_rmul (typeIs_int z 1 t) F.entry_int_rmul (F.args_int_rmul_2 _ _) (int_rmul_tuple 1 t l its.toArray m dd sl)
        ⟨ho, rfl, ⟨_, ho, rfl⟩, call_meets F.slot_tuple_mul ⟨_, ho, rfl⟩ F.entry_tuple_mul (F.args_tuple_mul_2 _ _) (tupTimes1 l its.toArray m dd sl t) ⟨ho, ⟨.ref l, H, I, rx', q1⟩⟩⟩)
  · exact op_repT pins z σ H (.ref l) (.int k) v u Q I rx ry ⟨l, k, xs, rfl, rfl, hT, hne, by omega, k2, hz, q2 (by omega)⟩
theorem kTimes (K : PySem.W.Frag) {X : Cx} (h : X.K = K := by rfl) : OpR X (binaryOp .Mult) (rTimes K) := by subst h; exact op_times
end U

set_option Elab.async false
set_option linter.all false
set_option maxRecDepth 100000
set_option maxHeartbeats 2000000
namespace U
open PySem PySem.Spec PyProof.Rows L2

/-! ### places more -/
section
variable {K : PySem.W.Frag} {N N' : List Addr} {H : Hp}
mutual
theorem T.plusAll (s : ∀ b ∈ N', b ∈ N ∨ H b = none) : ∀ {v : V} {d : PyData}, T K N H v d → T K N' H v d
  | _, _, .non => .non
  | _, _, .bl b => .bl b
  | _, _, .int i => .int i
  | _, _, .str x => .str x
  | _, _, .lst n h t => .lst (fun z => (s _ z).elim n fun q => by rw [q] at h; cases h) h (TA.plusAll s t)
  | _, _, .tup n h t => .tup (fun z => (s _ z).elim n fun q => by rw [q] at h; cases h) h (TA.plusAll s t)
  | _, _, .dct n h t => .dct (fun z => (s _ z).elim n fun q => by rw [q] at h; cases h) h (TK.plusAll s t)
theorem TA.plusAll (s : ∀ b ∈ N', b ∈ N ∨ H b = none) : ∀ {vs : List V} {ds : List PyData}, TA K N H vs ds → TA K N' H vs ds
  | _, _, .nil => .nil
  | _, _, .cons h t => .cons (T.plusAll s h) (TA.plusAll s t)
theorem TK.plusAll (s : ∀ b ∈ N', b ∈ N ∨ H b = none) : ∀ {kvs : List (Key × V)} {es : List (PyData × PyData)}, TK K N H kvs es → TK K N' H kvs es
  | _, _, .nil => .nil
  | _, _, .cons h g t => .cons (T.plusAll s h) (T.plusAll s g) (TK.plusAll s t)
end
end

/-! ### worlds: the places that are written from outside, and what is known of them -/
structure Wd (γ : Type) where
  M : List Addr
  /-- N: the places that data keep off (the own ones and M) -/
  I : γ → List Addr → Hp → Prop
  loc : ∀ k N H H', (∀ b, b ∈ M → H' b = H b) → Ext N H H' → I k N H → I k N H'
  plus : ∀ k N N' H, (∀ b, b ∈ N' → b ∈ N ∨ H b = none) → (∀ b, b ∈ M → b ∈ N') → I k N H → I k N' H
  trk : ∀ k N H, I k N H → Trk M H
/-- nothing at M is written -/
def pureW (M : List Addr) (Hs : Hp) (t : Trk M Hs) : Wd Nat where
  M := M
  I := fun _ _ H => ∀ b, b ∈ M → H b = Hs b
  loc := fun _ _ _ _ e _ h b hb => (e b hb).trans (h b hb)
  plus := fun _ _ _ _ _ _ h => h
  trk := fun _ _ _ h b hb z => t b hb ((h b hb).symm.trans z)

inductive Slot where
  | no
  | dat (d : PyData)
  | own (ds : List PyData)
  | ownD (kvs : List (Key × PyData))
  | lck (kvs : List (Key × PyData))
  | raw (v : V)
  /-- an inner def -/
  | fn (mk : Addr → NdefX.NF)
  /-- a dict of its own whose keys are tuples: D tells its object -/
  | ownN (D : Addr → List (NestedKey × Addr × V) → HO) (kvs : List (NestedKey × PyData))
def Slot.isOwn : Slot → Bool | .own _ => true | .ownD _ => true | .lck _ => true | .ownN _ _ => true | _ => false
abbrev Rho := List Slot
inductive KD (K : PySem.W.Frag) (M : List Addr) (H : Hp) : List (Key × V) → List (Key × PyData) → Prop
  | nil : KD K M H [] []
  | cons {k : Key} {v : V} {d : PyData} {vs : List (Key × V)} {ds : List (Key × PyData)} : T K M H v d → KD K M H vs ds → KD K M H ((k, v) :: vs) ((k, d) :: ds)
theorem KD.map {K : PySem.W.Frag} {M M' : List Addr} {H H' : Hp} (f : ∀ v d, T K M H v d → T K M' H' v d) : ∀ {vs : List (Key × V)} {ds : List (Key × PyData)}, KD K M H vs ds → KD K M' H' vs ds
  | _, _, .nil => .nil
  | _, _, .cons h t => .cons (f _ _ h) (KD.map f t)
mutual
/-- a datum as a key -/
def nkey : PyData → Option NestedKey
  | .none => some .none
  | .bool b => some (.num (if b = true then 1 else 0))
  | .int i => some (.num i)
  | .str x => some (.text x)
  | .tuple ds => (nkeys ds).map .tup
  | _ => Option.none
def nkeys : List PyData → Option (List NestedKey)
  | [] => some []
  | d :: ds => match nkey d, nkeys ds with
    | some k, some ks => some (k :: ks)
    | _, _ => Option.none
end
inductive KN (K : PySem.W.Frag) (M : List Addr) (H : Hp) : List (NestedKey × Addr × V) → List (NestedKey × PyData) → Prop
  | nil : KN K M H [] []
  | cons {k : NestedKey} {a : Addr} {v : V} {e d : PyData} {xs : List (NestedKey × Addr × V)} {ds : List (NestedKey × PyData)} : nkey e = some k → k.depth ≤ 8 → T K M H (.ref a) e → T K M H v d → KN K M H xs ds → KN K M H ((k, a, v) :: xs) ((k, d) :: ds)
theorem KN.map {K : PySem.W.Frag} {M M' : List Addr} {H H' : Hp} (f : ∀ v d, T K M H v d → T K M' H' v d) : ∀ {xs : List (NestedKey × Addr × V)} {ds : List (NestedKey × PyData)}, KN K M H xs ds → KN K M' H' xs ds
  | _, _, .nil => .nil
  | _, _, .cons e dp h g t => .cons e dp (f _ _ h) (f _ _ g) (KN.map f t)
theorem TA.mapT {K : PySem.W.Frag} {M M' : List Addr} {H H' : Hp} (f : ∀ v d, T K M H v d → T K M' H' v d) : ∀ {vs : List V} {ds : List PyData}, TA K M H vs ds → TA K M' H' vs ds
  | _, _, .nil => .nil
  | _, _, .cons h t => .cons (f _ _ h) (TA.mapT f t)
def SlotOk (K : PySem.W.Frag) (N L : List Addr) (H : Hp) (o : Option (Option V)) : Slot → Prop
  | .no => True
  | .dat d => ∃ v, o = some (some v) ∧ T K N H v d
  | .own ds => ∃ l xs, o = some (some (.ref l)) ∧ l ∈ L ∧ H l = some (.lst xs) ∧ TA K N H xs ds
  | .ownD kvs => ∃ l vs, o = some (some (.ref l)) ∧ l ∈ L ∧ H l = some (.dK vs) ∧ KD K N H vs kvs
  | .lck kvs => ∃ l vs od, o = some (some (.ref l)) ∧ l ∈ L ∧ H l = some (.frz od (.dK vs)) ∧ KD K N H vs kvs
  | .raw v => o = some (some v)
  | .fn mk => ∃ f c, o = some (some (.ref f)) ∧ f ∉ N ∧ c ∉ N ∧ H f = some (NdefX.FnO f (mk c)) ∧ H c = some (LamX.CodeO c (mk c).qual)
  | .ownN D kvs => ∃ l xs, o = some (some (.ref l)) ∧ l ∈ L ∧ H l = some (D l xs) ∧ KN K N H xs kvs
/-- the slots and the heap as they are told: since H0 (whose own places are L0) -/
structure Stt (K : PySem.W.Frag) {γ : Type} (W : Wd γ) (L0 : List Addr) (H0 : Hp) (L : List Addr) (H : Hp) (σ : L2.St) (ρ : Rho) (k : γ) : Prop where
  base : Ext (L0 ++ W.M) H0 H
  fresh : ∀ l ∈ L, l ∈ L0 ∨ H0 l = none
  offM : ∀ l ∈ L, l ∉ W.M
  trk : Trk (L ++ W.M) H
  wd : W.I k (L ++ W.M) H
  len : ρ.length = σ.length
  slots : ∀ (i : Nat) (s : Slot), ρ[i]? = some s → SlotOk K (L ++ W.M) L H σ[i]? s
  dis : ∀ (i j : Nat) (s t : Slot), ρ[i]? = some s → ρ[j]? = some t → s.isOwn = true → t.isOwn = true → σ[i]? = σ[j]? → i = j

structure Later {γ : Type} (W : Wd γ) (L1 : List Addr) (H1 : Hp) (L : List Addr) (H : Hp) : Prop where
  ext : Ext (L1 ++ W.M) H1 H
  fresh : ∀ l ∈ L, l ∈ L1 ∨ H1 l = none
  trk : Trk (L ++ W.M) H
section
variable {K : PySem.W.Frag} {γ : Type} {W : Wd γ} {L0 L1 L L' : List Addr} {H0 H1 H H' : Hp} {σ σ' : L2.St} {ρ ρ' : Rho} {k k' : γ} {v : V} {d : PyData}
theorem Later.T (l : Later W L1 H1 L H) (t : T K (L1 ++ W.M) H1 v d) : T K (L ++ W.M) H v d := by
  have t1 : U.T K (L ++ (L1 ++ W.M)) H1 v d := t.plusAll fun b hb => by
    rcases List.mem_append.mp hb with hb | hb
    · rcases l.fresh b hb with h | h
      · exact .inl (List.mem_append_left _ h)
      · exact .inr h
    · exact .inl hb
  have t2 := t1.ext (l.ext.sub fun b hb => List.mem_append_right _ hb)
  exact t2.off fun b hb => by
    rcases List.mem_append.mp hb with hb | hb
    · exact List.mem_append_left _ hb
    · exact List.mem_append_right _ (List.mem_append_right _ hb)
theorem Stt.later (S : Stt K W L0 H0 L H σ ρ k) : Later W L0 H0 L H := ⟨S.base, S.fresh, S.trk⟩
theorem Stt.rebase (S : Stt K W L0 H0 L H σ ρ k) : Stt K W L H L H σ ρ k := ⟨Ext.refl _ _, fun _ h => .inl h, S.offM, S.trk, S.wd, S.len, S.slots, S.dis⟩
theorem Stt.back (S1 : Stt K W L0 H0 L1 H1 σ ρ k) (S : Stt K W L1 H1 L H σ' ρ' k') : Stt K W L0 H0 L H σ' ρ' k' := by
  have e : Ext (L0 ++ W.M) H0 H := fun b o nb hb => by
    refine S.base b o (fun z => ?_) (S1.base b o nb hb)
    rcases List.mem_append.mp z with z | z
    · rcases S1.fresh b z with q | q
      · exact nb (List.mem_append_left _ q)
      · rw [q] at hb; cases hb
    · exact nb (List.mem_append_right _ z)
  refine ⟨e, fun l hl => ?_, S.offM, S.trk, S.wd, S.len, S.slots, S.dis⟩
  rcases S.fresh l hl with q | q
  · exact S1.fresh l q
  · by_cases h0 : l ∈ L0
    · exact .inl h0
    · right
      cases h : H0 l with
      | none => rfl
      | some o =>
        have nb : l ∉ L0 ++ W.M := fun z => (List.mem_append.mp z).elim h0 (S.offM l hl)
        rw [S1.base l o nb h] at q
        cases q
theorem Stt.tM (S : Stt K W L0 H0 L H σ ρ k) (t : T K (L ++ W.M) H v d) : T K W.M H v d := t.off fun b hb => List.mem_append_right _ hb
/-- a heap in which the places of M alone have changed, or new ones have come -/
theorem Stt.ext (S : Stt K W L0 H0 L H σ ρ k) (e : Ext W.M H H') (wd : W.I k' (L ++ W.M) H') : Stt K W L0 H0 L H' σ ρ k' := by
  have e1 : Ext (L ++ W.M) H H' := e.sub fun b hb => List.mem_append_right _ hb
  refine ⟨S.base.trans (e.sub fun b hb => List.mem_append_right _ hb), S.fresh, S.offM, ?_, wd, S.len, fun i s hs => ?_, S.dis⟩
  · intro b hb
    rcases List.mem_append.mp hb with h | h
    · cases q : H b with
      | none => exact absurd q (S.trk b hb)
      | some o => rw [e b o (S.offM b h) q]; simp
    · exact W.trk _ _ _ wd b h
  · have q := S.slots i s hs
    cases s with
    | no => trivial
    | dat d =>
      obtain ⟨v, h1, h2⟩ := q
      exact ⟨v, h1, h2.ext e1⟩
    | own ds =>
      obtain ⟨l, xs, h1, h2, h3, h4⟩ := q
      exact ⟨l, xs, h1, h2, e l _ (S.offM l h2) h3, h4.ext e1⟩
    | ownD kvs =>
      obtain ⟨l, xs, h1, h2, h3, h4⟩ := q
      exact ⟨l, xs, h1, h2, e l _ (S.offM l h2) h3, h4.map fun _ _ t => t.ext e1⟩
    | lck kvs =>
      obtain ⟨l, xs, od, h1, h2, h3, h4⟩ := q
      exact ⟨l, xs, od, h1, h2, e l _ (S.offM l h2) h3, h4.map fun _ _ t => t.ext e1⟩
    | raw v => exact q
    | fn F =>
      obtain ⟨f, c, h1, h2, h3, h4, h5⟩ := q
      exact ⟨f, c, h1, h2, h3, e1 f _ h2 h4, e1 c _ h3 h5⟩
    | ownN D kvs =>
      obtain ⟨l, xs, h1, h2, h3, h4⟩ := q
      exact ⟨l, xs, h1, h2, e l _ (S.offM l h2) h3, h4.map fun _ _ t => t.ext e1⟩
theorem Stt.same (S : Stt K W L0 H0 L H σ ρ k) (e : Same H H') : Stt K W L0 H0 L H' σ ρ k := by
  refine S.ext (Ext.same e) (W.loc k _ H H' (fun b hb => ?_) (Ext.same e) S.wd)
  cases q : H b with
  | none => exact absurd q (W.trk _ _ _ S.wd b hb)
  | some o => exact e b o q
theorem Stt.new (S : Stt K W L0 H0 L H σ ρ k) {p : Addr} {o : HO} (hp : H p = none) : Stt K W L0 H0 L (upd H p o) σ ρ k := S.same (Same.new hp)
theorem Stt.nin (S : Stt K W L0 H0 L H σ ρ k) {p : Addr} (hp : H p = none) : p ∉ L ++ W.M := S.trk.new hp
/-- the world, when a new place becomes one's own -/
theorem Stt.wdNew (S : Stt K W L0 H0 L H σ ρ k) {p : Addr} {o : HO} (hp : H p = none) : W.I k (p :: L ++ W.M) (upd H p o) := by
  have npM : p ∉ W.M := fun z => S.nin hp (List.mem_append_right _ z)
  refine W.loc k _ H _ (fun b hb => ?_) (Ext.put (by simp)) (W.plus k (L ++ W.M) _ H (fun b hb => ?_) (fun b hb => List.mem_append_right _ hb) S.wd)
  · rw [upd_ne (by rintro rfl; exact npM hb)]
  · rcases List.mem_cons.mp hb with rfl | hb
    · exact .inr hp
    · exact .inl hb
/-- .. when own places are given away -/
theorem Stt.wdSub (S : Stt K W L0 H0 L H σ ρ k) {L' : List Addr} (h : ∀ b ∈ L', b ∈ L) : W.I k (L' ++ W.M) H :=
  W.plus k _ _ H (fun b hb => .inl ((List.mem_append.mp hb).elim (fun z => List.mem_append_left _ (h b z)) fun z => List.mem_append_right _ z)) (fun b hb => List.mem_append_right _ hb) S.wd
theorem Stt.wdM (S : Stt K W L0 H0 L H σ ρ k) : W.I k W.M H := S.wdSub (L' := []) fun _ h => nomatch h
/-- a slot takes a datum -/
theorem Stt.set (S : Stt K W L0 H0 L H σ ρ k) (i : Nat) (t : T K (L ++ W.M) H v d) : Stt K W L0 H0 L H (σ.set i (some v)) (ρ.set i (.dat d)) k := by
  refine ⟨S.base, S.fresh, S.offM, S.trk, S.wd, by rw [List.length_set, List.length_set]; exact S.len, fun j s hs => ?_, fun j l s t' hs ht h1 h2 h3 => ?_⟩
  · by_cases e : i = j
    · subst e
      rw [List.getElem?_set_self'] at hs
      cases q : ρ[i]? with
      | none => rw [q] at hs; cases hs
      | some u =>
        rw [q] at hs
        have hs' : Slot.dat d = s := by simpa using hs
        subst hs'
        have hl : i < σ.length := by rw [← S.len]; exact (List.getElem?_eq_some_iff.mp q).1
        exact ⟨v, by simp [hl], t⟩
    · rw [List.getElem?_set_ne e] at hs ⊢
      exact S.slots j s hs
  · have nj : i ≠ j := by
      rintro rfl
      rw [List.getElem?_set_self'] at hs
      cases q : ρ[i]? with
      | none => rw [q] at hs; cases hs
      | some u =>
        rw [q] at hs
        have hs' : Slot.dat d = s := by simpa using hs
        subst hs'
        cases h1
    have nl : i ≠ l := by
      rintro rfl
      rw [List.getElem?_set_self'] at ht
      cases q : ρ[i]? with
      | none => rw [q] at ht; cases ht
      | some u =>
        rw [q] at ht
        have hs' : Slot.dat d = t' := by simpa using ht
        subst hs'
        cases h2
    rw [List.getElem?_set_ne nj] at hs h3
    rw [List.getElem?_set_ne nl] at ht h3
    exact S.dis j l s t' hs ht h1 h2 h3
/-- a slot takes a thing as it is -/
theorem Stt.setRaw (S : Stt K W L0 H0 L H σ ρ k) (i : Nat) : Stt K W L0 H0 L H (σ.set i (some v)) (ρ.set i (.raw v)) k := by
  refine ⟨S.base, S.fresh, S.offM, S.trk, S.wd, by rw [List.length_set, List.length_set]; exact S.len, fun j s hs => ?_, fun j l s t' hs ht h1 h2 h3 => ?_⟩
  · by_cases e : i = j
    · subst e
      rw [List.getElem?_set_self'] at hs
      cases q : ρ[i]? with
      | none => rw [q] at hs; cases hs
      | some u =>
        rw [q] at hs
        have hs' : Slot.raw v = s := by simpa using hs
        subst hs'
        have hl : i < σ.length := by rw [← S.len]; exact (List.getElem?_eq_some_iff.mp q).1
        show (σ.set i (some v))[i]? = some (some v)
        simp [hl]
    · rw [List.getElem?_set_ne e] at hs ⊢
      exact S.slots j s hs
  · have nj : i ≠ j := by
      rintro rfl
      rw [List.getElem?_set_self'] at hs
      cases q : ρ[i]? with
      | none => rw [q] at hs; cases hs
      | some u =>
        rw [q] at hs
        have hs' : Slot.raw v = s := by simpa using hs
        subst hs'
        cases h1
    have nl : i ≠ l := by
      rintro rfl
      rw [List.getElem?_set_self'] at ht
      cases q : ρ[i]? with
      | none => rw [q] at ht; cases ht
      | some u =>
        rw [q] at ht
        have hs' : Slot.raw v = t' := by simpa using ht
        subst hs'
        cases h2
    rw [List.getElem?_set_ne nj] at hs h3
    rw [List.getElem?_set_ne nl] at ht h3
    exact S.dis j l s t' hs ht h1 h2 h3
/-- a slot takes a new list of its own, made at p -/
theorem Stt.setOwn (S : Stt K W L0 H0 L H σ ρ k) (i : Nat) {p : Addr} {o : HO} {s0 : Slot} (hi : s0.isOwn = true) (hp : H p = none)
    (hs0 : SlotOk K (p :: L ++ W.M) (p :: L) (upd H p o) (some (some (.ref p))) s0) : Stt K W L0 H0 (p :: L) (upd H p o) (σ.set i (some (.ref p))) (ρ.set i s0) k := by
  have np := S.nin hp
  have S1 := S.new (o := o) hp
  have npM : p ∉ W.M := fun z => np (List.mem_append_right _ z)
  have up : ∀ v d, T K (L ++ W.M) H v d → T K (p :: L ++ W.M) (upd H p o) v d := fun v d t => (t.plus hp).ext (Ext.put (by simp))
  have hf : H0 p = none ∨ p ∈ L0 := by
    by_cases h0 : p ∈ L0
    · exact .inr h0
    · left
      cases h : H0 p with
      | none => rfl
      | some o =>
        rw [S.base p o (fun z => (List.mem_append.mp z).elim h0 npM) h] at hp
        cases hp
  have old : ∀ j s, j ≠ i → (ρ.set i s0)[j]? = some s → SlotOk K (L ++ W.M) L H σ[j]? s := fun j s hj hs => by
    rw [List.getElem?_set_ne (fun e => hj e.symm)] at hs
    exact S.slots j s hs
  refine ⟨S1.base, fun l hl => ?_, fun l hl => ?_, ?_, S.wdNew hp, by rw [List.length_set, List.length_set]; exact S.len, fun j s hs => ?_, fun j l s t' hs ht h1 h2 h3 => ?_⟩
  · rcases List.mem_cons.mp hl with rfl | hl
    · exact hf.symm
    · exact S.fresh l hl
  · rcases List.mem_cons.mp hl with rfl | hl
    · exact npM
    · exact S.offM l hl
  · intro b hb z
    rcases List.mem_cons.mp hb with rfl | hb
    · rw [upd_same] at z; cases z
    · exact S1.trk b hb z
  · by_cases e : j = i
    · subst e
      rw [List.getElem?_set_self'] at hs
      cases q : ρ[j]? with
      | none => rw [q] at hs; cases hs
      | some u =>
        rw [q] at hs
        have hs' : s0 = s := by simpa using hs
        subst hs'
        have hl : j < σ.length := by rw [← S.len]; exact (List.getElem?_eq_some_iff.mp q).1
        have : (σ.set j (some (V.ref p)))[j]? = some (some (.ref p)) := by simp [hl]
        rw [this]
        exact hs0
    · have q := old j s e hs
      rw [List.getElem?_set_ne (fun z => e z.symm)]
      cases s with
      | no => trivial
      | dat d =>
        obtain ⟨v, h1, h2⟩ := q
        exact ⟨v, h1, up _ _ h2⟩
      | own ds =>
        obtain ⟨l, xs, h1, h2, h3, h4⟩ := q
        exact ⟨l, xs, h1, List.mem_cons_of_mem _ h2, by rw [upd_ne (ne_of_none h3 hp)]; exact h3, h4.mapT up⟩
      | ownD kvs =>
        obtain ⟨l, xs, h1, h2, h3, h4⟩ := q
        exact ⟨l, xs, h1, List.mem_cons_of_mem _ h2, by rw [upd_ne (ne_of_none h3 hp)]; exact h3, h4.map up⟩
      | lck kvs =>
        obtain ⟨l, xs, od, h1, h2, h3, h4⟩ := q
        exact ⟨l, xs, od, h1, List.mem_cons_of_mem _ h2, by rw [upd_ne (ne_of_none h3 hp)]; exact h3, h4.map up⟩
      | raw v => exact q
      | fn F =>
        obtain ⟨f, c, h1, h2, h3, h4, h5⟩ := q
        exact ⟨f, c, h1, fun z => (List.mem_cons.mp z).elim (ne_of_none h4 hp) h2, fun z => (List.mem_cons.mp z).elim (ne_of_none h5 hp) h3, by rw [upd_ne (ne_of_none h4 hp)]; exact h4, by rw [upd_ne (ne_of_none h5 hp)]; exact h5⟩
      | ownN D kvs =>
        obtain ⟨l, xs, h1, h2, h3, h4⟩ := q
        exact ⟨l, xs, h1, List.mem_cons_of_mem _ h2, by rw [upd_ne (ne_of_none h3 hp)]; exact h3, h4.map up⟩
  · have at_ : ∀ j s, j ≠ i → (ρ.set i s0)[j]? = some s → s.isOwn = true → (σ.set i (some (V.ref p)))[j]? ≠ some (some (V.ref p)) := fun j s hj hs ho z => by
      have q := old j s hj hs
      rw [List.getElem?_set_ne (fun z => hj z.symm)] at z
      cases s with
      | no => cases ho
      | dat d => cases ho
      | raw v => cases ho
      | fn F => cases ho
      | ownN D kvs =>
        obtain ⟨l, xs, h1, h2, h3, h4⟩ := q
        rw [z] at h1
        have e : p = l := by injection h1 with h1; injection h1 with h1; injection h1
        rw [← e, hp] at h3
        cases h3
      | own ds =>
        obtain ⟨l, xs, h1, h2, h3, h4⟩ := q
        rw [z] at h1
        have e : p = l := by injection h1 with h1; injection h1 with h1; injection h1
        rw [← e, hp] at h3
        cases h3
      | ownD kvs =>
        obtain ⟨l, xs, h1, h2, h3, h4⟩ := q
        rw [z] at h1
        have e : p = l := by injection h1 with h1; injection h1 with h1; injection h1
        rw [← e, hp] at h3
        cases h3
      | lck kvs =>
        obtain ⟨l, xs, od, h1, h2, h3, h4⟩ := q
        rw [z] at h1
        have e : p = l := by injection h1 with h1; injection h1 with h1; injection h1
        rw [← e, hp] at h3
        cases h3
    have self : ∀ s, (ρ.set i s0)[i]? = some s → (σ.set i (some (V.ref p)))[i]? = some (some (V.ref p)) := fun s hs => by
      rw [List.getElem?_set_self'] at hs
      cases q : ρ[i]? with
      | none => rw [q] at hs; cases hs
      | some u =>
        have hl : i < σ.length := by rw [← S.len]; exact (List.getElem?_eq_some_iff.mp q).1
        simp [hl]
    by_cases ej : j = i
    · by_cases el : l = i
      · rw [ej, el]
      · exfalso
        subst ej
        rw [self s hs] at h3
        exact at_ l t' el ht h2 h3.symm
    · by_cases el : l = i
      · exfalso
        subst el
        rw [self t' ht] at h3
        exact at_ j s ej hs h1 h3
      · rw [List.getElem?_set_ne (fun z => ej z.symm)] at hs h3
        rw [List.getElem?_set_ne (fun z => el z.symm)] at ht h3
        exact S.dis j l s t' hs ht h1 h2 h3
/-- a slot takes an inner def -/
theorem Stt.setFn (S : Stt K W L0 H0 L H σ ρ k) (i : Nat) {p c : Addr} {mk : Addr → NdefX.NF} (np : p ∉ L ++ W.M) (nc : c ∉ L ++ W.M) (hp : H p = some (NdefX.FnO p (mk c))) (hc : H c = some (LamX.CodeO c (mk c).qual)) : Stt K W L0 H0 L H (σ.set i (some (.ref p))) (ρ.set i (.fn mk)) k := by
  refine ⟨S.base, S.fresh, S.offM, S.trk, S.wd, by rw [List.length_set, List.length_set]; exact S.len, fun j s hs => ?_, fun j l s t' hs ht h1 h2 h3 => ?_⟩
  · by_cases e : i = j
    · subst e
      rw [List.getElem?_set_self'] at hs
      cases q : ρ[i]? with
      | none => rw [q] at hs; cases hs
      | some u =>
        rw [q] at hs
        have hs' : Slot.fn mk = s := by simpa using hs
        subst hs'
        have hl : i < σ.length := by rw [← S.len]; exact (List.getElem?_eq_some_iff.mp q).1
        exact ⟨p, c, by simp [hl], np, nc, hp, hc⟩
    · rw [List.getElem?_set_ne e] at hs ⊢
      exact S.slots j s hs
  · have nj : i ≠ j := by
      rintro rfl
      rw [List.getElem?_set_self'] at hs
      cases q : ρ[i]? with
      | none => rw [q] at hs; cases hs
      | some u =>
        rw [q] at hs
        have hs' : Slot.fn mk = s := by simpa using hs
        subst hs'
        cases h1
    have nl : i ≠ l := by
      rintro rfl
      rw [List.getElem?_set_self'] at ht
      cases q : ρ[i]? with
      | none => rw [q] at ht; cases ht
      | some u =>
        rw [q] at ht
        have hs' : Slot.fn mk = t' := by simpa using ht
        subst hs'
        cases h2
    rw [List.getElem?_set_ne nj] at hs h3
    rw [List.getElem?_set_ne nl] at ht h3
    exact S.dis j l s t' hs ht h1 h2 h3
/-- the own list (or dict) of a slot is written -/
theorem Stt.put (S : Stt K W L0 H0 L H σ ρ k) {i : Nat} {l : Addr} {o : HO} {s0 s1 : Slot} (hi : ρ[i]? = some s0) (ho : s0.isOwn = true) (h1 : s1.isOwn = true) (hσ : σ[i]? = some (some (.ref l))) (hl : l ∈ L)
    (hs1 : SlotOk K (L ++ W.M) L (upd H l o) (some (some (.ref l))) s1) : Stt K W L0 H0 L (upd H l o) σ (ρ.set i s1) k := by
  have nM := S.offM l hl
  have up : ∀ v d, T K (L ++ W.M) H v d → T K (L ++ W.M) (upd H l o) v d := fun v d t => t.ext (Ext.put (List.mem_append_left _ hl))
  have il : i < ρ.length := (List.getElem?_eq_some_iff.mp hi).1
  refine ⟨fun b u nb hb => ?_, S.fresh, S.offM, S.trk.upd, W.loc k _ H _ (fun b hb => ?_) (Ext.put (List.mem_append_left _ hl)) S.wd, by rw [List.length_set]; exact S.len, fun j s hs => ?_, fun j m s t' hs ht g1 g2 g3 => ?_⟩
  · have : b ≠ l := by
      rintro rfl
      rcases S.fresh b hl with q | q
      · exact nb (List.mem_append_left _ q)
      · rw [q] at hb; cases hb
    rw [upd_ne this]
    exact S.base b u nb hb
  · have : b ≠ l := by rintro rfl; exact nM hb
    rw [upd_ne this]
  · by_cases e : i = j
    · subst e
      rw [List.getElem?_set_self'] at hs
      rw [hi] at hs
      have hs' : s1 = s := by simpa using hs
      subst hs'
      rw [hσ]
      exact hs1
    · rw [List.getElem?_set_ne e] at hs
      have q := S.slots j s hs
      cases s with
      | no => trivial
      | dat d =>
        obtain ⟨v, h1, h2⟩ := q
        exact ⟨v, h1, up _ _ h2⟩
      | own ds =>
        obtain ⟨m, xs, q1, q2, q3, q4⟩ := q
        have : m ≠ l := by
          rintro rfl
          exact e (S.dis i j _ _ hi hs ho rfl (hσ.trans q1.symm))
        exact ⟨m, xs, q1, q2, by rw [upd_ne this]; exact q3, q4.mapT up⟩
      | ownD kvs =>
        obtain ⟨m, xs, q1, q2, q3, q4⟩ := q
        have : m ≠ l := by
          rintro rfl
          exact e (S.dis i j _ _ hi hs ho rfl (hσ.trans q1.symm))
        exact ⟨m, xs, q1, q2, by rw [upd_ne this]; exact q3, q4.map up⟩
      | lck kvs =>
        obtain ⟨m, xs, od, q1, q2, q3, q4⟩ := q
        have : m ≠ l := by
          rintro rfl
          exact e (S.dis i j _ _ hi hs ho rfl (hσ.trans q1.symm))
        exact ⟨m, xs, od, q1, q2, by rw [upd_ne this]; exact q3, q4.map up⟩
      | raw v => exact q
      | fn F =>
        obtain ⟨f, c, q1, q2, q3, q4, q5⟩ := q
        exact ⟨f, c, q1, q2, q3, by rw [upd_ne (by rintro rfl; exact q2 (List.mem_append_left _ hl))]; exact q4, by rw [upd_ne (by rintro rfl; exact q3 (List.mem_append_left _ hl))]; exact q5⟩
      | ownN D kvs =>
        obtain ⟨m, xs, q1, q2, q3, q4⟩ := q
        have : m ≠ l := by
          rintro rfl
          exact e (S.dis i j _ _ hi hs ho rfl (hσ.trans q1.symm))
        exact ⟨m, xs, q1, q2, by rw [upd_ne this]; exact q3, q4.map up⟩
  · have own_ : ∀ (j : Nat) (s : Slot), (ρ.set i s1)[j]? = some s → s.isOwn = true → ∃ s' : Slot, ρ[j]? = some s' ∧ s'.isOwn = true := fun j s hs hh => by
      by_cases e : i = j
      · subst e
        exact ⟨s0, hi, ho⟩
      · rw [List.getElem?_set_ne e] at hs
        exact ⟨s, hs, hh⟩
    obtain ⟨a, a1, a2⟩ := own_ j s hs g1
    obtain ⟨b, b1, b2⟩ := own_ m t' ht g2
    exact S.dis j m a b a1 b1 a2 b2 g3
/-- an own list becomes a datum -/
theorem Stt.freeze (S : Stt K W L0 H0 L H σ ρ k) {i : Nat} {ds : List PyData} (hi : ρ[i]? = some (.own ds)) : ∃ L' l, σ[i]? = some (some (.ref l)) ∧ T K (L' ++ W.M) H (.ref l) (.list ds) ∧ (∀ b ∈ L', b ∈ L) ∧ Stt K W L0 H0 L' H σ (ρ.set i (.dat (.list ds))) k := by
  obtain ⟨l, xs, e1, e2, e3, e4⟩ := S.slots i _ hi
  have sub : ∀ b ∈ L.filter (fun b => b ≠ l) ++ W.M, b ∈ L ++ W.M := fun b hb => by
    rcases List.mem_append.mp hb with hb | hb
    · exact List.mem_append_left _ (List.mem_filter.mp hb).1
    · exact List.mem_append_right _ hb
  have nl : l ∉ L.filter (fun b => b ≠ l) ++ W.M := fun hb => by
    rcases List.mem_append.mp hb with hb | hb
    · have := (List.mem_filter.mp hb).2
      simp at this
    · exact S.offM l e2 hb
  have tl : T K (L.filter (fun b => b ≠ l) ++ W.M) H (.ref l) (.list ds) := .lst nl e3 (e4.off sub)
  refine ⟨L.filter fun b => b ≠ l, l, e1, tl, fun b hb => (List.mem_filter.mp hb).1, S.base, fun b hb => S.fresh b (List.mem_filter.mp hb).1, fun b hb => S.offM b (List.mem_filter.mp hb).1, fun b hb => S.trk b (sub b hb), S.wdSub (fun b hb => (List.mem_filter.mp hb).1), by rw [List.length_set]; exact S.len, fun j s hs => ?_, fun j m s t' hs ht g1 g2 g3 => ?_⟩
  · by_cases e : i = j
    · subst e
      rw [List.getElem?_set_self', hi] at hs
      have hs' : Slot.dat (.list ds) = s := by simpa using hs
      subst hs'
      exact ⟨_, e1, tl⟩
    · rw [List.getElem?_set_ne e] at hs
      have q := S.slots j s hs
      cases s with
      | no => trivial
      | dat d =>
        obtain ⟨v, h1, h2⟩ := q
        exact ⟨v, h1, h2.off sub⟩
      | own ds' =>
        obtain ⟨m, xs, q1, q2, q3, q4⟩ := q
        have : m ≠ l := by
          rintro rfl
          exact e (S.dis i j _ _ hi hs rfl rfl (e1.trans q1.symm))
        exact ⟨m, xs, q1, List.mem_filter.mpr ⟨q2, by simpa using this⟩, q3, q4.off sub⟩
      | ownD kvs =>
        obtain ⟨m, xs, q1, q2, q3, q4⟩ := q
        have : m ≠ l := by
          rintro rfl
          exact e (S.dis i j _ _ hi hs rfl rfl (e1.trans q1.symm))
        exact ⟨m, xs, q1, List.mem_filter.mpr ⟨q2, by simpa using this⟩, q3, q4.map fun _ _ t => t.off sub⟩
      | lck kvs =>
        obtain ⟨m, xs, od, q1, q2, q3, q4⟩ := q
        have : m ≠ l := by
          rintro rfl
          exact e (S.dis i j _ _ hi hs rfl rfl (e1.trans q1.symm))
        exact ⟨m, xs, od, q1, List.mem_filter.mpr ⟨q2, by simpa using this⟩, q3, q4.map fun _ _ t => t.off sub⟩
      | raw v => exact q
      | fn F =>
        obtain ⟨f, c, q1, q2, q3, q4, q5⟩ := q
        exact ⟨f, c, q1, fun z => q2 (sub _ z), fun z => q3 (sub _ z), q4, q5⟩
      | ownN D kvs =>
        obtain ⟨m, xs, q1, q2, q3, q4⟩ := q
        have : m ≠ l := by
          rintro rfl
          exact e (S.dis i j _ _ hi hs rfl rfl (e1.trans q1.symm))
        exact ⟨m, xs, q1, List.mem_filter.mpr ⟨q2, by simpa using this⟩, q3, q4.map fun _ _ t => t.off sub⟩
  · have own_ : ∀ (j : Nat) (s : Slot), (ρ.set i (.dat (.list ds)))[j]? = some s → s.isOwn = true → ρ[j]? = some s := fun j s hs hh => by
      by_cases e : i = j
      · subst e
        rw [List.getElem?_set_self', hi] at hs
        have hs' : Slot.dat (.list ds) = s := by simpa using hs
        subst hs'
        cases hh
      · rw [List.getElem?_set_ne e] at hs
        exact hs
    exact S.dis j m s t' (own_ j s hs g1) (own_ m t' ht g2) g1 g2 g3
/-- slots forgotten -/
theorem Stt.weaken (S : Stt K W L0 H0 L H σ ρ k) {ρ' : Rho} (hl : ρ'.length = ρ.length) (h : ∀ (i : Nat) (s : Slot), ρ'[i]? = some s → s = .no ∨ ρ[i]? = some s) : Stt K W L0 H0 L H σ ρ' k := by
  refine ⟨S.base, S.fresh, S.offM, S.trk, S.wd, hl.trans S.len, fun i s hs => ?_, fun i j s t hs ht h1 h2 h3 => ?_⟩
  · rcases h i s hs with rfl | q
    · trivial
    · exact S.slots i s q
  · rcases h i s hs with rfl | q
    · cases h1
    · rcases h j t ht with rfl | q'
      · cases h2
      · exact S.dis i j s t q q' h1 h2 h3
end
end U

set_option Elab.async false
set_option linter.all false
set_option maxRecDepth 100000
set_option maxHeartbeats 2000000
namespace U
open PySem PySem.Spec PyProof.Rows L2

/-! ### expressions over data -/
def EvW (K : PySem.W.Frag) {γ : Type} (W : Wd γ) (te : TE) (ρ : Rho) (k : γ) (Φ : PyData → γ → Prop) : Prop :=
  ∀ (L0 : List Addr) (H0 : Hp) (L : List Addr) (H : Hp) (σ : L2.St), Stt K W L0 H0 L H σ ρ k → ∀ Q : VK, (∀ v d k' H2, Stt K W L0 H0 L H2 σ ρ k' → Ext W.M H H2 → T K (L ++ W.M) H2 v d → Φ d k' → Q v H2) → te σ H Q
def EvT (K : PySem.W.Frag) {γ : Type} (W : Wd γ) (tt : TT) (ρ : Rho) (k : γ) (Φ : Bool → γ → Prop) : Prop :=
  ∀ (L0 : List Addr) (H0 : Hp) (L : List Addr) (H : Hp) (σ : L2.St), Stt K W L0 H0 L H σ ρ k → ∀ Q : Bool → Hp → Prop, (∀ b k' H2, Stt K W L0 H0 L H2 σ ρ k' → Ext W.M H H2 → Φ b k' → Q b H2) → tt σ H Q
def EvA (K : PySem.W.Frag) {γ : Type} (W : Wd γ) (ta : L2.TA) (ρ : Rho) (k : γ) (Φ : List PyData → γ → Prop) : Prop :=
  ∀ (L0 : List Addr) (H0 : Hp) (L : List Addr) (H : Hp) (σ : L2.St), Stt K W L0 H0 L H σ ρ k → ∀ Q : List V → Hp → Prop, (∀ vs ds k' H2, Stt K W L0 H0 L H2 σ ρ k' → Ext W.M H H2 → TA K (L ++ W.M) H2 vs ds → Φ ds k' → Q vs H2) → ta σ H Q
def EvO (K : PySem.W.Frag) {γ : Type} (W : Wd γ) (to : TO) (ρ : Rho) (k : γ) (Φ : Option Int → γ → Prop) : Prop :=
  ∀ (L0 : List Addr) (H0 : Hp) (L : List Addr) (H : Hp) (σ : L2.St), Stt K W L0 H0 L H σ ρ k → ∀ Q : Option Int → Hp → Prop, (∀ o k' H2, Stt K W L0 H0 L H2 σ ρ k' → Ext W.M H H2 → Φ o k' → Q o H2) → to σ H Q
/-- operations on values -/
def RD (K : PySem.W.Frag) {γ : Type} (W : Wd γ) (r : R2) (x y : PyData) (ρ : Rho) (k : γ) (Φ : PyData → γ → Prop) : Prop :=
  ∀ (L0 : List Addr) (H0 : Hp) (L : List Addr) (H : Hp) (σ : L2.St) (vx vy : V), Stt K W L0 H0 L H σ ρ k → T K (L ++ W.M) H vx x → T K (L ++ W.M) H vy y → ∀ Q : VK, (∀ v d k' H2, Stt K W L0 H0 L H2 σ ρ k' → Ext W.M H H2 → T K (L ++ W.M) H2 v d → Φ d k' → Q v H2) → r vx vy H Q
def RU (K : PySem.W.Frag) {γ : Type} (W : Wd γ) (r : V → Hp → VK → Prop) (x : PyData) (ρ : Rho) (k : γ) (Φ : PyData → γ → Prop) : Prop :=
  ∀ (L0 : List Addr) (H0 : Hp) (L : List Addr) (H : Hp) (σ : L2.St) (vx : V), Stt K W L0 H0 L H σ ρ k → T K (L ++ W.M) H vx x → ∀ Q : VK, (∀ v d k' H2, Stt K W L0 H0 L H2 σ ρ k' → Ext W.M H H2 → T K (L ++ W.M) H2 v d → Φ d k' → Q v H2) → r vx H Q
def RCD (K : PySem.W.Frag) {γ : Type} (W : Wd γ) (r : List V → Hp → VK → Prop) (xs : List PyData) (ρ : Rho) (k : γ) (Φ : PyData → γ → Prop) : Prop :=
  ∀ (L0 : List Addr) (H0 : Hp) (L : List Addr) (H : Hp) (σ : L2.St) (vs : List V), Stt K W L0 H0 L H σ ρ k → TA K (L ++ W.M) H vs xs → ∀ Q : VK, (∀ v d k' H2, Stt K W L0 H0 L H2 σ ρ k' → Ext W.M H H2 → T K (L ++ W.M) H2 v d → Φ d k' → Q v H2) → r vs H Q
def RSl (K : PySem.W.Frag) {γ : Type} (W : Wd γ) (r : V → Option Int → Option Int → Hp → VK → Prop) (x : PyData) (lo hi : Option Int) (ρ : Rho) (k : γ) (Φ : PyData → γ → Prop) : Prop :=
  ∀ (L0 : List Addr) (H0 : Hp) (L : List Addr) (H : Hp) (σ : L2.St) (vx : V), Stt K W L0 H0 L H σ ρ k → T K (L ++ W.M) H vx x → ∀ Q : VK, (∀ v d k' H2, Stt K W L0 H0 L H2 σ ρ k' → Ext W.M H H2 → T K (L ++ W.M) H2 v d → Φ d k' → Q v H2) → r vx lo hi H Q
section
variable {K : PySem.W.Frag} {γ : Type} {W : Wd γ} {ρ : Rho} {k : γ} {Φ : PyData → γ → Prop} {ta tb tc te : TE} {tt tu : TT} {x y : PyData}
theorem eM {L M : List Addr} {H H' : Hp} (e : Ext M H H') : Ext (L ++ M) H H' := e.sub fun _ hb => List.mem_append_right _ hb

theorem ev_var {i : Nat} {d : PyData} (h : ρ[i]? = some (.dat d)) (q : Φ d k) : EvW K W (tVar i) ρ k Φ := fun _ _ _ H _ S _ c => by
  obtain ⟨v, e, t⟩ := S.slots i _ h
  exact ⟨v, e, c v d k H S (Ext.refl _ _) t q⟩
theorem ev_int {i : Int} (q : Φ (.int i) k) : EvW K W (tC (.int i)) ρ k Φ := fun _ _ _ H _ S _ c => c _ _ _ H S (Ext.refl _ _) (.int i) q
theorem ev_bl {b : Bool} (q : Φ (.bool b) k) : EvW K W (tC (.bl b)) ρ k Φ := fun _ _ _ H _ S _ c => c _ _ _ H S (Ext.refl _ _) (.bl b) q
theorem ev_non (q : Φ .none k) : EvW K W (tC .non) ρ k Φ := fun _ _ _ H _ S _ c => c _ _ _ H S (Ext.refl _ _) .non q
theorem ev_str {z : Str} (q : Φ (.str z) k) : EvW K W (tC (.str z)) ρ k Φ := fun _ _ _ H _ S _ c => c _ _ _ H S (Ext.refl _ _) (.str z) q
theorem ev_op {r : R2} (h : EvW K W ta ρ k fun x k1 => EvW K W tb ρ k1 fun y k2 => RD K W r x y ρ k2 Φ) : EvW K W (tOp r ta tb) ρ k Φ := fun L0 H0 L H σ S Q c =>
  h L0 H0 L H σ S _ fun v x k1 H1 S1 e1 t1 g => g L0 H0 L H1 σ S1 _ fun u y k2 H2 S2 e2 t2 g2 => g2 L0 H0 L H2 σ v u S2 (t1.ext (eM e2)) t2 Q fun w d k3 H3 S3 e3 t3 f => c w d k3 H3 S3 ((e1.trans e2).trans e3) t3 f
theorem ev_un {r : V → Hp → VK → Prop} (h : EvW K W ta ρ k fun x k1 => RU K W r x ρ k1 Φ) : EvW K W (tUn r ta) ρ k Φ := fun L0 H0 L H σ S Q c =>
  h L0 H0 L H σ S _ fun v x k1 H1 S1 e1 t1 g => g L0 H0 L H1 σ v S1 t1 Q fun w d k3 H3 S3 e3 t3 f => c w d k3 H3 S3 (e1.trans e3) t3 f
/-- a rule on values that leaves the heap -/
theorem rd_ {r : R2} {d : PyData} (q : Φ d k) (h : ∀ (N : List Addr) (H : Hp) (vx vy : V), T K N H vx x → T K N H vy y → ∀ Q : VK, (∀ v, T K N H v d → Q v H) → r vx vy H Q) : RD K W r x y ρ k Φ := fun L0 H0 L H σ vx vy S tx ty Q c =>
  h _ H vx vy tx ty Q fun v t => c v d k H S (Ext.refl _ _) t q
theorem ru_ {r : V → Hp → VK → Prop} {d : PyData} (q : Φ d k) (h : ∀ (N : List Addr) (H : Hp) (vx : V), T K N H vx x → ∀ Q : VK, (∀ v, T K N H v d → Q v H) → r vx H Q) : RU K W r x ρ k Φ := fun L0 H0 L H σ vx S tx Q c =>
  h _ H vx tx Q fun v t => c v d k H S (Ext.refl _ _) t q
theorem rc_ {r : List V → Hp → VK → Prop} {d : PyData} {xs : List PyData} (q : Φ d k) (h : ∀ (N : List Addr) (H : Hp) (vs : List V), TA K N H vs xs → ∀ Q : VK, (∀ v, T K N H v d → Q v H) → r vs H Q) : RCD K W r xs ρ k Φ := fun L0 H0 L H σ vs S tx Q c =>
  h _ H vs tx Q fun v t => c v d k H S (Ext.refl _ _) t q
/-- a rule on values that makes a new thing -/
theorem rdN {r : R2} {d : PyData} (q : Φ d k) (h : ∀ (N : List Addr) (H : Hp) (vx vy : V), Trk N H → T K N H vx x → T K N H vy y → ∀ Q : VK, (∀ v H2, Same H H2 → T K N H2 v d → Q v H2) → r vx vy H Q) : RD K W r x y ρ k Φ := fun L0 H0 L H σ vx vy S tx ty Q c =>
  h _ H vx vy S.trk tx ty Q fun v H2 s t => c v d k H2 (S.same s) (Ext.same s) t q
theorem rcN {r : List V → Hp → VK → Prop} {d : PyData} {xs : List PyData} (q : Φ d k) (h : ∀ (N : List Addr) (H : Hp) (vs : List V), Trk N H → TA K N H vs xs → ∀ Q : VK, (∀ v H2, Same H H2 → T K N H2 v d → Q v H2) → r vs H Q) : RCD K W r xs ρ k Φ := fun L0 H0 L H σ vs S tx Q c =>
  h _ H vs S.trk tx Q fun v H2 s t => c v d k H2 (S.same s) (Ext.same s) t q
theorem rslN {r : V → Option Int → Option Int → Hp → VK → Prop} {d : PyData} {lo hi : Option Int} (q : Φ d k) (h : ∀ (N : List Addr) (H : Hp) (vx : V), Trk N H → T K N H vx x → ∀ Q : VK, (∀ v H2, Same H H2 → T K N H2 v d → Q v H2) → r vx lo hi H Q) : RSl K W r x lo hi ρ k Φ := fun L0 H0 L H σ vx S tx Q c =>
  h _ H vx S.trk tx Q fun v H2 s t => c v d k H2 (S.same s) (Ext.same s) t q

/-! ints -/
theorem rd_I0 {g : Int → Int → Int} {i j : Int} (q : Φ (.int (g i j)) k) : RD K W (rI0 fun i j => .int (g i j)) (.int i) (.int j) ρ k Φ := rd_ q fun N H vx vy tx ty Q c => by
  cases tx
  cases ty
  exact ⟨i, j, rfl, rfl, c _ (.int _)⟩
theorem rd_add {i j : Int} (q : Φ (.int (i + j)) k) : RD K W (rI0 fun i j => .int (i + j)) (.int i) (.int j) ρ k Φ := rd_I0 (g := fun i j => i + j) q
theorem rd_sub {i j : Int} (q : Φ (.int (i - j)) k) : RD K W (rI0 fun i j => .int (i - j)) (.int i) (.int j) ρ k Φ := rd_I0 (g := fun i j => i - j) q
theorem rd_B0 {g : Int → Int → Bool} {i j : Int} (q : Φ (.bool (g i j)) k) : RD K W (rI0 fun i j => .bl (g i j)) (.int i) (.int j) ρ k Φ := rd_ q fun N H vx vy tx ty Q c => by
  cases tx
  cases ty
  exact ⟨i, j, rfl, rfl, c _ (.bl _)⟩
theorem rd_lt {i j : Int} (q : Φ (.bool (decide (i < j))) k) : RD K W (rI0 fun i j => .bl (decide (i < j))) (.int i) (.int j) ρ k Φ := rd_B0 (g := fun i j => decide (i < j)) q
theorem rd_le {i j : Int} (q : Φ (.bool (decide (i ≤ j))) k) : RD K W (rI0 fun i j => .bl (decide (i ≤ j))) (.int i) (.int j) ρ k Φ := rd_B0 (g := fun i j => decide (i ≤ j)) q
theorem rd_gt {i j : Int} (q : Φ (.bool (decide (j < i))) k) : RD K W (rI0 fun i j => .bl (decide (j < i))) (.int i) (.int j) ρ k Φ := rd_B0 (g := fun i j => decide (j < i)) q
theorem rd_ge {i j : Int} (q : Φ (.bool (decide (j ≤ i))) k) : RD K W (rI0 fun i j => .bl (decide (j ≤ i))) (.int i) (.int j) ρ k Φ := rd_B0 (g := fun i j => decide (j ≤ i)) q
theorem rd_I {C : Int → Int → Prop} {g : Int → Int → Int} {i j : Int} (hc : C i j) (q : Φ (.int (g i j)) k) : RD K W (rI C fun i j => .int (g i j)) (.int i) (.int j) ρ k Φ := rd_ q fun N H vx vy tx ty Q c => by
  cases tx
  cases ty
  exact ⟨i, j, rfl, rfl, hc, c _ (.int _)⟩
theorem rd_mul {i j : Int} (hc : CMul i j) (q : Φ (.int (i * j)) k) : RD K W (rI CMul fun i j => .int (i * j)) (.int i) (.int j) ρ k Φ := rd_I (g := fun i j => i * j) hc q
theorem rd_fdiv {i j : Int} (hc : CDiv i j) (q : Φ (.int (i / j)) k) : RD K W (rI CDiv fun i j => .int (i / j)) (.int i) (.int j) ρ k Φ := rd_I (g := fun i j => i / j) hc q
theorem rd_mod {i j : Int} (hc : 0 < j) (q : Φ (.int (i % j)) k) : RD K W (rI (fun _ j => 0 < j) fun i j => .int (i % j)) (.int i) (.int j) ρ k Φ := rd_I (C := fun _ j => 0 < j) (g := fun i j => i % j) hc q
theorem rd_pow {i j : Int} (hc : CPow i j) (q : Φ (.int (i ^ j.toNat)) k) : RD K W (rI CPow fun i j => .int (i ^ j.toNat)) (.int i) (.int j) ρ k Φ := rd_I (g := fun i j => i ^ j.toNat) hc q
theorem ru_neg {i : Int} (q : Φ (.int (-i)) k) : RU K W (rU fun i => .int (-i)) (.int i) ρ k Φ := ru_ q fun N H vx tx Q c => by
  cases tx
  exact ⟨i, rfl, c _ (.int _)⟩

/-! == of scalars -/
def eqS : PyData → PyData → Option Bool
  | .int a, .int b => some (decide (a = b))
  | .str a, .str b => some (decide (a = b))
  | .bool a, .bool b => some (decide (a = b))
  | .none, .none => some true
  | .none, .int _ => some false
  | .int _, .none => some false
  | .none, .str _ => some false
  | .str _, .none => some false
  | .str _, .int _ => some false
  | .int _, .str _ => some false
  | _, _ => none
theorem eqS_V {N : List Addr} {H : Hp} {vx vy : V} {b : Bool} (tx : T K N H vx x) (ty : T K N H vy y) (h : eqS x y = some b) : scal vx vy = true ∧ decide (vx = vy) = b := by
  cases tx <;> cases ty <;> simp only [eqS, Option.some.injEq, reduceCtorEq] at h <;> subst h <;> exact ⟨rfl, by simp⟩
theorem rd_eq {b : Bool} (h : eqS x y = some b) (q : Φ (.bool b) k) : RD K W rEq x y ρ k Φ := rd_ q fun N H vx vy tx ty Q c => by
  obtain ⟨h1, h2⟩ := eqS_V tx ty h
  exact ⟨h1, by rw [h2]; exact c _ (.bl b)⟩
theorem rd_ne {b : Bool} (h : eqS x y = some b) (q : Φ (.bool !b) k) : RD K W rNe x y ρ k Φ := rd_ q fun N H vx vy tx ty Q c => by
  obtain ⟨h1, h2⟩ := eqS_V tx ty h
  exact ⟨h1, by rw [h2]; exact c _ (.bl !b)⟩
theorem rd_eqI {i j : Int} (q : Φ (.bool (decide (i = j))) k) : RD K W rEq (.int i) (.int j) ρ k Φ := rd_eq (b := decide (i = j)) rfl q
theorem rd_neI {i j : Int} (q : Φ (.bool !(decide (i = j))) k) : RD K W rNe (.int i) (.int j) ρ k Φ := rd_ne (b := decide (i = j)) rfl q
theorem rd_eqX {i j : Str} (q : Φ (.bool (decide (i = j))) k) : RD K W rEq (.str i) (.str j) ρ k Φ := rd_eq (b := decide (i = j)) rfl q
theorem rd_neX {i j : Str} (q : Φ (.bool !(decide (i = j))) k) : RD K W rNe (.str i) (.str j) ρ k Φ := rd_ne (b := decide (i = j)) rfl q
def isNone : PyData → Bool | .none => true | _ => false
theorem isNone_V {N : List Addr} {H : Hp} {vx : V} (tx : T K N H vx x) : decide (vx = .non) = isNone x := by
  cases tx <;> simp [isNone]
theorem rd_isN (q : Φ (.bool (isNone x)) k) : RD K W (fun x y H Q => y = .non ∧ Q (.bl (decide (x = .non))) H) x .none ρ k Φ := rd_ q fun N H vx vy tx ty Q c => by
  cases ty
  exact ⟨rfl, by rw [isNone_V tx]; exact c _ (.bl _)⟩
theorem rd_notN (q : Φ (.bool !(isNone x)) k) : RD K W (fun x y H Q => y = .non ∧ Q (.bl (!decide (x = .non))) H) x .none ρ k Φ := rd_ q fun N H vx vy tx ty Q c => by
  cases ty
  exact ⟨rfl, by rw [isNone_V tx]; exact c _ (.bl _)⟩

/-! tests and logic -/
theorem et_test (h : EvW K W te ρ k fun d k1 => ∃ b, d = .bool b ∧ Ψ b k1) : EvT K W (tTest te) ρ k Ψ := fun L0 H0 L H σ S Q c =>
  h L0 H0 L H σ S _ fun v d k1 H1 S1 e1 t1 g => by
    obtain ⟨b, rfl, g⟩ := g
    cases t1
    exact ⟨b, rfl, c b k1 H1 S1 e1 g⟩
theorem et_B (h : EvW K W te ρ k fun d k1 => ∃ b, d = .bool b ∧ Ψ b k1) : EvT K W (tB te) ρ k Ψ := fun L0 H0 L H σ S Q c =>
  h L0 H0 L H σ S _ fun v d k1 H1 S1 e1 t1 g => by
    obtain ⟨b, rfl, g⟩ := g
    cases t1
    exact ⟨b, rfl, c b k1 H1 S1 e1 g⟩
variable {Ψ : Bool → γ → Prop}
theorem et_and (h : EvT K W tt ρ k fun b k1 => if b = true then EvT K W tu ρ k1 Ψ else Ψ false k1) : EvT K W (tAnd tt tu) ρ k Ψ := fun L0 H0 L H σ S Q c =>
  h L0 H0 L H σ S _ fun b k1 H1 S1 e1 g => by
    cases b with
    | true => exact (g : EvT K W tu ρ k1 Ψ) L0 H0 L H1 σ S1 Q fun b k2 H2 S2 e2 q => c b k2 H2 S2 (e1.trans e2) q
    | false => exact c false k1 H1 S1 e1 g
theorem et_or (h : EvT K W tt ρ k fun b k1 => if b = true then Ψ true k1 else EvT K W tu ρ k1 Ψ) : EvT K W (tOr tt tu) ρ k Ψ := fun L0 H0 L H σ S Q c =>
  h L0 H0 L H σ S _ fun b k1 H1 S1 e1 g => by
    cases b with
    | false => exact (g : EvT K W tu ρ k1 Ψ) L0 H0 L H1 σ S1 Q fun b k2 H2 S2 e2 q => c b k2 H2 S2 (e1.trans e2) q
    | true => exact c true k1 H1 S1 e1 g
theorem et_not (h : EvT K W tt ρ k fun b k1 => Ψ (!b) k1) : EvT K W (tNot tt) ρ k Ψ := fun L0 H0 L H σ S Q c =>
  h L0 H0 L H σ S _ fun b k1 H1 S1 e1 g => c (!b) k1 H1 S1 e1 g
theorem et_yes (q : Ψ true k) : EvT K W tYes ρ k Ψ := fun L0 H0 L H σ S Q c => c true k H S (Ext.refl _ _) q
theorem ev_andV (h : EvW K W ta ρ k fun d k1 => ∃ b, d = .bool b ∧ if b = true then EvW K W tb ρ k1 Φ else Φ (.bool false) k1) : EvW K W (tAndV ta tb) ρ k Φ := fun L0 H0 L H σ S Q c =>
  h L0 H0 L H σ S _ fun v d k1 H1 S1 e1 t1 g => by
    obtain ⟨b, rfl, g⟩ := g
    cases t1
    refine ⟨b, rfl, ?_⟩
    cases b with
    | true => exact (g : EvW K W tb ρ k1 Φ) L0 H0 L H1 σ S1 Q fun v d k2 H2 S2 e2 t q => c v d k2 H2 S2 (e1.trans e2) t q
    | false => exact c _ _ k1 H1 S1 e1 (.bl false) g
theorem ev_orV (h : EvW K W ta ρ k fun d k1 => ∃ b, d = .bool b ∧ if b = true then Φ (.bool true) k1 else EvW K W tb ρ k1 Φ) : EvW K W (tOrV ta tb) ρ k Φ := fun L0 H0 L H σ S Q c =>
  h L0 H0 L H σ S _ fun v d k1 H1 S1 e1 t1 g => by
    obtain ⟨b, rfl, g⟩ := g
    cases t1
    refine ⟨b, rfl, ?_⟩
    cases b with
    | false => exact (g : EvW K W tb ρ k1 Φ) L0 H0 L H1 σ S1 Q fun v d k2 H2 S2 e2 t q => c v d k2 H2 S2 (e1.trans e2) t q
    | true => exact c _ _ k1 H1 S1 e1 (.bl true) g
theorem ev_notV (h : EvW K W ta ρ k fun d k1 => ∃ b, d = .bool b ∧ Φ (.bool !b) k1) : EvW K W (tNotV ta) ρ k Φ := fun L0 H0 L H σ S Q c =>
  h L0 H0 L H σ S _ fun v d k1 H1 S1 e1 t1 g => by
    obtain ⟨b, rfl, g⟩ := g
    cases t1
    exact ⟨b, rfl, c _ _ k1 H1 S1 e1 (.bl !b) g⟩
theorem ev_if (h : EvT K W tt ρ k fun b k1 => if b = true then EvW K W ta ρ k1 Φ else EvW K W tb ρ k1 Φ) : EvW K W (tIf tt ta tb) ρ k Φ := fun L0 H0 L H σ S Q c =>
  h L0 H0 L H σ S _ fun b k1 H1 S1 e1 g => by
    cases b with
    | true => exact (g : EvW K W ta ρ k1 Φ) L0 H0 L H1 σ S1 Q fun v d k2 H2 S2 e2 t q => c v d k2 H2 S2 (e1.trans e2) t q
    | false => exact (g : EvW K W tb ρ k1 Φ) L0 H0 L H1 σ S1 Q fun v d k2 H2 S2 e2 t q => c v d k2 H2 S2 (e1.trans e2) t q
theorem ev_chain {r r' : R2} (h : EvW K W ta ρ k fun x k1 => EvW K W tb ρ k1 fun y k2 => RD K W r x y ρ k2 fun d k3 => ∃ b, d = .bool b ∧ if b = true then EvW K W tc ρ k3 fun z k4 => RD K W r' y z ρ k4 Φ else Φ (.bool false) k3) :
    EvW K W (tChain r r' ta tb tc) ρ k Φ := fun L0 H0 L H σ S Q c =>
  h L0 H0 L H σ S _ fun v x k1 H1 S1 e1 t1 g => g L0 H0 L H1 σ S1 _ fun u y k2 H2 S2 e2 t2 g2 => g2 L0 H0 L H2 σ v u S2 (t1.ext (eM e2)) t2 _ fun w d k3 H3 S3 e3 t3 f => by
    obtain ⟨b, rfl, f⟩ := f
    cases t3
    refine ⟨b, rfl, ?_⟩
    cases b with
    | false => exact c _ _ k3 H3 S3 ((e1.trans e2).trans e3) (.bl false) f
    | true =>
      exact (f : EvW K W tc ρ k3 _) L0 H0 L H3 σ S3 _ fun w z k4 H4 S4 e4 t4 g4 => g4 L0 H0 L H4 σ u w S4 ((t2.ext (eM e3)).ext (eM e4)) t4 Q fun v d k5 H5 S5 e5 t5 f5 => c v d k5 H5 S5 ((((e1.trans e2).trans e3).trans e4).trans e5) t5 f5

/-! arguments, displays -/
variable {Α : List PyData → γ → Prop} {tr : L2.TA}
theorem ea_nil (q : Α [] k) : EvA K W tNil ρ k Α := fun _ _ _ H _ S _ c => c [] [] k H S (Ext.refl _ _) .nil q
theorem ea_cons (h : EvW K W ta ρ k fun d k1 => EvA K W tr ρ k1 fun ds k2 => Α (d :: ds) k2) : EvA K W (tCons ta tr) ρ k Α := fun L0 H0 L H σ S Q c =>
  h L0 H0 L H σ S _ fun v d k1 H1 S1 e1 t1 g => g L0 H0 L H1 σ S1 _ fun vs ds k2 H2 S2 e2 t2 q => c _ _ k2 H2 S2 (e1.trans e2) (.cons (t1.ext (eM e2)) t2) q
theorem ev_tup (h : EvA K W tr ρ k fun ds k1 => ds.length ≤ 100000 ∧ Φ (.tuple ds) k1) : EvW K W (tTup tr) ρ k Φ := fun L0 H0 L H σ S Q c =>
  h L0 H0 L H σ S _ fun vs ds k1 H1 S1 e1 t1 g => ⟨Nat.le_trans (show vs.length ≤ 100000 by rw [t1.len]; exact g.1) (by decide), newT S1.trk t1 fun p H' hp s _ _ t => c _ _ k1 H' (S1.same s) (e1.trans (Ext.same s)) t g.2⟩
theorem ev_lst (h : EvA K W tr ρ k fun ds k1 => ds.length ≤ 100000 ∧ Φ (.list ds) k1) : EvW K W (tLst tr) ρ k Φ := fun L0 H0 L H σ S Q c =>
  h L0 H0 L H σ S _ fun vs ds k1 H1 S1 e1 t1 g => ⟨Nat.le_trans (show vs.length ≤ 100000 by rw [t1.len]; exact g.1) (by decide), newL S1.trk t1 fun p H' hp s _ _ t => c _ _ k1 H' (S1.same s) (e1.trans (Ext.same s)) t g.2⟩
theorem ev_dnew (q : Φ (.dict []) k) : EvW K W tDNewK ρ k Φ := fun L0 H0 L H σ S Q c => newD S.trk fun p H' hp s _ t => c _ _ k H' (S.same s) (Ext.same s) t q
/-! built-ins -/
theorem ev_cb {r : List V → Hp → VK → Prop} (h : EvA K W tr ρ k fun ds k1 => RCD K W r ds ρ k1 Φ) : EvW K W (tCB r tr) ρ k Φ := fun L0 H0 L H σ S Q c =>
  h L0 H0 L H σ S _ fun vs ds k1 H1 S1 e1 t1 g => g L0 H0 L H1 σ vs S1 t1 Q fun v d k2 H2 S2 e2 t2 q => c v d k2 H2 S2 (e1.trans e2) t2 q
theorem TA.one_ {N : List Addr} {H : Hp} {vs : List V} {d : PyData} (t : TA K N H vs [d]) : ∃ v, vs = [v] ∧ T K N H v d := by
  cases t with
  | cons h t => cases t; exact ⟨_, rfl, h⟩
theorem TA.two_ {N : List Addr} {H : Hp} {vs : List V} {d e : PyData} (t : TA K N H vs [d, e]) : ∃ v u, vs = [v, u] ∧ T K N H v d ∧ T K N H u e := by
  cases t with
  | cons h t => obtain ⟨u, rfl, h2⟩ := t.one_; exact ⟨_, _, rfl, h, h2⟩
theorem rc_lenS {z : Str} (hz : z.length ≤ 100000) (q : Φ (.int (z.length : Int)) k) : RCD K W (fun xs H Q => ∃ z, xs = [.str z] ∧ z.length ≤ sizeLine ∧ Q (.int z.length) H) [.str z] ρ k Φ := rc_ q fun N H vs t Q c => by
  obtain ⟨v, rfl, t1⟩ := t.one_
  cases t1
  exact ⟨z, rfl, Nat.le_trans hz (by decide), c _ (.int _)⟩
theorem rc_lenL {ds : List PyData} (q : Φ (.int (ds.length : Int)) k) : RCD K W (rLenQ K) [.list ds] ρ k Φ := rc_ q fun N H vs t Q c => by
  obtain ⟨v, rfl, t1⟩ := t.one_
  cases t1 with
  | lst n h t => exact ⟨_, _, rfl, .inl (SqL.of h), by rw [t.len]; exact c _ (.int _)⟩
theorem rc_lenT {ds : List PyData} (q : Φ (.int (ds.length : Int)) k) : RCD K W (rLenQ K) [.tuple ds] ρ k Φ := rc_ q fun N H vs t Q c => by
  obtain ⟨v, rfl, t1⟩ := t.one_
  cases t1 with
  | tup n h t => exact ⟨_, _, rfl, .inr (SqT.of h), by rw [t.len]; exact c _ (.int _)⟩
/-- len of what is known to have one -/
def lenD : PyData → Option Nat
  | .list ds => some ds.length
  | .tuple ds => some ds.length
  | .str z => some z.length
  | _ => none
theorem rc_lenA {n : Nat} (h : lenD x = some n) (hn : n ≤ 100000) (q : Φ (.int (n : Int)) k) : RCD K W (rLenA K) [x] ρ k Φ := rc_ q fun N H vs t Q c => by
  obtain ⟨v, rfl, t1⟩ := t.one_
  have hz : n ≤ sizeLine := Nat.le_trans hn (by decide)
  cases t1 with
  | lst _ ha t3 =>
    simp only [lenD, Option.some.injEq] at h
    subst h
    exact ⟨_, _, rfl, .inl ⟨_, SqL.of ha, t3.len.symm⟩, c _ (.int _)⟩
  | tup _ ha t3 =>
    simp only [lenD, Option.some.injEq] at h
    subst h
    exact ⟨_, _, rfl, .inr ⟨_, SqT.of ha, t3.len.symm⟩, c _ (.int _)⟩
  | str z =>
    simp only [lenD, Option.some.injEq] at h
    subst h
    exact ⟨_, _, rfl, ⟨hz, rfl⟩, c _ (.int _)⟩
  | _ => simp [lenD] at h
theorem rc_ord {c : Nat} (q : Φ (.int (c : Int)) k) : RCD K W (fun xs H Q => ∃ x, xs = [.str x] ∧ x.length = 1 ∧ Q (.int (x.cps.getD 0 0 : Nat)) H) [.str ⟨#[c]⟩] ρ k Φ := rc_ q fun N H vs t Q cc => by
  obtain ⟨v, rfl, t1⟩ := t.one_
  cases t1
  exact ⟨_, rfl, rfl, cc _ (.int _)⟩
theorem rc_abs {i : Int} (q : Φ (.int (if i < 0 then -i else i)) k) : RCD K W (fun xs H Q => ∃ i, xs = [.int i] ∧ Q (.int (if i < 0 then -i else i)) H) [.int i] ρ k Φ := rc_ q fun N H vs t Q c => by
  obtain ⟨v, rfl, t1⟩ := t.one_
  cases t1
  exact ⟨i, rfl, c _ (.int _)⟩
theorem rc_max2 {i j : Int} (q : Φ (.int (if j > i then j else i)) k) : RCD K W (fun xs H Q => ∃ i j, xs = [.int i, .int j] ∧ Q (.int (if j > i then j else i)) H) [.int i, .int j] ρ k Φ := rc_ q fun N H vs t Q c => by
  obtain ⟨v, u, rfl, t1, t2⟩ := t.two_
  cases t1
  cases t2
  exact ⟨i, j, rfl, c _ (.int _)⟩
theorem rc_min2 {i j : Int} (q : Φ (.int (if j < i then j else i)) k) : RCD K W (fun xs H Q => ∃ i j, xs = [.int i, .int j] ∧ Q (.int (if j < i then j else i)) H) [.int i, .int j] ρ k Φ := rc_ q fun N H vs t Q c => by
  obtain ⟨v, u, rfl, t1, t2⟩ := t.two_
  cases t1
  cases t2
  exact ⟨i, j, rfl, c _ (.int _)⟩
theorem rc_int1 {i : Int} (q : Φ (.int i) k) : RCD K W (fun xs H Q => (∃ i, xs = [.int i] ∧ Q (.int i) H) ∨ ∃ k, xs = [.bl k] ∧ Q (.int (if k then 1 else 0)) H) [.int i] ρ k Φ := rc_ q fun N H vs t Q c => by
  obtain ⟨v, rfl, t1⟩ := t.one_
  cases t1
  exact .inl ⟨i, rfl, c _ (.int _)⟩
theorem TA.ints_ {N : List Addr} {H : Hp} : ∀ {ns : List Int} {vs : List V}, TA K N H vs (ns.map .int) → vs = ns.map V.int
  | [], _, h => by cases h; rfl
  | n :: ns, _, h => by
    cases h with
    | cons h1 h2 =>
      cases h1
      rw [TA.ints_ h2]
      rfl
theorem TA.bools_ {N : List Addr} {H : Hp} : ∀ {ns : List Bool} {vs : List V}, TA K N H vs (ns.map .bool) → vs = ns.map V.bl
  | [], _, h => by cases h; rfl
  | n :: ns, _, h => by
    cases h with
    | cons h1 h2 =>
      cases h1
      rw [TA.bools_ h2]
      rfl
theorem TA.strs_ {N : List Addr} {H : Hp} : ∀ {ns : List Str} {vs : List V}, TA K N H vs (ns.map .str) → vs = ns.map V.str
  | [], _, h => by cases h; rfl
  | n :: ns, _, h => by
    cases h with
    | cons h1 h2 =>
      cases h1
      rw [TA.strs_ h2]
      rfl
theorem rc_sum {ds : List PyData} (ns : List Int) (h : ds = ns.map .int) (q : Φ (.int ns.sum) k) : RCD K W (rSum K) [.list ds] ρ k Φ := rc_ q fun N H vs t Q c => by
  subst h
  obtain ⟨v, rfl, t1⟩ := t.one_
  cases t1 with
  | lst n h t =>
    have e := t.ints_
    subst e
    exact ⟨_, ns, rfl, SqL.of h, c _ (.int _)⟩
theorem rc_all {ds : List PyData} (ns : List Bool) (h : ds = ns.map .bool) (q : Φ (.bool (ns.all id)) k) : RCD K W (rAll K) [.list ds] ρ k Φ := rc_ q fun N H vs t Q c => by
  subst h
  obtain ⟨v, rfl, t1⟩ := t.one_
  cases t1 with
  | lst n h t =>
    have e := t.bools_
    subst e
    exact ⟨_, ns, rfl, SqL.of h, c _ (.bl _)⟩
theorem rc_any {ds : List PyData} (ns : List Bool) (h : ds = ns.map .bool) (q : Φ (.bool (ns.any id)) k) : RCD K W (rAny K) [.list ds] ρ k Φ := rc_ q fun N H vs t Q c => by
  subst h
  obtain ⟨v, rfl, t1⟩ := t.one_
  cases t1 with
  | lst n h t =>
    have e := t.bools_
    subst e
    exact ⟨_, ns, rfl, SqL.of h, c _ (.bl _)⟩
theorem rc_tupL {ds : List PyData} (q : Φ (.tuple ds) k) : RCD K W (rTupOf K) [.list ds] ρ k Φ := rcN q fun N H vs tr t Q c => by
  obtain ⟨v, rfl, t1⟩ := t.one_
  cases t1 with
  | lst n h t => exact ⟨_, _, rfl, .inl ⟨SqL.of h, newT tr t fun p H' _ s _ _ t' => c _ _ s t'⟩⟩
theorem rc_tupT {ds : List PyData} (q : Φ (.tuple ds) k) : RCD K W (rTupOf K) [.tuple ds] ρ k Φ := rcN q fun N H vs tr t Q c => by
  obtain ⟨v, rfl, t1⟩ := t.one_
  cases t1 with
  | tup n h t => exact ⟨_, _, rfl, .inr ⟨SqT.of h, c _ _ (Same.refl _) (.tup n h t)⟩⟩
theorem rc_listL {ds : List PyData} (q : Φ (.list ds) k) : RCD K W (rListOf K) [.list ds] ρ k Φ := rcN q fun N H vs tr t Q c => by
  obtain ⟨v, rfl, t1⟩ := t.one_
  cases t1 with
  | lst n h t => exact ⟨_, _, rfl, .inl (SqL.of h), newL tr t fun p H' _ s _ _ t' => c _ _ s t'⟩
theorem rc_listT {ds : List PyData} (q : Φ (.list ds) k) : RCD K W (rListOf K) [.tuple ds] ρ k Φ := rcN q fun N H vs tr t Q c => by
  obtain ⟨v, rfl, t1⟩ := t.one_
  cases t1 with
  | tup n h t => exact ⟨_, _, rfl, .inr (SqT.of h), newL tr t fun p H' _ s _ _ t' => c _ _ s t'⟩
theorem rc_repr (h : Shown x) (q : Φ (.str x.shown) k) : RCD K W (rRepr K) [x] ρ k Φ := rc_ q fun N H vs t Q c => by
  obtain ⟨v, rfl, t1⟩ := t.one_
  exact ⟨v, N, x, rfl, t1, h, c _ (.str _)⟩
/-- isinstance(x, type) -/
theorem ev_isi {n : String} (h : EvW K W te ρ k fun d k1 => ∃ b, kitB (tyName d) n = some b ∧ Φ (.bool b) k1) : EvW K W (tCB (rIsi K) (tCons te (tCons (tC (.ty n)) tNil))) ρ k Φ := fun L0 H0 L H σ S Q c =>
  h L0 H0 L H σ S _ fun v d k1 H1 S1 e1 t1 g => by
    obtain ⟨b, hb, g⟩ := g
    exact isi_ t1 hb (c _ _ k1 H1 S1 e1 (.bl b) g)
/-! items, slices -/
theorem TA.at {N : List Addr} {H : Hp} {vs : List V} {ds : List PyData} (t : TA K N H vs ds) {j : Nat} {d : PyData} (h : ds[j]? = some d) : ∃ v, vs[j]? = some v ∧ T K N H v d := by
  have hj : j < vs.length := by rw [t.len]; exact (List.getElem?_eq_some_iff.mp h).1
  obtain ⟨e, h1, h2⟩ := t.get (i := j) (v := vs[j]) (by simp [hj])
  rw [h] at h1
  cases h1
  exact ⟨vs[j], by simp [hj], h2⟩
theorem rd_ixT {ds : List PyData} {i : Int} {j : Nat} {d : PyData} (hi : i = (j : Int)) (h : ds[j]? = some d) (q : Φ d k) : RD K W (rIxT K) (.tuple ds) (.int i) ρ k Φ := rd_ q fun N H vx vy tx ty Q c => by
  subst hi
  cases ty
  cases tx with
  | tup n ha t =>
    obtain ⟨v, h1, h2⟩ := t.at h
    exact ⟨_, _, _, v, rfl, rfl, SqT.of ha, atI_nat h1, c v h2⟩
theorem rd_ixL {ds : List PyData} {i : Int} {j : Nat} {d : PyData} (hi : i = (j : Int)) (h : ds[j]? = some d) (q : Φ d k) : RD K W (rIxL K) (.list ds) (.int i) ρ k Φ := rd_ q fun N H vx vy tx ty Q c => by
  subst hi
  cases ty
  cases tx with
  | lst n ha t =>
    obtain ⟨v, h1, h2⟩ := t.at h
    exact ⟨_, _, _, v, rfl, rfl, SqL.of ha, atI_nat h1, c v h2⟩
theorem rd_ixS {z : Str} {i : Int} {j c : Nat} (hz : z.length ≤ 100000) (hi : i = (j : Int)) (h : z.cps[j]? = some c) (q : Φ (.str ⟨#[c]⟩) k) : RD K W rIxS (.str z) (.int i) ρ k Φ := rd_ q fun N H vx vy tx ty Q cc => by
  subst hi
  cases ty
  cases tx
  exact ⟨z, _, c, rfl, rfl, Nat.le_trans hz (by decide), atI_nat (by simpa using h), cc _ (.str _)⟩
theorem ev_sl {r : V → Option Int → Option Int → Hp → VK → Prop} {tl th : TO} (h : EvW K W te ρ k fun x k1 => EvO K W tl ρ k1 fun lo k2 => EvO K W th ρ k2 fun hi k3 => RSl K W r x lo hi ρ k3 Φ) : EvW K W (tSl r te tl th) ρ k Φ := fun L0 H0 L H σ S Q c =>
  h L0 H0 L H σ S _ fun v x k1 H1 S1 e1 t1 g => g L0 H0 L H1 σ S1 _ fun lo k2 H2 S2 e2 g2 => g2 L0 H0 L H2 σ S2 _ fun hi k3 H3 S3 e3 g3 => g3 L0 H0 L H3 σ v S3 ((t1.ext (eM e2)).ext (eM e3)) Q fun w d k4 H4 S4 e4 t4 f => c w d k4 H4 S4 (((e1.trans e2).trans e3).trans e4) t4 f
variable {Ω : Option Int → γ → Prop}
theorem eo_none (q : Ω none k) : EvO K W tNoPart ρ k Ω := fun L0 H0 L H σ S Q c => c none k H S (Ext.refl _ _) q
theorem eo_some (h : EvW K W te ρ k fun d k1 => ∃ i, d = .int i ∧ Ω (some i) k1) : EvO K W (tPart te) ρ k Ω := fun L0 H0 L H σ S Q c =>
  h L0 H0 L H σ S _ fun v d k1 H1 S1 e1 t1 g => by
    obtain ⟨i, rfl, g⟩ := g
    cases t1
    exact ⟨i, rfl, c _ k1 H1 S1 e1 g⟩
theorem rsl_S {z : Str} {lo hi : Option Int} (hz : z.length ≤ 100000) (q : Φ (.str (cutS z lo hi)) k) : RSl K W rSlS (.str z) lo hi ρ k Φ := rslN q fun N H vx tr tx Q c => by
  cases tx
  exact ⟨z, rfl, Nat.le_trans hz (by decide), c _ _ (Same.refl _) (.str _)⟩
theorem rsl_T {ds : List PyData} {lo hi : Option Int} (q : Φ (.tuple (cutD ds lo hi)) k) : RSl K W (rSlA K) (.tuple ds) lo hi ρ k Φ := rslN q fun N H vx tr tx Q c => slA tr tx fun r H' s _ t => c r H' s t
theorem rsl_L {ds : List PyData} {lo hi : Option Int} (q : Φ (.list (cutD ds lo hi)) k) : RSl K W (rSlL K) (.list ds) lo hi ρ k Φ := rslN q fun N H vx tr tx Q c => by
  cases tx with
  | @lst a xs _ n ha t =>
    have lx := t.len
    have tc : TA K N H (cutV xs lo hi) (cutD ds lo hi) := by
      unfold cutV cutD
      rw [lx]
      exact (t.drop _).take _
    exact ⟨_, _, rfl, SqL.of ha, newL tr tc fun p H' _ s _ _ t' => c _ _ s t'⟩
/-! + of tuples, lists, texts -/
theorem rd_catT {ds es : List PyData} (hl : ds.length + es.length ≤ 100000) (q : Φ (.tuple (ds ++ es)) k) : RD K W (rCatA K) (.tuple ds) (.tuple es) ρ k Φ := rdN q fun N H vx vy tr tx ty Q c => catA tr tx ty hl fun r H' s _ t => c r H' s t
theorem rd_catL {ds es : List PyData} (hl : ds.length + es.length ≤ 100000) (q : Φ (.list (ds ++ es)) k) : RD K W rCat (.list ds) (.list es) ρ k Φ := rdN q fun N H vx vy tr tx ty Q c => by
  cases tx with
  | lst n ha t =>
    cases ty with
    | lst n2 hb t2 =>
      exact ⟨_, _, _, _, rfl, rfl, ha, hb, Nat.le_trans (show _ ≤ 100000 by rw [t.len, t2.len]; exact hl) (by decide), newL tr (t.app t2) fun p H' _ s _ _ t' => c _ _ s t'⟩
theorem rd_catS {a b : Str} (hl : a.length + b.length ≤ 100000) (q : Φ (.str (a ++ b)) k) : RD K W (fun x y H Q => ∃ i j, x = .str i ∧ y = .str j ∧ i.length + j.length ≤ sizeLine ∧ Q (.str (i ++ j)) H) (.str a) (.str b) ρ k Φ := rd_ q fun N H vx vy tx ty Q c => by
  cases tx
  cases ty
  exact ⟨a, b, rfl, rfl, Nat.le_trans hl (by decide), c _ (.str _)⟩
/-! own functions -/
theorem ev_call {sp : Sp} (h : EvA K W tr ρ k fun ds k1 => RCD K W (fun vs H Q => sp vs H Q E0) ds ρ k1 Φ) : EvW K W (tCall sp [] E0 tr) ρ k Φ := fun L0 H0 L H σ S Q c =>
  h L0 H0 L H σ S _ fun vs ds k1 H1 S1 e1 t1 g => by
    show sp (vs ++ []) H1 Q E0
    rw [List.append_nil]
    exact g L0 H0 L H1 σ vs S1 t1 Q fun v d k2 H2 S2 e2 t2 q => c v d k2 H2 S2 (e1.trans e2) t2 q
end
/-- a def that writes nothing: what its data give -/
def spP (K : PySem.W.Frag) (n : Nat) (R : List PyData → PyData → Prop) : Sp := fun vs H Q _ => ∃ (M : List Addr) (ds : List PyData) (r : PyData), TA K M H vs ds ∧ Trk M H ∧ ds.length = n ∧ R ds r ∧ ∀ v H', Same H H' → T K M H' v r → Q v H'
section
variable {K : PySem.W.Frag} {γ : Type} {W : Wd γ} {ρ : Rho} {k : γ} {Φ : PyData → γ → Prop}
theorem rc_pure {n : Nat} {R : List PyData → PyData → Prop} {ds : List PyData} {r : PyData} (hl : ds.length = n) (h : R ds r) (q : Φ r k) : RCD K W (fun vs H Q => spP K n R vs H Q E0) ds ρ k Φ := rcN q fun N H vs tr t Q c => ⟨N, ds, r, t, tr, hl, h, c⟩
end
end U

set_option Elab.async false
set_option linter.all false
set_option maxRecDepth 100000
set_option maxHeartbeats 2000000
namespace U
open PySem PySem.Spec PyProof.Rows L2

/-! ### statements over data -/
structure Ps (γ : Type) where
  nx : Rho → γ → Prop
  rt : PyData → γ → Prop
  bk : Rho → γ → Prop := fun _ _ => False
  ct : Rho → γ → Prop := fun _ _ => False
def SW (K : PySem.W.Frag) {γ : Type} (W : Wd γ) (ts : TS) (ρ : Rho) (k : γ) (P : Ps γ) : Prop :=
  ∀ (L0 : List Addr) (H0 : Hp) (L : List Addr) (H : Hp) (σ : L2.St) (D : Ends), Stt K W L0 H0 L H σ ρ k →
    (∀ L' H' σ' ρ' k', Stt K W L0 H0 L' H' σ' ρ' k' → P.nx ρ' k' → D.nx σ' H') →
    (∀ v d k' H', Ext (L0 ++ W.M) H0 H' → W.I k' W.M H' → T K W.M H' v d → P.rt d k' → D.rt v H') →
    (∀ L' H' σ' ρ' k', Stt K W L0 H0 L' H' σ' ρ' k' → P.bk ρ' k' → D.bk σ' H') →
    (∀ L' H' σ' ρ' k', Stt K W L0 H0 L' H' σ' ρ' k' → P.ct ρ' k' → D.ct σ' H') → ts D σ H
/-- targets: js the slots that they may store in -/
def TgW (K : PySem.W.Frag) {γ : Type} (W : Wd γ) (g : TG) (js : Nat → Prop) (d : PyData) (ρ : Rho) (Ψ : Rho → Prop) : Prop :=
  ∀ (L0 : List Addr) (H0 : Hp) (L : List Addr) (H : Hp) (σ : L2.St) (k : γ) (v : V), Stt K W L0 H0 L H σ ρ k → T K (L ++ W.M) H v d → ∀ Q : L2.St → Hp → Prop,
    (∀ σ' ρ', Stt K W L0 H0 L H σ' ρ' k → σ'.length = σ.length → (∀ i, ¬ js i → σ'[i]? = σ[i]?) → Ψ ρ' → Q σ' H) → g v σ H Q
def TgsW (K : PySem.W.Frag) {γ : Type} (W : Wd γ) (g : TGs) (js : Nat → Prop) (ds : List PyData) (ρ : Rho) (Ψ : Rho → Prop) : Prop :=
  ∀ (L0 : List Addr) (H0 : Hp) (L : List Addr) (H : Hp) (σ : L2.St) (k : γ) (vs : List V), Stt K W L0 H0 L H σ ρ k → TA K (L ++ W.M) H vs ds → ∀ Q : L2.St → Hp → Prop,
    (∀ σ' ρ', Stt K W L0 H0 L H σ' ρ' k → σ'.length = σ.length → (∀ i, ¬ js i → σ'[i]? = σ[i]?) → Ψ ρ' → Q σ' H) → g vs σ H Q
section
variable {K : PySem.W.Frag} {γ : Type} {W : Wd γ} {ρ : Rho} {k : γ} {js : Nat → Prop} {Ψ : Rho → Prop} {d : PyData} {ds : List PyData}
theorem tg_name {i : Nat} (hj : js i) (q : Ψ (ρ.set i (.dat d))) : TgW K W (gName i) js d ρ Ψ := fun L0 H0 L H σ k v S t Q c =>
  c _ _ (S.set i t) (by rw [List.length_set]) (fun j hn => by
    rw [List.getElem?_set_ne]
    rintro rfl
    exact hn hj) q
theorem tgs_nil (q : Ψ ρ) : TgsW K W gNil js [] ρ Ψ := fun L0 H0 L H σ k vs S t Q c => by
  cases t
  exact ⟨rfl, c _ _ S rfl (fun _ _ => rfl) q⟩
theorem tgs_cons {g : TG} {gs : TGs} (h : TgW K W g js d ρ fun ρ1 => TgsW K W gs js ds ρ1 Ψ) : TgsW K W (gCons g gs) js (d :: ds) ρ Ψ := fun L0 H0 L H σ k vs S t Q c => by
  cases t with
  | @cons v vs _ _ h1 h2 =>
    exact ⟨v, vs, rfl, h L0 H0 L H σ k v S h1 _ fun σ1 ρ1 S1 l1 a1 g1 => g1 L0 H0 L H σ1 k vs S1 h2 Q fun σ2 ρ2 S2 l2 a2 q => c σ2 ρ2 S2 (l2.trans l1) (fun i hi => (a2 i hi).trans (a1 i hi)) q⟩
theorem tg_tup {n : Nat} {gs : TGs} (hn : ds.length = n) (h : TgsW K W gs js ds ρ Ψ) : TgW K W (gTup K n gs) js (.tuple ds) ρ Ψ := fun L0 H0 L H σ k v S t Q c => by
  cases t with
  | tup nn ha t => exact ⟨_, _, rfl, SqT.of ha, by rw [t.len]; exact hn, h L0 H0 L H σ k _ S t Q c⟩
end
section
variable {K : PySem.W.Frag} {γ : Type} {W : Wd γ} {ρ : Rho} {k : γ} {P : Ps γ} {ta tb te ti : TE} {tt : TT} {a b : TS} {tr : L2.TA}
theorem sw_seq (h : SW K W a ρ k { P with nx := fun ρ1 k1 => SW K W b ρ1 k1 P }) : SW K W (tSeq a b) ρ k P := fun L0 H0 L H σ D S nx rt bk ct =>
  h L0 H0 L H σ { D with nx := b D } S (fun L' H' σ' ρ' k' S' g => by
    refine (g : SW K W b ρ' k' P) L0 H0 L' H' σ' D S' nx rt bk ct) rt bk ct
theorem sw_nx (q : P.nx ρ k) : SW K W tNext ρ k P := fun L0 H0 L H σ D S nx _ _ _ => nx _ _ _ _ _ S q
theorem sw_brk (q : P.bk ρ k) : SW K W tBreak ρ k P := fun L0 H0 L H σ D S _ _ bk _ => bk _ _ _ _ _ S q
theorem sw_ct (q : P.ct ρ k) : SW K W tCont ρ k P := fun L0 H0 L H σ D S _ _ _ ct => ct _ _ _ _ _ S q
theorem sw_ret (h : EvW K W te ρ k P.rt) : SW K W (tRet te) ρ k P := fun L0 H0 L H σ D S _ rt _ _ =>
  h L0 H0 L H σ S _ fun v d k' H2 S2 e t q => rt v d k' H2 S2.base S2.wdM (S2.tM t) q
theorem sw_retN (q : P.rt .none k) : SW K W tRetN ρ k P := fun L0 H0 L H σ D S _ rt _ _ => rt .non .none k H S.base S.wdM .non q
theorem sw_drop (h : EvW K W te ρ k fun _ k1 => P.nx ρ k1) : SW K W (tDrop te) ρ k P := fun L0 H0 L H σ D S nx _ _ _ =>
  h L0 H0 L H σ S _ fun v d k' H2 S2 e t q => nx _ _ _ _ _ S2 q
theorem sw_if (h : EvT K W tt ρ k fun b' k1 => if b' = true then SW K W a ρ k1 P else SW K W b ρ k1 P) : SW K W (tIfS tt a b) ρ k P := fun L0 H0 L H σ D S nx rt bk ct =>
  h L0 H0 L H σ S _ fun b' k1 H2 S2 e g => by
    cases b' with
    | true => exact (g : SW K W a ρ k1 P) L0 H0 L H2 σ D S2 nx rt bk ct
    | false => exact (g : SW K W b ρ k1 P) L0 H0 L H2 σ D S2 nx rt bk ct
theorem sw_asg {g : TG} (h : EvW K W te ρ k fun d k1 => TgW K W g (fun _ => True) d ρ fun ρ1 => P.nx ρ1 k1) : SW K W (tAsg te g) ρ k P := fun L0 H0 L H σ D S nx _ _ _ =>
  h L0 H0 L H σ S _ fun v d k1 H1 S1 e t g => g L0 H0 L H1 σ k1 v S1 t _ fun σ2 ρ2 S2 _ _ q => nx _ _ _ _ _ S2 q
theorem sw_set {i : Nat} (h : EvW K W te ρ k fun d k1 => P.nx (ρ.set i (.dat d)) k1) : SW K W (tAsg te (gName i)) ρ k P := sw_asg fun L0 H0 L H σ S Q c => h L0 H0 L H σ S Q fun v d k1 H1 S1 e t q => c v d k1 H1 S1 e t (tg_name trivial q)
theorem sw_par {i j : Nat} (h : EvA K W tr ρ k fun ds k1 => ∃ d e, ds = [d, e] ∧ P.nx ((ρ.set i (.dat d)).set j (.dat e)) k1) : SW K W (tPar i j tr) ρ k P := fun L0 H0 L H σ D S nx _ _ _ =>
  h L0 H0 L H σ S _ fun vs ds k1 H1 S1 e1 t g => by
    obtain ⟨d, e, rfl, q⟩ := g
    obtain ⟨v, u, rfl, t1, t2⟩ := t.two_
    exact ⟨v, u, rfl, nx _ _ _ _ _ ((S1.set i t1).set j t2) q⟩
/-- x = [..], a list of its own -/
theorem sw_own {i : Nat} (h : EvA K W tr ρ k fun ds k1 => ds.length ≤ 100000 ∧ P.nx (ρ.set i (.own ds)) k1) : SW K W (tAsg (tLst tr) (gName i)) ρ k P := fun L0 H0 L H σ D S nx _ _ _ =>
  h L0 H0 L H σ S _ fun vs ds k1 H1 S1 e1 t g => ⟨Nat.le_trans (show vs.length ≤ 100000 by rw [t.len]; exact g.1) (by decide), fun p hp => nx _ _ _ _ _ (S1.setOwn i (s0 := .own ds) rfl hp ⟨p, vs, rfl, by simp, upd_same, (t.plus hp).ext (Ext.put (by simp))⟩) g.2⟩
theorem sw_ownD {i : Nat} (q : P.nx (ρ.set i (.ownD [])) k) : SW K W (tAsg tDNewK (gName i)) ρ k P := fun L0 H0 L H σ D S nx _ _ _ =>
  fun p hp => nx _ _ _ _ _ (S.setOwn i (s0 := .ownD []) rfl hp ⟨p, [], rfl, by simp, upd_same, .nil⟩) q
theorem tyList {K : PySem.W.Frag} {H : Hp} {l : Addr} {xs : List V} (h : H l = some (.lst xs)) : tyV K "list" (.ref l) H := .inl ⟨rfl, xs, SqL.of h⟩
/-- x.append(e) -/
theorem sw_append {i : Nat} (h : EvW K W te ρ k fun d k1 => ∃ ds, ρ[i]? = some (.own ds) ∧ ds.length < 100000 ∧ P.nx (ρ.set i (.own (ds ++ [d]))) k1) (h0 : ∃ ds, ρ[i]? = some (.own ds)) :
    SW K W (tDrop (tBM K "list" rAppend (tVar i) (tCons te tNil))) ρ k P := fun L0 H0 L H σ D S nx _ _ _ => by
  obtain ⟨ds0, h0⟩ := h0
  obtain ⟨l, xs, e1, e2, e3, e4⟩ := S.slots i _ h0
  refine ⟨.ref l, e1, tyList e3, h L0 H0 L H σ S _ fun v d k1 H1 S1 _ t g => ?_⟩
  obtain ⟨ds, h1, hl, q⟩ := g
  obtain ⟨l', ys, f1, f2, f3, f4⟩ := S1.slots i _ h1
  have el : l = l' := by rw [e1] at f1; injection f1 with f1; injection f1 with f1; injection f1
  subst el
  refine ⟨l, ys, v, rfl, rfl, f3, Nat.lt_of_le_of_lt (show ys.length ≤ 99999 by rw [f4.len]; omega) (by decide), ?_⟩
  exact nx _ _ _ _ _ (S1.put (s1 := .own (ds ++ [d])) h1 rfl rfl f1 f2 ⟨l, ys ++ [v], rfl, f2, upd_same, (f4.app (.one t)).ext (Ext.put (List.mem_append_left _ f2))⟩) q
/-- x.extend(e), e a new list -/
theorem sw_extend {i : Nat} (h : EvW K W te ρ k fun d k1 => ∃ ds es, d = .list es ∧ ρ[i]? = some (.own ds) ∧ ds.length + es.length ≤ 100000 ∧ P.nx (ρ.set i (.own (ds ++ es))) k1) (h0 : ∃ ds, ρ[i]? = some (.own ds)) :
    SW K W (tDrop (tBM K "list" rExtend (tVar i) (tCons te tNil))) ρ k P := fun L0 H0 L H σ D S nx _ _ _ => by
  obtain ⟨ds0, h0⟩ := h0
  obtain ⟨l, xs, e1, e2, e3, e4⟩ := S.slots i _ h0
  refine ⟨.ref l, e1, tyList e3, h L0 H0 L H σ S _ fun v d k1 H1 S1 _ t g => ?_⟩
  obtain ⟨ds, es, rfl, h1, hl, q⟩ := g
  obtain ⟨l', ys, f1, f2, f3, f4⟩ := S1.slots i _ h1
  have el : l = l' := by rw [e1] at f1; injection f1 with f1; injection f1 with f1; injection f1
  subst el
  cases t with
  | @lst b zs _ nb hb tz =>
    refine ⟨l, b, ys, zs, rfl, rfl, f3, hb, Nat.le_trans (show ys.length + zs.length ≤ 100000 by rw [f4.len, tz.len]; exact hl) (by decide), ?_⟩
    exact nx _ _ _ _ _ (S1.put (s1 := .own (ds ++ es)) h1 rfl rfl f1 f2 ⟨l, ys ++ zs, rfl, f2, upd_same, (f4.app tz).ext (Ext.put (List.mem_append_left _ f2))⟩) q
/-- x[j] = e -/
theorem TA.set {N : List Addr} {H : Hp} : ∀ {vs : List V} {ds : List PyData} (j : Nat) {v : V} {d : PyData}, TA K N H vs ds → T K N H v d → TA K N H (vs.set j v) (ds.set j d)
  | _, _, _, _, _, .nil, _ => .nil
  | _, _, 0, _, _, .cons _ t, h => .cons h t
  | _, _, j + 1, _, _, .cons g t, h => .cons g (TA.set j t h)
theorem sw_setL {i : Nat} (h : EvW K W te ρ k fun d k1 => EvW K W ti ρ k1 fun x k2 => ∃ ds j, x = .int ((j : Nat) : Int) ∧ ρ[i]? = some (.own ds) ∧ j < ds.length ∧ P.nx (ρ.set i (.own (ds.set j d))) k2) (h0 : ∃ ds, ρ[i]? = some (.own ds)) :
    SW K W (tAsg te (gSub (tVar i) ti rSetL)) ρ k P := fun L0 H0 L H σ D S nx _ _ _ =>
  h L0 H0 L H σ S _ fun v d k1 H1 S1 _ t g => by
    obtain ⟨ds0, h0⟩ := h0
    obtain ⟨l, xs, e1, e2, e3, e4⟩ := S1.slots i _ h0
    refine ⟨.ref l, e1, g L0 H0 L H1 σ S1 _ fun vi x k2 H2 S2 ee2 t2 g2 => ?_⟩
    obtain ⟨ds, j, rfl, h1, hj, q⟩ := g2
    obtain ⟨l', ys, f1, f2, f3, f4⟩ := S2.slots i _ h1
    have el : l = l' := by rw [e1] at f1; injection f1 with f1; injection f1 with f1; injection f1
    subst el
    cases t2
    refine ⟨l, ys, (j : Int), j, rfl, rfl, f3, ?_, ?_⟩
    · have : j < ys.length := by rw [f4.len]; exact hj
      unfold ixN
      rw [if_pos (by omega), if_pos (by omega)]
      simp
    · exact nx _ _ _ _ _ (S2.put (s1 := .own (ds.set j d)) h1 rfl rfl f1 f2 ⟨l, ys.set j v, rfl, f2, upd_same, (TA.set j f4 (t.ext (eM ee2))).ext (Ext.put (List.mem_append_left _ f2))⟩) q
/-- x += e (ints) -/
theorem sw_aug {i : Nat} {f : Int → Int → Int} (h0 : ∃ x, ρ[i]? = some (.dat (.int x))) (h : EvW K W te ρ k fun d k1 => ∃ x y, ρ[i]? = some (.dat (.int x)) ∧ d = .int y ∧ P.nx (ρ.set i (.dat (.int (f x y)))) k1) : SW K W (tAug i te (ipI f)) ρ k P := fun L0 H0 L H σ D S nx _ _ _ => by
  obtain ⟨x0, h0⟩ := h0
  obtain ⟨v, e1, t1⟩ := S.slots i _ h0
  refine ⟨v, e1, h L0 H0 L H σ S _ fun u d k1 H1 S1 _ t g => ?_⟩
  obtain ⟨x, y, h1, rfl, q⟩ := g
  rw [h0] at h1
  cases h1
  cases t1
  cases t
  exact ⟨x0, y, rfl, rfl, nx _ _ _ _ _ (S1.set i (.int _)) q⟩
/-- an own list is one of the data from here on -/
theorem sw_freeze (i : Nat) {ds : List PyData} (hi : ρ[i]? = some (.own ds)) (h : SW K W a (ρ.set i (.dat (.list ds))) k P) : SW K W a ρ k P := fun L0 H0 L H σ D S nx rt bk ct => by
  obtain ⟨L', l, _, _, _, S'⟩ := S.freeze hi
  exact h L0 H0 L' H σ D S' nx rt bk ct
theorem sw_weak {ρ' : Rho} (hl : ρ'.length = ρ.length) (hw : ∀ (i : Nat) (s : Slot), ρ'[i]? = some s → s = .no ∨ ρ[i]? = some s) (h : SW K W a ρ' k P) : SW K W a ρ k P := fun L0 H0 L H σ D S nx rt bk ct =>
  h L0 H0 L H σ D (S.weaken hl hw) nx rt bk ct
theorem SW.mono {P' : Ps γ} (h : SW K W a ρ k P') (h1 : ∀ ρ k, P'.nx ρ k → P.nx ρ k) (h2 : ∀ d k, P'.rt d k → P.rt d k) (h3 : ∀ ρ k, P'.bk ρ k → P.bk ρ k) (h4 : ∀ ρ k, P'.ct ρ k → P.ct ρ k) : SW K W a ρ k P := fun L0 H0 L H σ D S nx rt bk ct =>
  h L0 H0 L H σ D S (fun _ _ _ _ _ S' q => nx _ _ _ _ _ S' (h1 _ _ q)) (fun _ _ _ _ e w t q => rt _ _ _ _ e w t (h2 _ _ q)) (fun _ _ _ _ _ S' q => bk _ _ _ _ _ S' (h3 _ _ q)) (fun _ _ _ _ _ S' q => ct _ _ _ _ _ S' (h4 _ _ q))
/-- two statements, what holds between them -/
theorem sw_mid (J : Rho → γ → Prop) (h1 : SW K W a ρ k { P with nx := J }) (h2 : ∀ ρ1 k1, J ρ1 k1 → SW K W b ρ1 k1 P) : SW K W (tSeq a b) ρ k P := sw_seq (h1.mono (P := { P with nx := fun ρ1 k1 => SW K W b ρ1 k1 P }) h2 (fun _ _ q => q) (fun _ _ q => q) (fun _ _ q => q))
/-- while -/
theorem sw_while (J : Nat → Rho → γ → Prop) (m0 : Nat) (h0 : J m0 ρ k)
    (hs : ∀ m ρ1 k1, J m ρ1 k1 → EvT K W tt ρ1 k1 fun b' k2 => if b' = true then SW K W b ρ1 k2 { P with nx := fun ρ2 k3 => ∃ m', m' < m ∧ J m' ρ2 k3, ct := fun ρ2 k3 => ∃ m', m' < m ∧ J m' ρ2 k3, bk := P.nx } else P.nx ρ1 k2) :
    SW K W (tWhile tt b) ρ k P := fun L0 H0 L H σ D S nx rt bk ct => by
  refine ⟨fun m σ' H' => ∃ L' ρ' k', Stt K W L0 H0 L' H' σ' ρ' k' ∧ J m ρ' k', ⟨m0, L, ρ, k, S, h0⟩, ?_⟩
  rintro m σ1 H1 ⟨L1, ρ1, k1, S1, j1⟩
  refine hs m ρ1 k1 j1 L0 H0 L1 H1 σ1 S1 _ fun b' k2 H2 S2 _ g => ?_
  cases b' with
  | false => exact nx _ _ _ _ _ S2 g
  | true =>
    refine ⟨fun σ' H' => ∃ m', m' < m ∧ ∃ L' ρ' k', Stt K W L0 H0 L' H' σ' ρ' k' ∧ J m' ρ' k', fun σ' H' ⟨m', hm, w⟩ => ⟨m', hm, w⟩, ?_⟩
    exact (g : SW K W b ρ1 k2 _) L0 H0 L1 H2 σ1 _ S2 (fun L' H' σ' ρ' k' S' ⟨m', hm, j'⟩ => ⟨m', hm, L', ρ', k', S', j'⟩) rt (fun L' H' σ' ρ' k' S' q => nx _ _ _ _ _ S' q) (fun L' H' σ' ρ' k' S' ⟨m', hm, j'⟩ => ⟨m', hm, L', ρ', k', S', j'⟩)
end

/-! ### walks -/
structure WalkD (K : PySem.W.Frag) {γ : Type} (W : Wd γ) (J : It) (n : Nat) (f : Nat → PyData) (L1 : List Addr) (H1 : Hp) : Prop where
  goes : ∀ i L H, i < n → Later W L1 H1 L H → J.go i H
  stops : ∀ L H, Later W L1 H1 L H → J.stop n H
  yields : ∀ i L H x H', i < n → Later W L1 H1 L H → J.yld i H x H' → Same H H' ∧ T K (L ++ W.M) H' x (f i)
def EvI (K : PySem.W.Frag) {γ : Type} (W : Wd γ) (wi : TI) (ρ : Rho) (k : γ) (Ω : Nat → (Nat → PyData) → γ → Prop) : Prop :=
  ∀ (L0 : List Addr) (H0 : Hp) (L : List Addr) (H : Hp) (σ : L2.St), Stt K W L0 H0 L H σ ρ k → ∀ R : It → Hp → Prop, (∀ J n f k' H2, Stt K W L0 H0 L H2 σ ρ k' → Ext W.M H H2 → WalkD K W J n f L H2 → Ω n f k' → R J H2) → wi σ H R
/-- the same for a comprehension: off M all stands meanwhile -/
structure WalkX (K : PySem.W.Frag) {γ : Type} (W : Wd γ) (J : It) (n : Nat) (f : Nat → PyData) (L1 : List Addr) (H1 : Hp) : Prop where
  goes : ∀ i L H, i < n → Later W L1 H1 L H → Ext W.M H1 H → J.go i H
  stops : ∀ L H, Later W L1 H1 L H → Ext W.M H1 H → J.stop n H
  yields : ∀ i L H x H', i < n → Later W L1 H1 L H → Ext W.M H1 H → J.yld i H x H' → Same H H' ∧ T K (L ++ W.M) H' x (f i)
def EvX (K : PySem.W.Frag) {γ : Type} (W : Wd γ) (wi : TI) (ρ : Rho) (k : γ) (Ω : Nat → (Nat → PyData) → γ → Prop) : Prop :=
  ∀ (L0 : List Addr) (H0 : Hp) (L : List Addr) (H : Hp) (σ : L2.St), Stt K W L0 H0 L H σ ρ k → ∀ R : It → Hp → Prop, (∀ J n f k' H2, Stt K W L0 H0 L H2 σ ρ k' → Ext W.M H H2 → WalkX K W J n f L H2 → Ω n f k' → R J H2) → wi σ H R
theorem EvI.x {K : PySem.W.Frag} {γ : Type} {W : Wd γ} {wi : TI} {ρ : Rho} {k : γ} {Ω : Nat → (Nat → PyData) → γ → Prop} (h : EvI K W wi ρ k Ω) : EvX K W wi ρ k Ω := fun L0 H0 L H σ S R c =>
  h L0 H0 L H σ S R fun J n f k' H2 S2 e wd q => c J n f k' H2 S2 e ⟨fun i L H hi l _ => wd.goes i L H hi l, fun L H l _ => wd.stops L H l, fun i L H x H' hi l _ y => wd.yields i L H x H' hi l y⟩ q
def itemD (ds : List PyData) (i : Nat) : PyData := ds[i]?.getD .none
section
variable {K : PySem.W.Frag} {γ : Type} {W : Wd γ} {ρ : Rho} {k : γ} {te : TE} {tr : L2.TA} {Ω : Nat → (Nat → PyData) → γ → Prop}
theorem Later.same {L1 L : List Addr} {H1 H H' : Hp} (l : Later W L1 H1 L H) (e : Same H H') : Later W L1 H1 L H' := ⟨l.ext.trans (Ext.same e), l.fresh, l.trk.same e⟩
theorem TA.itemD {N : List Addr} {H : Hp} {xs : List V} {ds : List PyData} {i : Nat} {x : V} (t : TA K N H xs ds) (h : xs[i]? = some x) : T K N H x (itemD ds i) := by
  obtain ⟨d, h1, h2⟩ := t.get h
  unfold U.itemD
  rw [h1]
  exact h2
/-- a list's items, when the list is one of the data -/
theorem later_seq {L1 L : List Addr} {H1 H : Hp} {a : Addr} {ds : List PyData} (l : Later W L1 H1 L H) (t : T K (L1 ++ W.M) H1 (.ref a) (.list ds)) : ∃ xs, H a = some (.lst xs) ∧ TA K (L ++ W.M) H xs ds := by
  cases l.T t with
  | lst n h t => exact ⟨_, h, t⟩
theorem later_tup {L1 L : List Addr} {H1 H : Hp} {a : Addr} {ds : List PyData} (l : Later W L1 H1 L H) (t : T K (L1 ++ W.M) H1 (.ref a) (.tuple ds)) : ∃ xs, H a = some (.tup xs) ∧ TA K (L ++ W.M) H xs ds := by
  cases l.T t with
  | tup n h t => exact ⟨_, h, t⟩
theorem walkD_list {L1 : List Addr} {H1 : Hp} {a : Addr} {ds : List PyData} (t : T K (L1 ++ W.M) H1 (.ref a) (.list ds)) : WalkD K W (Itl K a) ds.length (itemD ds) L1 H1 := by
  refine ⟨fun i L H hi l => ?_, fun L H l => ?_, fun i L H x H' hi l y => ?_⟩
  · obtain ⟨xs, h, t⟩ := later_seq l t
    exact ⟨xs, xs[i]'(by rw [t.len]; exact hi), SqL.of h, by simp [t.len, hi]⟩
  · obtain ⟨xs, h, t⟩ := later_seq l t
    exact ⟨xs, SqL.of h, Nat.le_of_eq t.len⟩
  · obtain ⟨xs, h, t⟩ := later_seq l t
    obtain ⟨rfl, y⟩ := y
    exact ⟨Same.refl _, t.itemD (y xs (SqL.of h))⟩
theorem walkD_tup {L1 : List Addr} {H1 : Hp} {a : Addr} {ds : List PyData} (t : T K (L1 ++ W.M) H1 (.ref a) (.tuple ds)) : WalkD K W (Itt K a) ds.length (itemD ds) L1 H1 := by
  refine ⟨fun i L H hi l => ?_, fun L H l => ?_, fun i L H x H' hi l y => ?_⟩
  · obtain ⟨xs, h, t⟩ := later_tup l t
    exact ⟨xs, xs[i]'(by rw [t.len]; exact hi), SqT.of h, by simp [t.len, hi]⟩
  · obtain ⟨xs, h, t⟩ := later_tup l t
    exact ⟨xs, SqT.of h, Nat.le_of_eq t.len⟩
  · obtain ⟨xs, h, t⟩ := later_tup l t
    obtain ⟨rfl, y⟩ := y
    exact ⟨Same.refl _, t.itemD (y xs (SqT.of h))⟩
theorem ei_list (h : EvW K W te ρ k fun d k1 => ∃ ds, d = .list ds ∧ Ω ds.length (itemD ds) k1) : EvI K W (iList K te) ρ k Ω := fun L0 H0 L H σ S R c =>
  h L0 H0 L H σ S _ fun v d k1 H1 S1 e t g => by
    obtain ⟨ds, rfl, q⟩ := g
    have w := fun a => walkD_list (K := K) (W := W) (L1 := L) (H1 := H1) (a := a) (ds := ds)
    cases t with
    | @lst a xs _ n ha tt => exact ⟨a, rfl, ⟨xs, SqL.of ha⟩, c _ _ _ k1 H1 S1 e (w a (.lst n ha tt)) q⟩
theorem ei_tup (h : EvW K W te ρ k fun d k1 => ∃ ds, d = .tuple ds ∧ Ω ds.length (itemD ds) k1) : EvI K W (iTup K te) ρ k Ω := fun L0 H0 L H σ S R c =>
  h L0 H0 L H σ S _ fun v d k1 H1 S1 e t g => by
    obtain ⟨ds, rfl, q⟩ := g
    have w := fun a => walkD_tup (K := K) (W := W) (L1 := L) (H1 := H1) (a := a) (ds := ds)
    cases t with
    | @tup a xs _ n ha tt => exact ⟨a, rfl, ⟨xs, SqT.of ha⟩, c _ _ _ k1 H1 S1 e (w a (.tup n ha tt)) q⟩
theorem walkD_range {lo : Int} {n : Nat} {L1 : List Addr} {H1 : Hp} : WalkD K W (Itr lo n) n (fun i => .int (lo + (i : Nat))) L1 H1 :=
  ⟨fun i L H hi _ => hi, fun L H _ => Nat.le_refl _, fun i L H x H' hi _ y => by
    obtain ⟨rfl, rfl⟩ := y
    exact ⟨Same.refl _, .int _⟩⟩
theorem ei_rng1 (h : EvA K W tr ρ k fun ds k1 => ∃ j : Int, ds = [.int j] ∧ -(2 ^ 62) ≤ j ∧ j < 2 ^ 62 ∧ Ω j.toNat (fun i => .int (i : Nat)) k1) : EvI K W (iRng1 tr) ρ k Ω := fun L0 H0 L H σ S R c =>
  h L0 H0 L H σ S _ fun vs ds k1 H1 S1 e t g => by
    obtain ⟨j, rfl, h1, h2, q⟩ := g
    obtain ⟨v, rfl, t1⟩ := t.one_
    cases t1
    refine ⟨j, rfl, h1, h2, c _ _ (fun i => .int (0 + (i : Nat))) k1 H1 S1 e walkD_range ?_⟩
    have : (fun i : Nat => PyData.int (0 + (i : Nat))) = fun i : Nat => PyData.int (i : Nat) := by funext i; rw [Int.zero_add]
    rw [this]
    exact q
theorem ei_rng2 (h : EvA K W tr ρ k fun ds k1 => ∃ a b : Int, ds = [.int a, .int b] ∧ (-(2 ^ 62) ≤ a ∧ a < 2 ^ 62 ∧ -(2 ^ 62) ≤ b ∧ b < 2 ^ 62) ∧ Ω (b - a).toNat (fun i => .int (a + (i : Nat))) k1) : EvI K W (iRng2 tr) ρ k Ω := fun L0 H0 L H σ S R c =>
  h L0 H0 L H σ S _ fun vs ds k1 H1 S1 e t g => by
    obtain ⟨a, b, rfl, h1, q⟩ := g
    obtain ⟨v, u, rfl, t1, t2⟩ := t.two_
    cases t1
    cases t2
    exact ⟨a, b, rfl, h1, c _ _ _ k1 H1 S1 e walkD_range q⟩
theorem ei_str (h : EvW K W te ρ k fun d k1 => ∃ z : Str, d = .str z ∧ Ω z.cps.size (fun i => .str ⟨#[z.cps[i]?.getD 0]⟩) k1) : EvI K W (iStr te) ρ k Ω := fun L0 H0 L H σ S R c =>
  h L0 H0 L H σ S _ fun v d k1 H1 S1 e t g => by
    obtain ⟨z, rfl, q⟩ := g
    cases t
    refine ⟨z, rfl, c _ _ _ k1 H1 S1 e ⟨fun i L H hi _ => hi, fun L H _ => Nat.le_refl _, fun i L H x H' hi _ y => ?_⟩ q⟩
    obtain ⟨rfl, cc, h1, rfl⟩ := y
    refine ⟨Same.refl _, ?_⟩
    show T K _ _ _ (.str ⟨#[z.cps[i]?.getD 0]⟩)
    rw [h1]
    exact .str _
/-- enumerate(list), enumerate(tuple) -/
theorem pair_new {L : List Addr} {H : Hp} {p : Addr} {i : Nat} {x : V} {d : PyData} (tr : Trk (L ++ W.M) H) (hp : H p = none) (t : T K (L ++ W.M) H x d) : T K (L ++ W.M) (upd H p (.tup [.int (i : Nat), x])) (.ref p) (.tuple [.int (i : Nat), d]) :=
  .tup (tr.new hp) upd_same (.cons (.int _) (.one (t.ext (Ext.new hp))))
theorem ei_enumL (h : EvA K W tr ρ k fun es k1 => ∃ ds, es = [.list ds] ∧ Ω ds.length (fun i => .tuple [.int (i : Nat), itemD ds i]) k1) : EvI K W (iEnum K tr) ρ k Ω := fun L0 H0 L H σ S R c =>
  h L0 H0 L H σ S _ fun vs es k1 H1 S1 e t g => by
    obtain ⟨ds, rfl, q⟩ := g
    obtain ⟨v, rfl, t1⟩ := t.one_
    have w : ∀ a, T K (L ++ W.M) H1 (.ref a) (.list ds) → WalkD K W (Ite K a) ds.length (fun i => .tuple [.int (i : Nat), itemD ds i]) L H1 := fun a t => by
      refine ⟨fun i L H hi l => ?_, fun L H l => ?_, fun i L H x H' hi l y => ?_⟩
      · obtain ⟨xs, h, t⟩ := later_seq l t
        exact (walk_enum (xs := xs)).goes i H (by rw [t.len]; exact hi) (SqL.of h)
      · obtain ⟨xs, h, t⟩ := later_seq l t
        have := (walk_enum (K := K) (a := a) (xs := xs)).stops H (SqL.of h)
        rw [t.len] at this
        exact this
      · obtain ⟨xs, h, t⟩ := later_seq l t
        obtain ⟨p, u, z, rfl, hp, rfl, e1, e2⟩ := (walk_enum (K := K) (a := a) (xs := xs)).yields i H x H' (by rw [t.len]; exact hi) (SqL.of h) y
        cases e1
        exact ⟨Same.new hp, pair_new l.trk hp (t.itemD e2)⟩
    cases t1 with
    | @lst a xs _ n ha tt => exact ⟨a, xs, rfl, SqL.of ha, c _ _ _ k1 H1 S1 e (w a (.lst n ha tt)) q⟩
theorem ei_enumT (h : EvA K W tr ρ k fun es k1 => ∃ ds, es = [.tuple ds] ∧ Ω ds.length (fun i => .tuple [.int (i : Nat), itemD ds i]) k1) : EvI K W (iEnumT K tr) ρ k Ω := fun L0 H0 L H σ S R c =>
  h L0 H0 L H σ S _ fun vs es k1 H1 S1 e t g => by
    obtain ⟨ds, rfl, q⟩ := g
    obtain ⟨v, rfl, t1⟩ := t.one_
    have w : ∀ a, T K (L ++ W.M) H1 (.ref a) (.tuple ds) → WalkD K W (ItE K a) ds.length (fun i => .tuple [.int (i : Nat), itemD ds i]) L H1 := fun a t => by
      refine ⟨fun i L H hi l => ?_, fun L H l => ?_, fun i L H x H' hi l y => ?_⟩
      · obtain ⟨xs, h, t⟩ := later_tup l t
        exact ⟨xs, xs[i]'(by rw [t.len]; exact hi), SqT.of h, by simp [t.len, hi]⟩
      · obtain ⟨xs, h, t⟩ := later_tup l t
        exact ⟨xs, SqT.of h, Nat.le_of_eq t.len⟩
      · obtain ⟨xs, h, t⟩ := later_tup l t
        obtain ⟨p, z, rfl, hp, rfl, e1⟩ := y
        exact ⟨Same.new hp, pair_new l.trk hp (t.itemD (e1 xs (SqT.of h)))⟩
    cases t1 with
    | @tup a xs _ n ha tt => exact ⟨a, xs, rfl, SqT.of ha, c _ _ _ k1 H1 S1 e (w a (.tup n ha tt)) q⟩
end
section
variable {K : PySem.W.Frag} {γ : Type} {W : Wd γ} {ρ : Rho} {k : γ} {P : Ps γ} {g : TG} {b : TS} {wi : TI}
theorem sw_for (h : EvI K W wi ρ k fun n f k1 => ∃ J : Nat → Rho → γ → Prop, J 0 ρ k1 ∧
      (∀ i ρ1 k2, i < n → J i ρ1 k2 → TgW K W g (fun _ => True) (f i) ρ1 fun ρ2 => SW K W b ρ2 k2 { P with nx := J (i + 1), ct := J (i + 1), bk := P.nx }) ∧ ∀ ρ1 k2, J n ρ1 k2 → P.nx ρ1 k2) : SW K W (tFor wi g b) ρ k P := fun L0 H0 L H σ D S nx rt bk ct =>
  h L0 H0 L H σ S _ fun J n f k1 H1 S1 e wd g => by
    obtain ⟨Jv, j0, turn, done⟩ := g
    refine ⟨fun i m σ' H' => m = n - i ∧ i ≤ n ∧ ∃ L' ρ' k', Stt K W L H1 L' H' σ' ρ' k' ∧ Jv i ρ' k', ⟨n, rfl, Nat.zero_le _, L, ρ, k1, S1.rebase, j0⟩, ?_⟩
    rintro i m σ2 H2 ⟨rfl, hi, L2, ρ2, k2, S2, j2⟩
    have l2 := S2.later
    by_cases hlt : i < n
    · refine .inr ⟨wd.goes i L2 H2 hlt l2, fun σ' H' => ∃ L' ρ' k', Stt K W L H1 L' H' σ' ρ' k' ∧ Jv (i + 1) ρ' k', fun σ' H' ⟨L', ρ', k', S', j'⟩ => ⟨n - (i + 1), by omega, rfl, hlt, L', ρ', k', S', j'⟩, fun x H' y => ?_⟩
      obtain ⟨sm, tx⟩ := wd.yields i L2 H2 x H' hlt l2 y
      refine turn i ρ2 k2 hlt j2 L H1 L2 H' σ2 k2 x (S2.same sm) tx _ fun σ3 ρ3 S3 _ _ body => ?_
      refine (body : SW K W b ρ3 k2 _) L H1 L2 H' σ3 _ S3 (fun L' H' σ' ρ' k' S' q => ⟨L', ρ', k', S', q⟩) (fun v d k' H' ex wi t q => ?_) (fun L' H' σ' ρ' k' S' q => nx _ _ _ _ _ (S1.back S') q) (fun L' H' σ' ρ' k' S' q => ⟨L', ρ', k', S', q⟩)
      refine rt v d k' H' (fun b o nb hb => ?_) wi t q
      refine ex b o (fun z => ?_) (S1.base b o nb hb)
      rcases List.mem_append.mp z with z | z
      · rcases S1.fresh b z with r | r
        · exact nb (List.mem_append_left _ r)
        · rw [r] at hb; cases hb
      · exact nb (List.mem_append_right _ z)
    · have ei : i = n := by omega
      subst ei
      exact .inl ⟨wd.stops L2 H2 l2, nx _ _ _ _ _ (S1.back S2) (done ρ2 k2 j2)⟩
end

/-! ### comprehensions -/
def wipeR (ρ : Rho) : List Nat → Rho
  | [] => ρ
  | v :: vs => (wipeR ρ vs).set v .no
theorem wipeR_length (ρ : Rho) : ∀ vs : List Nat, (wipeR ρ vs).length = ρ.length
  | [] => rfl
  | v :: vs => by unfold wipeR; rw [List.length_set, wipeR_length ρ vs]
theorem wipe_get (σ : L2.St) (i : Nat) : ∀ vs : List Nat, (wipe σ vs)[i]? = if i ∈ vs then σ[i]?.map fun _ => none else σ[i]?
  | [] => by simp [wipe]
  | v :: vs => by
    unfold wipe
    by_cases e : v = i
    · subst e
      rw [List.getElem?_set_self', wipe_get σ v vs]
      simp only [List.mem_cons, true_or, if_true]
      split <;> cases σ[v]? <;> rfl
    · rw [List.getElem?_set_ne e, wipe_get σ i vs]
      simp only [List.mem_cons, Ne.symm e, false_or]
theorem wipeR_get (ρ : Rho) (i : Nat) : ∀ vs : List Nat, (wipeR ρ vs)[i]? = if i ∈ vs then ρ[i]?.map fun _ => .no else ρ[i]?
  | [] => by simp [wipeR]
  | v :: vs => by
    unfold wipeR
    by_cases e : v = i
    · subst e
      rw [List.getElem?_set_self', wipeR_get ρ v vs]
      simp only [List.mem_cons, true_or, if_true]
      split <;> cases ρ[v]? <;> rfl
    · rw [List.getElem?_set_ne e, wipeR_get ρ i vs]
      simp only [List.mem_cons, Ne.symm e, false_or]
theorem wipe_of {σ σ2 : L2.St} {vs : List Nat} (hl : σ2.length = (wipe σ vs).length) (h : ∀ i, i ∉ vs → σ2[i]? = (wipe σ vs)[i]?) : wipe σ2 vs = wipe σ vs := by
  apply List.ext_getElem?
  intro i
  rw [wipe_get, wipe_get]
  by_cases hi : i ∈ vs
  · rw [if_pos hi, if_pos hi]
    rw [wipe_length] at hl
    by_cases hj : i < σ.length
    · simp [hj, hl]
    · simp [hj, hl]
  · rw [if_neg hi, if_neg hi, h i hi, wipe_get, if_neg hi]
section
variable {K : PySem.W.Frag} {γ : Type} {W : Wd γ} {L0 L : List Addr} {H0 H H' : Hp} {σ : L2.St} {ρ : Rho} {k : γ} {p : Addr} {o : HO}
theorem Stt.wipe (S : Stt K W L0 H0 L H σ ρ k) (vs : List Nat) : Stt K W L0 H0 L H (wipe σ vs) (wipeR ρ vs) k := by
  refine ⟨S.base, S.fresh, S.offM, S.trk, S.wd, by rw [wipeR_length, wipe_length]; exact S.len, fun i s hs => ?_, fun i j s t hs ht h1 h2 h3 => ?_⟩
  · rw [wipeR_get] at hs
    rw [wipe_get]
    by_cases hi : i ∈ vs
    · rw [if_pos hi] at hs
      cases q : ρ[i]? with
      | none => rw [q] at hs; cases hs
      | some u =>
        rw [q] at hs
        cases hs
        trivial
    · rw [if_neg hi] at hs ⊢
      exact S.slots i s hs
  · have off : ∀ (i : Nat) (s : Slot), (wipeR ρ vs)[i]? = some s → s.isOwn = true → i ∉ vs ∧ ρ[i]? = some s := fun i s hs ho => by
      rw [wipeR_get] at hs
      by_cases hi : i ∈ vs
      · rw [if_pos hi] at hs
        cases q : ρ[i]? with
        | none => rw [q] at hs; cases hs
        | some u =>
          rw [q] at hs
          cases hs
          cases ho
      · rw [if_neg hi] at hs
        exact ⟨hi, hs⟩
    obtain ⟨a1, a2⟩ := off i s hs h1
    obtain ⟨b1, b2⟩ := off j t ht h2
    rw [wipe_get, wipe_get, if_neg a1, if_neg b1] at h3
    exact S.dis i j s t a2 b2 h1 h2 h3
/-- no slot's own thing stands at p -/
def NoAt (ρ : Rho) (σ : L2.St) (p : Addr) : Prop := ∀ (i : Nat) (s : Slot), ρ[i]? = some s → s.isOwn = true → σ[i]? ≠ some (some (.ref p))
theorem Stt.hide (S : Stt K W L0 H0 L H σ ρ k) (hp : H p = none) : Stt K W L0 H0 (p :: L) (upd H p o) σ ρ k ∧ NoAt ρ σ p := by
  have np := S.nin hp
  have S1 := S.new (o := o) hp
  have npM : p ∉ W.M := fun z => np (List.mem_append_right _ z)
  have up : ∀ v d, T K (L ++ W.M) H v d → T K (p :: L ++ W.M) (upd H p o) v d := fun v d t => (t.plus hp).ext (Ext.put (by simp))
  refine ⟨⟨S1.base, fun l hl => ?_, fun l hl => ?_, ?_, S.wdNew hp, S.len, fun j s hs => ?_, S.dis⟩, fun i s hs ho z => ?_⟩
  · rcases List.mem_cons.mp hl with rfl | hl
    · by_cases h0 : l ∈ L0
      · exact .inl h0
      · right
        cases h : H0 l with
        | none => rfl
        | some o =>
          rw [S.base l o (fun z => (List.mem_append.mp z).elim h0 npM) h] at hp
          cases hp
    · exact S.fresh l hl
  · rcases List.mem_cons.mp hl with rfl | hl
    · exact npM
    · exact S.offM l hl
  · intro b hb z
    rcases List.mem_cons.mp hb with rfl | hb
    · rw [upd_same] at z; cases z
    · exact S1.trk b hb z
  · have q := S.slots j s hs
    cases s with
    | no => trivial
    | dat d =>
      obtain ⟨v, h1, h2⟩ := q
      exact ⟨v, h1, up _ _ h2⟩
    | own ds =>
      obtain ⟨l, xs, h1, h2, h3, h4⟩ := q
      exact ⟨l, xs, h1, List.mem_cons_of_mem _ h2, by rw [upd_ne (ne_of_none h3 hp)]; exact h3, h4.mapT up⟩
    | ownD kvs =>
      obtain ⟨l, xs, h1, h2, h3, h4⟩ := q
      exact ⟨l, xs, h1, List.mem_cons_of_mem _ h2, by rw [upd_ne (ne_of_none h3 hp)]; exact h3, h4.map up⟩
    | lck kvs =>
      obtain ⟨l, xs, od, h1, h2, h3, h4⟩ := q
      exact ⟨l, xs, od, h1, List.mem_cons_of_mem _ h2, by rw [upd_ne (ne_of_none h3 hp)]; exact h3, h4.map up⟩
    | raw v => exact q
    | fn F =>
      obtain ⟨f, c, h1, h2, h3, h4, h5⟩ := q
      exact ⟨f, c, h1, fun z => (List.mem_cons.mp z).elim (ne_of_none h4 hp) h2, fun z => (List.mem_cons.mp z).elim (ne_of_none h5 hp) h3, by rw [upd_ne (ne_of_none h4 hp)]; exact h4, by rw [upd_ne (ne_of_none h5 hp)]; exact h5⟩
    | ownN D kvs =>
      obtain ⟨l, xs, h1, h2, h3, h4⟩ := q
      exact ⟨l, xs, h1, List.mem_cons_of_mem _ h2, by rw [upd_ne (ne_of_none h3 hp)]; exact h3, h4.map up⟩
  · have q := S.slots i s hs
    cases s with
    | no => cases ho
    | dat d => cases ho
    | raw v => cases ho
    | fn F => cases ho
    | ownN D kvs =>
      obtain ⟨l, xs, h1, h2, h3, h4⟩ := q
      rw [z] at h1
      have e : p = l := by injection h1 with h1; injection h1 with h1; injection h1
      rw [← e, hp] at h3
      cases h3
    | own ds =>
      obtain ⟨l, xs, h1, h2, h3, h4⟩ := q
      rw [z] at h1
      have e : p = l := by injection h1 with h1; injection h1 with h1; injection h1
      rw [← e, hp] at h3
      cases h3
    | ownD kvs =>
      obtain ⟨l, xs, h1, h2, h3, h4⟩ := q
      rw [z] at h1
      have e : p = l := by injection h1 with h1; injection h1 with h1; injection h1
      rw [← e, hp] at h3
      cases h3
    | lck kvs =>
      obtain ⟨l, xs, od, h1, h2, h3, h4⟩ := q
      rw [z] at h1
      have e : p = l := by injection h1 with h1; injection h1 with h1; injection h1
      rw [← e, hp] at h3
      cases h3
theorem Stt.putHid (S : Stt K W L0 H0 (p :: L) H σ ρ k) (n : NoAt ρ σ p) : Stt K W L0 H0 (p :: L) (upd H p o) σ ρ k := by
  have up : ∀ v d, T K (p :: L ++ W.M) H v d → T K (p :: L ++ W.M) (upd H p o) v d := fun v d t => t.ext (Ext.put (by simp))
  have nM := S.offM p (by simp)
  refine ⟨fun b u nb hb => ?_, S.fresh, S.offM, S.trk.upd, W.loc k _ H _ (fun b hb => ?_) (Ext.put (by simp)) S.wd, S.len, fun j s hs => ?_, S.dis⟩
  · have : b ≠ p := by
      rintro rfl
      rcases S.fresh b (by simp) with q | q
      · exact nb (List.mem_append_left _ q)
      · rw [q] at hb; cases hb
    rw [upd_ne this]
    exact S.base b u nb hb
  · have : b ≠ p := by rintro rfl; exact nM hb
    rw [upd_ne this]
  · have q := S.slots j s hs
    have ns := n j s hs
    cases s with
    | no => trivial
    | dat d =>
      obtain ⟨v, h1, h2⟩ := q
      exact ⟨v, h1, up _ _ h2⟩
    | own ds =>
      obtain ⟨l, xs, h1, h2, h3, h4⟩ := q
      have : l ≠ p := by rintro rfl; exact ns rfl h1
      exact ⟨l, xs, h1, h2, by rw [upd_ne this]; exact h3, h4.mapT up⟩
    | ownD kvs =>
      obtain ⟨l, xs, h1, h2, h3, h4⟩ := q
      have : l ≠ p := by rintro rfl; exact ns rfl h1
      exact ⟨l, xs, h1, h2, by rw [upd_ne this]; exact h3, h4.map up⟩
    | lck kvs =>
      obtain ⟨l, xs, od, h1, h2, h3, h4⟩ := q
      have : l ≠ p := by rintro rfl; exact ns rfl h1
      exact ⟨l, xs, od, h1, h2, by rw [upd_ne this]; exact h3, h4.map up⟩
    | raw v => exact q
    | fn F =>
      obtain ⟨f, c, h1, h2, h3, h4, h5⟩ := q
      exact ⟨f, c, h1, h2, h3, by rw [upd_ne (by rintro rfl; exact h2 (by simp))]; exact h4, by rw [upd_ne (by rintro rfl; exact h3 (by simp))]; exact h5⟩
    | ownN D kvs =>
      obtain ⟨l, xs, h1, h2, h3, h4⟩ := q
      have : l ≠ p := by rintro rfl; exact ns rfl h1
      exact ⟨l, xs, h1, h2, by rw [upd_ne this]; exact h3, h4.map up⟩
theorem Stt.unhide (S : Stt K W L0 H0 (p :: L) H σ ρ k) (n : NoAt ρ σ p) : Stt K W L0 H0 L H σ ρ k := by
  have sub : ∀ b ∈ L ++ W.M, b ∈ p :: L ++ W.M := fun b hb => List.mem_cons_of_mem _ hb
  refine ⟨S.base, fun l hl => S.fresh l (List.mem_cons_of_mem _ hl), fun l hl => S.offM l (List.mem_cons_of_mem _ hl), fun b hb => S.trk b (sub b hb), S.wdSub (fun b hb => List.mem_cons_of_mem _ hb), S.len, fun j s hs => ?_, S.dis⟩
  have q := S.slots j s hs
  have ns := n j s hs
  cases s with
  | no => trivial
  | dat d =>
    obtain ⟨v, h1, h2⟩ := q
    exact ⟨v, h1, h2.off sub⟩
  | own ds =>
    obtain ⟨l, xs, h1, h2, h3, h4⟩ := q
    have : l ≠ p := by rintro rfl; exact ns rfl h1
    exact ⟨l, xs, h1, (List.mem_cons.mp h2).resolve_left this, h3, h4.off sub⟩
  | ownD kvs =>
    obtain ⟨l, xs, h1, h2, h3, h4⟩ := q
    have : l ≠ p := by rintro rfl; exact ns rfl h1
    exact ⟨l, xs, h1, (List.mem_cons.mp h2).resolve_left this, h3, h4.map fun _ _ t => t.off sub⟩
  | lck kvs =>
    obtain ⟨l, xs, od, h1, h2, h3, h4⟩ := q
    have : l ≠ p := by rintro rfl; exact ns rfl h1
    exact ⟨l, xs, od, h1, (List.mem_cons.mp h2).resolve_left this, h3, h4.map fun _ _ t => t.off sub⟩
  | raw v => exact q
  | fn F =>
    obtain ⟨f, c, h1, h2, h3, h4, h5⟩ := q
    exact ⟨f, c, h1, fun z => h2 (sub _ z), fun z => h3 (sub _ z), h4, h5⟩
  | ownN D kvs =>
    obtain ⟨l, xs, h1, h2, h3, h4⟩ := q
    have : l ≠ p := by rintro rfl; exact ns rfl h1
    exact ⟨l, xs, h1, (List.mem_cons.mp h2).resolve_left this, h3, h4.map fun _ _ t => t.off sub⟩
end
section
variable {K : PySem.W.Frag} {γ : Type} {W : Wd γ} {ρ : Rho} {k : γ} {Φ : PyData → γ → Prop} {g : TG} {tt : TT} {te : TE} {wi : TI} {vs : List Nat}
theorem ev_lcX (h : EvX K W wi ρ k fun n f k1 => n ≤ 100000 ∧ ∃ J : Nat → List PyData → γ → Prop, J 0 [] k1 ∧
      (∀ i acc k2, i < n → J i acc k2 → TgW K W g (fun i => i ∈ vs) (f i) (wipeR ρ vs) fun ρ2 => EvT K W tt ρ2 k2 fun b k3 => if b = true then EvW K W te ρ2 k3 fun d k4 => J (i + 1) (acc ++ [d]) k4 else J (i + 1) acc k3) ∧
      ∀ acc k2, acc.length ≤ n → J n acc k2 → Φ (.list acc) k2) : EvW K W (tLc wi g tt te vs) ρ k Φ := fun L0 H0 L H σ S Q c =>
  h L0 H0 L H σ S _ fun J n f k1 H1 S1 e wd g => by
    obtain ⟨hn, Jv, j0, turn, done⟩ := g
    intro D hD
    obtain ⟨Sd, nD⟩ := S1.hide (o := .lst []) hD
    have nin := S1.nin hD
    refine ⟨fun i m H2 => m = n - i ∧ i ≤ n ∧ ∃ acc k2 ys, Stt K W L0 H0 (D :: L) H2 σ ρ k2 ∧ Ext W.M H1 H2 ∧ H2 D = some (.lst ys) ∧ TA K (D :: L ++ W.M) H2 ys acc ∧ acc.length ≤ i ∧ Jv i acc k2,
      ⟨n, rfl, Nat.zero_le _, [], k1, [], Sd, Ext.new hD, upd_same, .nil, Nat.le_refl _, j0⟩, ?_⟩
    rintro i m H2 ⟨rfl, hi, acc, k2, ys, S2, e2, hy, ty, ha, j2⟩
    have l2 : Later W L H1 (D :: L) H2 := ⟨e2.sub fun b hb => List.mem_append_right _ hb, fun l hl => (List.mem_cons.mp hl).elim (fun q => .inr (by rw [q]; exact hD)) fun q => .inl q, S2.trk⟩
    by_cases hlt : i < n
    · refine .inr ⟨wd.goes i _ H2 hlt l2 e2, fun H' => ∃ acc k2 ys, Stt K W L0 H0 (D :: L) H' σ ρ k2 ∧ Ext W.M H1 H' ∧ H' D = some (.lst ys) ∧ TA K (D :: L ++ W.M) H' ys acc ∧ acc.length ≤ i + 1 ∧ Jv (i + 1) acc k2,
        fun H' ⟨acc, k2, ys, a1, a2, a3, a4, a5, a6⟩ => ⟨n - (i + 1), by omega, rfl, hlt, acc, k2, ys, a1, a2, a3, a4, a5, a6⟩, fun x H' y => ?_⟩
      obtain ⟨sm, tx⟩ := wd.yields i _ H2 x H' hlt l2 e2 y
      have S3 := S2.same sm
      refine turn i acc k2 hlt j2 L0 H0 (D :: L) H' _ k2 x (S3.wipe vs) tx _ fun σ3 ρ3 S4 hl4 ag tst => ⟨wipe_of hl4 ag, ?_⟩
      refine (tst : EvT K W tt ρ3 k2 _) L0 H0 (D :: L) H' σ3 S4 _ fun b k3 H3 S5 e5 g5 => ?_
      have dM : D ∉ W.M := fun z => nin (List.mem_append_right _ z)
      cases b with
      | false =>
        refine ⟨acc, k3, ys, S3.ext e5 S5.wd, (e2.trans (Ext.same sm)).trans e5, e5 _ _ dM (sm _ _ hy), (ty.same sm).ext (eM e5), by omega, g5⟩
      | true =>
        refine (g5 : EvW K W te ρ3 k3 _) L0 H0 (D :: L) H3 σ3 S5 _ fun v d k4 H4 S6 e6 t6 g6 => ?_
        have e56 := e5.trans e6
        have hy4 : H4 D = some (.lst ys) := e56 _ _ dM (sm _ _ hy)
        have lz : ys.length ≤ 99999 := by rw [ty.len]; omega
        refine ⟨ys, hy4, Nat.lt_of_le_of_lt lz (by decide), acc ++ [d], k4, ys ++ [v], (S3.ext e56 S6.wd).putHid nD, ?_, upd_same, ?_, by rw [List.length_append]; exact Nat.add_le_add_right ha 1, g6⟩
        · intro b o nb hb
          rw [upd_ne (ne_of_none hb hD)]
          exact ((e2.trans (Ext.same sm)).trans e56) b o nb hb
        · exact ((((ty.same sm).ext (eM e56)).app (.one t6))).ext (Ext.put (by simp))
    · have ei : i = n := by omega
      subst ei
      refine .inl ⟨wd.stops _ H2 l2 e2, c (.ref D) (.list acc) k2 H2 (S2.unhide nD) (e.trans e2) (.lst nin hy (ty.off fun b hb => List.mem_cons_of_mem _ hb)) (done acc k2 ha j2)⟩
theorem ev_lc (h : EvI K W wi ρ k fun n f k1 => n ≤ 100000 ∧ ∃ J : Nat → List PyData → γ → Prop, J 0 [] k1 ∧
      (∀ i acc k2, i < n → J i acc k2 → TgW K W g (fun i => i ∈ vs) (f i) (wipeR ρ vs) fun ρ2 => EvT K W tt ρ2 k2 fun b k3 => if b = true then EvW K W te ρ2 k3 fun d k4 => J (i + 1) (acc ++ [d]) k4 else J (i + 1) acc k3) ∧
      ∀ acc k2, acc.length ≤ n → J n acc k2 → Φ (.list acc) k2) : EvW K W (tLc wi g tt te vs) ρ k Φ := ev_lcX h.x
/-- a comprehension whose parts draw nothing -/
theorem lc_pure {n : Nat} {f : Nat → PyData} {k1 : γ} (keep : Nat → Bool) (el : Nat → PyData) (hn : n ≤ 100000)
    (turn : ∀ i, i < n → TgW K W g (fun i => i ∈ vs) (f i) (wipeR ρ vs) fun ρ2 => EvT K W tt ρ2 k1 fun b k3 => b = keep i ∧ k3 = k1 ∧ (keep i = true → EvW K W te ρ2 k1 fun d k4 => d = el i ∧ k4 = k1))
    (q : Φ (.list (((List.range n).filter keep).map el)) k1) :
    n ≤ 100000 ∧ ∃ J : Nat → List PyData → γ → Prop, J 0 [] k1 ∧
      (∀ i acc k2, i < n → J i acc k2 → TgW K W g (fun i => i ∈ vs) (f i) (wipeR ρ vs) fun ρ2 => EvT K W tt ρ2 k2 fun b k3 => if b = true then EvW K W te ρ2 k3 fun d k4 => J (i + 1) (acc ++ [d]) k4 else J (i + 1) acc k3) ∧
      ∀ acc k2, acc.length ≤ n → J n acc k2 → Φ (.list acc) k2 := by
  refine ⟨hn, fun i acc k2 => acc = ((List.range i).filter keep).map el ∧ k2 = k1, ⟨rfl, rfl⟩, ?_, ?_⟩
  · rintro i acc k2 hi ⟨rfl, rfl⟩ L0 H0 L H σ kk v S t Q c
    refine turn i hi L0 H0 L H σ kk v S t Q fun σ' ρ' S' hl ag ev => c σ' ρ' S' hl ag ?_
    intro L0 H0 L H σ S Q c
    refine ev L0 H0 L H σ S Q fun b k3 H2 S2 e ⟨hb, hk, he⟩ => ?_
    subst hb
    subst hk
    refine c _ _ H2 S2 e ?_
    cases hkeep : keep i with
    | false => exact ⟨by rw [List.range_succ, List.filter_append]; simp [hkeep], rfl⟩
    | true =>
      intro L0 H0 L H σ S Q c
      refine he hkeep L0 H0 L H σ S Q fun v d k4 H2 S2 e t ⟨hd, hk⟩ => c v d k4 H2 S2 e t ⟨?_, hk⟩
      rw [List.range_succ, List.filter_append, hd]
      simp [hkeep]
  · rintro acc k2 _ ⟨rfl, rfl⟩
    exact q
theorem ev_lcP (keep : Nat → Bool) (el : Nat → PyData) (h : EvI K W wi ρ k fun n f k1 => n ≤ 100000 ∧
      (∀ i, i < n → TgW K W g (fun i => i ∈ vs) (f i) (wipeR ρ vs) fun ρ2 => EvT K W tt ρ2 k1 fun b k3 => b = keep i ∧ k3 = k1 ∧ (keep i = true → EvW K W te ρ2 k1 fun d k4 => d = el i ∧ k4 = k1)) ∧
      Φ (.list (((List.range n).filter keep).map el)) k1) : EvW K W (tLc wi g tt te vs) ρ k Φ :=
  ev_lc fun L0 H0 L H σ S R c => h L0 H0 L H σ S R fun J n f k' H2 S2 e wd ⟨h1, h2, h3⟩ => c J n f k' H2 S2 e wd (lc_pure keep el h1 h2 h3)
theorem ev_lcXP (keep : Nat → Bool) (el : Nat → PyData) (h : EvX K W wi ρ k fun n f k1 => n ≤ 100000 ∧
      (∀ i, i < n → TgW K W g (fun i => i ∈ vs) (f i) (wipeR ρ vs) fun ρ2 => EvT K W tt ρ2 k1 fun b k3 => b = keep i ∧ k3 = k1 ∧ (keep i = true → EvW K W te ρ2 k1 fun d k4 => d = el i ∧ k4 = k1)) ∧
      Φ (.list (((List.range n).filter keep).map el)) k1) : EvW K W (tLc wi g tt te vs) ρ k Φ :=
  ev_lcX fun L0 H0 L H σ S R c => h L0 H0 L H σ S R fun J n f k' H2 S2 e wd ⟨h1, h2, h3⟩ => c J n f k' H2 S2 e wd (lc_pure keep el h1 h2 h3)
theorem range_itemD (ds : List PyData) : (List.range ds.length).map (itemD ds) = ds := by
  apply List.ext_getElem?
  intro i
  rw [List.getElem?_map]
  by_cases hi : i < ds.length
  · rw [List.getElem?_range hi]
    simp [itemD, hi]
  · simp [hi]
end

/-! ### defs -/
def rest0 (N : List Str) (ds : List PyData) : Rho := ds.map Slot.dat ++ List.replicate (N.length - ds.length) .no
theorem start_len {N : List Str} {vs : List V} : (start N vs).length = vs.length + (N.length - vs.length) := by
  unfold L2.start
  simp
theorem start_get {N : List Str} {vs : List V} {i : Nat} {v : V} (h : vs[i]? = some v) : (start N vs)[i]? = some (some v) := by
  unfold L2.start
  rw [List.getElem?_append_left (by simpa using (List.getElem?_eq_some_iff.mp h).1)]
  simp [h]
theorem stt_start {K : PySem.W.Frag} {γ : Type} {W : Wd γ} {N : List Str} {vs : List V} {ds : List PyData} {H : Hp} {k : γ} (t : TA K W.M H vs ds) (wd : W.I k W.M H) : Stt K W [] H [] H (start N vs) (rest0 N ds) k := by
  have get_ : ∀ (i : Nat) (s : Slot), (rest0 N ds)[i]? = some s → s = .no ∨ ∃ d, ds[i]? = some d ∧ s = .dat d := fun i s hs => by
    unfold rest0 at hs
    by_cases hi : i < ds.length
    · rw [List.getElem?_append_left (by simpa using hi)] at hs
      rw [List.getElem?_map] at hs
      obtain ⟨d, h1, h2⟩ := Option.map_eq_some_iff.mp hs
      exact .inr ⟨d, h1, h2.symm⟩
    · rw [List.getElem?_append_right (by simpa using hi)] at hs
      exact .inl (List.eq_of_mem_replicate (List.mem_of_getElem? hs))
  refine ⟨Ext.refl _ _, (fun l hl => nomatch hl), (fun l hl => nomatch hl), W.trk k _ H wd, wd, ?_, fun i s hs => ?_, fun i j s u hs hu h1 _ _ => ?_⟩
  · rw [start_len]
    unfold rest0
    have := t.len
    simp [this]
  · rcases get_ i s hs with rfl | ⟨d, hd, rfl⟩
    · trivial
    · obtain ⟨v, h1, h2⟩ := t.at hd
      exact ⟨v, start_get h1, h2⟩
  · rcases get_ i s hs with rfl | ⟨d, hd, rfl⟩ <;> cases h1
/-- the body of a def that writes nothing -/
theorem spP.ok {K : PySem.W.Frag} {R : List PyData → PyData → Prop} {n : Nat} {N : List Str} {vs : List V} {H : Hp} {Q : VK} {E : XK} {t : TS} (h : spP K n R vs H Q E)
    (hb : ∀ (W : Wd Nat) (ds : List PyData) (r : PyData), R ds r → SW K W t (rest0 N ds) 0 ⟨fun _ _ => r = .none, fun d _ => d = r, fun _ _ => False, fun _ _ => False⟩) : t { nx := fun _ H' => Q .non H', rt := Q } (start N vs) H := by
  obtain ⟨M, ds, r, ta, tr, _, hr, q⟩ := h
  have fin : ∀ k' H', Ext ([] ++ (pureW M H tr).M) H H' → (pureW M H tr).I k' M H' → Same H H' := fun k' H' e wi b o hb => by
    by_cases hm : b ∈ M
    · rw [wi b hm]; exact hb
    · exact e b o hm hb
  refine hb (pureW M H tr) ds r hr [] H [] H (start N vs) _ (stt_start ta fun b _ => rfl) (fun L' H' σ' ρ' k' S' e => ?_) (fun v d k' H' e wi t' hd => ?_) (fun _ _ _ _ _ _ z => z.elim) (fun _ _ _ _ _ _ z => z.elim)
  · subst e
    exact q .non H' (fin k' H' S'.base S'.wdM) .non
  · subst hd
    exact q v H' (fin k' H' e wi) t'
theorem spP.len {K : PySem.W.Frag} {R : List PyData → PyData → Prop} {n : Nat} {vs : List V} {H : Hp} {Q : VK} {E : XK} (h : spP K n R vs H Q E) : vs.length = n := by
  obtain ⟨M, ds, r, ta, tr, hl, hR, q⟩ := h
  rw [ta.len]
  exact hl
end U

set_option Elab.async false
set_option linter.all false
set_option maxRecDepth 100000
set_option maxHeartbeats 4000000
namespace U
open PySem PySem.Spec PyProof.Rows L2
/-! ### enumerate(text) -/
def ItES (z : Str) : It :=
  ⟨fun i _ => i < z.cps.size,
    fun i H v H' => ∃ (p : Addr) (c : Nat), v = .ref p ∧ H p = none ∧ H' = upd H p (.tup [.int (i : Nat), .str ⟨#[c]⟩]) ∧ z.cps[i]? = some c,
    fun i _ => z.cps.size ≤ i⟩
theorem turnES {P : Program} {w : World} {K : PySem.W.Frag} {elts : List Expr} {kk : Nat} {tpos : Pos} (z : Str) (tz : Tok) (e it : Addr) :
    L2.Turn P w K (.Tuple elts kk tpos) (ItES z) [e, it] e (fun i h => (∃ old, IsEnum h e it ((i : Nat) : Int) old) ∧ h.IsStrIter it (strIterType z) z tz i ∧ e ≠ it) where
  mem := List.mem_cons_self
  obj := fun i h st b hb => by
    obtain ⟨⟨old, he⟩, ⟨o, ho, _, hd⟩, _⟩ := st
    rcases List.mem_cons.mp hb with rfl | hb
    · exact ⟨_, he, fun _ q => nomatch q⟩
    · obtain rfl : b = it := by simpa using hb
      exact ⟨o, ho, fun _ q => by rw [hd] at q; cases q⟩
  keep := fun i h h' st k => ⟨st.1.imp fun _ he => k e (by simp) _ he, let ⟨o, ho, r⟩ := st.2.1; ⟨o, k it (by simp) o ho, r⟩, st.2.2⟩
  item := by
    rintro X rfl rfl rfl hc i pins s σ H E I hf ⟨⟨old, he⟩, hit, hne⟩ hlt
    have el : e < s.heap.objs.size := Heap.lt_size he
    have il : it < s.heap.objs.size := by obtain ⟨_, q, _⟩ := hit; exact Heap.lt_size q
    have D := Draws.text (prog := X.prog) (w := X.w) (A := X.A.in1) (I.ok.hd hc) it z tz
    refine wpAny_pyNext_enum_itemD D he hit hlt hne (by simpa using hne) fun y h' tk hy ho hst hT hsz hk => ?_
    obtain ⟨c, u, hcx, rfl⟩ := hy
    refine ⟨_, rfl, wpAny_letOwnedTupleGo_enum (s := { s with heap := h', toks := tk + 1 }) ho fun h'' he' sb => ?_⟩
    have hT2 := (sb.2 _ (Nat.ne_of_gt el)).trans hT
    have new : ObjOk X.prog X.w (upd H s.heap.objs.size (.tup [.int (i : Nat), .str ⟨#[c]⟩])) h'' s.heap.objs.size (.tup [.int (i : Nat), .str ⟨#[c]⟩]) :=
      ⟨(show 2 ≤ sizeLine by decide), [.int i tk, .str ⟨#[c]⟩ u], .cons ⟨_, rfl⟩ (.cons ⟨_, rfl⟩ .nil), ⟨_, hT2, rfl, _, rfl⟩⟩
    have I1 : Inv X pins σ (upd H s.heap.objs.size (.tup [.int (i : Nat), .str ⟨#[c]⟩])) { s with heap := h'', toks := tk + 1 } :=
      I.turnedNew (ch := [e, it]) (fun b ob hb q => (sb.2 b (fun z => hb (by simp [z]))).trans (hk b ob (fun z => hb (by simp [z])) (fun z => hb (by simp [z])) q)) hf (Nat.le_refl _) new
    refine ⟨.ref s.heap.objs.size, _, I1, rfl, ⟨_, c, rfl, I.hok.fresh (Nat.le_refl _), rfl, hcx⟩, ⟨⟨.str ⟨#[c]⟩ u, ?_⟩, let ⟨o, ho, r⟩ := hst; ⟨o, (sb.2 it (Ne.symm hne)).trans ho, r⟩, hne⟩, fun b hb => ?_⟩
    · rw [show ((i + 1 : Nat) : Int) = (i : Int) + 1 by omega]
      exact he'
    · have lt : b < s.heap.objs.size := by
        rcases List.mem_cons.mp hb with rfl | hb
        · exact el
        · obtain rfl : b = it := by simpa using hb
          exact il
      rw [upd_ne (Nat.ne_of_lt lt)]
      exact (hf b hb).1
  done := by
    rintro X rfl rfl rfl hc i pins s σ H E I hf ⟨⟨old, he⟩, hit, hne⟩ hx
    obtain ⟨f0, f1, f2, f3, f4, f5⟩ := hf it (by simp)
    unfold pyNext
    have hT : s.TypeIs (.ref e) "enumerate" := ⟨_, he, rfl⟩
    refine wpAny_bind (wpAny_attempt (wpAny_callSpecial?_slot (name := Str.ofString "__next__") hT F.slot_enumerate_next (wpAny_call_entry F.slot_enumerate_next hT F.entry_enumerate_next ?_ (F.args_enumerate_next_1 _))))
    show wpAny _ _ (field (.ref e) 2 >>= _) _ _ _
    have none_ : z.cps[i]? = none := Array.getElem?_eq_none hx
    cases ha : z.cps.all (· < 128)
    · simp only [strIterType, ha, Bool.false_eq_true, if_false] at hit
      refine wpAny_bind (wpAny_field he rfl (x := .ref it) rfl (wpAny_bind (wpAny_nextOf_wide_end (I.ok.hd hc) hit none_ fun h' y eb hy => ?_)))
      obtain ⟨o, ho, hoc⟩ := hy
      refine wpAny_bind (wpAny_isInstance (T := "StopIteration") (b := true) ⟨o, ho, hoc⟩ isSubtype_stop (wpAny_pure ?_))
      exact ⟨rfl, I.turned (t' := s.toks) (fun b o hb q => eb b o hb q) f0 f1 f3 f4 f5⟩
    · simp only [strIterType, ha, if_true] at hit
      refine wpAny_bind (wpAny_field he rfl (x := .ref it) rfl (wpAny_bind (wpAny_nextOf_ascii_end (I.ok.hd hc) hit none_ fun h' y eb hy => ?_)))
      obtain ⟨o, ho, hoc⟩ := hy
      refine wpAny_bind (wpAny_isInstance (T := "StopIteration") (b := true) ⟨o, ho, hoc⟩ isSubtype_stop (wpAny_pure ?_))
      exact ⟨rfl, I.turned (t' := s.toks) (fun b o hb q => eb b o hb q) f0 f1 f3 f4 f5⟩
  self := fun _ _ _ _ _ st h => by
    obtain ⟨⟨_, he⟩, _⟩ := st
    exact wpAny_pyIter_enum he h
def iEnumS (ta : L2.TA) : TI := fun σ H R => ta σ H fun vs H1 => ∃ z : Str, vs = [.str z] ∧ R (ItES z) H1
theorem pi_enumS {X : Cx} {e : Expr} {ta : L2.TA} {p pos tpos : Pos} {elts : List Expr} {kk : Nat} (hg : Gl X "enumerate") (hm : X.mg "enumerate" = none) (ha : PA X [e] ta)
    (hs : starEach [e] X.env = [(false, eval e X.env)] := by rfl) : PI X (.Tuple elts kk tpos) (.Call (.Name "enumerate" p) [e] [] pos) (iEnumS ta) := by
  refine ⟨fun pins s σ H R I h => ?_⟩
  refine Call_ (ld_blt I hg hm boot_enumerate (PyProof.Rows.callWith_type1 (thn (ha.run pos pins s σ H _ I h) fun us s1 ⟨vs, H1, I1, r1, z, ev, q⟩ => ?_) hs rfl))
  subst ev
  cases r1 with
  | cons r rr =>
    cases rr
    obtain ⟨t, rfl⟩ := r
    refine enumMake (begins_text z t) trivial fun h' he hit hk => wpAny_pyIter_enum he ?_
    refine ⟨s1.heap.objs.size + 1, [s1.heap.objs.size + 1, s1.heap.objs.size], _, _, H1, rfl, I1.kept (t' := s1.toks) hk, turnES z t (s1.heap.objs.size + 1) s1.heap.objs.size, ⟨⟨.none, he⟩, ⟨_, hit, rfl, rfl⟩, Nat.succ_ne_self _⟩, fun b hb => ?_, q⟩
    have le_ : s1.heap.objs.size ≤ b := by
      rcases List.mem_cons.mp hb with rfl | hb
      · exact Nat.le_add_right _ _
      · obtain rfl : b = s1.heap.objs.size := by simpa using hb
        exact Nat.le_refl _
    exact I1.fpOk le_ (I1.hok.fresh le_)
theorem ei_enumS {K : PySem.W.Frag} {γ : Type} {W : Wd γ} {ρ : Rho} {k : γ} {tr : L2.TA} {Ω : Nat → (Nat → PyData) → γ → Prop} (h : EvA K W tr ρ k fun es k1 => ∃ z : Str, es = [.str z] ∧ Ω z.cps.size (fun i => .tuple [.int (i : Nat), .str ⟨#[z.cps[i]?.getD 0]⟩]) k1) : EvI K W (iEnumS tr) ρ k Ω := fun L0 H0 L H σ S R c =>
  h L0 H0 L H σ S _ fun vs es k1 H1 S1 e t g => by
    obtain ⟨z, rfl, q⟩ := g
    obtain ⟨v, rfl, t1⟩ := t.one_
    cases t1
    refine ⟨z, rfl, c _ _ _ k1 H1 S1 e ⟨fun i L H hi _ => hi, fun L H _ => Nat.le_refl _, fun i L H x H' hi l y => ?_⟩ q⟩
    obtain ⟨p, cc, rfl, hp, rfl, h1⟩ := y
    refine ⟨Same.new hp, ?_⟩
    show T K _ _ _ (.tuple [_, .str ⟨#[z.cps[i]?.getD 0]⟩])
    rw [h1]
    exact .tup (l.trk.new hp) upd_same (.cons (.int _) (.one (.str _)))
end U

set_option Elab.async false
set_option linter.all false
set_option maxRecDepth 100000
set_option maxHeartbeats 2000000
namespace U
open PySem PySem.Spec PyProof.Rows L2
/-! ### words as rows of letters -/
def txt (ws : List Nat) : Str := ⟨(ws.map (97 + ·)).toArray⟩
theorem txt_size (ws : List Nat) : (txt ws).cps.size = ws.length := by simp [txt]
theorem txt_len (ws : List Nat) : (txt ws).length = ws.length := txt_size ws
theorem txt_get (ws : List Nat) (i : Nat) : (txt ws).cps[i]? = ws[i]?.map (97 + ·) := by simp [txt]
theorem txt_app (a b : List Nat) : txt a ++ txt b = txt (a ++ b) := by
  show Str.mk _ = Str.mk _
  simp [txt]
theorem txt_inj {a b : List Nat} (h : txt a = txt b) : a = b := by
  unfold txt at h
  have h2 : (a.map (97 + ·)).toArray = (b.map (97 + ·)).toArray := by injection h
  have h3 : a.map (97 + ·) = b.map (97 + ·) := by simpa using congrArg Array.toList h2
  exact (List.map_inj_right (fun x y e => by omega)).mp h3
theorem txt_dec (a b : List Nat) : decide (txt a = txt b) = decide (a = b) := by
  by_cases h : a = b
  · simp [h]
  · rw [decide_eq_false h, decide_eq_false fun e => h (txt_inj e)]
theorem txt_cut (ws : List Nat) (lo hi : Option Int) : cutS (txt ws) lo hi = txt ((ws.drop (HT.sIx ws.length 0 lo)).take (HT.sIx ws.length ws.length hi - HT.sIx ws.length 0 lo)) := by
  unfold cutS
  rw [txt_len]
  show Str.mk _ = Str.mk _
  congr 1
  simp [txt, List.map_take, List.map_drop]
theorem txt_take (ws : List Nat) {n : Nat} (h : n ≤ ws.length) : cutS (txt ws) none (some (n : Int)) = txt (ws.take n) := by
  rw [txt_cut, HT.sIx_nat, HT.sIx_none, List.drop_zero, Nat.sub_zero, Nat.min_eq_left h]
theorem txt_drop (ws : List Nat) {n : Nat} (h : n ≤ ws.length) : cutS (txt ws) (some (n : Int)) none = txt (ws.drop n) := by
  rw [txt_cut, HT.sIx_nat, HT.sIx_none, Nat.min_eq_left h, List.take_of_length_le (by rw [List.length_drop]; omega)]
theorem txt_mem (ws : List Nat) (c : Nat) : decide ((97 + c) ∈ (txt ws).cps.toList) = decide (c ∈ ws) := by
  have : (97 + c ∈ (txt ws).cps.toList) ↔ c ∈ ws := by
    unfold txt
    simp only [List.mem_map]
    exact ⟨fun ⟨d, hd, e⟩ => by rwa [show d = c by omega] at hd, fun h => ⟨c, h, rfl⟩⟩
  by_cases h : c ∈ ws
  · rw [decide_eq_true h, decide_eq_true (this.mpr h)]
  · rw [decide_eq_false h, decide_eq_false fun q => h (this.mp q)]
theorem txt_nil : Str.ofString "" = txt [] := rfl
theorem txt_abcd : Str.ofString "abcd" = txt [0, 1, 2, 3] := by decide +kernel
theorem occ_abcd {c : Nat} (h : c < 4) : Builtin.Str.occurrences (Str.ofString "abcd") ⟨#[97 + c]⟩ 0 (Str.ofString "abcd").length 1 = [c] := by
  have : c = 0 ∨ c = 1 ∨ c = 2 ∨ c = 3 := by omega
  rcases this with rfl | rfl | rfl | rfl <;> decide +kernel
theorem join_txt (l : List (List Nat)) : Txt.join (Str.ofString "") (l.map txt) = txt l.flatten := by
  have e0 : (Str.ofString "").cps = #[] := rfl
  have fold : ∀ (l : List (List Nat)) (acc : Array Nat), (l.map txt).foldl (fun acc p => acc ++ (Str.ofString "").cps ++ p.cps) acc = acc ++ (l.flatten.map (97 + ·)).toArray := by
    intro l
    induction l with
    | nil => intro acc; simp
    | cons x xs ih =>
      intro acc
      rw [List.map_cons, List.foldl_cons, ih, e0]
      simp [txt]
  cases l with
  | nil => rfl
  | cons x xs =>
    show Str.mk _ = Str.mk _
    congr 1
    show (((x :: xs).map txt).drop 1).foldl _ _ = _
    rw [List.map_cons, List.drop_succ_cons, List.drop_zero, fold]
    simp [txt]
/-- truth of data -/
def truD : PyData → Bool
  | .none => false
  | .bool b => b
  | .int i => i != 0
  | .str z => z.length != 0
  | .list ds => !ds.isEmpty
  | .tuple ds => !ds.isEmpty
  | .dict es => !es.isEmpty
section
variable {K : PySem.W.Frag} {γ : Type} {W : Wd γ} {ρ : Rho} {k : γ} {Φ : PyData → γ → Prop} {ta tb tc te : TE} {tt tu : TT} {x y : PyData} {Ψ : Bool → γ → Prop}
theorem TA.emp {N : List Addr} {H : Hp} {vs : List V} {ds : List PyData} (t : TA K N H vs ds) : ds.isEmpty = vs.isEmpty := by cases t <;> rfl
theorem TK.emp {N : List Addr} {H : Hp} {vs : List (Key × V)} {ds : List (PyData × PyData)} (t : TK K N H vs ds) : ds.isEmpty = vs.isEmpty := by cases t <;> rfl
def sizeOk : PyData → Prop | .str z => z.length ≤ 100000 | _ => True
theorem et_truth (h : EvW K W te ρ k fun d k1 => sizeOk d ∧ Ψ (truD d) k1) : EvT K W (fun σ H Q => te σ H fun x H' => ∃ k, TruV K x H' k ∧ Q k H') ρ k Ψ := fun L0 H0 L H σ S Q c =>
  h L0 H0 L H σ S _ fun v d k1 H1 S1 e1 t1 g => by
    have q : Q (truD d) H1 := c _ _ _ S1 e1 g.2
    refine ⟨truD d, ?_, q⟩
    cases t1 with
    | non => exact rfl
    | bl b => exact rfl
    | int i => exact rfl
    | str z =>
      refine ⟨Nat.le_trans g.1 (by decide), ?_⟩
      show (z.length != 0) = _
      by_cases hz : z.length = 0
      · rw [hz]; rfl
      · have h2 : (z.length : Int) ≠ 0 := by omega
        rw [bne_iff_ne.mpr hz, bne_iff_ne.mpr h2]
    | lst n h t => exact .inl ⟨_, SqL.of h, by show (!List.isEmpty _) = _; rw [t.emp]⟩
    | tup n h t => exact .inr (.inl ⟨_, SqT.of h, by show (!List.isEmpty _) = _; rw [t.emp]⟩)
    | dct n h t => exact .inr (.inr ⟨_, h, by show (!List.isEmpty _) = _; rw [t.emp]⟩)
theorem rd_inS {c : Nat} {z : Str} (q : Φ (.bool (decide (c ∈ z.cps.toList))) k) : RD K W (fun x y H Q => ∃ (c : Nat) (z : Str), x = .str ⟨#[c]⟩ ∧ y = .str z ∧ Q (.bl (decide (c ∈ z.cps.toList))) H) (.str ⟨#[c]⟩) (.str z) ρ k Φ := rd_ q fun N H vx vy tx ty Q cc => by
  cases tx
  cases ty
  exact ⟨c, z, rfl, rfl, cc _ (.bl _)⟩
theorem rd_ninS {c : Nat} {z : Str} (q : Φ (.bool (!decide (c ∈ z.cps.toList))) k) : RD K W (fun x y H Q => ∃ (c : Nat) (z : Str), x = .str ⟨#[c]⟩ ∧ y = .str z ∧ Q (.bl (!decide (c ∈ z.cps.toList))) H) (.str ⟨#[c]⟩) (.str z) ρ k Φ := rd_ q fun N H vx vy tx ty Q cc => by
  cases tx
  cases ty
  exact ⟨c, z, rfl, rfl, cc _ (.bl _)⟩
/-- sep.join(list of texts) -/
theorem sum_le {l : List Str} {a : Nat} (h : ∀ z ∈ l, z.length ≤ a) : (l.map (·.length)).sum ≤ l.length * a := by
  induction l with
  | nil => simp
  | cons x xs ih =>
    have h1 := h x List.mem_cons_self
    have h2 := ih fun z hz => h z (List.mem_cons_of_mem _ hz)
    rw [List.map_cons, List.sum_cons, List.length_cons, Nat.add_mul]
    omega
def rJoin (K : PySem.W.Frag) : V → List V → Hp → VK → Prop := fun x xs H Q => ∃ a p, ∃ ys : List Str, x = .str a ∧ xs = [.ref p] ∧ (SqL K H p (ys.map V.str) ∨ SqT K H p (ys.map V.str)) ∧ (ys.map (·.length)).sum + ys.length * a.length ≤ 16777216 ∧ Q (.str (Txt.join a ys)) H
theorem kJoin (K : PySem.W.Frag) {X : Cx} {e : Expr} {to te : TE} (p : PE X e (tM1 (fun x xs H Q => ∃ a p, ∃ ys : List Str, x = .str a ∧ xs = [.ref p] ∧ (SqL X.K H p (ys.map V.str) ∨ SqT X.K H p (ys.map V.str)) ∧ (ys.map (·.length)).sum + ys.length * a.length ≤ 16777216 ∧ Q (.str (Txt.join a ys)) H) to te)) (h : X.K = K := by rfl) : PE X e (tM1 (rJoin K) to te) := by subst h; exact p
theorem ev_join (h : EvW K W ta ρ k fun a k1 => ∃ s : Str, a = .str s ∧ EvW K W tb ρ k1 fun d k2 => ∃ ys : List Str, d = .list (ys.map .str) ∧ (ys.map (·.length)).sum + ys.length * s.length ≤ 16777216 ∧ Φ (.str (Txt.join s ys)) k2) :
    EvW K W (tM1 (rJoin K) ta tb) ρ k Φ := fun L0 H0 L H σ S Q c =>
  h L0 H0 L H σ S _ fun v a k1 H1 S1 e1 t1 g => by
    obtain ⟨s, rfl, g⟩ := g
    cases t1
    refine ⟨⟨s, rfl⟩, g L0 H0 L H1 σ S1 _ fun u d k2 H2 S2 e2 t2 g2 => ?_⟩
    obtain ⟨ys, rfl, hz, q⟩ := g2
    cases t2 with
    | lst n ha t =>
      have e := t.strs_
      subst e
      exact ⟨s, _, ys, rfl, rfl, .inl (SqL.of ha), hz, c _ _ k2 H2 S2 (e1.trans e2) (.str _) q⟩
/-- "abcd".index(letter) -/
theorem ev_index (h : EvW K W tb ρ k fun d k2 => ∃ c : Nat, d = .str ⟨#[97 + c]⟩ ∧ c < 4 ∧ Φ (.int (c : Int)) k2) :
    EvW K W (tBM K "str" (fun x xs H Q => ∃ a b i rest, x = .str a ∧ xs = [.str b] ∧ Builtin.Str.occurrences a b 0 a.length 1 = i :: rest ∧ Q (.int (i : Nat)) H) (tC (.str (Str.ofString "abcd"))) (tCons tb tNil)) ρ k Φ := fun L0 H0 L H σ S Q c => by
  refine ⟨rfl, h L0 H0 L H σ S _ fun u d k2 H2 S2 e2 t2 g2 => ?_⟩
  obtain ⟨n, rfl, hn, q⟩ := g2
  cases t2
  exact ⟨_, _, n, [], rfl, rfl, occ_abcd hn, c _ _ k2 H2 S2 e2 (.int _) q⟩
/-! ### reading a list of one's own -/
theorem Stt.own_at {L0 L : List Addr} {H0 H : Hp} {σ : L2.St} {i : Nat} {ds : List PyData} (S : Stt K W L0 H0 L H σ ρ k) (h : ρ[i]? = some (.own ds)) : ∃ l xs, σ[i]? = some (some (.ref l)) ∧ H l = some (.lst xs) ∧ TA K (L ++ W.M) H xs ds := by
  obtain ⟨l, xs, h1, _, h3, h4⟩ := S.slots i _ h
  exact ⟨l, xs, h1, h3, h4⟩
theorem ev_ownLen {i : Nat} {ds : List PyData} (h : ρ[i]? = some (.own ds)) (q : Φ (.int (ds.length : Int)) k) : EvW K W (tCB (rLenQ K) (tCons (tVar i) tNil)) ρ k Φ := fun L0 H0 L H σ S Q c => by
  obtain ⟨l, xs, h1, h3, h4⟩ := S.own_at h
  exact ⟨_, h1, _, _, rfl, .inl (SqL.of h3), by rw [h4.len]; exact c _ _ k H S (Ext.refl _ _) (.int _) q⟩
theorem ev_ownIx {i : Nat} {ds : List PyData} (h : ρ[i]? = some (.own ds)) (hb : EvW K W tb ρ k fun x k1 => ∃ j : Nat, x = .int (j : Int) ∧ ∃ d, ds[j]? = some d ∧ Φ d k1) : EvW K W (tOp (rIxL K) (tVar i) tb) ρ k Φ := fun L0 H0 L H σ S Q c => by
  obtain ⟨l, xs, h1, h3, h4⟩ := S.own_at h
  refine ⟨_, h1, hb L0 H0 L H σ S _ fun v x k1 H1 S1 e1 t1 g => ?_⟩
  obtain ⟨j, rfl, d, hd, q⟩ := g
  cases t1
  obtain ⟨l', ys, g1, g3, g4⟩ := S1.own_at h
  rw [h1] at g1
  have e : l = l' := by injection g1 with g1; injection g1 with g1; injection g1
  subst e
  obtain ⟨v, e1', t⟩ := g4.at hd
  exact ⟨_, _, _, v, rfl, rfl, SqL.of g3, atI_nat e1', c v d k1 H1 S1 e1 t q⟩
theorem et_ownTruth {i : Nat} {ds : List PyData} (h : ρ[i]? = some (.own ds)) (q : Ψ (!ds.isEmpty) k) : EvT K W (fun σ H Q => (tVar i) σ H fun x H' => ∃ k, TruV K x H' k ∧ Q k H') ρ k Ψ := fun L0 H0 L H σ S Q c => by
  obtain ⟨l, xs, h1, h3, h4⟩ := S.own_at h
  exact ⟨_, h1, !ds.isEmpty, .inl ⟨_, SqL.of h3, by rw [h4.emp]⟩, c _ _ _ S (Ext.refl _ _) q⟩
end
/-! ### the deck -/
structure Deck (H : Hp) (p q : Addr) (n : Nat) : Prop where
  top : H p = some (.lst [.ref q, .int (n : Int)])
  cells : ∃ cs : List Int, H q = some (.lst (cs.map V.int)) ∧ (∀ c ∈ cs, 0 ≤ c) ∧ cs.length ≤ 63
theorem Deck.ne {H : Hp} {p q : Addr} {n : Nat} (d : Deck H p q n) : p ≠ q := by
  obtain ⟨cs, h, _⟩ := d.cells
  refine ne_of d.top h ?_
  intro e
  have e1 : [V.ref q, V.int (n : Int)] = cs.map V.int := HO.lst.inj e
  cases cs with
  | nil => cases e1
  | cons c cs =>
    have e2 := (List.cons.inj e1).1
    cases e2
theorem Deck.of {H H' : Hp} {p q : Addr} {n : Nat} (d : Deck H p q n) (hp : H' p = H p) (hq : H' q = H q) : Deck H' p q n := by
  obtain ⟨cs, h, r⟩ := d.cells
  exact ⟨hp.trans d.top, cs, hq.trans h, r⟩
/-- a world with a deck, at most k numbers drawn -/
def deckW (M : List Addr) (p q : Addr) (Hs : Hp) (t : Trk M Hs) (hp : p ∈ M) (hq : q ∈ M) : Wd Nat where
  M := M
  I := fun k _ H => (∃ n, n ≤ k ∧ Deck H p q n) ∧ ∀ b, b ∈ M → b ≠ p → b ≠ q → H b = Hs b
  plus := fun _ _ _ _ _ _ h => h
  loc := fun k _ H H' e _ h => ⟨let ⟨n, hn, d⟩ := h.1; ⟨n, hn, d.of (e p hp) (e q hq)⟩, fun b hb h1 h2 => (e b hb).trans (h.2 b hb h1 h2)⟩
  trk := fun k _ H h b hb z => by
    obtain ⟨⟨n, _, d⟩, r⟩ := h
    by_cases h1 : b = p
    · rw [h1, d.top] at z; cases z
    · by_cases h2 : b = q
      · obtain ⟨cs, hc, _⟩ := d.cells
        rw [h2, hc] at z; cases z
      · rw [r b hb h1 h2] at z
        exact t b hb z
/-- a def whose first argument is the deck: c numbers are drawn at most, what it gives has G -/
def spD (K : PySem.W.Frag) (n0 : Nat) (R : List PyData → Nat → (PyData → Prop) → Prop) : Sp := fun vs H Q _ => ∃ (M : List Addr) (p q : Addr) (n : Nat) (us : List V) (ds : List PyData) (c : Nat) (G : PyData → Prop),
  vs = .ref p :: us ∧ Deck H p q n ∧ p ∈ M ∧ q ∈ M ∧ TA K M H us ds ∧ Trk M H ∧ ds.length + 1 = n0 ∧ R ds c G ∧ n + c ≤ 1000000000 ∧
  ∀ v d H' n', Deck H' p q n' → n' ≤ n + c → Ext [p, q] H H' → T K M H' v d → G d → Q v H'
/-- a world that has the deck -/
class HasD (W : Wd Nat) (p q : outParam Addr) : Prop where
  memp : p ∈ W.M
  memq : q ∈ W.M
  get : ∀ k N H, W.I k N H → ∃ n, n ≤ k ∧ Deck H p q n
  put : ∀ k k' N H H' n', p ∈ N → q ∈ N → W.I k N H → Ext [p, q] H H' → Deck H' p q n' → n' ≤ k' → W.I k' N H'
instance {M : List Addr} {p q : Addr} {Hs : Hp} {t : Trk M Hs} {hp : p ∈ M} {hq : q ∈ M} : HasD (deckW M p q Hs t hp hq) p q where
  memp := hp
  memq := hq
  get := fun k N H h => h.1
  put := fun k k' N H H' n' _ _ h e d hn => ⟨⟨n', hn, d⟩, fun b hb h1 h2 => by
    have hh := h.2 b hb h1 h2
    cases z : H b with
    | none => exact absurd z ((deckW M p q Hs t hp hq).trk k N H h b hb)
    | some o =>
      rw [← hh, z]
      exact e b o (by simp [h1, h2]) z⟩
section
variable {K : PySem.W.Frag} {W : Wd Nat} {p q : Addr} {ρ : Rho} {k : Nat} {Φ : PyData → Nat → Prop} {tr : L2.TA}
theorem ev_callD [hd : HasD W p q] {n0 : Nat} {R : List PyData → Nat → (PyData → Prop) → Prop} {i : Nat} (h0 : ρ[i]? = some (.raw (.ref p)))
    (h : EvA K W tr ρ k fun ds k1 => ds.length + 1 = n0 ∧ ∃ c G, R ds c G ∧ k1 + c ≤ 1000000000 ∧ ∀ d, G d → Φ d (k1 + c)) : EvW K W (tCall (spD K n0 R) [] E0 (tCons (tVar i) tr)) ρ k Φ := fun L0 H0 L H σ S Q c => by
  refine ⟨.ref p, S.slots i _ h0, h L0 H0 L H σ S _ fun vs ds k1 H1 S1 e1 ta g => ?_⟩
  obtain ⟨hl, cc, G, hR, hk, g⟩ := g
  obtain ⟨n, hn, dk⟩ := hd.get _ _ _ S1.wd
  have pN : p ∈ L ++ W.M := List.mem_append_right _ hd.memp
  have qN : q ∈ L ++ W.M := List.mem_append_right _ hd.memq
  refine ⟨L ++ W.M, p, q, n, vs, ds, cc, G, by simp, dk, pN, qN, ta, S1.trk, hl, hR, by omega, fun v d H' n' dk' hn' e t' gd => ?_⟩
  have eM' : Ext W.M H1 H' := e.sub fun b hb => by
    rcases List.mem_cons.mp hb with rfl | hb
    · exact hd.memp
    · have : b = q := by simpa using hb
      rw [this]; exact hd.memq
  exact c v d _ H' (S1.ext eM' (hd.put k1 (k1 + cc) _ _ _ n' pN qN S1.wd e dk' (by omega))) (e1.trans eM') t' (g d gd)
end
/-- the start of a def whose first argument is the deck -/
def rest1 (N : List Str) (p : Addr) (ds : List PyData) : Rho := .raw (.ref p) :: (ds.map Slot.dat ++ List.replicate (N.length - (ds.length + 1)) .no)
theorem stt_startD {K : PySem.W.Frag} {γ : Type} {W : Wd γ} {N : List Str} {vs : List V} {ds : List PyData} {H : Hp} {k : γ} {p : Addr} (t : TA K W.M H vs ds) (wd : W.I k W.M H) : Stt K W [] H [] H (L2.start N (.ref p :: vs)) (rest1 N p ds) k := by
  have get_ : ∀ (i : Nat) (s : Slot), (rest1 N p ds)[i]? = some s → s = .no ∨ (i = 0 ∧ s = .raw (.ref p)) ∨ ∃ d j, i = j + 1 ∧ ds[j]? = some d ∧ s = .dat d := fun i s hs => by
    unfold rest1 at hs
    cases i with
    | zero => right; left; exact ⟨rfl, by simpa using hs.symm⟩
    | succ i =>
      rw [List.getElem?_cons_succ] at hs
      by_cases hi : i < ds.length
      · rw [List.getElem?_append_left (by simpa using hi)] at hs
        rw [List.getElem?_map] at hs
        obtain ⟨d, h1, h2⟩ := Option.map_eq_some_iff.mp hs
        exact .inr (.inr ⟨d, i, rfl, h1, h2.symm⟩)
      · rw [List.getElem?_append_right (by simpa using hi)] at hs
        exact .inl (List.eq_of_mem_replicate (List.mem_of_getElem? hs))
  refine ⟨Ext.refl _ _, (fun l hl => nomatch hl), (fun l hl => nomatch hl), W.trk k _ H wd, wd, ?_, fun i s hs => ?_, fun i j s u hs hu h1 _ _ => ?_⟩
  · rw [start_len]
    unfold rest1
    have := t.len
    simp only [List.length_cons, List.length_append, List.length_map, List.length_replicate, this]
    omega
  · rcases get_ i s hs with rfl | ⟨rfl, rfl⟩ | ⟨d, j, rfl, hd, rfl⟩
    · trivial
    · exact start_get (by simp)
    · obtain ⟨v, h1, h2⟩ := t.at hd
      exact ⟨v, start_get (by simpa using h1), h2⟩
  · rcases get_ i s hs with rfl | ⟨rfl, rfl⟩ | ⟨d, j, rfl, hd, rfl⟩ <;> cases h1
theorem spD.ok {K : PySem.W.Frag} {n0 : Nat} {R : List PyData → Nat → (PyData → Prop) → Prop} {N : List Str} {vs : List V} {H : Hp} {Q : VK} {E : XK} {t : TS} (h : spD K n0 R vs H Q E)
    (hb : ∀ (M : List Addr) (p q : Addr) (hp : p ∈ M) (hq : q ∈ M) (Hs : Hp) (tr : Trk M Hs) (ds : List PyData) (c n : Nat) (G : PyData → Prop), R ds c G → n + c ≤ 1000000000 →
      SW K (deckW M p q Hs tr hp hq) t (rest1 N p ds) n ⟨fun _ k => G .none ∧ k ≤ n + c, fun d k => G d ∧ k ≤ n + c, fun _ _ => False, fun _ _ => False⟩) : t { nx := fun _ H' => Q .non H', rt := Q } (L2.start N vs) H := by
  obtain ⟨M, p, q, n, us, ds, c, G, rfl, dk, hp, hq, ta, tr, _, hR, hn, qq⟩ := h
  have wd0 : (deckW M p q H tr hp hq).I n M H := ⟨⟨n, Nat.le_refl _, dk⟩, fun b _ _ _ => rfl⟩
  have fin : ∀ k' H', Ext ([] ++ (deckW M p q H tr hp hq).M) H H' → (deckW M p q H tr hp hq).I k' M H' → k' ≤ n + c → ∃ n', Deck H' p q n' ∧ n' ≤ n + c ∧ Ext [p, q] H H' := fun k' H' e wi hk => by
    obtain ⟨⟨n', hn', dk'⟩, oth⟩ := wi
    refine ⟨n', dk', by omega, fun b o nb hb => ?_⟩
    have h1 : b ≠ p := fun z => nb (by simp [z])
    have h2 : b ≠ q := fun z => nb (by simp [z])
    by_cases hm : b ∈ M
    · rw [oth b hm h1 h2]; exact hb
    · exact e b o hm hb
  refine hb M p q hp hq H tr ds c n G hR hn [] H [] H _ _ (stt_startD ta wd0) (fun L' H' σ' ρ' k' S' g => ?_) (fun v d k' H' e wi t' hd => ?_) (fun _ _ _ _ _ _ z => z.elim) (fun _ _ _ _ _ _ z => z.elim)
  · obtain ⟨n', a, b, e⟩ := fin k' H' S'.base S'.wdM g.2
    exact qq .non .none H' n' a b e .non g.1
  · obtain ⟨n', a, b, e⟩ := fin k' H' e wi hd.2
    exact qq v d H' n' a b e t' hd.1
theorem spD.len {K : PySem.W.Frag} {R : List PyData → Nat → (PyData → Prop) → Prop} {n : Nat} {vs : List V} {H : Hp} {Q : VK} {E : XK} (h : spD K n R vs H Q E) : vs.length = n := by
  obtain ⟨M, p, q, n', us, ds, c, G, rfl, dk, hp, hq, ta, tr, hl, hR, hn, qq⟩ := h
  rw [List.length_cons, ta.len]
  exact hl
end U

set_option Elab.async false
set_option linter.all false
set_option maxRecDepth 100000
set_option maxHeartbeats 2000000
namespace U
open PySem PySem.Spec PyProof.Rows L2
abbrev nI (n : Nat) : PyData := .int (n : Int)
abbrev nX (ws : List Nat) : PyData := .str (txt ws)
theorem at_map {α β : Type} {f : α → β} {us : List α} {i : Nat} {u : α} (h : us[i]? = some u) : (us.map f)[i]? = some (f u) := by rw [List.getElem?_map, h]; rfl
theorem itemD_map {α : Type} {f : α → PyData} {xs : List α} {j : Nat} (h : j < xs.length) : itemD (xs.map f) j = f xs[j] := by simp [itemD, h]
theorem cut_to (ws : List Nat) (n : Nat) : cutS (txt ws) none (some (n : Int)) = txt (ws.take n) := by
  by_cases h : n ≤ ws.length
  · exact txt_take ws h
  · rw [txt_cut, HT.sIx_nat, HT.sIx_none, List.drop_zero, Nat.sub_zero, Nat.min_eq_right (by omega), List.take_length, List.take_of_length_le (by omega)]
theorem cut_from (ws : List Nat) (n : Nat) : cutS (txt ws) (some (n : Int)) none = txt (ws.drop n) := by
  by_cases h : n ≤ ws.length
  · exact txt_drop ws h
  · rw [txt_cut, HT.sIx_nat, HT.sIx_none, Nat.min_eq_right (by omega), List.drop_length, List.drop_eq_nil_of_le (by omega), List.take_nil]
theorem if_split {P Q : Prop} {c : Bool} (h1 : c = true → P) (h2 : c = false → Q) : if c = true then P else Q := by
  cases c with
  | true => exact iteT (h1 rfl)
  | false => exact iteF (h2 rfl)
section
variable {K : PySem.W.Frag} {γ : Type} {W : Wd γ} {ρ : Rho} {k : γ} {Φ : PyData → γ → Prop}
theorem rd_ixT0 {a : PyData} {ds : List PyData} (q : Φ a k) : RD K W (rIxT K) (.tuple (a :: ds)) (.int 0) ρ k Φ := rd_ixT (j := 0) rfl rfl q
theorem rd_ixT1 {a b : PyData} {ds : List PyData} (q : Φ b k) : RD K W (rIxT K) (.tuple (a :: b :: ds)) (.int 1) ρ k Φ := rd_ixT (j := 1) rfl rfl q
theorem rd_ixT2 {a b c : PyData} {ds : List PyData} (q : Φ c k) : RD K W (rIxT K) (.tuple (a :: b :: c :: ds)) (.int 2) ρ k Φ := rd_ixT (j := 2) rfl rfl q
theorem rd_ixTm {α : Type} {f : α → PyData} {xs : List α} {x : α} {j : Nat} (h : xs[j]? = some x) (q : Φ (f x) k) : RD K W (rIxT K) (.tuple (xs.map f)) (.int (j : Int)) ρ k Φ := rd_ixT (j := j) rfl (at_map h) q
theorem rd_ixX {ws : List Nat} {j : Nat} (hz : ws.length ≤ 100000) (h : j < ws.length) (q : Φ (.str ⟨#[97 + ws[j]]⟩) k) : RD K W rIxS (nX ws) (.int (j : Int)) ρ k Φ := rd_ixS (j := j) (c := 97 + ws[j]) (by rw [txt_len]; exact hz) rfl (by rw [txt_get]; simp [h]) q
theorem rc_lenX {ws : List Nat} (hz : ws.length ≤ 100000) (q : Φ (nI ws.length) k) : RCD K W (fun xs H Q => ∃ z, xs = [.str z] ∧ z.length ≤ sizeLine ∧ Q (.int z.length) H) [nX ws] ρ k Φ := rc_lenS (by rw [txt_len]; exact hz) (by rw [txt_len]; exact q)
theorem rsl_to {ws : List Nat} {n : Nat} (hz : ws.length ≤ 100000) (q : Φ (nX (ws.take n)) k) : RSl K W rSlS (nX ws) none (some (n : Int)) ρ k Φ := rsl_S (by rw [txt_len]; exact hz) (by rw [cut_to]; exact q)
theorem rsl_from {ws : List Nat} {n : Nat} (hz : ws.length ≤ 100000) (q : Φ (nX (ws.drop n)) k) : RSl K W rSlS (nX ws) (some (n : Int)) none ρ k Φ := rsl_S (by rw [txt_len]; exact hz) (by rw [cut_from]; exact q)
theorem rd_inX {c : Nat} {ws : List Nat} (q : Φ (.bool (decide (c ∈ ws))) k) : RD K W (fun x y H Q => ∃ (c : Nat) (z : Str), x = .str ⟨#[c]⟩ ∧ y = .str z ∧ Q (.bl (decide (c ∈ z.cps.toList))) H) (.str ⟨#[97 + c]⟩) (nX ws) ρ k Φ := rd_inS (by rw [txt_mem]; exact q)
theorem rd_ninX {c : Nat} {ws : List Nat} (q : Φ (.bool (!decide (c ∈ ws))) k) : RD K W (fun x y H Q => ∃ (c : Nat) (z : Str), x = .str ⟨#[c]⟩ ∧ y = .str z ∧ Q (.bl (!decide (c ∈ z.cps.toList))) H) (.str ⟨#[97 + c]⟩) (nX ws) ρ k Φ := rd_ninS (by rw [txt_mem]; exact q)
theorem rd_eqXX {a b : List Nat} (q : Φ (.bool (decide (a = b))) k) : RD K W rEq (nX a) (nX b) ρ k Φ := rd_eqX (by rw [txt_dec]; exact q)
theorem rd_neXX {a b : List Nat} (q : Φ (.bool (!decide (a = b))) k) : RD K W rNe (nX a) (nX b) ρ k Φ := rd_neX (by rw [txt_dec]; exact q)
end
/-! ### the deck's defs -/
theorem Deck.ext {H H' : Hp} {p q : Addr} {n : Nat} {M : List Addr} (d : Deck H p q n) (e : Ext M H H') (hp : p ∉ M) (hq : q ∉ M) : Deck H' p q n := by
  obtain ⟨cs, h, r⟩ := d.cells
  exact ⟨e _ _ hp d.top, cs, e _ _ hq h, r⟩
theorem Deck.same {H H' : Hp} {p q : Addr} {n : Nat} (d : Deck H p q n) (e : Same H H') : Deck H' p q n := d.ext (M := []) (Ext.same e) (by simp) (by simp)
def spDraw : Sp := fun vs H Q _ => ∃ (p q : Addr) (n : Nat) (many : Int), vs = [.ref p, .int many] ∧ Deck H p q n ∧ n ≤ 1000000000 ∧ 0 < many ∧ many ≤ 1000000000 ∧
  ∀ (H' : Hp) (r : Int), Deck H' p q (n + 1) → Ext [p, q] H H' → 0 ≤ r → r < many → Q (.int r) H'
def spDeck (K : PySem.W.Frag) : Sp := fun vs H Q _ => ∃ (a : Addr) (ns : List Int), vs = [.ref a] ∧ SqL K H a (ns.map V.int) ∧ ns.length ≤ 63 ∧
  ∀ (H' : Hp) (p q : Addr), H p = none → H q = none → Deck H' p q 0 → Same H H' → Q (.ref p) H'
def R_draw (ds : List PyData) (c : Nat) (G : PyData → Prop) : Prop := ∃ many : Int, ds = [.int many] ∧ 0 < many ∧ many ≤ 1000000000 ∧ c = 1 ∧ G = fun d => ∃ r : Nat, (r : Int) < many ∧ d = nI r
theorem FnOk.less {P : Program} {w : World} {K : PySem.W.Frag} {mg : Str → Option Value} {base : Heap} {k : Nat} {f : Addr} {fd : FuncData} {ps : List Str} {sp sp' : Sp} (F : FnOk P w K mg base CX0 k f fd ps sp) (h : ∀ vs H Q E, sp' vs H Q E → sp vs H Q E) : FnOk P w K mg base CX0 k f fd ps sp' :=
  ⟨fun vs H Q E g => F.len vs H Q E (h _ _ _ _ g), fun A o s H a us vs Q E hr e hb r g => F.run A o s H a us vs Q E hr e hb r (h _ _ _ _ g)⟩
section
variable {K : PySem.W.Frag} {W : Wd Nat} {p q : Addr} {ρ : Rho} {k : Nat} {Φ : PyData → Nat → Prop} {ta : L2.TA}
/-- a number drawn -/
theorem ev_draw [hd : HasD W p q] {i : Nat} (h0 : ρ[i]? = some (.raw (.ref p))) (h : EvA K W ta ρ k fun ds k1 => ∃ many : Int, ds = [.int many] ∧ 0 < many ∧ many ≤ 1000000000 ∧ k1 + 1 ≤ 1000000000 ∧ ∀ r : Nat, (r : Int) < many → Φ (nI r) (k1 + 1)) :
    EvW K W (tCall (spD K 2 R_draw) [] E0 (tCons (tVar i) ta)) ρ k Φ := ev_callD h0 fun L0 H0 L H σ S Q c => h L0 H0 L H σ S Q fun vs ds k1 H2 S2 e2 t2 g => c vs ds k1 H2 S2 e2 t2 (by
  obtain ⟨many, rfl, g0, g1, g2, g3⟩ := g
  exact ⟨rfl, 1, _, ⟨many, rfl, g0, g1, rfl, rfl⟩, g2, fun d ⟨r, hr, e⟩ => by rw [e]; exact g3 r hr⟩)
end
def R_one (ds : List PyData) (c : Nat) (G : PyData → Prop) : Prop := c = 1 ∧ ((∃ es, (ds = [.list es] ∨ ds = [.tuple es]) ∧ es ≠ [] ∧ es.length ≤ 1000 ∧ G = fun d => d ∈ es) ∨
  ∃ ws : List Nat, ds = [.str (txt ws)] ∧ ws ≠ [] ∧ ws.length ≤ 1000 ∧ G = fun d => ∃ x ∈ ws, d = .str (txt [x]))
def OneOk (Ψ : PyData → Prop) : PyData → Prop
  | .list es => es ≠ [] ∧ es.length ≤ 1000 ∧ ∀ d, d ∈ es → Ψ d
  | .tuple es => es ≠ [] ∧ es.length ≤ 1000 ∧ ∀ d, d ∈ es → Ψ d
  | .str z => ∃ ws, z = txt ws ∧ ws ≠ [] ∧ ws.length ≤ 1000 ∧ ∀ x, x ∈ ws → Ψ (.str (txt [x]))
  | _ => False
section
variable {K : PySem.W.Frag} {W : Wd Nat} {p q : Addr} {ρ : Rho} {k : Nat} {Φ : PyData → Nat → Prop} {ta : L2.TA}
/-- one of some -/
theorem ev_one [hd : HasD W p q] {i : Nat} (h0 : ρ[i]? = some (.raw (.ref p))) (h : EvA K W ta ρ k fun ds k1 => ∃ x, ds = [x] ∧ k1 + 1 ≤ 1000000000 ∧ OneOk (fun d => Φ d (k1 + 1)) x) :
    EvW K W (tCall (spD K 2 R_one) [] E0 (tCons (tVar i) ta)) ρ k Φ := ev_callD h0 fun L0 H0 L H σ S Q c => h L0 H0 L H σ S Q fun vs ds k1 H2 S2 e2 t2 g => c vs ds k1 H2 S2 e2 t2 (by
  obtain ⟨x, rfl, g0, g1⟩ := g
  refine ⟨rfl, 1, ?_⟩
  cases x with
  | list es => exact ⟨_, ⟨rfl, .inl ⟨es, .inl rfl, g1.1, g1.2.1, rfl⟩⟩, g0, g1.2.2⟩
  | tuple es => exact ⟨_, ⟨rfl, .inl ⟨es, .inr rfl, g1.1, g1.2.1, rfl⟩⟩, g0, g1.2.2⟩
  | str z =>
    obtain ⟨ws, rfl, a, b, g⟩ := g1
    exact ⟨_, ⟨rfl, .inr ⟨ws, rfl, a, b, rfl⟩⟩, g0, fun d ⟨y, hy, e⟩ => by rw [e]; exact g y hy⟩
  | _ => exact g1.elim)
end
section
variable {K : PySem.W.Frag} {γ : Type} {W : Wd γ} {ρ : Rho} {k : γ} {Φ : PyData → γ → Prop} {x y : PyData}
/-- an item of what may be a list, a tuple or a text -/
def nthD (x : PyData) (j : Nat) : Option PyData := match x with
  | .list es => es[j]?
  | .tuple es => es[j]?
  | .str z => z.cps[j]?.map fun c => .str ⟨#[c]⟩
  | _ => none
theorem rd_ixQ {i : Int} {j : Nat} {d : PyData} (hi : i = (j : Int)) (hz : sizeOk x) (h : nthD x j = some d) (q : Φ d k) : RD K W (rIx K) x (.int i) ρ k Φ := rd_ q fun N H vx vy tx ty Q c => by
  subst hi
  cases ty
  cases tx with
  | lst n ha t =>
    obtain ⟨v, h1, h2⟩ := t.at h
    exact .inl ⟨_, _, _, v, rfl, rfl, SqL.of ha, atI_nat h1, c v h2⟩
  | tup n ha t =>
    obtain ⟨v, h1, h2⟩ := t.at h
    exact .inr (.inl ⟨_, _, _, v, rfl, rfl, SqT.of ha, atI_nat h1, c v h2⟩)
  | str z =>
    obtain ⟨cc, h1, rfl⟩ := Option.map_eq_some_iff.mp h
    exact .inr (.inr ⟨z, _, cc, rfl, rfl, Nat.le_trans hz (by decide), atI_nat (by simpa using h1), c _ (.str _)⟩)
  | _ => cases h
end

theorem fine_X {n : Nat} {ws : List Nat} (h : ∀ c ∈ ws, c < 1000) (hn : ws.length ≤ n) : Fine n 0 (nX ws) := by
  refine ⟨rfl, ?_, by show (txt ws).cps.size ≤ n; rw [txt_size]; exact hn, Nat.le_refl _⟩
  show ((txt ws).cps.toList.all fun c => decide (c < 16 ^ 8)) = true
  rw [List.all_eq_true]
  intro c hc
  obtain ⟨d, hd, rfl⟩ : ∃ d ∈ ws, c = 97 + d := by
    unfold txt at hc
    simp only [List.mem_map] at hc
    obtain ⟨d, hd, e⟩ := hc
    exact ⟨d, hd, e.symm⟩
  have := h d hd
  have h2 : (1100 : Nat) < 16 ^ 8 := by decide
  exact decide_eq_true (by omega)
section
variable {K : PySem.W.Frag} {γ : Type} {W : Wd γ} {ρ : Rho} {k : γ} {Φ : PyData → γ → Prop}
theorem rd_neX0 {a : List Nat} (q : Φ (.bool (!decide (a = []))) k) : RD K W rNe (nX a) (.str (Str.ofString "")) ρ k Φ := by rw [txt_nil]; exact rd_neXX q
theorem rd_eqX0 {a : List Nat} (q : Φ (.bool (decide (a = []))) k) : RD K W rEq (nX a) (.str (Str.ofString "")) ρ k Φ := by rw [txt_nil]; exact rd_eqXX q
end
/-! ### slots forgotten -/
inductive Le : Rho → Rho → Prop
  | nil : Le [] []
  | no {s : Slot} {a b : Rho} : Le a b → Le (.no :: a) (s :: b)
  | same {s : Slot} {a b : Rho} : Le a b → Le (s :: a) (s :: b)
theorem Le.refl : ∀ (a : Rho), Le a a
  | [] => .nil
  | _ :: a => .same (Le.refl a)
theorem Le.len : ∀ {a b : Rho}, Le a b → a.length = b.length
  | _, _, .nil => rfl
  | _, _, .no h => by rw [List.length_cons, List.length_cons, h.len]
  | _, _, .same h => by rw [List.length_cons, List.length_cons, h.len]
theorem Le.get : ∀ {a b : Rho}, Le a b → ∀ (i : Nat) (s : Slot), a[i]? = some s → s = .no ∨ b[i]? = some s
  | _, _, .nil, i, s, h => by simp at h
  | _, _, .no g, 0, s, h => by simp at h; exact .inl h.symm
  | _, _, .no g, i + 1, s, h => by simpa using g.get i s (by simpa using h)
  | _, _, .same g, 0, s, h => by simp at h; exact .inr (by simp [h])
  | _, _, .same g, i + 1, s, h => by simpa using g.get i s (by simpa using h)
section
variable {K : PySem.W.Frag} {γ : Type} {W : Wd γ} {ρ : Rho} {k : γ} {P : Ps γ} {g : TG} {a b : TS} {wi : TI} {tt : TT}
theorem Stt.le {L0 L : List Addr} {H0 H : Hp} {σ : L2.St} {ρ0 : Rho} (S : Stt K W L0 H0 L H σ ρ k) (l : Le ρ0 ρ) : Stt K W L0 H0 L H σ ρ0 k := S.weaken l.len l.get
theorem sw_wk (h : SW K W a ρ k { P with nx := fun ρ' k' => ∃ ρ0, Le ρ0 ρ' ∧ P.nx ρ0 k' }) : SW K W a ρ k P := fun L0 H0 L H σ D S nx rt bk ct =>
  h L0 H0 L H σ D S (fun L' H' σ' ρ' k' S' ⟨ρ0, l, q⟩ => nx L' H' σ' ρ0 k' (S'.le l) q) rt bk ct
theorem sw_le {ρ0 : Rho} (l : Le ρ0 ρ) (h : SW K W a ρ0 k P) : SW K W a ρ k P := fun L0 H0 L H σ D S nx rt bk ct => h L0 H0 L H σ D (S.le l) nx rt bk ct
theorem tg_le {js : Nat → Prop} {d : PyData} {Ψ : Rho → Prop} {ρ0 : Rho} (l : Le ρ0 ρ) (h : TgW K W g js d ρ0 Ψ) : TgW K W g js d ρ Ψ := fun L0 H0 L H σ k v S t Q c => h L0 H0 L H σ k v (S.le l) t Q c
/-- for, slots forgotten at each turn -/
theorem sw_forW (h : EvI K W wi ρ k fun n f k1 => ∃ J : Nat → Rho → γ → Prop, (∃ ρ0, Le ρ0 ρ ∧ J 0 ρ0 k1) ∧
      (∀ i ρ1 k2, i < n → J i ρ1 k2 → TgW K W g (fun _ => True) (f i) ρ1 fun ρ2 => SW K W b ρ2 k2 { P with nx := fun ρ' k' => ∃ ρ0, Le ρ0 ρ' ∧ J (i + 1) ρ0 k', ct := fun ρ' k' => ∃ ρ0, Le ρ0 ρ' ∧ J (i + 1) ρ0 k', bk := P.nx }) ∧ ∀ ρ1 k2, J n ρ1 k2 → P.nx ρ1 k2) : SW K W (tFor wi g b) ρ k P :=
  sw_wk (sw_for fun L0 H0 L H σ S R c => h L0 H0 L H σ S R fun J n f k' H2 S2 e wd ⟨Jv, j0, turn, done⟩ => c J n f k' H2 S2 e wd
    ⟨fun i ρ k => ∃ ρ0, Le ρ0 ρ ∧ Jv i ρ0 k, j0, fun i ρ1 k2 hi ⟨ρ0, l, j⟩ => tg_le l (fun L0 H0 L H σ k v S t Q c => turn i ρ0 k2 hi j L0 H0 L H σ k v S t Q fun σ' ρ' S' a b body => c σ' ρ' S' a b
      (body.mono (fun _ _ q => q) (fun _ _ q => q) (fun ρ k q => ⟨ρ, Le.refl ρ, q⟩) (fun _ _ q => q))), fun ρ1 k2 ⟨ρ0, l, j⟩ => ⟨ρ0, l, done ρ0 k2 j⟩⟩)
end
/-! ### a law -/
def spLaw (K : PySem.W.Frag) : Sp := fun vs H Q _ => ∃ (a : Addr) (ns : List Int), vs = [.ref a] ∧ SqL K H a (ns.map V.int) ∧ ns.length ≤ 63 ∧ ∀ H', Q (.bl true) H'
theorem spLaw.len {K : PySem.W.Frag} {vs : List V} {H : Hp} {Q : VK} {E : XK} (h : spLaw K vs H Q E) : vs.length = 1 := by
  obtain ⟨_, _, rfl, _⟩ := h
  rfl
theorem spLaw.ok {K : PySem.W.Frag} {N : List Str} {vs : List V} {H : Hp} {Q : VK} {E : XK} {rest : TS} (n : Nat) (hN : N.length = n + 2) (h : spLaw K vs H Q E)
    (hb : ∀ (M : List Addr) (p q : Addr) (hp : p ∈ M) (hq : q ∈ M) (Hs : Hp) (tr : Trk M Hs), SW K (deckW M p q Hs tr hp hq) rest (.no :: .raw (.ref p) :: List.replicate n .no) 0 ⟨fun _ _ => False, fun d _ => d = .bool true, fun _ _ => False, fun _ _ => False⟩) :
    tSeq (tAsg (tCall (spDeck K) [] E0 (tCons (tVar 0) tNil)) (gName 1)) rest { nx := fun _ H' => Q .non H', rt := Q } (L2.start N vs) H := by
  obtain ⟨a, ns, rfl, hS, hl, k⟩ := h
  refine ⟨.ref a, start_get (by simp), a, ns, rfl, hS, hl, fun H' p q hp0 hq0 dk sm => ?_⟩
  have tr : Trk [p, q] H' := fun b hb z => by
    rcases List.mem_cons.mp hb with rfl | hb
    · rw [dk.top] at z; cases z
    · have : b = q := by simpa using hb
      subst this
      obtain ⟨cs, hc, _⟩ := dk.cells
      rw [hc] at z; cases z
  have es : L2.start N [.ref a] = some (.ref a) :: none :: List.replicate n none := by
    unfold L2.start
    rw [hN]
    show some (V.ref a) :: List.replicate (n + 1) none = _
    rfl
  show rest _ ((L2.start N [.ref a]).set 1 (some (.ref p))) H'
  rw [es]
  have S : Stt K (deckW [p, q] p q H' tr (by simp) (by simp)) [] H' [] H' (some (.ref a) :: some (.ref p) :: List.replicate n none) (.no :: .raw (.ref p) :: List.replicate n .no) 0 := by
    have get_ : ∀ (i : Nat) (s : Slot), (Slot.no :: Slot.raw (.ref p) :: List.replicate n Slot.no)[i]? = some s → s = .no ∨ (i = 1 ∧ s = .raw (.ref p)) := fun i s hs => by
      match i, hs with
      | 0, hs => left; simpa using hs.symm
      | 1, hs => right; exact ⟨rfl, by simpa using hs.symm⟩
      | i + 2, hs => left; exact List.eq_of_mem_replicate (List.mem_of_getElem? (by simpa using hs))
    refine ⟨Ext.refl _ _, (fun l hl => nomatch hl), (fun l hl => nomatch hl), tr, ⟨⟨0, Nat.le_refl _, dk⟩, fun b _ _ _ => rfl⟩, by simp, fun i s hs => ?_, fun i j s u hs hu h1 _ _ => ?_⟩
    · rcases get_ i s hs with rfl | ⟨rfl, rfl⟩
      · trivial
      · rfl
    · rcases get_ i s hs with rfl | ⟨rfl, rfl⟩ <;> cases h1
  refine hb [p, q] p q (by simp) (by simp) H' tr [] H' [] H' _ _ S (fun _ _ _ _ _ _ z => z.elim) (fun v d k' H2 _ _ t e => ?_) (fun _ _ _ _ _ _ z => z.elim) (fun _ _ _ _ _ _ z => z.elim)
  subst e
  cases t
  exact k H2
abbrev sp_law (K : PySem.W.Frag) : Sp := spLaw K
theorem sp_law_end {K : PySem.W.Frag} {H : Hp} {a : Addr} {ns : List Int} (hl : ns.length ≤ 63) (hS : SqL K H a (ns.map V.int)) : sp_law K [.ref a] H (fun v _ => v = .bl true) E0 := ⟨a, ns, rfl, hS, hl, fun _ => rfl⟩
end U

set_option Elab.async false
set_option linter.all false
set_option maxRecDepth 100000
set_option maxHeartbeats 2000000
namespace U
open PySem PySem.Spec PyProof.Rows L2
/-! ### dicts of one's own -/
def keyD : Key → PyData
  | .inl i => .int i
  | .inr x => .str x
def lookD (kvs : List (Key × PyData)) (k : Key) : Option PyData := (kvs.find? fun kv => decide (kv.1 = k)).map (·.2)
def putD (kvs : List (Key × PyData)) (k : Key) (d : PyData) : List (Key × PyData) := if (kvs.any fun kv => decide (kv.1 = k)) = true then kvs.map (fun kv => if kv.1 = k then (kv.1, d) else kv) else kvs ++ [(k, d)]
theorem lookD_cons (p : Key × PyData) (kvs : List (Key × PyData)) (j : Key) : lookD (p :: kvs) j = if p.1 = j then some p.2 else lookD kvs j := by
  unfold lookD
  by_cases e : p.1 = j <;> simp [e]
theorem lookD_any (kvs : List (Key × PyData)) (k : Key) : (kvs.any fun kv => decide (kv.1 = k)) = (lookD kvs k).isSome := by
  induction kvs with
  | nil => rfl
  | cons p r ih =>
    rw [List.any_cons, lookD_cons, ih]
    by_cases e : p.1 = k <;> simp [e]
theorem lookD_map (k j : Key) (d : PyData) (kvs : List (Key × PyData)) : lookD (kvs.map fun kv => if kv.1 = k then (kv.1, d) else kv) j = (lookD kvs j).map fun x => if j = k then d else x := by
  induction kvs with
  | nil => rfl
  | cons p r ih =>
    rw [List.map_cons, lookD_cons, lookD_cons, ih]
    by_cases e : p.1 = k
    · rw [if_pos e]
      by_cases f : p.1 = j
      · rw [if_pos f, if_pos f, Option.map_some, if_pos (f.symm.trans e)]
      · rw [if_neg f, if_neg f]
    · rw [if_neg e]
      by_cases f : p.1 = j
      · rw [if_pos f, if_pos f, Option.map_some, if_neg (fun z => e (f.trans z))]
      · rw [if_neg f, if_neg f]
theorem lookD_app (k j : Key) (d : PyData) (kvs : List (Key × PyData)) (h : lookD kvs k = none) : lookD (kvs ++ [(k, d)]) j = if j = k then some d else lookD kvs j := by
  induction kvs with
  | nil =>
    rw [List.nil_append, lookD_cons]
    by_cases e : k = j
    · rw [if_pos e, if_pos e.symm]
    · rw [if_neg e, if_neg (fun z => e z.symm)]
  | cons p r ih =>
    rw [lookD_cons] at h
    by_cases e : p.1 = k
    · rw [if_pos e] at h; cases h
    · rw [if_neg e] at h
      rw [List.cons_append, lookD_cons, lookD_cons, ih h]
      by_cases f : p.1 = j
      · rw [if_pos f, if_pos f, if_neg (fun z => e (f.trans z))]
      · rw [if_neg f, if_neg f]
theorem lookD_put (kvs : List (Key × PyData)) (k j : Key) (d : PyData) : lookD (putD kvs k d) j = if j = k then some d else lookD kvs j := by
  unfold putD
  rw [lookD_any]
  cases h : lookD kvs k with
  | none => simp only [Option.isSome_none, Bool.false_eq_true, if_false]; exact lookD_app k j d kvs h
  | some x =>
    simp only [Option.isSome_some, if_true]
    rw [lookD_map]
    by_cases e : j = k
    · subst e; simp [h]
    · cases lookD kvs j <;> simp [e]
theorem length_putD (kvs : List (Key × PyData)) (k : Key) (d : PyData) : (putD kvs k d).length ≤ kvs.length + 1 := by
  unfold putD
  split <;> simp
theorem keys_putD (kvs : List (Key × PyData)) (k : Key) (d : PyData) (h : lookD kvs k = none) : putD kvs k d = kvs ++ [(k, d)] := by
  unfold putD
  rw [lookD_any, h]
  simp
section
variable {K : PySem.W.Frag} {N : List Addr} {H : Hp}
theorem keyD_T {v : V} {key : Key} (t : T K N H v (keyD key)) : v = kV key := by
  cases key with
  | inl i => cases t; rfl
  | inr x => cases t; rfl
theorem T_keyD (key : Key) : T K N H (kV key) (keyD key) := by
  cases key with
  | inl i => exact .int i
  | inr x => exact .str x
theorem KD.len {vs : List (Key × V)} {ds : List (Key × PyData)} (h : KD K N H vs ds) : vs.length = ds.length := by
  induction h with
  | nil => rfl
  | cons _ _ ih => rw [List.length_cons, List.length_cons, ih]
theorem KD.look {vs : List (Key × V)} {ds : List (Key × PyData)} (h : KD K N H vs ds) (key : Key) : (valV vs key = none ∧ lookD ds key = none) ∨ ∃ v d, valV vs key = some v ∧ lookD ds key = some d ∧ T K N H v d := by
  induction h with
  | nil => exact .inl ⟨rfl, rfl⟩
  | @cons k v d vs ds t h ih =>
    unfold valV lookD at ih ⊢
    by_cases e : k = key
    · right
      refine ⟨v, d, ?_, ?_, t⟩ <;> simp [e]
    · simp only [List.find?_cons, decide_eq_false e]
      exact ih
theorem KD.at {vs : List (Key × V)} {ds : List (Key × PyData)} (h : KD K N H vs ds) : ∀ (i : Nat) (key : Key) (v : V), vs[i]? = some (key, v) → ∃ d, ds[i]? = some (key, d) := by
  induction h with
  | nil => intro i key v e; simp at e
  | @cons k v d vs ds t h ih =>
    intro i key u e
    cases i with
    | zero =>
      simp only [List.getElem?_cons_zero, Option.some.injEq, Prod.mk.injEq] at e
      exact ⟨d, by simp [e.1]⟩
    | succ i => simpa using ih i key u (by simpa using e)
end
section
variable {K : PySem.W.Frag} {N : List Addr} {H : Hp}
theorem KD.anyk {vs : List (Key × V)} {ds : List (Key × PyData)} (h : KD K N H vs ds) (key : Key) : (vs.any fun kv => decide (kv.1 = key)) = ds.any fun kv => decide (kv.1 = key) := by
  induction h with
  | nil => rfl
  | cons _ _ ih => rw [List.any_cons, List.any_cons, ih]
theorem KD.put {vs : List (Key × V)} {ds : List (Key × PyData)} (h : KD K N H vs ds) (key : Key) {v : V} {d : PyData} (t : T K N H v d) : KD K N H (putK vs key v) (putD ds key d) := by
  unfold putK putD
  rw [h.anyk]
  split
  · rename_i hh; clear hh
    induction h with
    | nil => exact .nil
    | @cons k x y vs ds tx h ih =>
      rw [List.map_cons, List.map_cons]
      by_cases e : k = key
      · simp only [e, if_true]; exact .cons t ih
      · simp only [e, if_false]; exact .cons tx ih
  · rename_i hh; clear hh
    induction h with
    | nil => exact .cons t .nil
    | cons tx h ih => exact .cons tx ih
end
section
variable {K : PySem.W.Frag} {γ : Type} {W : Wd γ} {ρ : Rho} {k : γ} {Φ : PyData → γ → Prop} {P : Ps γ} {ty tv te : TE} {i : Nat} {kvs : List (Key × PyData)}
/-- the dict of a slot, locked or not -/
def DSlot (kvs : List (Key × PyData)) (s : Slot) : Prop := s = .ownD kvs ∨ s = .lck kvs
theorem Stt.dict {L0 L : List Addr} {H0 H : Hp} {σ : L2.St} {s : Slot} (S : Stt K W L0 H0 L H σ ρ k) (h : ρ[i]? = some s) (hd : DSlot kvs s) : ∃ l vs, σ[i]? = some (some (.ref l)) ∧ l ∈ L ∧ Rd H l (.dK vs) ∧ KD K (L ++ W.M) H vs kvs := by
  have q := S.slots i s h
  rcases hd with rfl | rfl
  · obtain ⟨l, vs, h1, h2, h3, h4⟩ := q
    exact ⟨l, vs, h1, h2, .inl h3, h4⟩
  · obtain ⟨l, vs, od, h1, h2, h3, h4⟩ := q
    exact ⟨l, vs, h1, h2, .inr ⟨od, h3⟩, h4⟩
theorem ref_eq {o : Option (Option V)} {a b : Addr} (h1 : o = some (some (.ref a))) (h2 : o = some (some (.ref b))) : a = b := by
  rw [h1] at h2
  injection h2 with h2; injection h2 with h2; injection h2
/-- d[k], there -/
theorem ev_dget {s : Slot} (h0 : ρ[i]? = some s) (hd : DSlot kvs s) (h : EvW K W ty ρ k fun x k1 => ∃ key d, x = keyD key ∧ lookD kvs key = some d ∧ Φ d k1) : EvW K W (tDGet (tVar i) ty) ρ k Φ := fun L0 H0 L H σ S Q c => by
  obtain ⟨l, vs, e1, e2, e3, e4⟩ := S.dict h0 hd
  refine ⟨_, e1, h L0 H0 L H σ S _ fun v x k1 H1 S1 e t g => ?_⟩
  obtain ⟨key, d, rfl, hl, q⟩ := g
  obtain ⟨l', vs', f1, f2, f3, f4⟩ := S1.dict h0 hd
  obtain rfl := ref_eq e1 f1
  rcases f4.look key with ⟨_, z⟩ | ⟨u, d', h1, h2, h3⟩
  · rw [z] at hl; cases hl
  · rw [h2] at hl
    cases hl
    exact ⟨l, u, rfl, .inl ⟨vs', key, f3, keyD_T t, h1.symm⟩, c u d k1 H1 S1 e h3 q⟩
/-- d.get(k) -/
theorem ev_dget1 {s : Slot} (h0 : ρ[i]? = some s) (hd : DSlot kvs s) (h : EvW K W ty ρ k fun x k1 => ∃ key, x = keyD key ∧ Φ ((lookD kvs key).getD .none) k1) : EvW K W (tDGet1 (tVar i) ty) ρ k Φ := fun L0 H0 L H σ S Q c => by
  obtain ⟨l, vs, e1, e2, e3, e4⟩ := S.dict h0 hd
  refine ⟨_, e1, l, rfl, .inl ⟨vs, e3⟩, h L0 H0 L H σ S _ fun v x k1 H1 S1 e t g => ?_⟩
  obtain ⟨key, rfl, q⟩ := g
  obtain ⟨l', vs', f1, f2, f3, f4⟩ := S1.dict h0 hd
  obtain rfl := ref_eq e1 f1
  rcases f4.look key with ⟨h1, z⟩ | ⟨u, d', h1, h2, h3⟩
  · refine ⟨none, .inl ⟨vs', key, f3, keyD_T t, h1.symm⟩, c .non .none k1 H1 S1 e .non ?_⟩
    rw [z] at q
    exact q
  · refine ⟨some u, .inl ⟨vs', key, f3, keyD_T t, h1.symm⟩, c u d' k1 H1 S1 e h3 ?_⟩
    rw [h2] at q
    exact q
/-- k in d -/
theorem ev_din {s : Slot} (h0 : ρ[i]? = some s) (hd : DSlot kvs s) (h : EvW K W ty ρ k fun x k1 => ∃ key, x = keyD key ∧ Φ (.bool (lookD kvs key).isSome) k1) : EvW K W (tDIn ty (tVar i)) ρ k Φ := fun L0 H0 L H σ S Q c =>
  h L0 H0 L H σ S _ fun v x k1 H1 S1 e t g => by
    obtain ⟨key, rfl, q⟩ := g
    obtain ⟨l', vs', f1, f2, f3, f4⟩ := S1.dict h0 hd
    rcases f4.look key with ⟨h1, z⟩ | ⟨u, d', h1, h2, h3⟩
    · refine ⟨_, f1, l', none, rfl, .inl ⟨vs', key, f3, keyD_T t, h1.symm⟩, c _ _ k1 H1 S1 e (.bl _) ?_⟩
      rw [z] at q
      exact q
    · refine ⟨_, f1, l', some u, rfl, .inl ⟨vs', key, f3, keyD_T t, h1.symm⟩, c _ _ k1 H1 S1 e (.bl _) ?_⟩
      rw [h2] at q
      exact q
theorem ev_dnin {s : Slot} (h0 : ρ[i]? = some s) (hd : DSlot kvs s) (h : EvW K W ty ρ k fun x k1 => ∃ key, x = keyD key ∧ Φ (.bool (!(lookD kvs key).isSome)) k1) : EvW K W (tDNotIn ty (tVar i)) ρ k Φ := fun L0 H0 L H σ S Q c =>
  h L0 H0 L H σ S _ fun v x k1 H1 S1 e t g => by
    obtain ⟨key, rfl, q⟩ := g
    obtain ⟨l', vs', f1, f2, f3, f4⟩ := S1.dict h0 hd
    rcases f4.look key with ⟨h1, z⟩ | ⟨u, d', h1, h2, h3⟩
    · refine ⟨_, f1, l', none, rfl, .inl ⟨vs', key, f3, keyD_T t, h1.symm⟩, c _ _ k1 H1 S1 e (.bl _) ?_⟩
      rw [z] at q
      exact q
    · refine ⟨_, f1, l', some u, rfl, .inl ⟨vs', key, f3, keyD_T t, h1.symm⟩, c _ _ k1 H1 S1 e (.bl _) ?_⟩
      rw [h2] at q
      exact q
/-- d[k] = v -/
theorem sw_dput (h0 : ρ[i]? = some (.ownD kvs)) (h : EvW K W tv ρ k fun d k1 => EvW K W ty ρ k1 fun x k2 => ∃ key, x = keyD key ∧ kvs.length < 100000 ∧ P.nx (ρ.set i (.ownD (putD kvs key d))) k2) : SW K W (sDPut (tVar i) ty tv) ρ k P := fun L0 H0 L H σ D S nx _ _ _ =>
  h L0 H0 L H σ S _ fun v d k1 H1 S1 ee t g => by
    obtain ⟨l, vs, e1, e2, e3, e4⟩ := S1.slots i _ h0
    refine ⟨_, e1, g L0 H0 L H1 σ S1 _ fun u x k2 H2 S2 ee2 t2 g2 => ?_⟩
    obtain ⟨key, rfl, hl, q⟩ := g2
    obtain ⟨l', vs', f1, f2, f3, f4⟩ := S2.slots i _ h0
    obtain rfl := ref_eq e1 f1
    refine ⟨l, _, rfl, .inl ⟨vs', key, f3, keyD_T t2, Nat.lt_of_le_of_lt (show vs'.length ≤ 99999 by rw [f4.len]; omega) (by decide), rfl⟩, ?_⟩
    exact nx _ _ _ _ _ (S2.put (s1 := .ownD (putD kvs key d)) h0 rfl rfl f1 f2 ⟨l, _, rfl, f2, upd_same, (f4.put key (t.ext (eM ee2))).map fun _ _ t => t.ext (Ext.put (List.mem_append_left _ f2))⟩) q
/-- x = {k: v} -/
theorem sw_disp1 {tk : TE} {key : Key} (htk : tk = tC (kV key)) (h : EvW K W tv ρ k fun d k1 => P.nx (ρ.set i (.ownD [(key, d)])) k1) : SW K W (tAsg (tDisp [(tk, tv)]) (gName i)) ρ k P := fun L0 H0 L H σ D S nx _ _ _ => by
  intro p hp
  subst htk
  obtain ⟨S1, nat⟩ := S.hide (o := .dK []) hp
  refine h L0 H0 (p :: L) _ σ S1 _ fun v d k1 H1 S2 e t g => ?_
  have npM : p ∉ W.M := fun z => S.nin hp (List.mem_append_right _ z)
  have hp1 : H1 p = some (.dK []) := e p _ npM upd_same
  refine ⟨hp1, [(key, v)], rfl, (show 1 ≤ 15 by decide), ?_⟩
  have S3 := S2.putHid (o := .dK [(key, v)]) nat
  have tv' : T K (p :: L ++ W.M) (upd H1 p (.dK [(key, v)])) v d := t.ext (Ext.put (by simp))
  have eqs : (mergeK [] [(key, v)]) = [(key, v)] := rfl
  rw [eqs]
  have il : ∀ {s : Slot}, (ρ.set i (.ownD [(key, d)]))[i]? = some s → s = .ownD [(key, d)] ∧ i < σ.length := fun {s} hs => by
    rw [List.getElem?_set_self'] at hs
    cases q : ρ[i]? with
    | none => rw [q] at hs; cases hs
    | some u =>
      rw [q] at hs
      have hs' : Slot.ownD [(key, d)] = s := by simpa using hs
      exact ⟨hs'.symm, by rw [← S.len]; exact (List.getElem?_eq_some_iff.mp q).1⟩
  refine nx _ _ _ _ _ ⟨S3.base, S3.fresh, S3.offM, S3.trk, S3.wd, by rw [List.length_set, List.length_set]; exact S.len, fun j s hs => ?_, fun j m s u hs hu h1 h2 h3 => ?_⟩ g
  · by_cases ej : j = i
    · subst ej
      obtain ⟨rfl, hl⟩ := il hs
      have : (σ.set j (some (V.ref p)))[j]? = some (some (.ref p)) := by simp [hl]
      rw [this]
      exact ⟨p, _, rfl, by simp, upd_same, .cons tv' .nil⟩
    · rw [List.getElem?_set_ne (fun z => ej z.symm)] at hs ⊢
      exact S3.slots j s hs
  · by_cases ej : j = i
    · by_cases em : m = i
      · rw [ej, em]
      · exfalso
        subst ej
        obtain ⟨_, hl⟩ := il hs
        rw [List.getElem?_set_ne (fun z => em z.symm)] at hu h3
        rw [show (σ.set j (some (V.ref p)))[j]? = some (some (.ref p)) by simp [hl]] at h3
        exact nat m u hu h2 h3.symm
    · by_cases em : m = i
      · exfalso
        subst em
        obtain ⟨_, hl⟩ := il hu
        rw [List.getElem?_set_ne (fun z => ej z.symm)] at hs h3
        rw [show (σ.set m (some (V.ref p)))[m]? = some (some (.ref p)) by simp [hl]] at h3
        exact nat j s hs h1 h3
      · rw [List.getElem?_set_ne (fun z => ej z.symm)] at hs h3
        rw [List.getElem?_set_ne (fun z => em z.symm)] at hu h3
        exact S3.dis j m s u hs hu h1 h2 h3
/-- a comprehension over the keys: the dict is locked meanwhile -/
theorem ev_lock (h0 : ρ[i]? = some (.ownD kvs)) (h : EvW K W te (ρ.set i (.lck kvs)) k Φ) : EvW K W (tLockE te) ρ k Φ := fun L0 H0 L H σ S Q c => by
  obtain ⟨l, vs, e1, e2, e3, e4⟩ := S.slots i _ h0
  refine ⟨l, .dK vs, e3, trivial, fun od => ?_⟩
  have nM := S.offM l e2
  have S1 : Stt K W L0 H0 L (upd H l (.frz od (.dK vs))) σ (ρ.set i (.lck kvs)) k := S.put (s1 := .lck kvs) h0 rfl rfl e1 e2 ⟨l, vs, od, rfl, e2, upd_same, e4.map fun _ _ t => t.ext (Ext.put (List.mem_append_left _ e2))⟩
  refine h L0 H0 L _ σ S1 _ fun v d k1 H1 S2 e t q => ?_
  have h1 : H1 l = some (.frz od (.dK vs)) := e l _ nM upd_same
  refine ⟨h1, ?_⟩
  have hi1 : (ρ.set i (.lck kvs))[i]? = some (.lck kvs) := by simp [(List.getElem?_eq_some_iff.mp h0).1]
  have f4 : KD K (L ++ W.M) H1 vs kvs := e4.map fun _ _ t => (t.ext (Ext.put (List.mem_append_left _ e2))).ext (eM e)
  have S3 := S2.put (o := .dK vs) (s1 := .ownD kvs) hi1 rfl rfl e1 e2 ⟨l, vs, rfl, e2, upd_same, f4.map fun _ _ t => t.ext (Ext.put (List.mem_append_left _ e2))⟩
  have back : (ρ.set i (.lck kvs)).set i (.ownD kvs) = ρ := by
    rw [List.set_set]
    apply List.ext_getElem?
    intro j
    by_cases ej : i = j
    · subst ej
      rw [List.getElem?_set_self', h0]
      rfl
    · rw [List.getElem?_set_ne ej]
  rw [back] at S3
  refine c v d k1 _ S3 (fun b o nb hb => ?_) (t.ext (Ext.put (List.mem_append_left _ e2))) q
  by_cases eb : b = l
  · subst eb
    rw [upd_same, ← hb, e3]
  · rw [upd_ne eb]
    refine e b o nb ?_
    rw [upd_ne eb]
    exact hb
/-- x = [.. for k in d ..] -/
theorem sw_lockA {j : Nat} (hij : i ≠ j) (h0 : ρ[i]? = some (.ownD kvs)) (h : EvW K W te (ρ.set i (.lck kvs)) k fun d k1 => P.nx (ρ.set j (.dat d)) k1) : SW K W (tLock (tAsg te (gName j))) ρ k P := fun L0 H0 L H σ D S nx _ _ _ => by
  obtain ⟨l, vs, e1, e2, e3, e4⟩ := S.slots i _ h0
  refine ⟨l, .dK vs, e3, trivial, fun od => ?_⟩
  have nM := S.offM l e2
  have S1 : Stt K W L0 H0 L (upd H l (.frz od (.dK vs))) σ (ρ.set i (.lck kvs)) k := S.put (s1 := .lck kvs) h0 rfl rfl e1 e2 ⟨l, vs, od, rfl, e2, upd_same, e4.map fun _ _ t => t.ext (Ext.put (List.mem_append_left _ e2))⟩
  refine h L0 H0 L _ σ S1 _ fun v d k1 H1 S2 e t q => ?_
  have h1 : H1 l = some (.frz od (.dK vs)) := e l _ nM upd_same
  refine ⟨h1, ?_⟩
  have hi1 : (ρ.set i (.lck kvs))[i]? = some (.lck kvs) := by simp [(List.getElem?_eq_some_iff.mp h0).1]
  have f4 : KD K (L ++ W.M) H1 vs kvs := e4.map fun _ _ t => (t.ext (Ext.put (List.mem_append_left _ e2))).ext (eM e)
  have S3 := S2.put (o := .dK vs) (s1 := .ownD kvs) hi1 rfl rfl e1 e2 ⟨l, vs, rfl, e2, upd_same, f4.map fun _ _ t => t.ext (Ext.put (List.mem_append_left _ e2))⟩
  have back : (ρ.set i (.lck kvs)).set i (.ownD kvs) = ρ := by
    rw [List.set_set]
    apply List.ext_getElem?
    intro j
    by_cases ej : i = j
    · subst ej
      rw [List.getElem?_set_self', h0]
      rfl
    · rw [List.getElem?_set_ne ej]
  rw [back] at S3
  exact nx _ _ _ _ _ (S3.set j (t.ext (Ext.put (List.mem_append_left _ e2)))) q
theorem ex_keys {Ω : Nat → (Nat → PyData) → γ → Prop} (h0 : ρ[i]? = some (.lck kvs)) (q : Ω kvs.length (fun j => (kvs[j]?.map fun p => keyD p.1).getD .none) k) : EvX K W (iKeys (tVar i)) ρ k Ω := fun L0 H0 L H σ S R c => by
  obtain ⟨l, vs, od, e1, e2, e3, e4⟩ := S.slots i _ h0
  have nM := S.offM l e2
  have hl := e4.len
  refine ⟨_, e1, l, od, rfl, .inl ⟨vs, e3, c _ _ _ k H S (Ext.refl _ _) ?_ q⟩⟩
  refine ⟨fun i' L' H' hi _ e => ⟨e l _ nM e3, by rw [hl]; exact hi⟩, fun L' H' _ e => ⟨e l _ nM e3, Nat.le_of_eq hl⟩, fun i' L' H' x H'' hi _ e y => ?_⟩
  obtain ⟨rfl, key, v, h1, rfl⟩ := y
  obtain ⟨d, h2⟩ := e4.at i' key v h1
  refine ⟨Same.refl _, ?_⟩
  show T K _ _ _ ((kvs[i']?.map fun p => keyD p.1).getD .none)
  rw [h2]
  exact T_keyD key
theorem rc_min {ds : List PyData} (ns : List Int) (h : ds = ns.map .int) (hl : 0 < ns.length) (q : ∀ m, m ∈ ns → (∀ y, y ∈ ns → m ≤ y) → Φ (.int m) k) : RCD K W (rMin K) [.list ds] ρ k Φ := fun L0 H0 L H σ vs S t Q c => by
  subst h
  obtain ⟨v, rfl, t1⟩ := t.one_
  cases t1 with
  | lst n ha t2 =>
    have e := t2.ints_
    subst e
    exact ⟨_, ns, rfl, SqL.of ha, hl, fun m h1 h2 => c _ _ k H S (Ext.refl _ _) (.int m) (q m h1 h2)⟩
theorem rc_max {ds : List PyData} (ns : List Int) (h : ds = ns.map .int) (hl : 0 < ns.length) (q : ∀ m, m ∈ ns → (∀ y, y ∈ ns → y ≤ m) → Φ (.int m) k) : RCD K W (rMax K) [.list ds] ρ k Φ := fun L0 H0 L H σ vs S t Q c => by
  subst h
  obtain ⟨v, rfl, t1⟩ := t.one_
  cases t1 with
  | lst n ha t2 =>
    have e := t2.ints_
    subst e
    exact ⟨_, ns, rfl, SqL.of ha, hl, fun m h1 h2 => c _ _ k H S (Ext.refl _ _) (.int m) (q m h1 h2)⟩
theorem ev_joinT (h : EvW K W te ρ k fun a k1 => ∃ s : Str, a = .str s ∧ EvW K W ty ρ k1 fun d k2 => ∃ ys : List Str, d = .tuple (ys.map .str) ∧ (ys.map (·.length)).sum + ys.length * s.length ≤ 16777216 ∧ Φ (.str (Txt.join s ys)) k2) :
    EvW K W (tM1 (rJoin K) te ty) ρ k Φ := fun L0 H0 L H σ S Q c =>
  h L0 H0 L H σ S _ fun v a k1 H1 S1 e1 t1 g => by
    obtain ⟨s, rfl, g⟩ := g
    cases t1
    refine ⟨⟨s, rfl⟩, g L0 H0 L H1 σ S1 _ fun u d k2 H2 S2 e2 t2 g2 => ?_⟩
    obtain ⟨ys, rfl, hz, q⟩ := g2
    cases t2 with
    | tup n ha t =>
      have e := t.strs_
      subst e
      exact ⟨s, _, ys, rfl, rfl, .inr (SqT.of ha), hz, c _ _ k2 H2 S2 (e1.trans e2) (.str _) q⟩
/-- a text among texts -/
theorem inV_str (z : Str) : ∀ l : List Str, inV (.str z) (l.map V.str) = decide (z ∈ l)
  | [] => by simp [inV]
  | x :: xs => by
    have ih := inV_str z xs
    unfold inV at ih ⊢
    rw [List.map_cons, List.any_cons, ih]
    show ((x == z) || _) = _
    by_cases e : z = x
    · subst e; simp
    · have e2 : ¬ x = z := fun q => e q.symm
      simp [e, e2]
theorem flat_strs : ∀ l : List Str, (l.map V.str).all flatV = true
  | [] => rfl
  | _ :: xs => by rw [List.map_cons, List.all_cons, flat_strs xs]; rfl
theorem rd_inStrsT {z : Str} {l : List Str} (q : Φ (.bool (decide (z ∈ l))) k) : RD K W (rIn K false) (.str z) (.tuple (l.map .str)) ρ k Φ := rd_ q fun N H vx vy tx ty Q c => by
  cases tx
  cases ty with
  | tup n ha t =>
    have e := t.strs_
    subst e
    exact ⟨_, _, rfl, .inr (SqT.of ha), rfl, flat_strs l, by simp only [Bool.false_eq_true, if_false]; rw [inV_str]; exact c _ (.bl _)⟩
/-- == [] -/
theorem rd_eqNilL {ds : List PyData} (q : Φ (.bool ds.isEmpty) k) : RD K W (rNil K false) (.list ds) (.list []) ρ k Φ := rd_ q fun N H vx vy tx ty Q c => by
  cases tx with
  | lst n ha t =>
    cases ty with
    | lst n2 hb t2 =>
      cases t2
      exact ⟨_, _, _, rfl, rfl, .inl ⟨SqL.of ha, SqL.of hb⟩, by simp only [Bool.false_eq_true, if_false]; rw [← t.emp]; exact c _ (.bl _)⟩
theorem rd_neNilL {ds : List PyData} (q : Φ (.bool (!ds.isEmpty)) k) : RD K W (rNil K true) (.list ds) (.list []) ρ k Φ := rd_ q fun N H vx vy tx ty Q c => by
  cases tx with
  | lst n ha t =>
    cases ty with
    | lst n2 hb t2 =>
      cases t2
      exact ⟨_, _, _, rfl, rfl, .inl ⟨SqL.of ha, SqL.of hb⟩, by simp only [if_true]; rw [← t.emp]; exact c _ (.bl _)⟩
theorem rd_eqNilT {ds : List PyData} (q : Φ (.bool ds.isEmpty) k) : RD K W (rNil K false) (.tuple ds) (.tuple []) ρ k Φ := rd_ q fun N H vx vy tx ty Q c => by
  cases tx with
  | tup n ha t =>
    cases ty with
    | tup n2 hb t2 =>
      cases t2
      exact ⟨_, _, _, rfl, rfl, .inr ⟨SqT.of ha, SqT.of hb⟩, by simp only [Bool.false_eq_true, if_false]; rw [← t.emp]; exact c _ (.bl _)⟩
theorem rd_neNilT {ds : List PyData} (q : Φ (.bool (!ds.isEmpty)) k) : RD K W (rNil K true) (.tuple ds) (.tuple []) ρ k Φ := rd_ q fun N H vx vy tx ty Q c => by
  cases tx with
  | tup n ha t =>
    cases ty with
    | tup n2 hb t2 =>
      cases t2
      exact ⟨_, _, _, rfl, rfl, .inr ⟨SqT.of ha, SqT.of hb⟩, by simp only [if_true]; rw [← t.emp]; exact c _ (.bl _)⟩
end
end U

set_option Elab.async false
set_option linter.all false
set_option maxRecDepth 100000
set_option maxHeartbeats 2000000
namespace U
open PySem PySem.Spec PyProof.Rows L2
/-! ### z[::-1], xs[::-1] -/
def revS (z : Str) : Str := ⟨((List.range z.length).map fun k => z.cps.getD (z.length - 1 - k) 0).toArray⟩
def tRevS (te : TE) : TE := fun σ H Q => te σ H fun x H1 => ∃ z, x = .str z ∧ z.length ≤ sizeLine ∧ Q (.str (revS z)) H1
section
variable {X : Cx}
theorem pe_revS {e : Expr} {te : TE} {k : Nat} {p1 p2 p3 pos : Pos} (he : PE X e te) : PE X (.Subscript e (.Slice none none (some (.UnaryOp .USub (.Constant (.int 1) k p1) p2)) p3) pos) (tRevS te) := by
  refine ⟨fun pins s σ H Q I h => ?_⟩
  refine Subscript_ (thn (he.run pins s σ H _ I h) fun v s1 ⟨x, H1, I1, r1, q1⟩ => ?_)
  obtain ⟨z, ex, hz, q⟩ := q1
  subst ex
  obtain ⟨t, rfl⟩ := r1
  have hst : PO X (some (.UnaryOp .USub (.Constant (.int 1) k p1) p2)) (tPart (tUn (rU fun i => .int (-i)) (tC (.int 1)))) := po_some (pe_un un_neg pe_int)
  refine wpAny_Slice (thn (po_none.run pins s1 σ H1 (fun o H2 => o = none ∧ H2 = H1) I1 ⟨rfl, rfl⟩) fun vl s2 ⟨l, H2, I2, pl, el, e2⟩ => ?_)
  subst el e2
  refine thn (po_none.run pins s2 σ H2 (fun o H3 => o = none ∧ H3 = H2) I2 ⟨rfl, rfl⟩) fun vu s3 ⟨u, H3, I3, pu, eu, e3⟩ => ?_
  subst eu e3
  refine thn (hst.run pins s3 σ H3 (fun o H4 => o = some (-1) ∧ H4 = H3) I3 ⟨1, rfl, -1, rfl, rfl, rfl⟩) fun vs s4 ⟨o, H4, I4, ps, eo, e4⟩ => ?_
  subst eo e4
  obtain ⟨l1, rfl, hl1⟩ := IsPart.raw pl
  obtain ⟨u1, rfl, hu1⟩ := IsPart.raw pu
  obtain ⟨w1, rfl, hw1⟩ := IsPart.raw ps
  cases l1 with
  | some q => cases hl1
  | none =>
  cases u1 with
  | some q => cases hu1
  | none =>
  cases w1 with
  | none => cases hw1
  | some q =>
  obtain ⟨n, tk⟩ := q
  have hn : n = -1 := by
    have : some n = some (-1 : Int) := hw1
    injection this
  subst hn
  have I5 : Inv X pins σ H4 { s4 with heap := s4.heap.push { cls := .type "slice", data := .fields #[partValue none, partValue none, partValue (some (-1, tk))] } } := I4.kept (t' := s4.toks) fun b ob q => Heap.get?_push_of_some _ q
  refine tail_any (ops := [.str z t, .ref s4.heap.objs.size]) (T := "str") (typeIs_str _ _ _) (PySem.F.slot_str_getitem.lookup) ?_ (by with_unfolding_all rfl)
  refine wpAny_getItem_str_slice (l := none) (u := none) (st := some (-1, tk)) ⟨_, Heap.get?_push_size _ rfl, rfl, rfl⟩ rfl ?_
  have e : Txt.sliceBy z none none (-1, tk) = revS z := by
    have h := step_rev_list z tk
    generalize Txt.sliceBy z none none (-1, tk) = y at h
    obtain ⟨⟨cs⟩⟩ := y
    show Str.mk _ = Str.mk _
    rw [← h]
  have len : (revS z).length ≤ sizeLine := by
    show (List.toArray _).size ≤ _
    rw [List.size_toArray, List.length_map, List.length_range]
    exact hz
  unfold Txt.sliceBy at e
  unfold sliceMade
  rw [if_neg (by simp)] at e ⊢
  rw [e]
  exact ⟨len, .str _, H4, I5.tok _, ⟨_, rfl⟩, q⟩
end
section
variable {K : PySem.W.Frag} {γ : Type} {W : Wd γ} {ρ : Rho} {k : γ} {Φ : PyData → γ → Prop} {te ta tb : TE} {N : List Addr} {H : Hp}
theorem kRevL (K : PySem.W.Frag) {X : Cx} {e : Expr} {te : TE} {k : Nat} {p1 p2 p3 pos : Pos} (he : PE X e te) (h : X.K = K := by rfl) : PE X (.Subscript e (.Slice none none (some (.UnaryOp .USub (.Constant (.int 1) k p1) p2)) p3) pos) (tRevL K te) := by subst h; exact pe_revL he
theorem kIndexL (K : PySem.W.Frag) {X : Cx} {e : Expr} {to : TE} {ts : L2.TA} (p : PE X e (tBM X.K "list" (rIndex X.K) to ts)) (h : X.K = K := by rfl) : PE X e (tBM K "list" (rIndex K) to ts) := by subst h; exact p
theorem revS_txt (ws : List Nat) : revS (txt ws) = txt ws.reverse := by
  unfold revS txt
  congr 1
  apply congrArg List.toArray
  apply List.ext_getElem?
  intro i
  by_cases h : i < ws.length
  · have hl : (Str.mk (List.map (fun x => 97 + x) ws).toArray).length = ws.length := by simp [Str.length]
    rw [hl]
    have hi : ws.length - 1 - i < ws.length := by omega
    simp [h, hi, List.getElem?_reverse]
  · have hl : (Str.mk (List.map (fun x => 97 + x) ws).toArray).length = ws.length := by simp [Str.length]
    rw [hl]
    simp [h]
theorem ev_revX (h : EvW K W te ρ k fun d k1 => ∃ ws : List Nat, d = .str (txt ws) ∧ ws.length ≤ 100000 ∧ Φ (.str (txt ws.reverse)) k1) : EvW K W (tRevS te) ρ k Φ := fun L0 H0 L H σ S Q c =>
  h L0 H0 L H σ S _ fun v x k1 H1 S1 e1 t1 g => by
    obtain ⟨ws, rfl, hz, q⟩ := g
    cases t1
    refine ⟨_, rfl, by rw [txt_len]; exact Nat.le_trans hz (by decide), ?_⟩
    rw [revS_txt]
    exact c _ _ k1 H1 S1 e1 (.str _) q
theorem TA.rev : ∀ {vs : List V} {ds : List PyData}, TA K N H vs ds → TA K N H vs.reverse ds.reverse
  | _, _, .nil => .nil
  | _, _, .cons h t => by
    rw [List.reverse_cons, List.reverse_cons]
    exact t.rev.app (.cons h .nil)
theorem ev_revL (h : EvW K W te ρ k fun d k1 => ∃ ds, d = .list ds ∧ Φ (.list ds.reverse) k1) : EvW K W (tRevL K te) ρ k Φ := fun L0 H0 L H σ S Q c =>
  h L0 H0 L H σ S _ fun v x k1 H1 S1 e1 t1 g => by
    obtain ⟨ds, rfl, q⟩ := g
    cases t1 with
    | @lst a xs _ n ha t =>
      refine ⟨a, xs, rfl, SqL.of ha, newL S1.trk t.rev fun p H' hp s _ _ t' => c _ _ k1 H' (S1.same s) (e1.trans (Ext.same s)) t' q⟩
/-- a list of one's own from behind -/
theorem ev_ownLast {i : Nat} {ds : List PyData} {d : PyData} (h : ρ[i]? = some (.own ds)) (hd : ds.getLast? = some d) (q : Φ d k) : EvW K W (tOp (rIxL K) (tVar i) (tUn (rU fun i => .int (-i)) (tC (.int 1)))) ρ k Φ := fun L0 H0 L H σ S Q c => by
  obtain ⟨l, xs, h1, h3, h4⟩ := S.own_at h
  have hl := h4.len
  rw [List.getLast?_eq_getElem?] at hd
  obtain ⟨v, e, t⟩ := h4.at hd
  have h0 : 0 < ds.length := by
    have := (List.getElem?_eq_some_iff.mp hd).1
    omega
  refine ⟨_, h1, 1, rfl, _, _, _, v, rfl, rfl, SqL.of h3, ?_, c v d k H S (Ext.refl _ _) t q⟩
  unfold atI
  rw [hl]
  have : ixN ds.length (-1) = some (ds.length - 1) := by
    unfold ixN
    rw [if_neg (by decide), if_pos (by omega)]
    congr 1
    omega
  rw [this]
  exact e
/-- xs.index(int), int in xs -/
theorem eqV_int (a b : Int) : eqV (.int a) (.int b) = decide (a = b) := by
  show (a == b) = _
  by_cases e : a = b <;> simp [e]
theorem flat_ints : ∀ l : List Int, (l.map V.int).all flatV = true
  | [] => rfl
  | _ :: xs => by rw [List.map_cons, List.all_cons, flat_ints xs]; rfl
theorem ev_lindex (h : EvW K W ta ρ k fun d k1 => ∃ ns : List Int, d = .list (ns.map .int) ∧ EvW K W tb ρ k1 fun e k2 => ∃ (i : Int) (j : Nat), e = .int i ∧ ns[j]? = some i ∧ (∀ m, m < j → ns[m]? ≠ some i) ∧ Φ (.int (j : Int)) k2) :
    EvW K W (tBM K "list" (rIndex K) ta (tCons tb tNil)) ρ k Φ := fun L0 H0 L H σ S Q c =>
  h L0 H0 L H σ S _ fun v x k1 H1 S1 e1 t1 g => by
    obtain ⟨ns, rfl, g⟩ := g
    cases t1 with
    | @lst a xs _ n ha t =>
      have e := t.ints_
      subst e
      refine ⟨.inl ⟨rfl, _, SqL.of ha⟩, g L0 H0 L H1 σ S1 _ fun u y k2 H2 S2 e2 t2 g2 => ?_⟩
      obtain ⟨i, j, rfl, hj, hm, q⟩ := g2
      cases t2
      have ha2 := e2 a _ (fun hz => n (List.mem_append_right _ hz)) ha
      refine ⟨a, ns.map V.int, .int i, j, .int i, rfl, rfl, SqL.of ha2, rfl, flat_ints _, by rw [List.getElem?_map, hj]; rfl, by rw [eqV_int]; simp, fun m z hmj hz => ?_, c _ _ k2 H2 S2 (e1.trans e2) (.int _) q⟩
      rw [List.getElem?_map] at hz
      obtain ⟨b, hb, rfl⟩ := Option.map_eq_some_iff.mp hz
      rw [eqV_int]
      refine decide_eq_false fun hbi => hm m hmj ?_
      rw [hb, hbi]
theorem inV_int (z : Int) : ∀ l : List Int, inV (.int z) (l.map V.int) = decide (z ∈ l)
  | [] => by simp [inV]
  | x :: xs => by
    have ih := inV_int z xs
    unfold inV at ih ⊢
    rw [List.map_cons, List.any_cons, ih, eqV_int]
    by_cases e : x = z
    · subst e; simp
    · have e2 : ¬ z = x := fun q => e q.symm
      simp [e, e2]
theorem rd_inIntsL {z : Int} {l : List Int} (q : Φ (.bool (decide (z ∈ l))) k) : RD K W (rIn K false) (.int z) (.list (l.map .int)) ρ k Φ := rd_ q fun N H vx vy tx ty Q c => by
  cases tx
  cases ty with
  | lst n ha t =>
    have e := t.ints_
    subst e
    exact ⟨_, _, rfl, .inl (SqL.of ha), rfl, flat_ints l, by simp only [Bool.false_eq_true, if_false]; rw [inV_int]; exact c _ (.bl _)⟩
mutual
theorem T.dp : ∀ {d : PyData} {v : V}, d.canLay0 = true → T K N H v d → Dp K H v d
  | .none, _, _, t => by cases t; exact .non
  | .bool b, _, _, t => by cases t; exact .bl b
  | .int b, _, _, t => by cases t; exact .int b
  | .str b, _, _, t => by cases t; exact .str b
  | .list ds, _, h, t => by
    cases t with
    | lst n ha t => exact .lst (SqL.of ha) (TA.dp (by simpa [PyData.canLay0] using h) t)
  | .tuple ds, _, h, t => by
    cases t with
    | tup n ha t => exact .tup (SqT.of ha) (TA.dp (by simpa [PyData.canLay0] using h) t)
  | .dict es, _, h, _ => by simp [PyData.canLay0] at h
theorem TA.dp : ∀ {ds : List PyData} {vs : List V}, PyData.canLayAll0 ds = true → TA K N H vs ds → DpAll K H vs ds
  | [], _, _, t => by cases t; exact .nil
  | d :: ds, _, h, t => by
    have h' : d.canLay0 = true ∧ PyData.canLayAll0 ds = true := by simpa [PyData.canLayAll0] using h
    cases t with
    | cons t1 t2 => exact .cons (T.dp h'.1 t1) (TA.dp h'.2 t2)
end
theorem rd_neSame {x : PyData} (h : SeqAt.shaped x = true) (q : Φ (.bool false) k) : RD K W (rNeD K) x x ρ k Φ := rd_ q fun N H vx vy tx ty Q c => by
  have h1 := SeqAt.canLay_of_shaped h
  refine ⟨x, x, tx.dp h1, ty.dp h1, h, h, ?_⟩
  rw [SeqAt.eqv_refl x h1]
  exact c _ (.bl _)
end
end U

set_option Elab.async false
set_option linter.all false
set_option maxRecDepth 100000
set_option maxHeartbeats 2000000
namespace U
open PySem PySem.Spec PyProof.Rows L2
/-! ### a list of lists of one's own: back = [[] for _ in xs], back[i].append(x) -/
section
variable {K : PySem.W.Frag} {γ : Type} {W : Wd γ} {L0 L1 L L' N N' : List Addr} {H0 H1 H2 H H' : Hp} {σ σ' : L2.St} {ρ ρ' : Rho} {k k' : γ} {v : V} {d : PyData} {o : Option (Option V)}
theorem SlotOk.off (sub : ∀ b ∈ N', b ∈ N) {s : Slot} (q : SlotOk K N L H o s) : SlotOk K N' L H o s := by
  cases s with
  | no => trivial
  | dat d =>
    obtain ⟨v, h1, h2⟩ := q
    exact ⟨v, h1, h2.off sub⟩
  | own ds =>
    obtain ⟨l, xs, h1, h2, h3, h4⟩ := q
    exact ⟨l, xs, h1, h2, h3, h4.off sub⟩
  | ownD kvs =>
    obtain ⟨l, xs, h1, h2, h3, h4⟩ := q
    exact ⟨l, xs, h1, h2, h3, h4.map fun _ _ t => t.off sub⟩
  | lck kvs =>
    obtain ⟨l, xs, od, h1, h2, h3, h4⟩ := q
    exact ⟨l, xs, od, h1, h2, h3, h4.map fun _ _ t => t.off sub⟩
  | raw v => exact q
  | fn F =>
    obtain ⟨f, c, h1, h2, h3, h4, h5⟩ := q
    exact ⟨f, c, h1, fun z => h2 (sub _ z), fun z => h3 (sub _ z), h4, h5⟩
  | ownN D kvs =>
    obtain ⟨l, xs, h1, h2, h3, h4⟩ := q
    exact ⟨l, xs, h1, h2, h3, h4.map fun _ _ t => t.off sub⟩
theorem SlotOk.up (su : ∀ b ∈ N', b ∈ N ∨ H b = none) (e : Same H H') {s : Slot} (q : SlotOk K N L H o s) : SlotOk K N' L H' o s := by
  have tt : ∀ v d, T K N H v d → T K N' H' v d := fun v d t => (t.plusAll su).same e
  cases s with
  | no => trivial
  | dat d =>
    obtain ⟨v, h1, h2⟩ := q
    exact ⟨v, h1, tt _ _ h2⟩
  | own ds =>
    obtain ⟨l, xs, h1, h2, h3, h4⟩ := q
    exact ⟨l, xs, h1, h2, e _ _ h3, h4.mapT tt⟩
  | ownD kvs =>
    obtain ⟨l, xs, h1, h2, h3, h4⟩ := q
    exact ⟨l, xs, h1, h2, e _ _ h3, h4.map tt⟩
  | lck kvs =>
    obtain ⟨l, xs, od, h1, h2, h3, h4⟩ := q
    exact ⟨l, xs, od, h1, h2, e _ _ h3, h4.map tt⟩
  | raw v => exact q
  | fn F =>
    obtain ⟨f, c, h1, h2, h3, h4, h5⟩ := q
    exact ⟨f, c, h1, fun z => (su _ z).elim h2 (fun y => by rw [h4] at y; cases y), fun z => (su _ z).elim h3 (fun y => by rw [h5] at y; cases y), e _ _ h4, e _ _ h5⟩
  | ownN D kvs =>
    obtain ⟨l, xs, h1, h2, h3, h4⟩ := q
    exact ⟨l, xs, h1, h2, e _ _ h3, h4.map tt⟩
structure LLat (K : PySem.W.Frag) (N : List Addr) (H : Hp) (l : Addr) (as : List Addr) (dss : List (List PyData)) : Prop where
  top : H l = some (.lst (as.map V.ref))
  len : as.length = dss.length
  row : ∀ (i : Nat) (a : Addr) (ds : List PyData), as[i]? = some a → dss[i]? = some ds → ∃ xs, H a = some (.lst xs) ∧ TA K N H xs ds
theorem LLat.some_ {l : Addr} {as : List Addr} {dss : List (List PyData)} (h : LLat K N H l as dss) : ∀ b ∈ l :: as, H b ≠ none := fun b hb z => by
  rcases List.mem_cons.mp hb with rfl | hb
  · rw [h.top] at z; cases z
  · obtain ⟨i, hi, e⟩ := List.mem_iff_getElem.mp hb
    have hd : i < dss.length := by rw [← h.len]; exact hi
    obtain ⟨xs, hx, _⟩ := h.row i b dss[i] (by rw [List.getElem?_eq_getElem hi, e]) (List.getElem?_eq_getElem hd)
    rw [hx] at z; cases z
structure LLok (W : Wd γ) (l : Addr) (as : List Addr) : Prop where
  nd : (l :: as).Nodup
  off : ∀ b ∈ l :: as, b ∉ W.M
def llW (K : PySem.W.Frag) {γ : Type} (W : Wd γ) (l : Addr) (as : List Addr) : Wd (γ × List (List PyData)) where
  M := (l :: as) ++ W.M
  I := fun k N H => W.I k.1 N H ∧ LLat K N H l as k.2
  loc := fun k N H H' e x ⟨h1, h2⟩ => ⟨W.loc k.1 N H H' (fun b hb => e b (List.mem_append_right _ hb)) x h1, ⟨(e l (by simp)).trans h2.top, h2.len, fun i a ds ha hd => by
    obtain ⟨xs, g1, g2⟩ := h2.row i a ds ha hd
    exact ⟨xs, (e a (by simp [List.mem_of_getElem? ha])).trans g1, g2.ext x⟩⟩⟩
  plus := fun k N N' H s m ⟨h1, h2⟩ => ⟨W.plus k.1 N N' H s (fun b hb => m b (List.mem_append_right _ hb)) h1, ⟨h2.top, h2.len, fun i a ds ha hd => by
    obtain ⟨xs, g1, g2⟩ := h2.row i a ds ha hd
    exact ⟨xs, g1, g2.plusAll s⟩⟩⟩
  trk := fun k N H ⟨h1, h2⟩ b hb => by
    rcases List.mem_append.mp hb with hb | hb
    · exact h2.some_ b hb
    · exact W.trk k.1 N H h1 b hb
/-- into the world of the list of lists -/
theorem Stt.enterLL (S : Stt K W L0 H0 L H1 σ ρ k) {l : Addr} {as : List Addr} {dss : List (List PyData)} (new : ∀ b ∈ l :: as, H1 b = none) (sm : Same H1 H2) (at_ : ∀ N, LLat K N H2 l as dss) : Stt K (llW K W l as) L H2 L H2 σ ρ (k, dss) := by
  have su : ∀ b ∈ L ++ ((l :: as) ++ W.M), b ∈ L ++ W.M ∨ H1 b = none := fun b hb => by
    rcases List.mem_append.mp hb with hb | hb
    · exact .inl (List.mem_append_left _ hb)
    · rcases List.mem_append.mp hb with hb | hb
      · exact .inr (new b hb)
      · exact .inl (List.mem_append_right _ hb)
  have S2 := S.same sm
  refine ⟨Ext.refl _ _, fun _ h => .inl h, fun b hb z => ?_, fun b hb => ?_, ⟨?_, at_ _⟩, S.len, fun j s hs => (S.slots j s hs).up su sm, S.dis⟩
  · rcases List.mem_append.mp z with z | z
    · exact S.trk b (List.mem_append_left _ hb) (new b z)
    · exact S.offM b hb z
  · rcases List.mem_append.mp hb with hb | hb
    · exact S2.trk b (List.mem_append_left _ hb)
    · rcases List.mem_append.mp hb with hb | hb
      · exact (at_ []).some_ b hb
      · exact S2.trk b (List.mem_append_right _ hb)
  · have w1 : W.I k (L ++ ((l :: as) ++ W.M)) H1 := W.plus k _ _ H1 su (fun b hb => List.mem_append_right _ (List.mem_append_right _ hb)) S.wd
    refine W.loc k _ H1 H2 (fun b hb => ?_) (Ext.same sm) w1
    cases q : H1 b with
    | none => exact absurd q (S.trk b (List.mem_append_right _ hb))
    | some o => exact sm b o q
/-- .. and out of it -/
theorem Stt.leaveLL {l : Addr} {as : List Addr} {i : Nat} {kk : γ × List (List PyData)} (ok : LLok W l as) (new : ∀ b ∈ l :: as, H1 b = none) (sm : Same H1 H2) (S : Stt K (llW K W l as) L H2 L' H' σ' ρ' kk) (hi : ρ'[i]? = some (.raw (.ref l))) :
    Stt K W L H1 L' H' σ' (ρ'.set i (.dat (.list (kk.2.map PyData.list)))) kk.1 := by
  have sub : ∀ b ∈ L' ++ W.M, b ∈ L' ++ (llW K W l as).M := fun b hb => by
    rcases List.mem_append.mp hb with hb | hb
    · exact List.mem_append_left _ hb
    · exact List.mem_append_right _ (List.mem_append_right _ hb)
  obtain ⟨w1, at_⟩ := S.wd
  have offL : ∀ b ∈ l :: as, b ∉ L' ++ W.M := fun b hb z => by
    rcases List.mem_append.mp z with z | z
    · exact S.offM b z (List.mem_append_left _ hb)
    · exact ok.off b hb z
  refine ⟨fun b o nb hb => ?_, fun b hb => ?_, fun b hb z => S.offM b hb (List.mem_append_right _ z), fun b hb => S.trk b (sub b hb), W.plus _ _ _ _ (fun b hb => .inl (sub b hb)) (fun b hb => List.mem_append_right _ hb) w1, by rw [List.length_set]; exact S.len, fun j s hs => ?_, fun j t s s' hs ht h1 h2 h3 => ?_⟩
  · refine S.base b o (fun z => ?_) (sm b o hb)
    rcases List.mem_append.mp z with z | z
    · exact nb (List.mem_append_left _ z)
    · rcases List.mem_append.mp z with z | z
      · rw [new b z] at hb; cases hb
      · exact nb (List.mem_append_right _ z)
  · rcases S.fresh b hb with h | h
    · exact .inl h
    · refine .inr ?_
      cases q : H1 b with
      | none => rfl
      | some o => rw [sm b o q] at h; cases h
  · by_cases e : i = j
    · subst e
      have il : i < ρ'.length := (List.getElem?_eq_some_iff.mp hi).1
      rw [List.getElem?_set_self il] at hs
      cases hs
      have h0 : σ'[i]? = some (some (.ref l)) := S.slots i _ hi
      refine ⟨.ref l, h0, .lst (offL l (by simp)) at_.top ?_⟩
      have gen : ∀ (bs : List Addr) (dss : List (List PyData)), bs.length = dss.length → (∀ (i : Nat) (a : Addr) (ds : List PyData), bs[i]? = some a → dss[i]? = some ds → T K (L' ++ W.M) H' (.ref a) (.list ds)) → TA K (L' ++ W.M) H' (bs.map V.ref) (dss.map PyData.list) := by
        intro bs
        induction bs with
        | nil =>
          intro dss hl _
          cases dss with
          | nil => exact .nil
          | cons => cases hl
        | cons b bs ih =>
          intro dss hl f
          cases dss with
          | nil => cases hl
          | cons ds dss => exact .cons (f 0 b ds rfl rfl) (ih dss (by simpa using hl) fun i a d h1 h2 => f (i + 1) a d (by simpa using h1) (by simpa using h2))
      refine gen as kk.2 at_.len fun t a ds ha hd => ?_
      obtain ⟨xs, g1, g2⟩ := at_.row t a ds ha hd
      exact .lst (offL a (by simp [List.mem_of_getElem? ha])) g1 (g2.off sub)
    · rw [List.getElem?_set_ne e] at hs
      exact (S.slots j s hs).off sub
  · have own_ : ∀ (j : Nat) (s : Slot), (ρ'.set i (.dat (.list (kk.2.map PyData.list))))[j]? = some s → s.isOwn = true → ρ'[j]? = some s := fun j s hs hh => by
      by_cases e : i = j
      · subst e
        rw [List.getElem?_set_self (List.getElem?_eq_some_iff.mp hi).1] at hs
        cases hs
        cases hh
      · rw [List.getElem?_set_ne e] at hs
        exact hs
    exact S.dis j t s s' (own_ j s hs h1) (own_ t s' ht h2) h1 h2 h3
variable {wi : TI} {g : TG} {vs : List Nat} {i : Nat} {body rest : TS} {P : Ps γ}
theorem sw_ll (h : EvI K W wi ρ k fun n f k1 => n ≤ 100000 ∧ (∀ j, j < n → TgW K W g (fun i => i ∈ vs) (f j) (wipeR ρ vs) fun _ => True) ∧ i < ρ.length ∧ ∀ (l : Addr) (as : List Addr), LLok W l as → as.length = n →
      SW K (llW K W l as) body (ρ.set i (.raw (.ref l))) (k1, List.replicate n []) ⟨fun ρ' k' => ρ'[i]? = some (.raw (.ref l)) ∧ SW K W rest (ρ'.set i (.dat (.list (k'.2.map PyData.list)))) k'.1 P, fun _ _ => False, fun _ _ => False, fun _ _ => False⟩) :
    SW K W (tSeq (tAsg (tLc wi g tYes (tLst tNil) vs) (gName i)) (tSeq body rest)) ρ k P := fun L0 H0 L H σ D S nx rt bk ct =>
  h L0 H0 L H σ S _ fun J n f k1 H1 S1 e wd q => by
    obtain ⟨hn, tg, hil, q⟩ := q
    intro A hA
    have later : ∀ H2, Same H1 H2 → Later W L H1 L H2 := fun H2 sm => ⟨Ext.same sm, fun l hl => .inl hl, S1.trk.same sm⟩
    refine ⟨fun j m H2 => m = n - j ∧ j ≤ n ∧ Same H1 H2 ∧ ∃ as : List Addr, as.length = j ∧ (A :: as).Nodup ∧ (∀ b ∈ A :: as, H1 b = none) ∧ H2 A = some (.lst (as.map V.ref)) ∧ ∀ b ∈ as, H2 b = some (.lst []),
      ⟨n, rfl, Nat.zero_le _, Same.new hA, [], rfl, by simp, by simp [hA], upd_same, fun _ h => nomatch h⟩, ?_⟩
    rintro j m H2 ⟨rfl, hj, sm, as, hl, nd, new, hA2, has⟩
    by_cases hlt : j < n
    · refine .inr ⟨wd.goes j _ H2 hlt (later H2 sm), fun H' => Same H1 H' ∧ ∃ as : List Addr, as.length = j + 1 ∧ (A :: as).Nodup ∧ (∀ b ∈ A :: as, H1 b = none) ∧ H' A = some (.lst (as.map V.ref)) ∧ ∀ b ∈ as, H' b = some (.lst []),
        fun H' ⟨a1, as, a2⟩ => ⟨n - (j + 1), by omega, rfl, hlt, a1, as, a2⟩, fun x H' y => ?_⟩
      obtain ⟨sm2, tx⟩ := wd.yields j _ H2 x H' hlt (later H2 sm) y
      have S3 := (S1.same sm).same sm2
      refine tg j hlt L0 H0 L H' _ k1 x (S3.wipe vs) tx _ fun σ3 ρ3 S4 hl4 ag _ => ⟨wipe_of hl4 ag, ?_⟩
      show ([] : List V).length ≤ sizeLine ∧ _
      refine ⟨Nat.zero_le _, fun a ha => ?_⟩
      have hA3 : H' A = some (.lst (as.map V.ref)) := sm2 _ _ hA2
      have aA : A ≠ a := ne_of_none hA3 ha
      have anew : H1 a = none := by
        cases q : H1 a with
        | none => rfl
        | some o => rw [sm2 _ _ (sm a o q)] at ha; cases ha
      have aas : a ∉ as := fun z => by
        have := sm2 _ _ (has a z)
        rw [ha] at this; cases this
      refine ⟨as.map V.ref, by rw [upd_ne aA]; exact hA3, ?_, ?_, as ++ [a], by rw [List.length_append, hl]; rfl, ?_, ?_, ?_, ?_⟩
      · rw [List.length_map, hl]
        exact Nat.lt_of_le_of_lt (show j ≤ 100000 by omega) (by decide)
      · intro b o hb
        have b1 : b ≠ A := ne_of_none hb hA
        have b2 : b ≠ a := ne_of_none hb anew
        rw [upd_ne b1, upd_ne b2]
        exact sm2 _ _ (sm b o hb)
      · rw [List.nodup_cons] at nd ⊢
        refine ⟨fun z => ?_, ?_⟩
        · rcases List.mem_append.mp z with z | z
          · exact nd.1 z
          · exact aA (List.mem_singleton.mp z)
        · rw [List.nodup_append]
          exact ⟨nd.2, by simp, fun x hx y hy => by
            rw [List.mem_singleton.mp hy]
            rintro rfl
            exact aas hx⟩
      · intro b hb
        rcases List.mem_cons.mp hb with rfl | hb
        · exact new b (by simp)
        · rcases List.mem_append.mp hb with hb | hb
          · exact new b (by simp [hb])
          · rw [List.mem_singleton.mp hb]; exact anew
      · rw [upd_same, List.map_append]; rfl
      · intro b hb
        have bA : b ≠ A := by
          rintro rfl
          rcases List.mem_append.mp hb with hb | hb
          · exact (List.nodup_cons.mp nd).1 hb
          · exact aA (List.mem_singleton.mp hb)
        rw [upd_ne bA]
        rcases List.mem_append.mp hb with hb2 | hb2
        · have ne : b ≠ a := fun z => aas (by rw [← z]; exact hb2)
          rw [upd_ne ne]
          exact sm2 _ _ (has b hb2)
        · rw [List.mem_singleton.mp hb2, upd_same]
    · have ej : j = n := by omega
      subst ej
      refine .inl ⟨wd.stops _ H2 (later H2 sm), ?_⟩
      have ok : LLok W A as := ⟨nd, fun b hb z => S1.trk b (List.mem_append_right _ z) (new b hb)⟩
      have at_ : ∀ N, LLat K N H2 A as (List.replicate j []) := fun N => ⟨hA2, by rw [hl, List.length_replicate], fun t a ds ha hd => by
        have : ds = [] := List.eq_of_mem_replicate (List.mem_of_getElem? hd)
        subst this
        exact ⟨[], has a (List.mem_of_getElem? ha), .nil⟩⟩
      have S5 := (S1.enterLL (K := K) new sm at_).setRaw (v := .ref A) i
      refine q A as ok hl L H2 L H2 _ _ S5 (fun L' H' σ' ρ' k' S' ⟨hi', hr⟩ => ?_) (fun _ _ _ _ _ _ _ z => z.elim) (fun _ _ _ _ _ _ z => z.elim) (fun _ _ _ _ _ _ z => z.elim)
      exact hr L0 H0 L' H' σ' D (S1.back (Stt.leaveLL ok new sm S' hi')) nx rt bk ct
/-- back[j].append(d) -/
theorem sw_llappend {ti te : TE} {l : Addr} {as : List Addr} {kk : γ × List (List PyData)} {Z : Ps (γ × List (List PyData))} (ok : LLok W l as) (hi : ρ[i]? = some (.raw (.ref l)))
    (h : EvW K (llW K W l as) ti ρ kk fun x k1 => ∃ j : Nat, x = .int (j : Int) ∧ j < as.length ∧ EvW K (llW K W l as) te ρ k1 fun d k2 => (k2.2.getD j []).length < 100000 ∧ Z.nx ρ (k2.1, k2.2.set j (k2.2.getD j [] ++ [d]))) :
    SW K (llW K W l as) (tDrop (tBM K "list" rAppend (tOp (rIxL K) (tVar i) ti) (tCons te tNil))) ρ kk Z := fun L0 H0 L H σ D S nx rt bk ct => by
  have h0 : σ[i]? = some (some (.ref l)) := S.slots i _ hi
  refine ⟨_, h0, h L0 H0 L H σ S _ fun v x k1 H1 S1 e1 t1 g => ?_⟩
  obtain ⟨j, rfl, hj, g⟩ := g
  cases t1
  obtain ⟨_, a1⟩ := S1.wd
  have ha : as[j]? = some as[j] := List.getElem?_eq_getElem hj
  have hrow : ∀ {N : List Addr} {H : Hp} {dss : List (List PyData)}, LLat K N H l as dss → ∃ xs, H as[j] = some (.lst xs) ∧ TA K N H xs (dss.getD j []) := fun {N H dss} a => by
    have jl : j < dss.length := by rw [← a.len]; exact hj
    obtain ⟨xs, g1, g2⟩ := a.row j as[j] dss[j] ha (List.getElem?_eq_getElem jl)
    refine ⟨xs, g1, ?_⟩
    have e : dss.getD j [] = dss[j] := by rw [List.getD_eq_getElem?_getD, List.getElem?_eq_getElem jl]; rfl
    rw [e]; exact g2
  obtain ⟨xs1, b1, _⟩ := hrow a1
  refine ⟨_, _, _, .ref as[j], rfl, rfl, SqL.of a1.top, atI_nat (by rw [List.getElem?_map, ha]; rfl), tyList b1, g L0 H0 L H1 σ S1 _ fun u d k2 H2 S2 e2 t2 q => ?_⟩
  obtain ⟨hl, q⟩ := q
  obtain ⟨w2, a2⟩ := S2.wd
  obtain ⟨xs, b2, b3⟩ := hrow a2
  have mem : as[j] ∈ l :: as := List.mem_cons_of_mem _ (List.getElem_mem hj)
  have memM : as[j] ∈ (llW K W l as).M := List.mem_append_left _ mem
  have nl : l ≠ as[j] := fun z => (List.nodup_cons.mp ok.nd).1 (z ▸ List.getElem_mem hj)
  refine ⟨as[j], xs, u, rfl, rfl, b2, Nat.lt_of_le_of_lt (show xs.length ≤ 99999 by rw [b3.len]; omega) (by decide), ?_⟩
  have ex : Ext (L ++ (llW K W l as).M) H2 (upd H2 as[j] (.lst (xs ++ [u]))) := Ext.put (List.mem_append_right _ memM)
  refine nx _ _ _ _ (k2.1, k2.2.set j (k2.2.getD j [] ++ [d])) (S2.ext (Ext.put memM) ⟨?_, ?_⟩) q
  · refine W.loc k2.1 _ H2 _ (fun b hb => ?_) ex w2
    rw [upd_ne (fun z => ok.off as[j] mem (z ▸ hb))]
  · refine ⟨by rw [upd_ne nl]; exact a2.top, by rw [List.length_set]; exact a2.len, fun t a ds hta hd => ?_⟩
    by_cases e : j = t
    · subst e
      rw [ha] at hta
      have : a = as[j] := (Option.some.inj hta).symm
      subst this
      have jl : j < k2.2.length := by rw [← a2.len]; exact hj
      rw [List.getElem?_set_self jl] at hd
      cases hd
      exact ⟨_, upd_same, (b3.app (.one t2)).ext ex⟩
    · rw [List.getElem?_set_ne e] at hd
      obtain ⟨ys, c1, c2⟩ := a2.row t a ds hta hd
      have na : a ≠ as[j] := fun z => by
        obtain ⟨tl, et⟩ := List.getElem?_eq_some_iff.mp hta
        have pw := List.pairwise_iff_getElem.mp (List.nodup_cons.mp ok.nd).2
        rcases Nat.lt_or_gt_of_ne e with lt | gt
        · exact pw j t hj tl lt (by rw [et, z])
        · exact pw t j tl hj gt (by rw [et, z])
      exact ⟨ys, by rw [upd_ne na]; exact c1, c2.ext ex⟩
end
end U
namespace U
open PySem PySem.Spec PyProof.Rows L2
/-- what is put at each place, in order -/
def backD (es : List (Nat × PyData)) (n : Nat) : List (List PyData) := (List.range n).map fun s => (es.filter fun e => decide (e.1 = s)).map (·.2)
theorem backD_nil (n : Nat) : backD [] n = List.replicate n [] := by
  unfold backD
  apply List.ext_getElem?
  intro i
  by_cases h : i < n
  · simp [h]
  · simp [h]
theorem backD_len (es : List (Nat × PyData)) (n : Nat) : (backD es n).length = n := by simp [backD]
theorem backD_get {es : List (Nat × PyData)} {n t : Nat} (h : t < n) : (backD es n).getD t [] = (es.filter fun e => decide (e.1 = t)).map (·.2) := by
  simp [backD, h]
theorem backD_row {es : List (Nat × PyData)} {n t : Nat} (h : t < n) : ((backD es n).getD t []).length ≤ es.length := by
  rw [backD_get h, List.length_map]
  exact List.length_filter_le _ _
theorem backD_app {es : List (Nat × PyData)} {n t : Nat} {d : PyData} (h : t < n) : (backD es n).set t ((backD es n).getD t [] ++ [d]) = backD (es ++ [(t, d)]) n := by
  rw [backD_get h]
  apply List.ext_getElem?
  intro i
  by_cases e : t = i
  · subst e
    rw [List.getElem?_set_self (by rw [backD_len]; exact h)]
    simp [backD, h]
  · rw [List.getElem?_set_ne e]
    unfold backD
    rw [List.getElem?_map, List.getElem?_map]
    by_cases hi : i < n
    · rw [List.getElem?_range hi]
      simp [e]
    · have : (List.range n)[i]? = none := by simp; omega
      rw [this]
      rfl
end U

set_option Elab.async false
set_option linter.all false
set_option maxRecDepth 100000
set_option maxHeartbeats 2000000
namespace Law
open PySem PySem.Spec PyProof.Rows L2 U
local macro_rules | `(tactic| walk_at "rd") => `(tactic| simp only [L2.start, List.map_cons, List.map_nil, List.length_cons, List.length_nil, List.cons_append, List.nil_append, List.replicate, List.set_cons_succ, List.set_cons_zero, List.getElem?_cons_succ, List.getElem?_cons_zero,
  tVar, tC, tB, tAnd, tOr, tNot, tAndV, tOrV, tNotV, tIf, tNext, tSeq, tBreak, tCont, tDrop, tRet, tRetN, tIfS, gName, gNil, gCons, gTup, gSub, tAsg, tPar, tAug, tOp, tUn, rI, rI0, rU, rEq, rNe, tTest, tChain,
  tNil, tCons, tTup, tLst, tCall, tCB, tNoPart, tPart, tSl, rIxL, rIxT, rIxS, rSetL, rSlL, tBM, rAppend,
  Option.some.injEq, V.int.injEq, V.bl.injEq, V.str.injEq, V.ref.injEq, V.ty.injEq, List.cons.injEq, and_true, true_and, exists_eq_left, exists_eq_left', exists_eq_right, exists_eq_right', exists_and_left, exists_and_right, exists_eq, and_assoc, exists_const])

local macro_rules | `(tactic| walk_at "st") => `(tactic| simp only [rest0, rest1, List.map_cons, List.map_nil, List.length_cons, List.length_nil, List.cons_append, List.nil_append, Nat.reduceAdd, Nat.reduceSub, Nat.zero_add, Nat.sub_self, List.replicate])
local macro_rules | `(tactic| walk_at "go") => `(tactic| repeat (first
  | ((with_reducible apply ev_var); · exact rfl)
  | with_reducible refine ev_int ?_
  | with_reducible refine ev_str ?_
  | with_reducible refine ev_non ?_
  | with_reducible refine ev_bl ?_
  | with_reducible refine rd_add ?_
  | with_reducible refine rd_sub ?_
  | with_reducible refine rd_lt ?_
  | with_reducible refine rd_le ?_
  | with_reducible refine rd_gt ?_
  | with_reducible refine rd_ge ?_
  | with_reducible refine rd_eqI ?_
  | with_reducible refine rd_neI ?_
  | with_reducible refine rd_neX0 ?_
  | with_reducible refine rd_eqX0 ?_
  | with_reducible refine rd_neXX ?_
  | with_reducible refine rd_eqXX ?_
  | with_reducible refine rd_eqX ?_
  | with_reducible refine rd_neX ?_
  | ((with_reducible apply rd_eq); · exact rfl)
  | ((with_reducible apply rd_ne); · exact rfl)
  | with_reducible refine rd_isN ?_
  | with_reducible refine rd_notN ?_
  | with_reducible refine rd_ixT0 ?_
  | with_reducible refine rd_ixT1 ?_
  | with_reducible refine rd_ixT2 ?_
  | with_reducible refine rd_inX ?_
  | with_reducible refine rd_ninX ?_
  | with_reducible refine rd_inS ?_
  | with_reducible refine rd_ninS ?_
  | ((with_reducible apply ev_bix); · exact rfl)
  | with_reducible refine ev_op ?_
  | with_reducible refine et_test ?_
  | with_reducible refine et_B ?_
  | with_reducible refine et_and ?_
  | with_reducible refine et_or ?_
  | with_reducible refine et_not ?_
  | with_reducible refine et_yes ?_
  | with_reducible refine et_truth ?_
  | with_reducible refine ev_andV ?_
  | with_reducible refine ev_orV ?_
  | with_reducible refine ev_notV ?_
  | with_reducible refine ev_if ?_
  | with_reducible refine ev_chain ?_
  | with_reducible refine ea_nil ?_
  | with_reducible refine ea_cons ?_
  | (with_reducible refine ev_tup ?_)
  | (with_reducible refine ev_lst ?_)
  | with_reducible refine ev_dnew ?_
  | with_reducible refine ev_isi ?_
  | with_reducible refine ev_cb ?_
  | with_reducible refine ev_un ?_
  | with_reducible refine ru_neg ?_
  | with_reducible refine rc_lenL ?_
  | with_reducible refine rc_lenT ?_
  | with_reducible refine rc_int1 ?_
  | with_reducible refine rc_max2 ?_
  | with_reducible refine rc_min2 ?_
  | with_reducible refine rc_abs ?_
  | with_reducible refine rc_ord ?_
  | with_reducible refine rc_tupL ?_
  | with_reducible refine rc_tupT ?_
  | with_reducible refine rc_listL ?_
  | with_reducible refine rc_listT ?_
  | with_reducible refine ev_sl ?_
  | with_reducible refine eo_none ?_
  | with_reducible refine eo_some ?_
  | with_reducible refine rsl_T ?_
  | with_reducible refine rsl_L ?_
  | with_reducible refine ev_join ?_
  | with_reducible refine ev_index ?_
  | ((with_reducible apply ev_draw); · exact rfl)
  | ((with_reducible apply ev_one); · exact rfl)
  | ((with_reducible apply ev_callD); · exact rfl)
  | with_reducible refine ev_call ?_
  | with_reducible refine sw_seq ?_
  | with_reducible refine sw_nx ?_
  | with_reducible refine sw_ret ?_
  | with_reducible refine sw_retN ?_
  | with_reducible refine sw_brk ?_
  | with_reducible refine sw_ct ?_
  | with_reducible refine sw_if ?_
  | with_reducible refine sw_ownRep ?_
  | with_reducible refine ey_nil ?_
  | ((with_reducible apply sw_bset); · exact rfl)
  | with_reducible refine sw_par ?_
  | with_reducible refine sw_set ?_
  | with_reducible refine sw_asg ?_
  | with_reducible refine sw_drop ?_
  | with_reducible refine tg_name trivial ?_
  | ((with_reducible apply tg_name); · simp; done)
  | ((with_reducible apply tg_tup); · exact rfl)
  | with_reducible refine tgs_cons ?_
  | with_reducible refine tgs_nil ?_
  | with_reducible refine ei_list ?_
  | with_reducible refine ei_tup ?_
  | with_reducible refine ei_str ?_
  | with_reducible refine ei_rng1 ?_
  | with_reducible refine ei_rng2 ?_
  | with_reducible refine ei_enumL ?_
  | with_reducible refine ei_enumT ?_
  | with_reducible refine ei_enumS ?_
  | (with_reducible rw [if_pos rfl])
  | (with_reducible rw [if_pos trivial])
  | (with_reducible rw [if_neg not_false])
  | (with_reducible rw [if_neg Bool.false_ne_true])
  | (refine ⟨_, rfl, ?_⟩)
  | (refine ⟨_, _, rfl, ?_⟩)
  | (refine ⟨_, _, _, rfl, ?_⟩)
  | (refine ⟨_, _, _, _, rfl, ?_⟩)
  | (refine ⟨_, _, _, _, _, rfl, ?_⟩)
  | (refine ⟨_, _, _, _, _, _, rfl, ?_⟩)
  | ((with_reducible refine And.intro ?_ ?_); · decide)
  | ((with_reducible refine And.intro ?_ ?_); · (simp only [List.length_cons, List.length_nil, Nat.reduceAdd, Nat.reduceLeDiff, Nat.zero_add]; done))
  | (with_reducible refine fun _ : True => ?_)
  | (with_reducible refine fun _ : true = true => ?_)
  | (dsimp only [wipeR, List.set_cons_succ, List.set_cons_zero])
  | (with_reducible rw [Bool.not_true])
  | (with_reducible rw [Bool.not_false])))
local macro_rules | `(tactic| walk_at "gof") => `(tactic| repeat (first
  | ((with_reducible apply ev_var); · exact rfl)
  | with_reducible refine ev_int ?_
  | with_reducible refine ev_str ?_
  | with_reducible refine ev_non ?_
  | with_reducible refine ev_bl ?_
  | with_reducible refine rd_add ?_
  | with_reducible refine rd_sub ?_
  | with_reducible refine rd_lt ?_
  | with_reducible refine rd_le ?_
  | with_reducible refine rd_gt ?_
  | with_reducible refine rd_ge ?_
  | with_reducible refine rd_eqI ?_
  | with_reducible refine rd_neI ?_
  | with_reducible refine rd_neX0 ?_
  | with_reducible refine rd_eqX0 ?_
  | with_reducible refine rd_neXX ?_
  | with_reducible refine rd_eqXX ?_
  | with_reducible refine rd_eqX ?_
  | with_reducible refine rd_neX ?_
  | ((with_reducible apply rd_eq); · exact rfl)
  | ((with_reducible apply rd_ne); · exact rfl)
  | with_reducible refine rd_isN ?_
  | with_reducible refine rd_notN ?_
  | with_reducible refine rd_ixT0 ?_
  | with_reducible refine rd_ixT1 ?_
  | with_reducible refine rd_ixT2 ?_
  | with_reducible refine rd_inX ?_
  | with_reducible refine rd_ninX ?_
  | with_reducible refine rd_inS ?_
  | with_reducible refine rd_ninS ?_
  | ((with_reducible apply ev_bix); · exact rfl)
  | with_reducible refine ev_op ?_
  | with_reducible refine et_test ?_
  | with_reducible refine et_B ?_
  | with_reducible refine et_and ?_
  | with_reducible refine et_or ?_
  | with_reducible refine et_not ?_
  | with_reducible refine et_yes ?_
  | with_reducible refine et_truth ?_
  | with_reducible refine ev_andV ?_
  | with_reducible refine ev_orV ?_
  | with_reducible refine ev_notV ?_
  | with_reducible refine ev_if ?_
  | with_reducible refine ev_chain ?_
  | with_reducible refine ea_nil ?_
  | with_reducible refine ea_cons ?_
  | (with_reducible refine ev_tup ?_)
  | (with_reducible refine ev_lst ?_)
  | with_reducible refine ev_dnew ?_
  | with_reducible refine ev_isi ?_
  | with_reducible refine ev_cb ?_
  | with_reducible refine ev_un ?_
  | with_reducible refine ru_neg ?_
  | with_reducible refine rc_lenL ?_
  | with_reducible refine rc_lenT ?_
  | with_reducible refine rc_int1 ?_
  | with_reducible refine rc_max2 ?_
  | with_reducible refine rc_min2 ?_
  | with_reducible refine rc_abs ?_
  | with_reducible refine rc_ord ?_
  | with_reducible refine rc_tupL ?_
  | with_reducible refine rc_tupT ?_
  | with_reducible refine rc_listL ?_
  | with_reducible refine rc_listT ?_
  | with_reducible refine ev_sl ?_
  | with_reducible refine eo_none ?_
  | with_reducible refine eo_some ?_
  | with_reducible refine rsl_T ?_
  | with_reducible refine rsl_L ?_
  | with_reducible refine ev_join ?_
  | with_reducible refine ev_index ?_
  | ((with_reducible apply ev_draw); · exact rfl)
  | ((with_reducible apply ev_one); · exact rfl)
  | ((with_reducible apply ev_callD); · exact rfl)
  | with_reducible refine ev_call ?_
  | with_reducible refine sw_seq ?_
  | with_reducible refine sw_nx ?_
  | with_reducible refine sw_ret ?_
  | with_reducible refine sw_retN ?_
  | with_reducible refine sw_brk ?_
  | with_reducible refine sw_ct ?_
  | with_reducible refine sw_if ?_
  | with_reducible refine sw_ownRep ?_
  | with_reducible refine ey_nil ?_
  | ((with_reducible apply sw_bset); · exact rfl)
  | with_reducible refine sw_par ?_
  | with_reducible refine sw_set ?_
  | with_reducible refine sw_asg ?_
  | with_reducible refine sw_for ?_
  | with_reducible refine sw_drop ?_
  | with_reducible refine tg_name trivial ?_
  | ((with_reducible apply tg_name); · simp; done)
  | ((with_reducible apply tg_tup); · exact rfl)
  | with_reducible refine tgs_cons ?_
  | with_reducible refine tgs_nil ?_
  | with_reducible refine ei_list ?_
  | with_reducible refine ei_tup ?_
  | with_reducible refine ei_str ?_
  | with_reducible refine ei_rng1 ?_
  | with_reducible refine ei_rng2 ?_
  | with_reducible refine ei_enumL ?_
  | with_reducible refine ei_enumT ?_
  | with_reducible refine ei_enumS ?_
  | (with_reducible rw [if_pos rfl])
  | (with_reducible rw [if_pos trivial])
  | (with_reducible rw [if_neg not_false])
  | (with_reducible rw [if_neg Bool.false_ne_true])
  | (refine ⟨_, rfl, ?_⟩)
  | (refine ⟨_, _, rfl, ?_⟩)
  | (refine ⟨_, _, _, rfl, ?_⟩)
  | (refine ⟨_, _, _, _, rfl, ?_⟩)
  | (refine ⟨_, _, _, _, _, rfl, ?_⟩)
  | (refine ⟨_, _, _, _, _, _, rfl, ?_⟩)
  | ((with_reducible refine And.intro ?_ ?_); · decide)
  | ((with_reducible refine And.intro ?_ ?_); · (simp only [List.length_cons, List.length_nil, Nat.reduceAdd, Nat.reduceLeDiff, Nat.zero_add]; done))
  | (with_reducible refine fun _ : True => ?_)
  | (with_reducible refine fun _ : true = true => ?_)
  | (dsimp only [wipeR, List.set_cons_succ, List.set_cons_zero])
  | (with_reducible rw [Bool.not_true])
  | (with_reducible rw [Bool.not_false])))
local macro_rules | `(tactic| walk_at "tg") => `(tactic| repeat (first
  | with_reducible refine tg_name trivial ?_
  | ((with_reducible apply tg_name); · simp; done)
  | ((with_reducible apply tg_tup); · exact rfl)
  | with_reducible refine tgs_cons ?_
  | with_reducible refine tgs_nil ?_
  | (dsimp only [wipeR, List.set_cons_succ, List.set_cons_zero])
  | (with_reducible rw [Bool.not_true])
  | (with_reducible rw [Bool.not_false])))
local macro_rules | `(tactic| walk_at "le") => `(tactic| repeat (first | exact Le.nil | refine Le.no ?_ | refine Le.same ?_))




def top (i : Nat) : Stmt := PySem.Challenge.pw_unitlimits_k22_words_and_used_states.main.body.getD i (.Pass ⟨0, 0, 0, 0⟩)
abbrev s__law_deck : Stmt := top 7
abbrev N__law_deck : List Str := ["_law_script", "_law_cell"]
theorem sc__law_deck : FnScope N__law_deck ["_law_script"] (defScope s__law_deck) := ⟨rfl, rfl, rfl, by decide +kernel, rfl, by decide +kernel, by decide +kernel⟩
abbrev s__law_draw : Stmt := top 8
abbrev N__law_draw : List Str := ["_law_deck_here", "_law_many", "_law_cell", "_law_at", "_law_mixed"]
theorem sc__law_draw : FnScope N__law_draw ["_law_deck_here", "_law_many"] (defScope s__law_draw) := ⟨rfl, rfl, rfl, by decide +kernel, rfl, by decide +kernel, by decide +kernel⟩
abbrev s__law_one : Stmt := top 9
abbrev N__law_one : List Str := ["_law_deck_here", "_law_items"]
theorem sc__law_one : FnScope N__law_one ["_law_deck_here", "_law_items"] (defScope s__law_one) := ⟨rfl, rfl, rfl, by decide +kernel, rfl, by decide +kernel, by decide +kernel⟩
abbrev s_letter_number : Stmt := top 1
abbrev N_letter_number : List Str := ["letter"]
theorem sc_letter_number : FnScope N_letter_number ["letter"] (defScope s_letter_number) := ⟨rfl, rfl, rfl, by decide +kernel, rfl, by decide +kernel, by decide +kernel⟩
abbrev s_is_of : Stmt := top 2
abbrev N_is_of : List Str := ["kind", "word", "_", "rows", "ends", "state", "letter"]
theorem sc_is_of : FnScope N_is_of ["kind", "word"] (defScope s_is_of) := ⟨rfl, rfl, rfl, by decide +kernel, rfl, by decide +kernel, by decide +kernel⟩
abbrev s_used : Stmt := top 3
abbrev N_used : List Str := ["kind", "_", "rows", "ends", "steps", "come_to", "go_on", "row", "item", "state", "end"]
theorem sc_used : FnScope N_used ["kind"] (defScope s_used) := ⟨rfl, rfl, rfl, by decide +kernel, rfl, by decide +kernel, by decide +kernel⟩
abbrev s__reached : Stmt := top 4
abbrev N__reached : List Str := ["steps", "begins", "reached", "waiting", "state"]
theorem sc__reached : FnScope N__reached ["steps", "begins"] (defScope s__reached) := ⟨rfl, rfl, rfl, by decide +kernel, rfl, by decide +kernel, by decide +kernel⟩
abbrev s__turned : Stmt := top 5
abbrev N__turned : List Str := ["steps", "back", "begin", "targets", "target", "_"]
theorem sc__turned : FnScope N__turned ["steps"] (defScope s__turned) := ⟨rfl, rfl, rfl, by decide +kernel, rfl, by decide +kernel, by decide +kernel⟩
abbrev s__law_kind : Stmt := top 10
abbrev N__law_kind : List Str := ["_law_deck_here", "_law_letters", "_law_many", "_law_none", "_law_rows", "_law_k", "_law_row", "_law_j"]
theorem sc__law_kind : FnScope N__law_kind ["_law_deck_here", "_law_letters", "_law_many"] (defScope s__law_kind) := ⟨rfl, rfl, rfl, by decide +kernel, rfl, by decide +kernel, by decide +kernel⟩
abbrev s__law_line : Stmt := top 11
abbrev N__law_line : List Str := ["_law_deck_here", "_law_letters", "_law_many", "_law_rows", "_law_k", "_law_row", "_law_j"]
theorem sc__law_line : FnScope N__law_line ["_law_deck_here", "_law_letters", "_law_many"] (defScope s__law_line) := ⟨rfl, rfl, rfl, by decide +kernel, rfl, by decide +kernel, by decide +kernel⟩
abbrev s__law_word : Stmt := top 12
abbrev N__law_word : List Str := ["_law_deck_here", "_law_letters", "_law_most", "_law_k"]
theorem sc__law_word : FnScope N__law_word ["_law_deck_here", "_law_letters", "_law_most"] (defScope s__law_word) := ⟨rfl, rfl, rfl, by decide +kernel, rfl, by decide +kernel, by decide +kernel⟩
abbrev s__law_walked : Stmt := top 13
abbrev N__law_walked : List Str := ["_law_deck_here", "_law_kind_here", "_law_most", "_law_word_here", "_law_state", "_law_k", "_law_some", "_law_j"]
theorem sc__law_walked : FnScope N__law_walked ["_law_deck_here", "_law_kind_here", "_law_most"] (defScope s__law_walked) := ⟨rfl, rfl, rfl, by decide +kernel, rfl, by decide +kernel, by decide +kernel⟩
abbrev s__law_read : Stmt := top 14
abbrev N__law_read : List Str := ["_law_kind_here", "_law_word_here", "_law_states", "_law_letter", "_law_state"]
theorem sc__law_read : FnScope N__law_read ["_law_kind_here", "_law_word_here"] (defScope s__law_read) := ⟨rfl, rfl, rfl, by decide +kernel, rfl, by decide +kernel, by decide +kernel⟩
abbrev s__law_renamed : Stmt := top 15
abbrev N__law_renamed : List Str := ["_law_deck_here", "_law_kind_here", "_law_letters", "_law_rows", "_law_ends", "_law_waiting", "_law_order", "_law_new", "_law_moved", "_law_state", "_law_k", "_law_item"]
theorem sc__law_renamed : FnScope N__law_renamed ["_law_deck_here", "_law_kind_here"] (defScope s__law_renamed) := ⟨rfl, rfl, rfl, by decide +kernel, rfl, by decide +kernel, by decide +kernel⟩
abbrev s__law_used : Stmt := top 16
abbrev N__law_used : List Str := ["_law_kind_here", "_law_met", "_law_alive", "_law_turn", "_law_state", "_law_k", "_law_item"]
theorem sc__law_used : FnScope N__law_used ["_law_kind_here"] (defScope s__law_used) := ⟨rfl, rfl, rfl, by decide +kernel, rfl, by decide +kernel, by decide +kernel⟩
abbrev s__law_otherwise : Stmt := top 17
abbrev N__law_otherwise : List Str := ["_law_deck_here", "_law_letters", "_law_word_here", "_law_at"]
theorem sc__law_otherwise : FnScope N__law_otherwise ["_law_deck_here", "_law_letters", "_law_word_here"] (defScope s__law_otherwise) := ⟨rfl, rfl, rfl, by decide +kernel, rfl, by decide +kernel, by decide +kernel⟩
abbrev s_law : Stmt := top 18
abbrev N_law : List Str := ["_law_script", "_law_deck_here", "_law_turn", "_law_letters", "_law_many", "_law_kind_here", "_law_other", "_law_kept", "_law_words", "_law_k", "_law_word_here", "_law_due", "_law_one_here", "_law_end"]
theorem sc_law : FnScope N_law ["_law_script"] (defScope s_law) := ⟨rfl, rfl, rfl, by decide +kernel, rfl, by decide +kernel, by decide +kernel⟩
/-- where the defs stand -/
structure Adrs where
  f__law_deck : Addr
  d__law_deck : FuncData
  f__law_draw : Addr
  d__law_draw : FuncData
  f__law_one : Addr
  d__law_one : FuncData
  f_letter_number : Addr
  d_letter_number : FuncData
  f_is_of : Addr
  d_is_of : FuncData
  f_used : Addr
  d_used : FuncData
  f__reached : Addr
  d__reached : FuncData
  f__turned : Addr
  d__turned : FuncData
  f__law_kind : Addr
  d__law_kind : FuncData
  f__law_line : Addr
  d__law_line : FuncData
  f__law_word : Addr
  d__law_word : FuncData
  f__law_walked : Addr
  d__law_walked : FuncData
  f__law_read : Addr
  d__law_read : FuncData
  f__law_renamed : Addr
  d__law_renamed : FuncData
  f__law_used : Addr
  d__law_used : FuncData
  f__law_otherwise : Addr
  d__law_otherwise : FuncData
  f_law : Addr
  d_law : FuncData
structure Txt (K : PySem.W.Frag) (mg : Str → Option Value) (A : Adrs) : Prop where
  F__law_deck : Fun K "_law_deck" "_law_deck" s__law_deck A.f__law_deck A.d__law_deck
  m__law_deck : mg "_law_deck" = some (.ref A.f__law_deck)
  k__law_deck : PySem.W.keepIn K (.ref A.f__law_deck) = true
  b__law_deck : Binds K A.d__law_deck ["_law_script"] []
  F__law_draw : Fun K "_law_draw" "_law_draw" s__law_draw A.f__law_draw A.d__law_draw
  m__law_draw : mg "_law_draw" = some (.ref A.f__law_draw)
  k__law_draw : PySem.W.keepIn K (.ref A.f__law_draw) = true
  b__law_draw : Binds K A.d__law_draw ["_law_deck_here", "_law_many"] []
  F__law_one : Fun K "_law_one" "_law_one" s__law_one A.f__law_one A.d__law_one
  m__law_one : mg "_law_one" = some (.ref A.f__law_one)
  k__law_one : PySem.W.keepIn K (.ref A.f__law_one) = true
  b__law_one : Binds K A.d__law_one ["_law_deck_here", "_law_items"] []
  F_letter_number : Fun K "letter_number" "letter_number" s_letter_number A.f_letter_number A.d_letter_number
  m_letter_number : mg "letter_number" = some (.ref A.f_letter_number)
  k_letter_number : PySem.W.keepIn K (.ref A.f_letter_number) = true
  b_letter_number : Binds K A.d_letter_number ["letter"] []
  F_is_of : Fun K "is_of" "is_of" s_is_of A.f_is_of A.d_is_of
  m_is_of : mg "is_of" = some (.ref A.f_is_of)
  k_is_of : PySem.W.keepIn K (.ref A.f_is_of) = true
  b_is_of : Binds K A.d_is_of ["kind", "word"] []
  F_used : Fun K "used" "used" s_used A.f_used A.d_used
  m_used : mg "used" = some (.ref A.f_used)
  k_used : PySem.W.keepIn K (.ref A.f_used) = true
  b_used : Binds K A.d_used ["kind"] []
  F__reached : Fun K "_reached" "_reached" s__reached A.f__reached A.d__reached
  m__reached : mg "_reached" = some (.ref A.f__reached)
  k__reached : PySem.W.keepIn K (.ref A.f__reached) = true
  b__reached : Binds K A.d__reached ["steps", "begins"] []
  F__turned : Fun K "_turned" "_turned" s__turned A.f__turned A.d__turned
  m__turned : mg "_turned" = some (.ref A.f__turned)
  k__turned : PySem.W.keepIn K (.ref A.f__turned) = true
  b__turned : Binds K A.d__turned ["steps"] []
  F__law_kind : Fun K "_law_kind" "_law_kind" s__law_kind A.f__law_kind A.d__law_kind
  m__law_kind : mg "_law_kind" = some (.ref A.f__law_kind)
  k__law_kind : PySem.W.keepIn K (.ref A.f__law_kind) = true
  b__law_kind : Binds K A.d__law_kind ["_law_deck_here", "_law_letters", "_law_many"] []
  F__law_line : Fun K "_law_line" "_law_line" s__law_line A.f__law_line A.d__law_line
  m__law_line : mg "_law_line" = some (.ref A.f__law_line)
  k__law_line : PySem.W.keepIn K (.ref A.f__law_line) = true
  b__law_line : Binds K A.d__law_line ["_law_deck_here", "_law_letters", "_law_many"] []
  F__law_word : Fun K "_law_word" "_law_word" s__law_word A.f__law_word A.d__law_word
  m__law_word : mg "_law_word" = some (.ref A.f__law_word)
  k__law_word : PySem.W.keepIn K (.ref A.f__law_word) = true
  b__law_word : Binds K A.d__law_word ["_law_deck_here", "_law_letters", "_law_most"] []
  F__law_walked : Fun K "_law_walked" "_law_walked" s__law_walked A.f__law_walked A.d__law_walked
  m__law_walked : mg "_law_walked" = some (.ref A.f__law_walked)
  k__law_walked : PySem.W.keepIn K (.ref A.f__law_walked) = true
  b__law_walked : Binds K A.d__law_walked ["_law_deck_here", "_law_kind_here", "_law_most"] []
  F__law_read : Fun K "_law_read" "_law_read" s__law_read A.f__law_read A.d__law_read
  m__law_read : mg "_law_read" = some (.ref A.f__law_read)
  k__law_read : PySem.W.keepIn K (.ref A.f__law_read) = true
  b__law_read : Binds K A.d__law_read ["_law_kind_here", "_law_word_here"] []
  F__law_renamed : Fun K "_law_renamed" "_law_renamed" s__law_renamed A.f__law_renamed A.d__law_renamed
  m__law_renamed : mg "_law_renamed" = some (.ref A.f__law_renamed)
  k__law_renamed : PySem.W.keepIn K (.ref A.f__law_renamed) = true
  b__law_renamed : Binds K A.d__law_renamed ["_law_deck_here", "_law_kind_here"] []
  F__law_used : Fun K "_law_used" "_law_used" s__law_used A.f__law_used A.d__law_used
  m__law_used : mg "_law_used" = some (.ref A.f__law_used)
  k__law_used : PySem.W.keepIn K (.ref A.f__law_used) = true
  b__law_used : Binds K A.d__law_used ["_law_kind_here"] []
  F__law_otherwise : Fun K "_law_otherwise" "_law_otherwise" s__law_otherwise A.f__law_otherwise A.d__law_otherwise
  m__law_otherwise : mg "_law_otherwise" = some (.ref A.f__law_otherwise)
  k__law_otherwise : PySem.W.keepIn K (.ref A.f__law_otherwise) = true
  b__law_otherwise : Binds K A.d__law_otherwise ["_law_deck_here", "_law_letters", "_law_word_here"] []
  F_law : Fun K "law" "law" s_law A.f_law A.d_law
  m_law : mg "law" = some (.ref A.f_law)
  k_law : PySem.W.keepIn K (.ref A.f_law) = true
  b_law : Binds K A.d_law ["_law_script"] []
  z_abs : mg "abs" = none
  z_dict : mg "dict" = none
  z_enumerate : mg "enumerate" = none
  z_int : mg "int" = none
  z_len : mg "len" = none
  z_list : mg "list" = none
  z_ord : mg "ord" = none
  z_range : mg "range" = none
  z_repr : mg "repr" = none
  z_tuple : mg "tuple" = none
/-! ### the deck -/
/-- a deck at p, its cells at q, n numbers drawn so far -/
structure Deck (H : Hp) (p q : Addr) (n : Nat) : Prop where
  top : H p = some (.lst [.ref q, .int (n : Int)])
  cells : ∃ cs : List Int, H q = some (.lst (cs.map V.int)) ∧ (∀ c ∈ cs, 0 ≤ c) ∧ cs.length ≤ 63
theorem Deck.ne {H : Hp} {p q : Addr} {n : Nat} (d : Deck H p q n) : p ≠ q := by
  obtain ⟨cs, h, _⟩ := d.cells
  refine ne_of d.top h ?_
  intro e
  have e1 : [V.ref q, V.int (n : Int)] = cs.map V.int := HO.lst.inj e
  cases cs with
  | nil => cases e1
  | cons c cs =>
    have e2 := (List.cons.inj e1).1
    cases e2
/-- a deck that is not written -/
theorem Deck.ext {H H' : Hp} {p q : Addr} {n : Nat} {M : List Addr} (d : Deck H p q n) (e : Ext M H H') (hp : p ∉ M) (hq : q ∉ M) : Deck H' p q n := by
  obtain ⟨cs, h, r⟩ := d.cells
  exact ⟨e _ _ hp d.top, cs, e _ _ hq h, r⟩
theorem Deck.same {H H' : Hp} {p q : Addr} {n : Nat} (d : Deck H p q n) (e : Same H H') : Deck H' p q n := d.ext (M := []) (Ext.same e) (by simp) (by simp)
def spDraw : Sp := fun vs H Q _ => ∃ (p q : Addr) (n : Nat) (many : Int), vs = [.ref p, .int many] ∧ Deck H p q n ∧ n ≤ 1000000000 ∧ 0 < many ∧ many ≤ 1000000000 ∧
  ∀ (H' : Hp) (r : Int), Deck H' p q (n + 1) → Ext [p, q] H H' → 0 ≤ r → r < many → Q (.int r) H'
def spDeck (K : PySem.W.Frag) : Sp := fun vs H Q _ => ∃ (a : Addr) (ns : List Int), vs = [.ref a] ∧ SqL K H a (ns.map V.int) ∧ ns.length ≤ 63 ∧
  ∀ (H' : Hp) (p q : Addr), H p = none → H q = none → Deck H' p q 0 → Same H H' → Q (.ref p) H'
/-- one of the items of a list or a tuple, or one sign of a text -/
def spOne (K : PySem.W.Frag) : Sp := fun vs H Q _ => ∃ (p q : Addr) (n : Nat), Deck H p q n ∧ n ≤ 1000000000 ∧
  ((∃ (v : V) (M : List Addr) (ds : List PyData), vs = [.ref p, v] ∧ (T K M H v (.list ds) ∨ T K M H v (.tuple ds)) ∧ p ∈ M ∧ q ∈ M ∧ ds ≠ [] ∧ ds.length ≤ 1000 ∧
    ∀ (H' : Hp) (r : V) (d : PyData), Deck H' p q (n + 1) → Ext [p, q] H H' → T K M H' r d → d ∈ ds → Q r H') ∨
  (∃ z : Str, vs = [.ref p, .str z] ∧ z.cps.size ≠ 0 ∧ z.cps.size ≤ 1000 ∧ ∀ (H' : Hp) (i c : Nat), Deck H' p q (n + 1) → Ext [p, q] H H' → z.cps[i]? = some c → Q (.str ⟨#[c]⟩) H'))
section
variable {P : Program} {w : World} {K : PySem.W.Frag} {mg : Str → Option Value} {base : Heap} {A : Adrs}
theorem ok_deck (T : Txt K mg A) : FnOk P w K mg base CX0 1 A.f__law_deck A.d__law_deck ["_law_script"] (spDeck K) := by
  refine T.F__law_deck.ok sc__law_deck (fun vs H Q E h => ?_) (fun cdv Ar outer s H vs Q E hr h => ?_)
  · obtain ⟨_, _, rfl, _⟩ := h
    rfl
  obtain ⟨a, ns, rfl, hS, hl, k⟩ := h
  refine ⟨_, (pss_one (ps_ret (pe_lst (pa_cons (pe_lc (own := [("_law_cell", 1)]) rfl sc__law_deck.nd (kPiL K (pe_slice (kSlL K) (pv 0) po_none (po_some pe_int))) (blkOk_by (own := [("_law_cell", 1)]) (N := N__law_deck) (sc := defScope s__law_deck) (by decide +kernel)) (fun _ _ _ _ _ => (pg_name (i := 1) sc__law_deck.nd rfl (Or.inl rfl))) (fun _ _ _ _ _ => pts_nil) (fun _ _ _ _ _ => (pe_callB (id := "abs") call_abs (by rfl) T.z_abs (by decide +kernel) (pa_cons (pv 1) pa_nil)))) (pa_cons pe_int pa_nil))))), ?_⟩
  refine ⟨_, rfl, _, rfl, a, ns.map V.int, rfl, hS, fun l hl0 => ?_⟩
  have cut : cutV (ns.map V.int) none (some 63) = ns.map V.int := by
    unfold cutV
    rw [show HT.sIx (ns.map V.int).length 0 none = 0 from rfl, show (some (63 : Int)) = some ((63 : Nat) : Int) from rfl, HT.sIx_nat, List.drop_zero, List.length_map]
    exact List.take_of_length_le (by rw [List.length_map]; omega)
  rw [cut]
  refine ⟨l, rfl, ⟨_, SqL.of upd_same⟩, fun D hD => ?_⟩
  have hDl : D ≠ l := by
    intro e
    rw [e, upd_same] at hD
    cases hD
  have hD0 : H D = none := (upd_ne hDl).symm.trans hD
  refine lc_list (K := K) (a := l) (xs := ns.map V.int) (fun i H' => H' D = some (.lst (((ns.take i).map fun c => if c < 0 then -c else c).map V.int)) ∧ H' l = some (.lst (ns.map V.int)) ∧ Same H H')
    ⟨upd_same, by rw [upd_ne hDl.symm, upd_same], Same.newer (Same.new hl0) hD0⟩ (fun i H' _ h => SqL.of h.2.1) ?_ ?_
  · rintro i x H' hx ⟨h1, h2, h3⟩
    rw [List.getElem?_map] at hx
    obtain ⟨c, hc, rfl⟩ := Option.map_eq_some_iff.mp hx
    have hi : i < ns.length := (List.getElem?_eq_some_iff.mp hc).1
    refine ⟨rfl, ?_⟩
    refine yes_ ?_
    refine ⟨_, rfl, c, rfl, _, h1, ?_, ?_, ?_, ?_⟩
    · rw [List.length_map, List.length_map, List.length_take]
      exact Nat.lt_of_le_of_lt (show min i ns.length ≤ 63 by omega) (by decide)
    · rw [upd_same, List.take_add_one, hc, List.map_append, List.map_append]
      rfl
    · rw [upd_ne hDl.symm]
      exact h2
    · exact Same.newer h3 hD0
  · rintro H' ⟨h1, h2, h3⟩
    refine ⟨(show 2 ≤ sizeLine by decide), fun p hp => ?_⟩
    have hDp : D ≠ p := ne_of_none h1 hp
    refine k _ p D (Same.free h3 hp) hD0 ⟨upd_same, _, by rw [upd_ne hDp]; exact h1, ?_, ?_⟩ (Same.newer h3 (Same.free h3 hp))
    · intro c hc
      obtain ⟨b, _, rfl⟩ := List.mem_map.mp hc
      split <;> omega
    · rw [List.length_map, List.length_take]
      omega
theorem ok_draw (T : Txt K mg A) : FnOk P w K mg base CX0 1 A.f__law_draw A.d__law_draw ["_law_deck_here", "_law_many"] spDraw := by
  refine T.F__law_draw.ok sc__law_draw (fun vs H Q E h => ?_) (fun cdv Ar outer s H vs Q E hr h => ?_)
  · obtain ⟨_, _, _, _, rfl, _⟩ := h
    rfl
  obtain ⟨p, q, n, many, rfl, hD, hn, h0, h9, k⟩ := h
  obtain ⟨cs, hq, hc, hl⟩ := hD.cells
  have hp := hD.top
  have pq := hD.ne
  refine ⟨_, (pss_cons (ps_asg (pe_op op_add (pe_ix (kIxL K) (pv 0) pe_int (fun _ _ => rfl)) pe_int) (pg_sub (pv 0) pe_int set_list))
    (pss_cons (ps_asg (pe_tup (pa_cons pe_int (pa_cons (pe_un un_neg pe_int) pa_nil))) (kTgT K (n := 2) (by rfl) (pgs_cons (pg_name (i := 2) sc__law_draw.nd rfl (Or.inl rfl)) (pgs_cons (pg_name (i := 3) sc__law_draw.nd rfl (Or.inl rfl)) pgs_nil))))
    (pss_cons (ps_if (pt_cmpR op_gt (pe_callB (id := "len") (kLenQ K) (by rfl) T.z_len (by decide +kernel) (pa_cons (pe_ix (kIxL K) (pv 0) pe_int (fun _ _ => rfl)) pa_nil)) pe_int (nomark _)) (pss_cons (ps_set (i := 3) sc__law_draw.nd rfl (Or.inl rfl) (pe_op op_mod (pe_callTy (T := "int") call_int1 (by rfl) T.z_int (by decide +kernel) (pa_cons (pe_ix (kIxL K) (pv 0) pe_int (fun _ _ => rfl)) pa_nil)) (pe_callB (id := "len") (kLenQ K) (by rfl) T.z_len (by decide +kernel) (pa_cons (pe_ix (kIxL K) (pv 0) pe_int (fun _ _ => rfl)) pa_nil))))
    (pss_one (ps_set (i := 2) sc__law_draw.nd rfl (Or.inl rfl) (pe_ix (kIxL K) (pe_ix (kIxL K) (pv 0) pe_int (fun _ _ => rfl)) (pv 3) (fun _ _ => rfl)))))
    pss_nil)
    (pss_cons (ps_if (pt_cmpR op_ge (pv 2) (pe_op op_pow pe_int pe_int) (nomark _)) (pss_cons (ps_asg (pe_op op_fdiv (pe_callTy (T := "int") call_int1 (by rfl) T.z_int (by decide +kernel) (pa_cons (pv 2) pa_nil)) (pv 1)) (pg_sub (pe_ix (kIxL K) (pv 0) pe_int (fun _ _ => rfl)) (pv 3) set_list))
    (pss_one (ps_ret (pe_op op_mod (pe_callTy (T := "int") call_int1 (by rfl) T.z_int (by decide +kernel) (pa_cons (pv 2) pa_nil)) (pv 1)))))
    pss_nil)
    (pss_cons (ps_set (i := 4) sc__law_draw.nd rfl (Or.inl rfl) (pe_op op_add (pe_op op_add (pe_op op_mod (pe_callTy (T := "int") call_int1 (by rfl) T.z_int (by decide +kernel) (pa_cons (pv 2) pa_nil)) pe_int) (pe_op op_mul pe_int (pe_ix (kIxL K) (pv 0) pe_int (fun _ _ => rfl)))) pe_int))
    (pss_one (ps_ret (pe_op op_mod (pe_callTy (T := "int") call_int1 (by rfl) T.z_int (by decide +kernel) (pa_cons (pe_op op_mod (pe_callTy (T := "int") call_int1 (by rfl) T.z_int (by decide +kernel) (pa_cons (pe_op op_pow (pv 4) pe_int) pa_nil)) pe_int) pa_nil)) (pv 1))))))))), ?_⟩
  refine ⟨_, rfl, p, _, 1, _, rfl, rfl, SqL.of hp, rfl, _, _, rfl, rfl, _, rfl, p, _, 1, 1, rfl, rfl, hp, rfl, ?_⟩
  refine ⟨_, rfl, by decide, fun t ht => ?_⟩
  refine ⟨t, _, rfl, SqT.of upd_same, rfl, ?_⟩
  have tp : t ≠ p := by
    intro e
    rw [e, upd_same] at ht
    cases ht
  have ht0 : H t = none := (upd_ne tp).symm.trans ht
  have tq : t ≠ q := fun e => by rw [e, hq] at ht0; cases ht0
  have hp2 : (upd (upd H p (.lst ([V.ref q, V.int (n : Int)].set 1 (.int ((n : Int) + 1))))) t (.tup [V.int 0, .int (-1)])) p = some (.lst [V.ref q, V.int ((n : Int) + 1)]) := by
    rw [upd_ne tp.symm, upd_same]
    rfl
  have hq2 : (upd (upd H p (.lst ([V.ref q, V.int (n : Int)].set 1 (.int ((n : Int) + 1))))) t (.tup [V.int 0, .int (-1)])) q = some (.lst (cs.map V.int)) := by
    rw [upd_ne tq.symm, upd_ne pq.symm]
    exact hq
  have he2 : Ext [p, q] H (upd (upd H p (.lst ([V.ref q, V.int (n : Int)].set 1 (.int ((n : Int) + 1))))) t (.tup [V.int 0, .int (-1)])) :=
    Ext.trans (Ext.put (by simp)) (Ext.new ht)
  revert hp2 hq2 he2
  intro hp2 hq2 he2
  refine two_ ?_
  dsimp only
  revert hp2 hq2 he2
  generalize upd (upd H p (.lst ([V.ref q, V.int (n : Int)].set 1 (.int ((n : Int) + 1))))) t (.tup [V.int 0, .int (-1)]) = H2
  intro hp2 hq2 he2
  refine sq (fun σ' H' => H' = H2 ∧ ∃ (c : Int) (z : Int), 0 ≤ c ∧ σ' = [some (.ref p), some (.int many), some (.int c), some (.int z), none] ∧ (c = 0 ∨ ∃ i : Nat, z = (i : Int) ∧ cs[i]? = some c)) (fun N hN => ?_) ?_
  · refine ⟨_, rfl, p, _, 0, _, rfl, rfl, SqL.of hp2, rfl, q, _, rfl, .inl (SqL.of hq2), _, _, rfl, rfl, _, rfl, idec (fun hlen => ?_) (fun hlen => ?_)⟩
    · rw [List.length_map] at hlen
      have hm0 : 0 ≤ ((n : Int) + 1) % (cs.length : Int) := Int.emod_nonneg _ (by omega)
      have hm1 : ((n : Int) + 1) % (cs.length : Int) < cs.length := Int.emod_lt_of_pos _ (by omega)
      obtain ⟨i, hi⟩ : ∃ i : Nat, ((n : Int) + 1) % (cs.length : Int) = (i : Int) := ⟨_, (Int.toNat_of_nonneg hm0).symm⟩
      have hil : i < cs.length := by omega
      obtain ⟨c, hci⟩ : ∃ c, cs[i]? = some c := ⟨cs[i], by simp [hil]⟩
      refine ⟨_, rfl, p, _, 1, _, rfl, rfl, SqL.of hp2, rfl, .inl ⟨_, rfl, _, rfl, p, _, 0, _, rfl, rfl, SqL.of hp2, rfl, q, _, rfl, .inl (SqL.of hq2), _, _, rfl, rfl, ?_, ?_⟩⟩
      · rw [List.length_map]
        exact hlen
      · dsimp only
        rw [List.length_map, hi]
        refine ⟨_, rfl, p, _, 0, _, rfl, rfl, SqL.of hp2, rfl, _, rfl, q, _, (i : Int), .int c, rfl, rfl, SqL.of hq2, atI_nat (by rw [List.getElem?_map, hci]; rfl), ?_⟩
        exact hN _ _ ⟨rfl, c, (i : Int), hc c (List.mem_of_getElem? hci), rfl, .inr ⟨i, rfl, hci⟩⟩
    · exact hN _ _ ⟨rfl, 0, -1, Int.le_refl 0, rfl, .inl rfl⟩
  rintro σ' H' ⟨rfl, c, z, hc0, rfl, hcz⟩
  refine sq (fun σ' H'' => H'' = H' ∧ σ' = [some (.ref p), some (.int many), some (.int c), some (.int z), none]) (fun N hN => ?_) ?_
  · refine ⟨_, rfl, (10 : Int), (18 : Int), rfl, rfl, ⟨by decide, by decide, by decide⟩, _, _, rfl, rfl, _, rfl, idec (fun hbig => ?_) (fun _ => ?_)⟩
    · -- a great cell
      obtain ⟨i, rfl, hci⟩ : ∃ i : Nat, z = (i : Int) ∧ cs[i]? = some c := by
        rcases hcz with rfl | h
        · exact absurd hbig (by decide)
        · exact h
      have hil : i < cs.length := (List.getElem?_eq_some_iff.mp hci).1
      refine ⟨_, rfl, .inl ⟨_, rfl, _, rfl, _, _, rfl, rfl, ⟨h0, by omega⟩, ?_⟩⟩
      refine ⟨_, rfl, p, _, 0, _, rfl, rfl, SqL.of hp2, rfl, _, rfl, q, _, (i : Int), i, rfl, rfl, hq2, ?_, ?_⟩
      · unfold ixN
        rw [List.length_map, if_pos (by omega), if_pos (by omega)]
        simp
      refine ⟨_, rfl, .inl ⟨_, rfl, _, rfl, _, _, rfl, rfl, h0, ?_⟩⟩
      refine k _ _ ⟨by rw [upd_ne pq]; exact hp2, cs.set i (c / many), by rw [upd_same, List.map_set], ?_, by rw [List.length_set]; exact hl⟩ (Ext.trans he2 (Ext.put (by simp))) (Int.emod_nonneg _ (by omega)) (Int.emod_lt_of_pos _ h0)
      intro d hd
      rcases List.mem_or_eq_of_mem_set hd with h | rfl
      · exact hc d h
      · exact Int.ediv_nonneg hc0 (by omega)
    · exact hN _ _ ⟨rfl, rfl⟩
  rintro σ' H'' ⟨rfl, rfl⟩
  have hm0 : 0 ≤ c % 2147483563 := Int.emod_nonneg _ (by decide)
  have hm1 : c % 2147483563 < 2147483563 := Int.emod_lt_of_pos _ (by decide)
  refine ⟨_, rfl, .inl ⟨_, rfl, _, _, rfl, rfl, (show (0 : Int) < 2147483563 by decide), _, rfl, p, _, 1, _, rfl, rfl, SqL.of hp2, rfl, _, _, rfl, rfl, .inl ⟨by decide, by decide⟩, _, _, rfl, rfl, _, _, rfl, rfl, ?_⟩⟩
  refine ⟨_, rfl, _, _, rfl, rfl, ⟨by decide, by decide, by omega⟩, .inl ⟨_, rfl, _, _, rfl, rfl, (show (0 : Int) < 2147483629 by decide), .inl ⟨_, rfl, _, rfl, _, _, rfl, rfl, h0, ?_⟩⟩⟩
  exact k _ _ ⟨hp2, cs, hq2, hc, hl⟩ he2 (Int.emod_nonneg _ (by omega)) (Int.emod_lt_of_pos _ h0)
theorem ok_one (T : Txt K mg A) : FnOk P w K mg base CX0 2 A.f__law_one A.d__law_one ["_law_deck_here", "_law_items"] (spOne K) := by
  have G__law_draw : FnOk P w K mg base CX0 1 A.f__law_draw A.d__law_draw ["_law_deck_here", "_law_many"] spDraw := ok_draw T
  refine T.F__law_one.ok sc__law_one (fun vs H Q E h => ?_) (fun cdv Ar outer s H vs Q E hr h => ?_)
  · obtain ⟨_, _, _, _, _, ⟨_, _, _, rfl, _⟩ | ⟨_, rfl, _⟩⟩ := h
    · rfl
    · rfl
  obtain ⟨p, q, n, hD, hn, h⟩ := h
  rcases h with ⟨v, M, ds, rfl, ht, pM, qM, hne, hlen, k⟩ | ⟨z, rfl, hne, hlen, k⟩
  · refine ⟨_, (pss_one (ps_ret (pe_ix (kIxQ K) (pv 1) (pe_call G__law_draw (hr.mono (by first | decide | omega)) rfl T.m__law_draw T.k__law_draw T.b__law_draw .nil pass0 (pa_cons (pv 0) (pa_cons (pe_callB (id := "len") (kLenA K) (by rfl) T.z_len (by decide +kernel) (pa_cons (pv 1) pa_nil)) pa_nil))) (fun _ _ => rfl)))), ?_⟩
    rcases ht with ht | ht
    · cases ht with
      | @lst a xs ds' na ha t =>
        have lx := t.len
        refine ⟨_, rfl, _, rfl, _, rfl, _, xs.length, rfl, .inl ⟨xs, SqL.of ha, rfl⟩, p, q, n, _, rfl, hD, hn, ?_, ?_, fun H' r hD' e' r0 r1 => ?_⟩
        · have : ds.length ≠ 0 := fun z => hne (List.length_eq_zero_iff.mp z)
          omega
        · omega
        · obtain ⟨i, rfl⟩ : ∃ i : Nat, r = (i : Int) := ⟨r.toNat, (Int.toNat_of_nonneg r0).symm⟩
          have hi : i < xs.length := by omega
          have hx : xs[i]? = some xs[i] := by simp [hi]
          obtain ⟨d, hd, td⟩ := t.get hx
          have eM : Ext M H H' := e'.sub (by intro b hb; rcases List.mem_cons.mp hb with rfl | hb; exact pM; rcases List.mem_cons.mp hb with rfl | hb; exact qM; cases hb)
          refine .inl ⟨a, xs, (i : Int), xs[i], rfl, rfl, SqL.of (eM _ _ na ha), atI_nat hx, ?_⟩
          exact k H' _ d hD' e' (td.ext eM) (List.mem_of_getElem? hd)
    · cases ht with
      | @tup a xs ds' na ha t =>
        have lx := t.len
        refine ⟨_, rfl, _, rfl, _, rfl, _, xs.length, rfl, .inr ⟨xs, SqT.of ha, rfl⟩, p, q, n, _, rfl, hD, hn, ?_, ?_, fun H' r hD' e' r0 r1 => ?_⟩
        · have : ds.length ≠ 0 := fun z => hne (List.length_eq_zero_iff.mp z)
          omega
        · omega
        · obtain ⟨i, rfl⟩ : ∃ i : Nat, r = (i : Int) := ⟨r.toNat, (Int.toNat_of_nonneg r0).symm⟩
          have hi : i < xs.length := by omega
          have hx : xs[i]? = some xs[i] := by simp [hi]
          obtain ⟨d, hd, td⟩ := t.get hx
          have eM : Ext M H H' := e'.sub (by intro b hb; rcases List.mem_cons.mp hb with rfl | hb; exact pM; rcases List.mem_cons.mp hb with rfl | hb; exact qM; cases hb)
          refine .inr (.inl ⟨a, xs, (i : Int), xs[i], rfl, rfl, SqT.of (eM _ _ na ha), atI_nat hx, ?_⟩)
          exact k H' _ d hD' e' (td.ext eM) (List.mem_of_getElem? hd)
  · refine ⟨_, (pss_one (ps_ret (pe_ix (kIxQ K) (pv 1) (pe_call G__law_draw (hr.mono (by first | decide | omega)) rfl T.m__law_draw T.k__law_draw T.b__law_draw .nil pass0 (pa_cons (pv 0) (pa_cons (pe_callB (id := "len") (kLenA K) (by rfl) T.z_len (by decide +kernel) (pa_cons (pv 1) pa_nil)) pa_nil))) (fun _ _ => rfl)))), ?_⟩
    have zl : z.length = z.cps.size := rfl
    have zs : z.length ≤ sizeLine := Nat.le_trans (by omega) (show 1000 ≤ sizeLine by decide)
    refine ⟨_, rfl, _, rfl, _, rfl, _, z.length, rfl, ⟨zs, rfl⟩, p, q, n, _, rfl, hD, hn, by omega, by omega, fun H' r hD' e' r0 r1 => ?_⟩
    obtain ⟨i, rfl⟩ : ∃ i : Nat, r = (i : Int) := ⟨r.toNat, (Int.toNat_of_nonneg r0).symm⟩
    have hi : i < z.cps.size := by omega
    have hx : z.cps.toList[i]? = some z.cps[i] := by simp [hi]
    refine .inr (.inr ⟨z, (i : Int), z.cps[i], rfl, rfl, zs, atI_nat hx, ?_⟩)
    exact k H' i _ hD' e' (by simp [hi])
end

/-! ### kinds and words -/
def itemD : Option Nat → PyData
  | none => .none
  | some n => .int (n : Int)
def rowD (r : List (Option Nat)) : PyData := .tuple (r.map itemD)
def kindD (L : Nat) (rows : List (List (Option Nat))) (ends : List Bool) : PyData := .tuple [.int (L : Int), .tuple (rows.map rowD), .tuple (ends.map .bool)]
/-- L letters, N states -/
structure KindOk (L N : Nat) (rows : List (List (Option Nat))) (ends : List Bool) : Prop where
  lr : rows.length = N
  le : ends.length = N
  row : ∀ r ∈ rows, r.length = L ∧ ∀ n, some n ∈ r → n < N
  l1 : 1 ≤ L
  l4 : L ≤ 4
  n1 : 1 ≤ N
  n9 : N ≤ 9
def stepOf (rows : List (List (Option Nat))) (s c : Nat) : Option Nat := (rows.getD s []).getD c none
def runOf (rows : List (List (Option Nat))) : Nat → List Nat → Option Nat
  | s, [] => some s
  | s, c :: cs => match stepOf rows s c with
    | none => none
    | some t => runOf rows t cs
def isOf (rows : List (List (Option Nat))) (ends : List Bool) (ws : List Nat) : Bool := match runOf rows 0 ws with
  | none => false
  | some s => ends.getD s false
/-- the text of a row of letters -/
def txt (ws : List Nat) : Str := ⟨(ws.map (97 + ·)).toArray⟩
theorem txt_size (ws : List Nat) : (txt ws).cps.size = ws.length := by simp [txt]
theorem txt_get (ws : List Nat) (i : Nat) : (txt ws).cps[i]? = ws[i]?.map (97 + ·) := by simp [txt]
theorem KindOk.step {L N : Nat} {rows : List (List (Option Nat))} {ends : List Bool} (k : KindOk L N rows ends) {s c t : Nat} (h : stepOf rows s c = some t) : t < N := by
  unfold stepOf at h
  rw [List.getD_eq_getElem?_getD, List.getD_eq_getElem?_getD] at h
  cases hr : rows[s]? with
  | none => rw [hr] at h; simp at h
  | some r =>
    rw [hr] at h
    cases hc : r[c]? with
    | none =>
      rw [Option.getD_some, hc] at h
      cases h
    | some x =>
      rw [Option.getD_some, hc, Option.getD_some] at h
      subst h
      exact (k.row r (List.mem_of_getElem? hr)).2 t (List.mem_of_getElem? hc)
theorem runOf_snoc (rows : List (List (Option Nat))) : ∀ (s : Nat) (ws : List Nat) (c : Nat), runOf rows s (ws ++ [c]) = (runOf rows s ws).bind fun t => stepOf rows t c
  | s, [], c => by
    show (match stepOf rows s c with | none => none | some t => runOf rows t []) = stepOf rows s c
    cases stepOf rows s c <;> rfl
  | s, d :: ds, c => by
    show (match stepOf rows s d with | none => none | some t => runOf rows t (ds ++ [c])) = (match stepOf rows s d with | none => none | some t => runOf rows t ds).bind _
    cases stepOf rows s d with
    | none => rfl
    | some t => exact runOf_snoc rows t ds c
theorem runOf_none (rows : List (List (Option Nat))) : ∀ (s : Nat) (ws vs : List Nat), runOf rows s ws = none → runOf rows s (ws ++ vs) = none
  | s, [], vs, h => by cases h
  | s, d :: ds, vs, h => by
    show (match stepOf rows s d with | none => none | some t => runOf rows t (ds ++ vs)) = none
    have h : (match stepOf rows s d with | none => none | some t => runOf rows t ds) = none := h
    cases hd : stepOf rows s d with
    | none => rfl
    | some t =>
      rw [hd] at h
      exact runOf_none rows t ds vs h
/-- a kind's parts in the heap -/
structure KindAt (K : PySem.W.Frag) (M : List Addr) (H : Hp) (v : V) (L : Nat) (rows : List (List (Option Nat))) (ends : List Bool) : Prop where
  at_ : T K M H v (kindD L rows ends)
theorem KindAt.parts {K : PySem.W.Frag} {M : List Addr} {H : Hp} {v : V} {L : Nat} {rows : List (List (Option Nat))} {ends : List Bool} (h : T K M H v (kindD L rows ends)) :
    ∃ a r e rs, v = .ref a ∧ H a = some (.tup [.int (L : Int), .ref r, .ref e]) ∧ a ∉ M ∧ r ∉ M ∧ e ∉ M ∧ H r = some (.tup rs) ∧ TA K M H rs (rows.map rowD) ∧ H e = some (.tup (ends.map V.bl)) := by
  unfold kindD at h
  cases h with
  | @tup a xs _ na ha t =>
    cases t with
    | cons t1 t =>
      cases t with
      | cons t2 t =>
        cases t with
        | cons t3 t =>
          cases t
          cases t1
          cases t2 with
          | @tup r rs _ nr hr tr =>
            cases t3 with
            | @tup e es _ ne he te =>
              refine ⟨a, r, e, rs, rfl, ha, na, nr, ne, hr, tr, ?_⟩
              rw [← TA.of_bools te]
              exact he
theorem rowAt {K : PySem.W.Frag} {M : List Addr} {H : Hp} {rs : List V} {rows : List (List (Option Nat))} {s : Nat} (h : TA K M H rs (rows.map rowD)) (hs : s < rows.length) :
    ∃ b its, rs[s]? = some (.ref b) ∧ H b = some (.tup its) ∧ b ∉ M ∧ TA K M H its (rows[s].map itemD) := by
  have lx := h.len
  rw [List.length_map] at lx
  have hx : rs[s]? = some rs[s] := by simp [lx, hs]
  obtain ⟨d, hd, td⟩ := h.get hx
  rw [List.getElem?_map, List.getElem?_eq_getElem hs] at hd
  cases hd
  generalize rs[s] = x at hx td
  cases td with
  | @tup b its _ nb hb tb => exact ⟨b, its, hx, hb, nb, tb⟩
def itemV : Option Nat → V
  | none => .non
  | some n => .int (n : Int)
theorem TA.items {K : PySem.W.Frag} {M : List Addr} {H : Hp} : ∀ {its : List V} {r : List (Option Nat)}, TA K M H its (r.map itemD) → its = r.map itemV
  | _, [], h => by
    cases h
    rfl
  | _, x :: xs, h => by
    cases h with
    | cons h1 h2 =>
      rw [TA.items h2]
      cases x with
      | none => cases h1; rfl
      | some n => cases h1; rfl
/-- over a text -/
theorem for_txt {x : Str} {g : TG} {tb : TS} {D : Ends} {σ : L2.St} {H : Hp} (Pv : Nat → L2.St → Hp → Prop) (h0 : Pv 0 σ H)
    (hs : ∀ i c σ H, x.cps[i]? = some c → Pv i σ H → g (.str ⟨#[c]⟩) σ H fun σ2 H2 => tb { D with nx := Pv (i + 1), ct := Pv (i + 1), bk := D.nx } σ2 H2) (hd : ∀ σ H, Pv x.cps.size σ H → D.nx σ H) :
    ∃ W : Nat → Nat → L2.St → Hp → Prop, (∃ m, W 0 m σ H) ∧ ∀ i m σ H, W i m σ H →
      ((Its x).stop i H ∧ D.nx σ H) ∨ ((Its x).go i H ∧ ∃ N : L2.St → Hp → Prop, (∀ σ' H', N σ' H' → ∃ m', m' < m ∧ W (i + 1) m' σ' H') ∧ ∀ v H', (Its x).yld i H v H' → g v σ H' fun σ2 H2 => tb { D with nx := N, ct := N, bk := D.nx } σ2 H2) := by
  refine ⟨fun i m σ H => m + i = x.cps.size ∧ Pv i σ H, ⟨x.cps.size, rfl, h0⟩, ?_⟩
  rintro i m σ H ⟨hm, p⟩
  by_cases hlt : i < x.cps.size
  · refine .inr ⟨hlt, Pv (i + 1), fun σ' H' p' => ⟨m - 1, by omega, by omega, p'⟩, ?_⟩
    rintro v H' ⟨rfl, c, hc, rfl⟩
    exact hs i c σ _ hc p
  · have e : i = x.cps.size := by omega
    subst e
    exact .inl ⟨Nat.le_refl _, hd σ H p⟩
/-! ### is_of -/
def spLetter : Sp := fun vs H Q _ => ∃ c : Nat, vs = [.str ⟨#[97 + c]⟩] ∧ Q (.int (c : Int)) H
def spIs (K : PySem.W.Frag) : Sp := fun vs H Q _ => ∃ (v : V) (M : List Addr) (L N : Nat) (rows : List (List (Option Nat))) (ends : List Bool) (ws : List Nat), vs = [v, .str (txt ws)] ∧ T K M H v (kindD L rows ends) ∧ KindOk L N rows ends ∧ (∀ c ∈ ws, c < L) ∧
  ∀ H', Same H H' → Q (.bl (isOf rows ends ws)) H'
section
variable {P : Program} {w : World} {K : PySem.W.Frag} {mg : Str → Option Value} {base : Heap} {A : Adrs}
theorem ok_letter (T : Txt K mg A) : FnOk P w K mg base CX0 1 A.f_letter_number A.d_letter_number ["letter"] spLetter := by
  refine T.F_letter_number.ok sc_letter_number (fun vs H Q E h => ?_) (fun cdv Ar outer s H vs Q E hr h => ?_)
  · obtain ⟨_, rfl, _⟩ := h
    rfl
  obtain ⟨c, rfl, k⟩ := h
  refine ⟨_, (pss_one (ps_ret (pe_op op_sub (pe_callB (id := "ord") call_ord (by rfl) T.z_ord (by decide +kernel) (pa_cons (pv 0) pa_nil)) (pe_callB (id := "ord") call_ord (by rfl) T.z_ord (by decide +kernel) (pa_cons pe_str pa_nil))))), ?_⟩
  refine ⟨_, rfl, _, rfl, rfl, _, rfl, rfl, ?_⟩
  refine ⟨_, _, rfl, rfl, ?_⟩
  show Q (.int ((97 + c : Nat) - ((97 : Nat) : Int))) H
  rw [show (((97 + c : Nat) : Int) - ((97 : Nat) : Int)) = (c : Int) by omega]
  exact k
theorem ok_isOf (T : Txt K mg A) : FnOk P w K mg base CX0 2 A.f_is_of A.d_is_of ["kind", "word"] (spIs K) := by
  have G_letter_number : FnOk P w K mg base CX0 1 A.f_letter_number A.d_letter_number ["letter"] spLetter := ok_letter T
  refine T.F_is_of.ok sc_is_of (fun vs H Q E h => ?_) (fun cdv Ar outer s H vs Q E hr h => ?_)
  · obtain ⟨_, _, _, _, _, _, _, rfl, _⟩ := h
    rfl
  obtain ⟨v, M, L, N, rows, ends, ws, rfl, ht, hk, hw, k⟩ := h
  refine ⟨_, (pss_cons (ps_asg (pv 0) (kTgT K (n := 3) (by rfl) (pgs_cons (pg_name (i := 2) sc_is_of.nd rfl (Or.inl rfl)) (pgs_cons (pg_name (i := 3) sc_is_of.nd rfl (Or.inl rfl)) (pgs_cons (pg_name (i := 4) sc_is_of.nd rfl (Or.inl rfl)) pgs_nil)))))
    (pss_cons (ps_set (i := 5) sc_is_of.nd rfl (Or.inl rfl) pe_int)
    (pss_cons (ps_for PassesOwn.never rfl (pi_str (pv 1)) (pg_name (i := 6) sc_is_of.nd rfl (Or.inl rfl))
    (pss_cons (ps_set (i := 5) sc_is_of.nd rfl (Or.inl rfl) (pe_ix (kIxT K) (pe_ix (kIxT K) (pv 3) (pv 5) (fun _ _ => rfl)) (pe_call G_letter_number (hr.mono (by first | decide | omega)) rfl T.m_letter_number T.k_letter_number T.b_letter_number .nil pass0 (pa_cons (pv 6) pa_nil)) (fun _ _ => rfl)))
    (pss_one (ps_if (pt_cmpR op_isN (pv 5) pe_non (nomark _)) (pss_one (ps_ret pe_bl))
    pss_nil))))
    (pss_one (ps_ret (pe_ix (kIxT K) (pv 4) (pv 5) (fun _ _ => rfl))))))), ?_⟩
  obtain ⟨a, r, e, rs, rfl, ha, na, nr, ne, hr', tr, he⟩ := KindAt.parts ht
  have lrs := tr.len
  rw [List.length_map, hk.lr] at lrs
  refine ⟨_, rfl, a, _, rfl, SqT.of ha, rfl, _, _, rfl, _, _, rfl, _, _, rfl, rfl, ?_⟩
  dsimp only [gName]
  refine sq (fun σ' H' => σ' = [some (.ref a), some (.str (txt ws)), some (.int (L : Int)), some (.ref r), some (.ref e), some (.int ((0 : Nat) : Int)), none] ∧ H' = H) (fun W hW => hW _ _ ⟨rfl, rfl⟩) ?_
  rintro _ H0 ⟨rfl, rfl⟩
  refine sq (fun σ' H' => ∃ (t : Nat) (o6 : Option V), σ' = [some (.ref a), some (.str (txt ws)), some (.int (L : Int)), some (.ref r), some (.ref e), some (.int (t : Int)), o6] ∧ Same H0 H' ∧ runOf rows 0 ws = some t ∧ t < N) (fun W hW => ?_) ?_
  · refine ⟨_, rfl, _, rfl, ?_⟩
    refine for_txt (fun i σ' H' => ∃ (t : Nat) (o6 : Option V), σ' = [some (.ref a), some (.str (txt ws)), some (.int (L : Int)), some (.ref r), some (.ref e), some (.int (t : Int)), o6] ∧ Same H0 H' ∧ runOf rows 0 (ws.take i) = some t ∧ t < N) ⟨0, none, rfl, Same.refl _, rfl, hk.n1⟩ ?_ ?_
    · rintro i x σ' H' hx ⟨t, o6, rfl, s, hrun, tN⟩
      rw [txt_get] at hx
      obtain ⟨c, hc, rfl⟩ := Option.map_eq_some_iff.mp hx
      have cL := hw c (List.mem_of_getElem? hc)
      have tl : t < rows.length := by rw [hk.lr]; exact tN
      obtain ⟨b, its, hb, hits, nb, ti⟩ := rowAt tr tl
      have ei := TA.items ti
      obtain ⟨hlen, hin⟩ := hk.row rows[t] (List.getElem_mem tl)
      have cl : c < rows[t].length := by omega
      have hst : stepOf rows t c = rows[t][c] := by
        have e1 : rows.getD t [] = rows[t] := by rw [List.getD_eq_getElem?_getD, List.getElem?_eq_getElem tl, Option.getD_some]
        unfold stepOf
        rw [e1, List.getD_eq_getElem?_getD, List.getElem?_eq_getElem cl, Option.getD_some]
      have hic : its[c]? = some (itemV (stepOf rows t c)) := by
        rw [ei, List.getElem?_map, List.getElem?_eq_getElem cl, hst]
        rfl
      have hn : runOf rows 0 (ws.take (i + 1)) = stepOf rows t c := by
        rw [List.take_add_one, hc]
        show runOf rows 0 (ws.take i ++ [c]) = _
        rw [runOf_snoc, hrun]
        rfl
      dsimp only [gName]
      refine ⟨_, rfl, _, rfl, r, rs, (t : Int), .ref b, rfl, rfl, SqT.of (s _ _ hr'), atI_nat hb, _, rfl, c, rfl, b, its, (c : Int), _, rfl, rfl, SqT.of (s _ _ hits), atI_nat hic, ?_⟩
      dsimp only [gName]
      refine ⟨_, rfl, rfl, _, rfl, idec (fun en => ?_) (fun en => ?_)⟩
      · have e0 : stepOf rows t c = none := by
          cases hq : stepOf rows t c with
          | none => rfl
          | some y => rw [hq] at en; cases en
        have z : isOf rows ends ws = false := by
          have h2 : runOf rows 0 ws = none := by
            have h3 := runOf_none rows 0 (ws.take (i + 1)) (ws.drop (i + 1)) (hn.trans e0)
            rw [List.take_append_drop] at h3
            exact h3
          unfold isOf
          rw [h2]
        rw [← z]
        exact k _ s
      · cases hq : stepOf rows t c with
        | none => rw [hq] at en; exact absurd rfl en
        | some y => exact ⟨y, some (.str ⟨#[97 + c]⟩), rfl, s, hn.trans hq, hk.step hq⟩
    · rintro σ' H' ⟨t, o6, rfl, s, hrun, tN⟩
      rw [txt_size, List.take_length] at hrun
      exact hW _ _ ⟨t, o6, rfl, s, hrun, tN⟩
  rintro σ' H' ⟨t, o6, rfl, s, hrun, tN⟩
  have hte : t < ends.length := by rw [hk.le]; exact tN
  have z : isOf rows ends ws = ends[t] := by
    unfold isOf
    rw [hrun]
    show ends.getD t false = _
    rw [List.getD_eq_getElem?_getD, List.getElem?_eq_getElem hte, Option.getD_some]
  refine ⟨_, rfl, _, rfl, e, _, (t : Int), .bl ends[t], rfl, rfl, SqT.of (s _ _ he), atI_nat (by rw [List.getElem?_map, List.getElem?_eq_getElem hte]; rfl), ?_⟩
  rw [← z]
  exact k _ s
end

/-! ### what is come to -/
def nD (n : Nat) : PyData := .int (n : Int)
def nV (n : Nat) : V := .int (n : Int)
def stepsD (steps : List (List Nat)) : PyData := .list (steps.map fun r => .list (r.map nD))
inductive Rch (steps : List (List Nat)) (begins : List Nat) : Nat → Prop
  | base {s : Nat} : s ∈ begins → Rch steps begins s
  | next {s t : Nat} : Rch steps begins s → t ∈ steps.getD s [] → Rch steps begins t
/-- what may still be put to wait -/
def rest : List (List Nat) → List Bool → Nat
  | r :: rs, b :: bs => (if b then 0 else r.length) + rest rs bs
  | _, _ => 0
theorem rest_set : ∀ {steps : List (List Nat)} {bs : List Bool} {s : Nat} {r : List Nat}, steps[s]? = some r → bs[s]? = some false → rest steps (bs.set s true) + r.length = rest steps bs
  | x :: xs, b :: bs, 0, r, h1, h2 => by
    cases h1
    cases h2
    show (0 + rest xs bs) + x.length = x.length + rest xs bs
    omega
  | x :: xs, b :: bs, s + 1, r, h1, h2 => by
    have ih := rest_set (steps := xs) (bs := bs) (s := s) (r := r) (by simpa using h1) (by simpa using h2)
    show ((if b then 0 else x.length) + rest xs (bs.set s true)) + r.length = (if b then 0 else x.length) + rest xs bs
    omega
  | [], _, _, _, h1, _ => by cases h1
  | _ :: _, [], _, _, _, h2 => by cases h2
theorem rest_false : ∀ {steps : List (List Nat)} {c n : Nat}, (∀ r ∈ steps, r.length ≤ c) → rest steps (List.replicate n false) ≤ c * steps.length
  | [], _, n, _ => by cases n <;> exact Nat.zero_le _
  | x :: xs, c, 0, _ => Nat.zero_le _
  | x :: xs, c, n + 1, h => by
    have ih := rest_false (steps := xs) (c := c) (n := n) fun r hr => h r (List.mem_cons_of_mem _ hr)
    have hx := h x List.mem_cons_self
    show x.length + rest xs (List.replicate n false) ≤ c * (xs.length + 1)
    rw [Nat.mul_add, Nat.mul_one]
    omega
theorem TA.nats {K : PySem.W.Frag} {M : List Addr} {H : Hp} : ∀ {ys : List V} {ns : List Nat}, TA K M H ys (ns.map nD) → ys = ns.map nV
  | _, [], h => by
    cases h
    rfl
  | _, n :: ns, h => by
    cases h with
    | cons h1 h2 =>
      cases h1
      rw [TA.nats h2]
      rfl
theorem ta_nats {K : PySem.W.Frag} {M : List Addr} {H : Hp} : ∀ ns : List Nat, TA K M H (ns.map nV) (ns.map nD)
  | [] => .nil
  | n :: ns => .cons (.int _) (ta_nats ns)
theorem natsAt {K : PySem.W.Frag} {M : List Addr} {H : Hp} {v : V} {ns : List Nat} (h : T K M H v (.list (ns.map nD))) : ∃ a, v = .ref a ∧ H a = some (.lst (ns.map nV)) ∧ a ∉ M := by
  cases h with
  | @lst a xs _ na ha t =>
    rw [TA.nats t] at ha
    exact ⟨a, rfl, ha, na⟩
/-- n rows of at most c numbers under n -/
structure StepsOk (steps : List (List Nat)) (n c : Nat) : Prop where
  len : steps.length = n
  row : ∀ r ∈ steps, r.length ≤ c ∧ ∀ t ∈ r, t < n
theorem StepsOk.lt {steps : List (List Nat)} {n c s t : Nat} (k : StepsOk steps n c) (h : t ∈ steps.getD s []) : t < n := by
  rw [List.getD_eq_getElem?_getD] at h
  cases hr : steps[s]? with
  | none => rw [hr] at h; cases h
  | some r =>
    rw [hr] at h
    exact (k.row r (List.mem_of_getElem? hr)).2 t h
theorem stepsAt {K : PySem.W.Frag} {M : List Addr} {H : Hp} {v : V} {steps : List (List Nat)} (h : T K M H v (stepsD steps)) :
    ∃ (a : Addr) (bx : List V), v = .ref a ∧ H a = some (.lst bx) ∧ a ∉ M ∧ bx.length = steps.length ∧ ∀ (s : Nat) (r : List Nat), steps[s]? = some r → ∃ b : Addr, bx[s]? = some (.ref b) ∧ H b = some (.lst (r.map nV)) ∧ b ∉ M := by
  unfold stepsD at h
  cases h with
  | @lst a bx _ na ha t =>
    have lx := t.len
    rw [List.length_map] at lx
    refine ⟨a, bx, rfl, ha, na, lx, fun s r hs => ?_⟩
    have sl : s < bx.length := by
      rw [lx]
      exact (List.getElem?_eq_some_iff.mp hs).1
    have hx : bx[s]? = some bx[s] := by simp [sl]
    obtain ⟨d, hd, td⟩ := t.get hx
    rw [List.getElem?_map, hs] at hd
    cases hd
    obtain ⟨b, e, hb, nb⟩ := natsAt td
    rw [e] at hx
    exact ⟨b, hx, hb, nb⟩
/-- ahead of each turn -/
structure RInv (steps : List (List Nat)) (begins : List Nat) (n : Nat) (H : Hp) (D Wt : Addr) (H' : Hp) (bs : List Bool) (wl : List Nat) : Prop where
  same : Same H H'
  atD : H' D = some (.lst (bs.map V.bl))
  atW : H' Wt = some (.lst (wl.map nV))
  len : bs.length = n
  wait : ∀ s ∈ wl, s < n ∧ Rch steps begins s
  met : ∀ s : Nat, bs[s]? = some true → Rch steps begins s
  beg : ∀ s ∈ begins, bs[s]? = some true ∨ s ∈ wl
  nxt : ∀ s : Nat, bs[s]? = some true → ∀ t ∈ steps.getD s [], bs[t]? = some true ∨ t ∈ wl
  few : wl.length + rest steps bs ≤ 10100
theorem RInv.done {steps : List (List Nat)} {begins : List Nat} {n : Nat} {H H' : Hp} {D Wt : Addr} {bs : List Bool} (i : RInv steps begins n H D Wt H' bs []) : ∀ s : Nat, bs[s]? = some true ↔ Rch steps begins s := fun s =>
  ⟨i.met s, fun h => by
    induction h with
    | base h => exact (i.beg _ h).resolve_right (by simp)
    | next _ ht ih => exact (i.nxt _ ih _ ht).resolve_right (by simp)⟩
/-- one that waits is met already -/
theorem RInv.skip {steps : List (List Nat)} {begins : List Nat} {n : Nat} {H H' : Hp} {D Wt : Addr} {bs : List Bool} {wl : List Nat} {x : Nat} (i : RInv steps begins n H D Wt H' bs (wl ++ [x])) (hW : H Wt = none) (ne : D ≠ Wt) (hx : bs[x]? = some true) :
    RInv steps begins n H D Wt (upd H' Wt (.lst (wl.map nV))) bs wl := by
  have out : ∀ t, bs[t]? = some true ∨ t ∈ wl ++ [x] → bs[t]? = some true ∨ t ∈ wl := by
    intro t h
    rcases h with h | h
    · exact .inl h
    · rcases List.mem_append.mp h with h | h
      · exact .inr h
      · have : t = x := by simpa using h
        exact .inl (this ▸ hx)
  refine ⟨Same.newer i.same hW, by rw [upd_ne ne]; exact i.atD, upd_same, i.len, fun s h => i.wait s (List.mem_append_left _ h), i.met, fun s h => out s (i.beg s h), fun s h t ht => out t (i.nxt s h t ht), ?_⟩
  have := i.few
  rw [List.length_append] at this
  omega
/-- one is met -/
theorem RInv.meet {steps : List (List Nat)} {begins : List Nat} {n c : Nat} {H H' : Hp} {D Wt : Addr} {bs : List Bool} {wl r : List Nat} {x : Nat} (i : RInv steps begins n H D Wt H' bs (wl ++ [x])) (k : StepsOk steps n c) (hW : H Wt = none) (hD : H D = none) (ne : D ≠ Wt) (hx : bs[x]? = some false) (hr : steps[x]? = some r)
    {o : HO} : RInv steps begins n H D Wt (upd (upd (upd H' Wt o) D (.lst ((bs.set x true).map V.bl))) Wt (.lst ((wl ++ r).map nV))) (bs.set x true) (wl ++ r) := by
  have xl : x < bs.length := (List.getElem?_eq_some_iff.mp hx).1
  have rx := (i.wait x (by simp)).2
  have er : steps.getD x [] = r := by rw [List.getD_eq_getElem?_getD, hr]; rfl
  have set_ : ∀ t : Nat, (bs.set x true)[t]? = some true ↔ t = x ∨ bs[t]? = some true := by
    intro t
    by_cases e : x = t
    · subst e
      rw [List.getElem?_set_self xl]
      simp
    · rw [List.getElem?_set_ne e]
      constructor
      · exact .inr
      · rintro (h | h)
        · exact absurd h.symm e
        · exact h
  have out : ∀ t, bs[t]? = some true ∨ t ∈ wl ++ [x] → (bs.set x true)[t]? = some true ∨ t ∈ wl ++ r := by
    intro t h
    rcases h with h | h
    · exact .inl ((set_ t).mpr (.inr h))
    · rcases List.mem_append.mp h with h | h
      · exact .inr (List.mem_append_left _ h)
      · have : t = x := by simpa using h
        exact .inl ((set_ t).mpr (.inl this))
  refine ⟨Same.newer (Same.newer (Same.newer i.same hW) hD) hW, by rw [upd_ne ne, upd_same], upd_same, by rw [List.length_set]; exact i.len, ?_, ?_, fun s h => out s (i.beg s h), ?_, ?_⟩
  · intro s h
    rcases List.mem_append.mp h with h | h
    · exact i.wait s (List.mem_append_left _ h)
    · have h2 : s ∈ steps.getD x [] := by rw [er]; exact h
      exact ⟨k.lt h2, .next rx h2⟩
  · intro s h
    rcases (set_ s).mp h with rfl | h
    · exact rx
    · exact i.met s h
  · intro s h t ht
    rcases (set_ s).mp h with rfl | h
    · rw [er] at ht
      exact .inr (List.mem_append_right _ ht)
    · exact out t (i.nxt s h t ht)
  · have h1 := i.few
    have h2 := rest_set hr hx
    rw [List.length_append] at h1 ⊢
    have : [x].length = 1 := rfl
    omega
theorem flat_rep {α : Type} (x : α) : ∀ n : Nat, (List.replicate n [x]).flatten = List.replicate n x
  | 0 => rfl
  | n + 1 => by rw [List.replicate_succ, List.flatten_cons, flat_rep x n]; rfl
def spReached (K : PySem.W.Frag) : Sp := fun vs H Q _ => ∃ (v u : V) (M : List Addr) (steps : List (List Nat)) (begins : List Nat) (n : Nat), vs = [v, u] ∧ T K M H v (stepsD steps) ∧ T K M H u (.list (begins.map nD)) ∧ StepsOk steps n 100 ∧ n ≤ 100 ∧
  (∀ b ∈ begins, b < n) ∧ begins.length ≤ 100 ∧
  ∀ (H' : Hp) (D : Addr) (bs : List Bool), Same H H' → H D = none → H' D = some (.lst (bs.map V.bl)) → bs.length = n → (∀ s, s < n → (bs[s]? = some true ↔ Rch steps begins s)) → Q (.ref D) H'
section
variable {P : Program} {w : World} {K : PySem.W.Frag} {mg : Str → Option Value} {base : Heap} {A : Adrs}
theorem ok_reached (T : Txt K mg A) : FnOk P w K mg base CX0 1 A.f__reached A.d__reached ["steps", "begins"] (spReached K) := by
  refine T.F__reached.ok sc__reached (fun vs H Q E h => ?_) (fun cdv Ar outer s H vs Q E hr h => ?_)
  · obtain ⟨_, _, _, _, _, _, rfl, _⟩ := h
    rfl
  obtain ⟨v, u, M, steps, begins, n, rfl, hv, hu, hk, hn, hb, hbl, k⟩ := h
  obtain ⟨u, rfl, hu', nu⟩ := natsAt hu
  refine ⟨_, (pss_cons (ps_set (i := 2) sc__reached.nd rfl (Or.inl rfl) (pe_op op_rep (pe_lst (pa_cons pe_bl pa_nil)) (pe_callB (id := "len") (kLenQ K) (by rfl) T.z_len (by decide +kernel) (pa_cons (pv 0) pa_nil))))
    (pss_cons (ps_set (i := 3) sc__reached.nd rfl (Or.inl rfl) (pe_callTy (T := "list") (kListOf K) (by rfl) T.z_list (by decide +kernel) (pa_cons (pv 1) pa_nil)))
    (pss_cons (ps_while PassesOwn.never (kTruth K (pv 3) (by intro _; rfl))
    (pss_cons (ps_set (i := 4) sc__reached.nd rfl (Or.inl rfl) (kBm0 K (pe_bm0 PySem.F.plainAttrs_list PySem.F.slot_list_pop PySem.F.type_list_pop mt_pop (pv 3))))
    (pss_one (ps_if (pt_not (pt_val (pe_ix (kIxL K) (pv 2) (pv 4) (fun _ _ => rfl)))) (pss_cons (ps_asg pe_bl (pg_sub (pv 2) (pv 4) set_list))
    (pss_one (ps_expr (kBm K (pe_bm PySem.F.plainAttrs_list PySem.F.slot_list_extend PySem.F.type_list_extend mt_extend (pv 3) (pa_cons (pe_ix (kIxL K) (pv 0) (pv 4) (fun _ _ => rfl)) pa_nil))))))
    pss_nil))))
    (pss_one (ps_ret (pv 2)))))), ?_⟩
  obtain ⟨a, bx, rfl, ha, na, lbx, hrow⟩ := stepsAt hv
  have lbn : bx.length = n := lbx.trans hk.len
  refine ⟨(show 1 ≤ sizeLine by decide), fun p1 hp1 => ?_⟩
  have s1 : Same H (upd H p1 (HO.lst [V.bl false])) := Same.new hp1
  have e1 : (upd H p1 (HO.lst [V.bl false])) p1 = some (.lst [V.bl false]) := upd_same
  generalize upd H p1 (HO.lst [V.bl false]) = H1 at s1 e1 ⊢
  refine ⟨_, rfl, a, bx, rfl, .inl (SqL.of (s1 _ _ ha)), p1, _, _, rfl, rfl, e1, by omega, by omega, Nat.le_trans (show 1 * ((bx.length : Nat) : Int).toNat ≤ 100 by omega) (by decide), fun D hD => ?_⟩
  have hD0 : H D = none := Same.free s1 hD
  have ef : (List.replicate ((bx.length : Nat) : Int).toNat [V.bl false]).flatten = (List.replicate n false).map V.bl := by
    rw [Int.toNat_natCast, lbn, flat_rep, List.map_replicate]
  rw [ef]
  have s2 := s1.trans (Same.new (o := .lst ((List.replicate n false).map V.bl)) hD)
  have e2 : (upd H1 D (HO.lst ((List.replicate n false).map V.bl))) D = some (.lst ((List.replicate n false).map V.bl)) := upd_same
  generalize upd H1 D (HO.lst ((List.replicate n false).map V.bl)) = H2 at s2 e2 ⊢
  dsimp only [gName]
  refine ⟨_, rfl, u, _, rfl, .inl (SqL.of (s2 _ _ hu')), fun Wt hWt => ?_⟩
  have hW0 : H Wt = none := Same.free s2 hWt
  have ne : D ≠ Wt := ne_of_none e2 hWt
  have i0 : RInv steps begins n H D Wt (upd H2 Wt (HO.lst (begins.map nV))) (List.replicate n false) begins := by
    refine ⟨s2.trans (Same.new hWt), by rw [upd_ne ne]; exact e2, upd_same, List.length_replicate, fun s h => ⟨hb s h, .base h⟩, ?_, fun s h => .inr h, ?_, ?_⟩
    · intro s h
      have := List.mem_of_getElem? h
      simp at this
    · intro s h
      have := List.mem_of_getElem? h
      simp at this
    · have := rest_false (n := n) fun r hr => (hk.row r hr).1
      rw [hk.len] at this
      omega
  generalize upd H2 Wt (HO.lst (begins.map nV)) = H3 at i0 ⊢
  dsimp only [gName]
  refine sq (fun σ' H' => ∃ (bs : List Bool) (o4 : Option V), σ' = [some (.ref a), some (.ref u), some (.ref D), some (.ref Wt), o4] ∧ RInv steps begins n H D Wt H' bs []) (fun N hN => ?_) ?_
  · refine ⟨fun m σ' H' => ∃ (bs : List Bool) (wl : List Nat) (o4 : Option V), σ' = [some (.ref a), some (.ref u), some (.ref D), some (.ref Wt), o4] ∧ RInv steps begins n H D Wt H' bs wl ∧ m = wl.length + rest steps bs, ⟨_, _, begins, none, rfl, i0, rfl⟩, ?_⟩
    rintro m σ' H' ⟨bs, wl, o4, rfl, inv, rfl⟩
    refine ⟨_, rfl, _, .inl ⟨_, SqL.of inv.atW, rfl⟩, ?_⟩
    rcases List.eq_nil_or_concat wl with rfl | ⟨wl, x, rfl⟩
    · exact if_f rfl (hN _ _ ⟨bs, o4, rfl, inv⟩)
    rw [List.concat_eq_append] at inv ⊢
    refine if_t (by simp) ⟨fun σ' H' => ∃ (bs' : List Bool) (wl' : List Nat) (o4 : Option V), σ' = [some (.ref a), some (.ref u), some (.ref D), some (.ref Wt), o4] ∧ RInv steps begins n H D Wt H' bs' wl' ∧ wl'.length + rest steps bs' < (wl ++ [x]).length + rest steps bs, ?_, ?_⟩
    · rintro σ' H' ⟨bs', wl', o4, rfl, i', hl⟩
      exact ⟨_, hl, bs', wl', o4, rfl, i', rfl⟩
    obtain ⟨xn, rx⟩ := inv.wait x (by simp)
    have xb : x < bs.length := by rw [inv.len]; exact xn
    have xs_ : x < steps.length := by rw [hk.len]; exact xn
    have hlast : ((wl ++ [x]).map nV)[((wl ++ [x]).map nV).length - 1]? = some (nV x) := by simp
    have hdrop : ((wl ++ [x]).map nV).dropLast = wl.map nV := by simp
    refine ⟨_, rfl, .inl ⟨rfl, _, SqL.of inv.atW⟩, Wt, _, nV x, rfl, rfl, inv.atW, hlast, ?_⟩
    rw [hdrop]
    dsimp only [gName]
    have hD1 : (upd H' Wt (HO.lst (wl.map nV))) D = some (.lst (bs.map V.bl)) := by rw [upd_ne ne]; exact inv.atD
    refine ⟨_, rfl, _, rfl, D, _, (x : Int), .bl bs[x], rfl, rfl, SqL.of hD1, atI_nat (by rw [List.getElem?_map, List.getElem?_eq_getElem xb]; rfl), _, rfl, ?_⟩
    cases hx : bs[x] with
    | true =>
      refine if_f rfl ⟨bs, wl, some (nV x), rfl, inv.skip hW0 ne (by rw [List.getElem?_eq_getElem xb, hx]), ?_⟩
      rw [List.length_append]
      exact Nat.add_lt_add_right (Nat.lt_succ_self _) _
    | false =>
      refine if_t rfl ?_
      obtain ⟨b, hbx, hbr, nb⟩ := hrow x steps[x] (List.getElem?_eq_getElem xs_)
      refine ⟨_, rfl, _, rfl, D, _, (x : Int), x, rfl, rfl, hD1, ?_, ?_⟩
      · unfold ixN
        rw [List.length_map, if_pos (by omega), if_pos (by omega), Int.toNat_natCast]
      · have es : (bs.map V.bl).set x (V.bl true) = (bs.set x true).map V.bl := by rw [List.map_set]
        dsimp only
        rw [es]
        have sH : Same H (upd (upd H' Wt (HO.lst (wl.map nV))) D (HO.lst ((bs.set x true).map V.bl))) := Same.newer (Same.newer inv.same hW0) hD0
        have hW4 : (upd (upd H' Wt (HO.lst (wl.map nV))) D (HO.lst ((bs.set x true).map V.bl))) Wt = some (.lst (wl.map nV)) := by rw [upd_ne ne.symm, upd_same]
        have mt := inv.meet (r := steps[x]) (o := .lst (wl.map nV)) hk hW0 hD0 ne (by rw [List.getElem?_eq_getElem xb, hx]) (List.getElem?_eq_getElem xs_)
        have lrow := (hk.row steps[x] (List.getElem_mem xs_)).1
        have lw : (wl.map nV).length + (steps[x].map nV).length ≤ 20000 := by
          have := inv.few
          rw [List.length_append] at this
          rw [List.length_map, List.length_map]
          omega
        refine ⟨_, rfl, .inl ⟨rfl, _, SqL.of hW4⟩, _, rfl, _, rfl, a, bx, (x : Int), .ref b, rfl, rfl, SqL.of (sH _ _ ha), atI_nat hbx, Wt, b, _, _, rfl, rfl, hW4, sH _ _ hbr, Nat.le_trans lw (by decide), ?_⟩
        rw [← List.map_append]
        refine ⟨_, _, some (nV x), rfl, mt, ?_⟩
        have h2 := rest_set (List.getElem?_eq_getElem xs_) (show bs[x]? = some false by rw [List.getElem?_eq_getElem xb, hx])
        rw [List.length_append, List.length_append]
        have : [x].length = 1 := rfl
        omega
  rintro σ' H' ⟨bs, o4, rfl, inv⟩
  exact ⟨_, rfl, k H' D bs inv.same hD0 inv.atD inv.len fun s _ => inv.done s⟩
end

/-! ### the steps turned round -/
def turnedOf (steps : List (List Nat)) (n : Nat) : List (List Nat) := (List.range n).map fun s => (List.range n).filter fun b => decide (s ∈ steps.getD b [])
def spTurned (K : PySem.W.Frag) : Sp := fun vs H Q _ => ∃ (v : V) (steps : List (List Nat)) (n : Nat), vs = [v] ∧ T K [] H v (stepsD steps) ∧ StepsOk steps n 4 ∧ n ≤ 25 ∧
  ∀ H' r bk, Same H H' → T K [] H' r (stepsD bk) → StepsOk bk n 100 → (∀ s t, t ∈ bk.getD s [] ↔ t ∈ (turnedOf steps n).getD s []) → Q r H'
/-- what is put where, so far -/
def evN (steps : List (List Nat)) (i : Nat) : List (Nat × Nat) := (List.range i).flatMap fun b => (steps.getD b []).map fun t => (t, b)
theorem evN_next (steps : List (List Nat)) (i : Nat) : evN steps (i + 1) = evN steps i ++ (steps.getD i []).map fun t => (t, i) := by
  unfold evN
  rw [List.range_succ, List.flatMap_append]
  simp
theorem evN_len {steps : List (List Nat)} {n c : Nat} (k : StepsOk steps n c) : ∀ i, (evN steps i).length ≤ c * i
  | 0 => by simp [evN]
  | i + 1 => by
    have ih := evN_len k i
    rw [evN_next, List.length_append, List.length_map, Nat.mul_add, Nat.mul_one]
    have : (steps.getD i []).length ≤ c := by
      rw [List.getD_eq_getElem?_getD]
      cases e : steps[i]? with
      | none => simp
      | some r => exact (k.row r (List.mem_of_getElem? e)).1
    omega
theorem evN_mem {steps : List (List Nat)} {i s b : Nat} : (s, b) ∈ evN steps i ↔ b < i ∧ s ∈ steps.getD b [] := by
  unfold evN
  rw [List.mem_flatMap]
  constructor
  · rintro ⟨x, hx, h⟩
    obtain ⟨t, ht, e⟩ := List.mem_map.mp h
    injection e with e1 e2
    subst e1 e2
    exact ⟨List.mem_range.mp hx, ht⟩
  · rintro ⟨h1, h2⟩
    exact ⟨b, List.mem_range.mpr h1, List.mem_map.mpr ⟨s, h2, rfl⟩⟩
def bkOf (steps : List (List Nat)) (n : Nat) : List (List Nat) := (List.range n).map fun s => ((evN steps n).filter fun e => decide (e.1 = s)).map (·.2)
def evD (es : List (Nat × Nat)) : List (Nat × PyData) := es.map fun e => (e.1, nD e.2)
theorem bkOf_D (steps : List (List Nat)) (n : Nat) : PyData.list ((backD (evD (evN steps n)) n).map PyData.list) = stepsD (bkOf steps n) := by
  unfold stepsD bkOf backD evD
  rw [List.map_map, List.map_map]
  congr 1
  apply List.map_congr_left
  intro s _
  show PyData.list _ = PyData.list _
  congr 1
  simp only [List.filter_map, List.map_map]
  rfl
theorem bkOf_mem (steps : List (List Nat)) (n : Nat) (s t : Nat) : t ∈ (bkOf steps n).getD s [] ↔ t ∈ (turnedOf steps n).getD s [] := by
  by_cases hs : s < n
  · have e1 : (bkOf steps n).getD s [] = ((evN steps n).filter fun e => decide (e.1 = s)).map (·.2) := by simp [bkOf, hs]
    have e2 : (turnedOf steps n).getD s [] = (List.range n).filter fun b => decide (s ∈ steps.getD b []) := by simp [turnedOf, hs]
    rw [e1, e2, List.mem_filter, List.mem_range, decide_eq_true_eq, List.mem_map]
    constructor
    · rintro ⟨⟨x, y⟩, h, rfl⟩
      rw [List.mem_filter, decide_eq_true_eq] at h
      obtain ⟨h1, h2⟩ := h
      have h2 : x = s := h2
      subst h2
      exact evN_mem.mp h1
    · rintro ⟨h1, h2⟩
      exact ⟨(s, t), List.mem_filter.mpr ⟨evN_mem.mpr ⟨h1, h2⟩, by simp⟩, rfl⟩
  · simp [bkOf, turnedOf, hs]
theorem bkOf_ok {steps : List (List Nat)} {n : Nat} (k : StepsOk steps n 4) (hn : n ≤ 25) : StepsOk (bkOf steps n) n 100 := by
  refine ⟨by simp [bkOf], fun r hr => ?_⟩
  obtain ⟨x, hx, rfl⟩ := List.mem_map.mp hr
  refine ⟨?_, fun t ht => ?_⟩
  · rw [List.length_map]
    have h1 := List.length_filter_le (fun e : Nat × Nat => decide (e.1 = x)) (evN steps n)
    have h2 := evN_len k n
    omega
  · obtain ⟨⟨a, b⟩, h, rfl⟩ := List.mem_map.mp ht
    exact (evN_mem.mp (List.mem_filter.mp h).1).1
theorem rch_congr {A B : List (List Nat)} {bs : List Nat} (h : ∀ s t, t ∈ A.getD s [] ↔ t ∈ B.getD s []) {s : Nat} : Rch A bs s ↔ Rch B bs s := by
  constructor
  · intro r
    induction r with
    | base hb => exact .base hb
    | next _ ht ih => exact .next ih ((h _ _).mp ht)
  · intro r
    induction r with
    | base hb => exact .base hb
    | next _ ht ih => exact .next ih ((h _ _).mpr ht)
theorem inV_nats (s : Nat) : ∀ r : List Nat, inV (nV s) (r.map nV) = decide (s ∈ r)
  | [] => by simp [inV]
  | x :: xs => by
    have ih := inV_nats s xs
    unfold inV at ih ⊢
    rw [List.map_cons, List.any_cons, ih]
    show (decide ((x : Int) = (s : Int)) || decide (s ∈ xs)) = _
    by_cases h : x = s
    · subst h
      simp
    · have h2 : ¬ ((x : Int) = (s : Int)) := by omega
      have h3 : ¬ s = x := fun e => h e.symm
      simp [h2, h3]
theorem flat_nats : ∀ r : List Nat, (r.map nV).all flatV = true
  | [] => rfl
  | x :: xs => by
    rw [List.map_cons, List.all_cons, flat_nats xs]
    rfl
section
variable {P : Program} {w : World} {K : PySem.W.Frag} {mg : Str → Option Value} {base : Heap} {A : Adrs}
def R_turned (ds : List PyData) (r : PyData) : Prop := ∃ (steps : List (List Nat)) (n : Nat), ds = [stepsD steps] ∧ StepsOk steps n 4 ∧ n ≤ 25 ∧ r = stepsD (bkOf steps n)
theorem ok__turned (T : Txt K mg A) : FnOk P w K mg base CX0 1 A.f__turned A.d__turned ["steps"] (spP K 1 R_turned) := by
  refine T.F__turned.ok sc__turned (fun vs H Q E h => ?_) (fun cdv Ar outer s H vs Q E hr h => ?_)
  · exact spP.len h
  refine ⟨_, (pss_cons (ps_setLc (i := 1) (own := [("_", 5)]) (by rfl) sc__turned.nd rfl rfl (sw_true rfl rfl rfl (by decide +kernel)) (kPiL K (pv 0)) (blkOk_by (own := [("_", 5)]) (N := N__turned) (sc := defScope s__turned) (by decide +kernel)) (fun _ _ _ _ _ => (pg_name (i := 5) sc__turned.nd rfl (Or.inl rfl))) (fun _ _ _ _ _ => pts_nil) (fun _ _ _ _ _ => (pe_lst pa_nil)))
    (pss_cons (ps_for PassesOwn.never rfl (kEnum K (by rfl) T.z_enumerate (pa_cons (pv 0) pa_nil)) (kTgT K (n := 2) (by rfl) (pgs_cons (pg_name (i := 2) sc__turned.nd rfl (Or.inl rfl)) (pgs_cons (pg_name (i := 3) sc__turned.nd rfl (Or.inl rfl)) pgs_nil)))
    (pss_one (ps_for PassesOwn.never rfl (kPiL K (pv 3)) (pg_name (i := 4) sc__turned.nd rfl (Or.inl rfl))
    (pss_one (ps_expr (kBm K (pe_bm PySem.F.plainAttrs_list PySem.F.slot_list_append PySem.F.type_list_append mt_append (pe_ix (kIxL K) (pv 1) (pv 4) (fun _ _ => rfl)) (pa_cons (pv 2) pa_nil))))))))
    (pss_one (ps_ret (pv 1))))), ?_⟩
  refine spP.ok h fun W ds r hR => ?_
  obtain ⟨steps, n, rfl, hk, hn, rfl⟩ := hR
  have hlen := hk.len
  walk_at "st"
  refine sw_ll (ei_list (ev_var rfl ⟨_, rfl, ?_⟩))
  rw [List.length_map, hlen]
  refine ⟨by omega, fun j hj => ?_, by simp, fun l as ok hl => ?_⟩
  · walk_at "tg"
  refine sw_forW ?_
  walk_at "go"
  refine ⟨fun i ρ kk => ρ = [.dat (stepsD steps), .raw (.ref l), .no, .no, .no, .no] ∧ kk = (0, backD (evD (evN steps i)) n), ⟨_, by walk_at "le", rfl, by rw [show evD (evN steps 0) = [] from rfl, backD_nil]⟩, ?_, ?_⟩
  · rintro i ρ1 k2 hi ⟨rfl, rfl⟩
    rw [List.length_map] at hi
    rw [itemD_map hi]
    have hr := (hk.row steps[i] (List.getElem_mem hi))
    have erow : steps.getD i [] = steps[i] := by rw [List.getD_eq_getElem?_getD, List.getElem?_eq_getElem hi]; rfl
    generalize steps[i] = row at hr erow ⊢
    walk_at "tg"
    refine sw_forW ?_
    walk_at "go"
    rw [List.length_map]
    refine ⟨fun j ρ kk => ρ = [.dat (stepsD steps), .raw (.ref l), .dat (nI i), .dat (.list (row.map nD)), .no, .no] ∧ kk = (0, backD (evD (evN steps i ++ (row.take j).map fun t => (t, i))) n), ⟨_, by walk_at "le", rfl, by simp⟩, ?_, ?_⟩
    · rintro j ρ1 k2 hj ⟨rfl, rfl⟩
      have ht := hr.2 row[j] (List.getElem_mem hj)
      rw [itemD_map hj]
      have le1 := evN_len hk i
      walk_at "tg"
      refine sw_llappend ok rfl (ev_var rfl ⟨row[j], rfl, by rw [hl]; exact ht, ev_var rfl ⟨?_, ?_⟩⟩)
      · refine Nat.lt_of_le_of_lt (backD_row ht) ?_
        unfold evD
        rw [List.length_map, List.length_append, List.length_map, List.length_take]
        omega
      · refine ⟨_, by walk_at "le", rfl, ?_⟩
        rw [backD_app ht]
        have e : row.take (j + 1) = row.take j ++ [row[j]] := by rw [List.take_add_one]; simp [hj]
        rw [e, List.map_append, ← List.append_assoc]
        unfold evD
        rw [List.map_append (l₁ := evN steps i ++ _)]
        rfl
    · rintro ρ1 k2 ⟨rfl, rfl⟩
      refine ⟨_, by walk_at "le", rfl, ?_⟩
      rw [evN_next, List.take_length]
      rw [erow]
  · rintro ρ1 k2 ⟨rfl, rfl⟩
    rw [List.length_map, hlen]
    refine ⟨rfl, ?_⟩
    walk_at "go"
    exact bkOf_D steps n
theorem ok_turned (T : Txt K mg A) : FnOk P w K mg base CX0 1 A.f__turned A.d__turned ["steps"] (spTurned K) :=
  FnOk.less (ok__turned T) fun vs H Q E h => by
    obtain ⟨v, steps, n, rfl, tv, hk, hn, k⟩ := h
    exact ⟨[], _, _, .one tv, (by intro c hc; cases hc), rfl, ⟨steps, n, rfl, hk, hn, rfl⟩, fun r H' s t => k H' r _ s t (bkOf_ok hk hn) (bkOf_mem steps n)⟩
end
/-! ### used -/
def stepsOf (rows : List (List (Option Nat))) : List (List Nat) := rows.map fun r => r.filterMap id
/-- a state that words come to or through -/
def Used (rows : List (List (Option Nat))) (ends : List Bool) (N s : Nat) : Prop :=
  Rch (stepsOf rows) [0] s ∧ Rch (turnedOf (stepsOf rows) N) ((List.range N).filter fun s => ends.getD s false) s
theorem stepsOf_ok {L N : Nat} {rows : List (List (Option Nat))} {ends : List Bool} (k : KindOk L N rows ends) : StepsOk (stepsOf rows) N 100 := by
  refine ⟨by unfold stepsOf; rw [List.length_map]; exact k.lr, fun r hr => ?_⟩
  obtain ⟨x, hx, rfl⟩ := List.mem_map.mp hr
  obtain ⟨h1, h2⟩ := k.row x hx
  refine ⟨?_, fun t ht => ?_⟩
  · have := List.length_filterMap_le id x
    have := k.l4
    omega
  · obtain ⟨o, ho, e⟩ := List.mem_filterMap.mp ht
    have e : o = some t := e
    subst e
    exact h2 t ho
theorem stepsOf_ok4 {L N : Nat} {rows : List (List (Option Nat))} {ends : List Bool} (k : KindOk L N rows ends) : StepsOk (stepsOf rows) N 4 := by
  have h := stepsOf_ok k
  refine ⟨h.len, fun r hr => ⟨?_, (h.row r hr).2⟩⟩
  obtain ⟨x, hx, rfl⟩ := List.mem_map.mp hr
  have h1 := (k.row x hx).1
  have := List.length_filterMap_le id x
  have := k.l4
  omega
theorem turnedOf_ok {steps : List (List Nat)} {n : Nat} (hn : n ≤ 100) : StepsOk (turnedOf steps n) n 100 := by
  refine ⟨by unfold turnedOf; rw [List.length_map, List.length_range], fun r hr => ?_⟩
  obtain ⟨x, hx, rfl⟩ := List.mem_map.mp hr
  refine ⟨?_, fun t ht => ?_⟩
  · have := List.length_filter_le (fun b => decide (x ∈ steps.getD b [])) (List.range n)
    rw [List.length_range] at this
    omega
  · exact List.mem_range.mp (List.mem_filter.mp ht).1
def isNo : PyData → Bool
  | .none => true
  | _ => false
theorem trk1 {H : Hp} {D : Addr} (h : H D ≠ none) : ∀ c ∈ [D], H c ≠ none := fun c hc => by
  have e : c = D := by simpa using hc
  rw [e]
  exact h
theorem one_lt {n : Nat} (h : 1 ≤ n) : ∀ b ∈ [0], b < n := fun b hb => by
  have e : b = 0 := by simpa using hb
  omega
theorem rows_kept : ∀ row : List (Option Nat), ((row.map itemD).filter fun d => !isNo d) = (row.filterMap id).map nD
  | [] => rfl
  | none :: xs => by
    rw [List.map_cons, List.filter_cons_of_neg (by decide), rows_kept xs]
    rfl
  | some n :: xs => by
    rw [List.map_cons, List.filter_cons_of_pos (by rfl), rows_kept xs]
    rfl
theorem paired_id : ∀ {l m : List PyData}, Paired (fun d e => e = d) l m → m = l
  | _, _, .nil => rfl
  | _, _, .cons r t => by rw [r, paired_id t]
theorem paired_fn {α : Type} {g : α → PyData} {h : α → PyData} {F : PyData → PyData → Prop} (hf : ∀ a e, F (g a) e → e = h a) : ∀ {l : List α} {m : List PyData}, Paired F (l.map g) m → m = l.map h
  | [], _, p => by
    cases p
    rfl
  | a :: l, _, p => by
    cases p with
    | cons r t => rw [hf _ _ r, paired_fn hf t]; rfl
theorem rowD_inj {r q : List (Option Nat)} (h : rowD r = rowD q) : r = q := by
  unfold rowD at h
  injection h with h
  have inj : ∀ (r q : List (Option Nat)), r.map itemD = q.map itemD → r = q := by
    intro r
    induction r with
    | nil =>
      intro q h
      cases q with
      | nil => rfl
      | cons => cases h
    | cons x xs ih =>
      intro q h
      cases q with
      | nil => cases h
      | cons y ys =>
        rw [List.map_cons, List.map_cons] at h
        injection h with h1 h2
        rw [ih ys h2]
        congr 1
        cases x with
        | none =>
          cases y with
          | none => rfl
          | some q => cases h1
        | some p =>
          cases y with
          | none => cases h1
          | some q =>
            have h1 : PyData.int (p : Int) = PyData.int (q : Int) := h1
            injection h1 with h1
            have : p = q := by omega
            rw [this]
  exact inj r q h
theorem filter_nats {p : Nat → Bool} {q : PyData → Bool} (h : ∀ s : Nat, q (.int (s : Int)) = p s) : ∀ l : List Nat, (l.map fun i : Nat => PyData.int (i : Int)).filter q = (l.filter p).map nD
  | [] => rfl
  | x :: xs => by
    have ih := filter_nats h xs
    cases e : p x with
    | true => rw [List.map_cons, List.filter_cons_of_pos ((h x).trans e), List.filter_cons_of_pos e, ih]; rfl
    | false => rw [List.map_cons, List.filter_cons_of_neg (by rw [h x, e]; decide), List.filter_cons_of_neg (by rw [e]; decide), ih]
theorem getD_true {l : List Bool} {s : Nat} : l.getD s false = true ↔ l[s]? = some true := by
  rw [List.getD_eq_getElem?_getD]
  cases l[s]? with
  | none => simp
  | some b => simp
def spUsed (K : PySem.W.Frag) : Sp := fun vs H Q _ => ∃ (v : V) (M : List Addr) (L N : Nat) (rows : List (List (Option Nat))) (ends : List Bool), vs = [v] ∧ T K M H v (kindD L rows ends) ∧ KindOk L N rows ends ∧
  ∀ (H' : Hp) (r : V) (f : Nat → Bool), Same H H' → T K [] H' r (.tuple (((List.range N).filter f).map nD)) → (∀ s, s < N → (f s = true ↔ Used rows ends N s)) → Q r H'
section
variable {P : Program} {w : World} {K : PySem.W.Frag} {mg : Str → Option Value} {base : Heap} {A : Adrs}
theorem ok_used (T : Txt K mg A) : FnOk P w K mg base CX0 2 A.f_used A.d_used ["kind"] (spUsed K) := by
  have G__reached : FnOk P w K mg base CX0 1 A.f__reached A.d__reached ["steps", "begins"] (spReached K) := ok_reached T
  have G__turned : FnOk P w K mg base CX0 1 A.f__turned A.d__turned ["steps"] (spTurned K) := ok_turned T
  refine T.F_used.ok sc_used (fun vs H Q E h => ?_) (fun cdv Ar outer s H vs Q E hr h => ?_)
  · obtain ⟨_, _, _, _, _, _, rfl, _⟩ := h
    rfl
  obtain ⟨v, M, L, N, rows, ends, rfl, ht, hk, k⟩ := h
  obtain ⟨a, r, e, rs, rfl, ha, na, nr, ne, hr', tr, he⟩ := KindAt.parts (ht.off (N := []) (fun b hb => nomatch hb))
  refine ⟨_, (pss_cons (ps_asg (pv 0) (kTgT K (n := 3) (by rfl) (pgs_cons (pg_name (i := 1) sc_used.nd rfl (Or.inl rfl)) (pgs_cons (pg_name (i := 2) sc_used.nd rfl (Or.inl rfl)) (pgs_cons (pg_name (i := 3) sc_used.nd rfl (Or.inl rfl)) pgs_nil)))))
    (pss_cons (ps_setLc (i := 4) (own := [("row", 7)]) (by rfl) sc_used.nd rfl rfl (sw_true rfl rfl rfl (by decide +kernel)) (kPiT K (pv 2)) (blkOk_by (own := [("row", 7)]) (N := N_used) (sc := defScope s_used) (by decide +kernel)) (fun _ _ _ _ _ => (pg_name (i := 7) sc_used.nd rfl (Or.inl rfl))) (fun _ _ _ _ _ => pts_nil) (fun _ _ _ _ _ => (pe_lc (own := [("item", 8)]) rfl sc_used.nd (kPiT K (pv 7)) (blkOk_by (own := [("item", 8)]) (by kernel_rfl)) (fun _ _ _ _ _ => (pg_name (i := 8) sc_used.nd rfl (Or.inl rfl))) (fun _ _ _ _ _ => (pts_one (pt_cmpR op_notN (pv 8) pe_non (nomark _)))) (fun _ _ _ _ _ => (pv 8)))))
    (pss_cons (ps_set (i := 5) sc_used.nd rfl (Or.inr rfl) (pe_call G__reached (hr.mono (by first | decide | omega)) rfl T.m__reached T.k__reached T.b__reached .nil pass0 (pa_cons (pv 4) (pa_cons (pe_lst (pa_cons pe_int pa_nil)) pa_nil))))
    (pss_cons (ps_set (i := 6) sc_used.nd rfl (Or.inr rfl) (pe_call G__reached (hr.mono (by first | decide | omega)) rfl T.m__reached T.k__reached T.b__reached .nil pass0 (pa_cons (pe_call G__turned (hr.mono (by first | decide | omega)) rfl T.m__turned T.k__turned T.b__turned .nil pass0 (pa_cons (pv 4) pa_nil)) (pa_cons (pe_lc (own := [("state", 9), ("end", 10)]) rfl sc_used.nd (kEnumT K (by rfl) T.z_enumerate (pa_cons (pv 3) pa_nil)) (blkOk_by (own := [("state", 9), ("end", 10)]) (N := N_used) (sc := defScope s_used) (by decide +kernel)) (fun _ _ _ _ _ => (kTgT K (n := 2) (by rfl) (pgs_cons (pg_name (i := 9) sc_used.nd rfl (Or.inl rfl)) (pgs_cons (pg_name (i := 10) sc_used.nd rfl (Or.inl rfl)) pgs_nil)))) (fun _ _ _ _ _ => (pts_one (kTruth K (pv 10) (by intro _; rfl)))) (fun _ _ _ _ _ => (pv 9))) pa_nil))))
    (pss_one (ps_ret (pe_callTy (T := "tuple") (kTupOf K) (by rfl) T.z_tuple (by decide +kernel) (pa_cons (pe_lc (own := [("state", 9)]) rfl sc_used.nd (pi_range1 (by rfl) T.z_range (pa_cons (pe_callB (id := "len") (kLenQ K) (by rfl) T.z_len (by decide +kernel) (pa_cons (pv 2) pa_nil)) pa_nil)) (blkOk_by (own := [("state", 9)]) (N := N_used) (sc := defScope s_used) (by decide +kernel)) (fun _ _ _ _ _ => (pg_name (i := 9) sc_used.nd rfl (Or.inl rfl))) (fun _ _ _ _ _ => (pts_one (PW.pt (pw_and (pt_val (pe_ix (kIxL K) (pv 5) (pv 9) (fun _ _ => rfl))) (pw_and1 (pt_val (pe_ix (kIxL K) (pv 6) (pv 9) (fun _ _ => rfl)))))))) (fun _ _ _ _ _ => (pv 9))) pa_nil)))))))), ?_⟩
  refine ⟨_, rfl, a, _, rfl, SqT.of ha, rfl, _, _, rfl, _, _, rfl, _, _, rfl, rfl, ?_⟩
  dsimp only [gName]
  have lrs := tr.len
  rw [List.length_map, hk.lr] at lrs
  have nle := hk.n9
  refine ⟨_, rfl, r, rfl, ⟨_, SqT.of hr'⟩, fun D hD => ?_⟩
  refine lcT2 (K := K) (M := []) (N := []) (fun _ _ => True) (fun _ => true) (fun d e => ∃ row, d = rowD row ∧ e = .list ((row.filterMap id).map nD)) hr' (by simp) tr (by rw [List.length_map, hk.lr]; omega) (by simp) (by simp) hD trivial (fun _ _ _ _ => trivial) ?_ ?_
  · intro j x d F1 hd td e1 _ nD1 Ky Kn _ ky
    rw [List.getElem?_map] at hd
    obtain ⟨row, hrow, rfl⟩ := Option.map_eq_some_iff.mp hd
    have lrow := (hk.row row (List.mem_of_getElem? hrow)).1
    have l4 := hk.l4
    cases td with
    | @tup b its _ nb hb ti =>
      refine ⟨rfl, yes_ ?_⟩
      refine ⟨_, rfl, b, rfl, ⟨_, SqT.of hb⟩, fun D2 hD2 => ?_⟩
      refine lcT2 (K := K) (M := [D]) (N := []) (fun _ _ => True) (fun d => !isNo d) (fun d e => e = d) hb nb ti (by rw [List.length_map]; omega) (by simp) (trk1 nD1) hD2 trivial (fun _ _ _ _ => trivial) ?_ ?_
      · intro j2 x2 d2 F2 hd2 td2 e2 _ nD2 Ky2 Kn2 kn2 ky2
        rw [List.getElem?_map] at hd2
        obtain ⟨o, ho, rfl⟩ := Option.map_eq_some_iff.mp hd2
        cases o with
        | none =>
          cases td2
          exact ⟨rfl, _, rfl, rfl, _, rfl, if_f rfl (kn2 rfl F2 (Ext.refl _ _) trivial)⟩
        | some n =>
          cases td2
          exact ⟨rfl, _, rfl, rfl, _, rfl, if_t rfl ⟨_, rfl, ky2 rfl F2 _ _ (Ext.refl _ _) trivial (.int _) rfl⟩⟩
      · intro F2 ys es e2 _ hy ty pr
        have ee := paired_id pr
        rw [rows_kept] at ee
        subst ee
        refine ky rfl F2 _ _ e2 trivial (.lst ?_ hy ty) ⟨row, rfl, rfl⟩
        intro z
        have e3 : D2 = D := by simpa using z
        exact nD1 (e3 ▸ hD2)
  intro F1 ys es e1 _ hy ty pr
  rw [U.filter_all] at pr
  have ee : es = (stepsOf rows).map fun r => .list (r.map nD) := by
    have := paired_fn (h := fun row => .list ((row.filterMap id).map nD)) (fun row e ⟨row2, h1, h2⟩ => by rw [h2, ← rowD_inj h1]) pr
    rw [this]
    unfold stepsOf
    rw [List.map_map]
    rfl
  subst ee
  have s1 := same_ext e1
  have ts : U.T K [] F1 (.ref D) (stepsD (stepsOf rows)) := .lst (by simp) hy ty
  clear pr ty hy e1 hD
  dsimp only [gName]
  refine ⟨_, rfl, (show 1 ≤ sizeLine by decide), fun p0 hp0 => ?_⟩
  have s2 : Same F1 (upd F1 p0 (HO.lst [V.int 0])) := Same.new hp0
  have t0 : U.T K [] (upd F1 p0 (HO.lst [V.int 0])) (.ref p0) (.list ([0].map nD)) := .lst (by simp) upd_same (.one (.int 0))
  have ts2 := ts.same s2
  generalize upd F1 p0 (HO.lst [V.int 0]) = F2 at s2 t0 ts2 ⊢
  refine ⟨.ref D, .ref p0, [], stepsOf rows, [0], N, rfl, ts2, t0, stepsOf_ok hk, by omega, (one_lt hk.n1), by simp, fun F3 D5 bs5 s3 _ hD5 l5 iff5 => ?_⟩
  have ts3 := ts2.same s3
  have s13 := (s1.trans s2).trans s3
  dsimp only [gName]
  refine ⟨_, rfl, .ref D, stepsOf rows, N, rfl, ts3, stepsOf_ok4 hk, by omega, fun F4 v6 bk s4 t6 okb memb => ?_⟩
  have s14 := s13.trans s4
  refine ⟨_, rfl, e, _, rfl, SqT.of (s14 _ _ he), fun D7 hD7 => ?_⟩
  have begs : ∀ b ∈ (List.range N).filter (fun s => ends.getD s false), b < N := fun b hb => List.mem_range.mp (List.mem_filter.mp hb).1
  refine lc_enumT (K := K) (a := e) (xs := ends.map V.bl) (tt := fun σ H Q => tVar 10 σ H fun x H' => ∃ k, TruV K x H' k ∧ Q k H') (fun i F => Same F4 F ∧ F D7 = some (.lst (((List.range i).filter fun s => ends.getD s false).map nV)))
    ⟨Same.new hD7, upd_same⟩ (fun i F _ h => SqT.of (h.1 _ _ (s14 _ _ he))) ?_ ?_
  · rintro i x F p hx ⟨s5, hF⟩ hp
    rw [List.getElem?_map] at hx
    obtain ⟨bo, hbo, rfl⟩ := Option.map_eq_some_iff.mp hx
    have il : i < N := by
      have := (List.getElem?_eq_some_iff.mp hbo).1
      rw [hk.le] at this
      exact this
    have eb : ends.getD i false = bo := by rw [List.getD_eq_getElem?_getD, hbo, Option.getD_some]
    have s6 : Same F4 (upd F p (.tup [.int (i : Nat), .bl bo])) := s5.trans (Same.new hp)
    have hF6 : (upd F p (.tup [.int (i : Nat), .bl bo])) D7 = some (.lst (((List.range i).filter fun s => ends.getD s false).map nV)) := by
      rw [upd_ne (fun e => by rw [e, hp] at hF; cases hF)]
      exact hF
    have hp6 : (upd F p (.tup [.int (i : Nat), .bl bo])) p = some (.tup [.int (i : Nat), .bl bo]) := upd_same
    generalize upd F p (.tup [.int (i : Nat), .bl bo]) = F6 at s6 hF6 hp6 ⊢
    have lr : ((List.range i).filter fun s => ends.getD s false).length ≤ i := by
      have := List.length_filter_le (fun s => ends.getD s false) (List.range i)
      rw [List.length_range] at this
      exact this
    have nxt : (List.range (i + 1)).filter (fun s => ends.getD s false) = (List.range i).filter (fun s => ends.getD s false) ++ if bo = true then [i] else [] := by
      rw [List.range_succ, List.filter_append]
      congr 1
      by_cases h : bo = true
      · rw [if_pos h, List.filter_cons_of_pos (by rw [eb]; exact h)]
        rfl
      · rw [if_neg h, List.filter_cons_of_neg (by rw [eb]; exact h)]
        rfl
    refine ⟨p, _, rfl, SqT.of hp6, rfl, _, _, rfl, _, _, rfl, rfl, rfl, _, rfl, bo, rfl, if_ (fun h => ?_) (fun h => ?_)⟩
    · rw [if_pos h] at nxt
      refine ⟨_, rfl, _, hF6, ?_, Same.newer s6 hD7, ?_⟩
      · rw [List.length_map]
        exact Nat.lt_of_le_of_lt (show _ ≤ 100 by omega) (by decide)
      · rw [upd_same, nxt, List.map_append]
        rfl
    · rw [if_neg (by rw [h]; decide), List.append_nil] at nxt
      exact ⟨s6, by rw [nxt]; exact hF6⟩
  rintro F5 ⟨s5, hF5⟩
  rw [List.length_map, hk.le] at hF5
  have t7 : U.T K [] F5 (.ref D7) (.list (((List.range N).filter fun s => ends.getD s false).map nD)) := .lst (by simp) hF5 (ta_nats _)
  have lf : ((List.range N).filter fun s => ends.getD s false).length ≤ 100 := by
    have := List.length_filter_le (fun s => ends.getD s false) (List.range N)
    rw [List.length_range] at this
    omega
  refine ⟨v6, .ref D7, [], bk, _, N, rfl, t6.same s5, t7, okb, by omega, begs, lf, fun F6 D6 bs6 s6 _ hD6 l6 iff6 => ?_⟩
  replace iff6 : ∀ s, s < N → (bs6[s]? = some true ↔ Rch (turnedOf (stepsOf rows) N) ((List.range N).filter fun s => ends.getD s false) s) := fun s hs => (iff6 s hs).trans (rch_congr memb)
  have s16 := (s14.trans s5).trans s6
  have hD5' := ((s4.trans s5).trans s6) _ _ hD5
  dsimp only [gName]
  refine ⟨_, rfl, r, rs, rfl, .inr (SqT.of (s16 _ _ hr')), (N : Int), by rw [lrs], by omega, by omega, fun D8 hD8 => ?_⟩
  rw [show ((N : Nat) : Int).toNat = N from Int.toNat_natCast N]
  refine lcR2 (K := K) (M := []) (N := []) (n := N) (fun _ _ => True) (fun d => match d with | .int i => bs5.getD i.toNat false && bs6.getD i.toNat false | _ => false) (fun d e => e = d) (by omega) (by simp) (by simp) hD8 trivial (fun _ _ _ _ => trivial) ?_ ?_
  · intro j F7 hj e7 _ _ Ky Kn kn ky
    have s7 := same_ext e7
    have j5 : j < bs5.length := by omega
    have j6 : j < bs6.length := by omega
    have g5 : bs5.getD j false = bs5[j] := by rw [List.getD_eq_getElem?_getD, List.getElem?_eq_getElem j5, Option.getD_some]
    have g6 : bs6.getD j false = bs6[j] := by rw [List.getD_eq_getElem?_getD, List.getElem?_eq_getElem j6, Option.getD_some]
    have keep : (bs5.getD ((j : Int)).toNat false && bs6.getD ((j : Int)).toNat false) = (bs5[j] && bs6[j]) := by
      rw [Int.toNat_natCast, g5, g6]
    refine ⟨rfl, _, rfl, _, rfl, D5, _, (j : Int), .bl bs5[j], rfl, rfl, SqL.of (s7 _ _ hD5'), atI_nat (by rw [List.getElem?_map, List.getElem?_eq_getElem j5]; rfl), _, rfl, if_ (fun h5 => ?_) (fun h5 => ?_)⟩
    · refine ⟨_, rfl, _, rfl, D6, _, (j : Int), .bl bs6[j], rfl, rfl, SqL.of (s7 _ _ hD6), atI_nat (by rw [List.getElem?_map, List.getElem?_eq_getElem j6]; rfl), _, rfl, if_ (fun h6 => ?_) (fun h6 => ?_)⟩
      · exact ⟨_, rfl, ky (keep.trans (by rw [h5, h6]; rfl)) F7 _ _ (Ext.refl _ _) trivial (.int _) rfl⟩
      · exact kn (keep.trans (by rw [h5, h6]; rfl)) F7 (Ext.refl _ _) trivial
    · exact kn (keep.trans (by rw [h5]; rfl)) F7 (Ext.refl _ _) trivial
  · intro F7 zs es e7 _ hz tz pr
    have ee := paired_id pr
    have em : es = (((List.range N).filter fun s => bs5.getD s false && bs6.getD s false).map nD) := by
      rw [ee]
      exact filter_nats (fun s => by show (bs5.getD ((s : Int)).toNat false && bs6.getD ((s : Int)).toNat false) = _; rw [Int.toNat_natCast]) _
    subst em
    refine ⟨D8, zs, rfl, .inl ⟨SqL.of hz, fun q hq => ?_⟩⟩
    refine k _ _ _ ((s16.trans (same_ext e7)).trans (Same.new hq)) (.tup (by simp) upd_same (tz.same (Same.new hq))) fun s hs => ?_
    rw [Bool.and_eq_true, getD_true, getD_true, iff5 s hs, iff6 s hs]
    exact Iff.rfl
end

theorem Deck.trk {H : Hp} {p q : Addr} {n : Nat} (d : Deck H p q n) : Trk [p, q] H := by
  intro b hb
  obtain ⟨cs, h, _⟩ := d.cells
  rcases List.mem_cons.mp hb with rfl | hb
  · rw [d.top]
    exact fun z => nomatch z
  · rcases List.mem_cons.mp hb with rfl | hb
    · rw [h]
      exact fun z => nomatch z
    · cases hb

/-! ### the law's kinds -/
def RowD (L N : Int) (d : PyData) : Prop := ∃ its : List PyData, d = .tuple its ∧ (its.length : Int) = L ∧ ∀ x ∈ its, x = .none ∨ ∃ i : Int, x = .int i ∧ 0 ≤ i ∧ i < N
structure KindD (L N : Int) (d : PyData) : Prop where
  is : ∃ rows ends : List PyData, d = .tuple [.int L, .tuple rows, .tuple ends] ∧ (rows.length : Int) = N ∧ (∀ r ∈ rows, RowD L N r) ∧ (ends.length : Int) = N ∧ ∀ e ∈ ends, ∃ b, e = .bool b
def spKind (K : PySem.W.Frag) : Sp := fun vs H Q _ => ∃ (p q : Addr) (n : Nat) (L N : Int), vs = [.ref p, .int L, .int N] ∧ Deck H p q n ∧ n + 100 ≤ 1000000000 ∧ 1 ≤ L ∧ L ≤ 4 ∧ 1 ≤ N ∧ N ≤ 9 ∧
  ∀ (H' : Hp) (n' : Nat) (r : V) (d : PyData), Deck H' p q n' → n' ≤ n + 100 → Ext [p, q] H H' → T K [p, q] H' r d → KindD L N d → Q r H'
theorem paired_all {F : PyData → PyData → Prop} {G : PyData → Prop} (h : ∀ a b, F a b → G b) : ∀ {l m : List PyData}, Paired F l m → ∀ b ∈ m, G b
  | _, _, .nil, b, hb => by cases hb
  | _, _, .cons r t, b, hb => by
    rcases List.mem_cons.mp hb with rfl | hb
    · exact h _ _ r
    · exact paired_all h t b hb
section
variable {P : Program} {w : World} {K : PySem.W.Frag} {mg : Str → Option Value} {base : Heap} {A : Adrs}
theorem ok_lawKind (T : Txt K mg A) : FnOk P w K mg base CX0 3 A.f__law_kind A.d__law_kind ["_law_deck_here", "_law_letters", "_law_many"] (spKind K) := by
  have G__law_one : FnOk P w K mg base CX0 2 A.f__law_one A.d__law_one ["_law_deck_here", "_law_items"] (spOne K) := ok_one T
  have G__law_draw : FnOk P w K mg base CX0 1 A.f__law_draw A.d__law_draw ["_law_deck_here", "_law_many"] spDraw := ok_draw T
  refine T.F__law_kind.ok sc__law_kind (fun vs H Q E h => ?_) (fun cdv Ar outer s H vs Q E hr h => ?_)
  · obtain ⟨_, _, _, _, _, rfl, _⟩ := h
    rfl
  obtain ⟨p, q, n, L, N, rfl, hD, hn, L1, L4, N1, N9, k⟩ := h
  have tr : Trk [p, q] H := hD.trk
  -- a deck stands off what is new
  have deckOff : ∀ {H1 D : Hp}, True := fun {_ _} => trivial
  have stay : ∀ (D : Addr) (H1 H' : Hp) (m : Nat) (o : HO), Trk [p, q] H1 → H1 D = none → Deck H' p q m → Deck (upd H' D o) p q m := fun D H1 H' m o t1 d0 dk => by
    have n1 := t1.new d0
    refine dk.ext (M := [D]) (Ext.put (by simp)) ?_ ?_
    · intro z
      have e : p = D := by simpa using z
      exact n1 (by simp [e])
    · intro z
      have e : q = D := by simpa using z
      exact n1 (by simp [e])
  refine ⟨_, (pss_cons (ps_set (i := 3) sc__law_kind.nd rfl (Or.inr rfl) (pe_call G__law_one (hr.mono (by first | decide | omega)) rfl T.m__law_one T.k__law_one T.b__law_one .nil pass0 (pa_cons (pv 0) (pa_cons (pe_lst (pa_cons pe_int (pa_cons pe_int (pa_cons pe_int pa_nil)))) pa_nil))))
    (pss_cons (ps_set (i := 4) sc__law_kind.nd rfl (Or.inl rfl) (pe_lst pa_nil))
    (pss_cons (ps_for PassesOwn.never rfl (pi_range1 (by rfl) T.z_range (pa_cons (pv 2) pa_nil)) (pg_name (i := 5) sc__law_kind.nd rfl (Or.inl rfl))
    (pss_cons (ps_setLc (i := 6) (own := [("_law_j", 7)]) (by rfl) sc__law_kind.nd rfl rfl (sw_true rfl rfl rfl (by decide +kernel)) (pi_range1 (by rfl) T.z_range (pa_cons (pv 1) pa_nil)) (blkOk_by (own := [("_law_j", 7)]) (N := N__law_kind) (sc := defScope s__law_kind) (by decide +kernel)) (fun _ _ _ _ _ => (pg_name (i := 7) sc__law_kind.nd rfl (Or.inl rfl))) (fun _ _ _ _ _ => pts_nil) (fun _ _ _ _ _ => (pe_ifExp (pt_cmpR op_gt (pe_call G__law_draw (hr.mono (by first | decide | omega)) rfl T.m__law_draw T.k__law_draw T.b__law_draw .nil pass0 (pa_cons (pv 0) (pa_cons (pv 3) pa_nil))) pe_int (nomark _)) (pe_call G__law_draw (hr.mono (by first | decide | omega)) rfl T.m__law_draw T.k__law_draw T.b__law_draw .nil pass0 (pa_cons (pv 0) (pa_cons (pv 2) pa_nil))) pe_non)))
    (pss_one (ps_expr (kBm K (pe_bm PySem.F.plainAttrs_list PySem.F.slot_list_append PySem.F.type_list_append mt_append (pv 4) (pa_cons (pe_callTy (T := "tuple") (kTupOf K) (by rfl) T.z_tuple (by decide +kernel) (pa_cons (pv 6) pa_nil)) pa_nil)))))))
    (pss_one (ps_ret (pe_tup (pa_cons (pv 1) (pa_cons (pe_callTy (T := "tuple") (kTupOf K) (by rfl) T.z_tuple (by decide +kernel) (pa_cons (pv 4) pa_nil)) (pa_cons (pe_callTy (T := "tuple") (kTupOf K) (by rfl) T.z_tuple (by decide +kernel) (pa_cons (pe_lc (own := [("_law_k", 5)]) rfl sc__law_kind.nd (pi_range1 (by rfl) T.z_range (pa_cons (pv 2) pa_nil)) (blkOk_by (own := [("_law_k", 5)]) (N := N__law_kind) (sc := defScope s__law_kind) (by decide +kernel)) (fun _ _ _ _ _ => (pg_name (i := 5) sc__law_kind.nd rfl (Or.inl rfl))) (fun _ _ _ _ _ => pts_nil) (fun _ _ _ _ _ => (pe_cmpR op_gt (pe_call G__law_draw (hr.mono (by first | decide | omega)) rfl T.m__law_draw T.k__law_draw T.b__law_draw .nil pass0 (pa_cons (pv 0) (pa_cons pe_int pa_nil))) pe_int (nomark _)))) pa_nil)) pa_nil))))))))), ?_⟩
  refine ⟨_, rfl, (show 3 ≤ sizeLine by decide), fun p1 h1 => ?_⟩
  obtain ⟨s1, tr1, t1, _⟩ := atL (K := K) tr (.cons (.int 2) (.cons (.int 4) (.one (.int 9)))) h1
  generalize upd H p1 (HO.lst [V.int 2, .int 4, .int 9]) = H1 at s1 tr1 t1 ⊢
  refine ⟨p, q, n, hD.same s1, by omega, .inl ⟨.ref p1, [p, q], _, rfl, .inl t1, by simp, by simp, by simp, by simp, fun H2 r d hD2 e2 td hd => ?_⟩⟩
  obtain ⟨c, rfl, c2, c9⟩ : ∃ c : Int, r = .int c ∧ 2 ≤ c ∧ c ≤ 9 := by
    simp only [List.mem_cons, List.not_mem_nil, or_false] at hd
    rcases hd with rfl | rfl | rfl <;> cases td <;> exact ⟨_, rfl, by decide, by decide⟩
  have eH2 : Ext [p, q] H H2 := (Ext.same s1).trans e2
  clear t1 td hd
  dsimp only [gName]
  refine ⟨Nat.zero_le _, fun l hl => ?_⟩
  have tr2 : Trk [p, q] H2 := hD2.trk
  have nl := tr2.new hl
  dsimp only [gName]
  refine sq (fun σ' H' => ∃ (ys : List V) (ds : List PyData) (n' : Nat) (o5 o6 : Option V), σ' = [some (.ref p), some (.int L), some (.int N), some (.int c), some (.ref l), o5, o6, none] ∧ H' l = some (.lst ys) ∧ TA K [l, p, q] H' ys ds ∧
      (ds.length : Int) = N ∧ (∀ r ∈ ds, RowD L N r) ∧ Deck H' p q n' ∧ n' ≤ n + 1 + 72 ∧ Ext [p, q] H H') (fun W hW => ?_) ?_
  · refine ⟨_, rfl, N, rfl, by omega, by omega, ?_⟩
    refine for_range (lo := 0) (n := N.toNat) (fun i σ' H' => ∃ (ys : List V) (ds : List PyData) (n' : Nat) (o5 o6 : Option V), σ' = [some (.ref p), some (.int L), some (.int N), some (.int c), some (.ref l), o5, o6, none] ∧ H' l = some (.lst ys) ∧ TA K [l, p, q] H' ys ds ∧
      ds.length = i ∧ (∀ r ∈ ds, RowD L N r) ∧ Deck H' p q n' ∧ n' ≤ n + 1 + 8 * i ∧ Ext [p, q] H H') ⟨[], [], n + 1, none, none, rfl, upd_same, .nil, rfl, (fun r hr => by cases hr), stay l H2 H2 _ _ tr2 hl hD2, Nat.le_refl _, eH2.trans (Ext.new hl)⟩ ?_ ?_
    · rintro i σ' H' hi ⟨ys, ds, n', o5, o6, rfl, hl', ta, dl, dr, dk, dn, eH⟩
      have tr3 : Trk [l, p, q] H' := by
        intro b hb
        rcases List.mem_cons.mp hb with rfl | hb
        · rw [hl']
          exact fun z => nomatch z
        · exact dk.trk b hb
      refine ⟨_, rfl, L, rfl, by omega, by omega, fun D hD' => ?_⟩
      have tr4 : Trk [p, q] H' := dk.trk
      refine lcR (K := K) (M := [l, p, q]) (N := [p, q]) (n := L.toNat) (fun j H3 => ∃ m, Deck H3 p q m ∧ m ≤ n' + 2 * j) (fun _ => true) (fun _ e => e = .none ∨ ∃ z : Int, e = .int z ∧ 0 ≤ z ∧ z < N) (by omega) (by intro b hb; exact List.mem_cons_of_mem _ hb) tr3 hD' ⟨n', dk, Nat.le_refl _⟩
        (fun j H3 o ⟨m, dm, hm⟩ => ⟨m, stay D H' H3 m o tr4 hD' dm, hm⟩) ?_ ?_
      · rintro j H3 hj e3 ⟨m, dm, hm⟩ Ky Kn _ ky
        refine ⟨rfl, yes_ ?_⟩
        refine ⟨_, rfl, _, rfl, p, q, m, c, rfl, dm, by omega, by omega, by omega, fun H4 r1 dm4 e4 r10 r11 => ⟨_, _, rfl, rfl, _, rfl, idec (fun _ => ?_) (fun _ => ?_)⟩⟩
        · refine ⟨_, rfl, _, rfl, p, q, m + 1, N, rfl, dm4, by omega, by omega, by omega, fun H5 r2 dm5 e5 r20 r21 => ?_⟩
          exact ky rfl H5 _ _ (e4.trans e5) ⟨m + 1 + 1, dm5, by omega⟩ (.int r2) (.inr ⟨r2, rfl, r20, r21⟩)
        · exact ky rfl H4 _ _ e4 ⟨m + 1, dm4, by omega⟩ .non (.inl rfl)
      · rintro H3 zs es e3 ⟨m, dm, hm⟩ hz tz pr
        have lz := tz.len
        have lp := U.Paired.len pr
        rw [U.filter_all, List.length_map, List.length_range] at lp
        have hl3 : H3 l = some (.lst ys) := e3 _ _ nl hl'
        have ta3 : TA K [l, p, q] H3 ys ds := ta.ext (e3.sub (by intro b hb; exact List.mem_cons_of_mem _ hb))
        have tr5 : Trk [l, p, q] H3 := by
          intro b hb
          rcases List.mem_cons.mp hb with rfl | hb
          · rw [hl3]
            exact fun z => nomatch z
          · exact dm.trk b hb
        refine ⟨_, rfl, .inl ⟨rfl, _, SqL.of hl3⟩, _, rfl, D, zs, rfl, .inl ⟨SqL.of hz, fun t ht => ?_⟩⟩
        obtain ⟨s4, tr6, tt, _⟩ := atT (K := K) tr5 tz ht
        have hl4 := s4 _ _ hl3
        have ta4 := ta3.same s4
        have dm4 := dm.same s4
        have e4 : Ext [p, q] H3 (upd H3 t (.tup zs)) := Ext.same s4
        generalize upd H3 t (HO.tup zs) = H4 at s4 tr6 tt hl4 ta4 dm4 e4 ⊢
        refine ⟨l, ys, .ref t, rfl, rfl, hl4, ?_, ys ++ [.ref t], ds ++ [.tuple es], m, _, _, rfl, upd_same, (ta4.app (.one tt)).ext (Ext.put (by simp)), ?_, ?_, ?_, ?_, ?_⟩
        · have := ta4.len
          exact Nat.lt_of_le_of_lt (show ys.length ≤ 100 by omega) (by decide)
        · rw [List.length_append, dl]
          rfl
        · intro r hr
          rcases List.mem_append.mp hr with hr | hr
          · exact dr r hr
          · have er : r = .tuple es := by simpa using hr
            refine ⟨es, er, by omega, paired_all (G := fun x => x = .none ∨ ∃ i : Int, x = .int i ∧ 0 ≤ i ∧ i < N) (fun _ _ h => h) pr⟩
        · refine dm4.ext (M := [l]) (Ext.put (by simp)) ?_ ?_
          · intro z
            have e : p = l := by simpa using z
            exact nl (by simp [e])
          · intro z
            have e : q = l := by simpa using z
            exact nl (by simp [e])
        · omega
        · intro b o nb hb
          have nbl : b ≠ l := by
            rintro rfl
            have := eH _ _ nb hb
            have z : H b = none := Same.free s1 (Ext.fresh e2 nl hl)
            rw [z] at hb
            cases hb
          rw [upd_ne nbl]
          exact e4 _ _ nb (e3 _ _ nb (eH _ _ nb hb))
    · rintro σ' H' ⟨ys, ds, n', o5, o6, rfl, hl', ta, dl, dr, dk, dn, eH⟩
      exact hW _ _ ⟨ys, ds, n', o5, o6, rfl, hl', ta, by omega, dr, dk, by omega, eH⟩
  rintro σ' H' ⟨ys, ds, n', o5, o6, rfl, hl', ta, dl, dr, dk, dn, eH⟩
  have tr3 : Trk [p, q] H' := dk.trk
  have ta3 : TA K [p, q] H' ys ds := ta.off (by intro b hb; exact List.mem_cons_of_mem _ hb)
  refine ⟨_, rfl, _, rfl, l, ys, rfl, .inl ⟨SqL.of hl', fun t ht => ?_⟩⟩
  obtain ⟨s4, tr4, tt, _⟩ := atT (K := K) tr3 ta3 ht
  have dk4 := dk.same s4
  have e4 : Ext [p, q] H (upd H' t (.tup ys)) := eH.trans (Ext.same s4)
  generalize upd H' t (HO.tup ys) = H4 at s4 tr4 tt dk4 e4 ⊢
  refine ⟨_, rfl, N, rfl, by omega, by omega, fun D hD' => ?_⟩
  refine lcR (K := K) (M := [p, q]) (N := [p, q]) (n := N.toNat) (fun j H3 => ∃ m, Deck H3 p q m ∧ m ≤ n' + j) (fun _ => true) (fun _ e => ∃ b, e = .bool b) (by omega) (by intro b hb; exact hb) tr4 hD' ⟨n', dk4, Nat.le_refl _⟩
    (fun j H3 o ⟨m, dm, hm⟩ => ⟨m, stay D H4 H3 m o tr4 hD' dm, hm⟩) ?_ ?_
  · rintro j H3 hj e3 ⟨m, dm, hm⟩ Ky Kn _ ky
    refine ⟨rfl, yes_ ?_⟩
    refine ⟨_, rfl, p, q, m, 3, rfl, dm, by omega, by decide, by decide, fun H5 r1 dm5 e5 r10 r11 => ⟨_, _, rfl, rfl, ?_⟩⟩
    exact ky rfl H5 _ _ e5 ⟨m + 1, dm5, by omega⟩ (.bl _) ⟨_, rfl⟩
  · rintro H3 zs es e3 ⟨m, dm, hm⟩ hz tz pr
    have lp := U.Paired.len pr
    rw [U.filter_all, List.length_map, List.length_range] at lp
    have tr5 : Trk [p, q] H3 := dm.trk
    refine ⟨D, zs, rfl, .inl ⟨SqL.of hz, fun u hu => ?_⟩⟩
    obtain ⟨s6, tr6, tu, _⟩ := atT (K := K) tr5 tz hu
    have dm6 := dm.same s6
    have e6 : Ext [p, q] H (upd H3 u (.tup zs)) := (e4.trans e3).trans (Ext.same s6)
    have tt6 : U.T K [p, q] (upd H3 u (.tup zs)) (.ref t) (.tuple ds) := (tt.ext e3).same s6
    generalize upd H3 u (HO.tup zs) = H6 at s6 tr6 tu dm6 e6 tt6 ⊢
    refine ⟨(show 3 ≤ sizeLine by decide), fun v hv => ?_⟩
    obtain ⟨s7, tr7, tv, _⟩ := atT (K := K) tr6 (.cons (.int L) (.cons tt6 (.one tu))) hv
    refine k _ m _ _ (dm6.same s7) (by omega) (e6.trans (Ext.same s7)) tv ⟨ds, es, rfl, dl, dr, by omega, paired_all (G := fun e => ∃ b, e = .bool b) (fun _ _ h => h) pr⟩
end

theorem kind_abs {L N : Int} {d : PyData} (h : KindD L N d) {l n : Nat} (hL : L = (l : Int)) (hN : N = (n : Int)) (l1 : 1 ≤ l) (l4 : l ≤ 4) (n1 : 1 ≤ n) (n9 : n ≤ 9) : ∃ rows ends, d = kindD l rows ends ∧ KindOk l n rows ends := by
  subst hL hN
  obtain ⟨rs, es, rfl, h1, h2, h3, h4⟩ := h.is
  have row : ∀ its : List PyData, (∀ x ∈ its, x = .none ∨ ∃ i : Int, x = .int i ∧ 0 ≤ i ∧ i < (n : Int)) → ∃ r : List (Option Nat), its = r.map itemD ∧ ∀ k, some k ∈ r → k < n := by
    intro its
    induction its with
    | nil => exact fun _ => ⟨[], rfl, fun k hk => nomatch hk⟩
    | cons x xs ih =>
      intro h
      obtain ⟨r, e, hr⟩ := ih fun y hy => h y (List.mem_cons_of_mem _ hy)
      rcases h x List.mem_cons_self with rfl | ⟨i, rfl, i0, i1⟩
      · refine ⟨none :: r, by rw [e]; rfl, fun k hk => ?_⟩
        rcases List.mem_cons.mp hk with z | z
        · cases z
        · exact hr k z
      · refine ⟨some i.toNat :: r, ?_, fun k hk => ?_⟩
        · rw [e]
          show PyData.int i :: _ = PyData.int (i.toNat : Int) :: _
          rw [Int.toNat_of_nonneg i0]
        · rcases List.mem_cons.mp hk with z | z
          · cases z
            omega
          · exact hr k z
  have rows : ∀ rs : List PyData, (∀ r ∈ rs, RowD (l : Int) (n : Int) r) → ∃ rows : List (List (Option Nat)), rs = rows.map rowD ∧ ∀ r ∈ rows, r.length = l ∧ ∀ k, some k ∈ r → k < n := by
    intro rs
    induction rs with
    | nil => exact fun _ => ⟨[], rfl, fun k hk => nomatch hk⟩
    | cons x xs ih =>
      intro h
      obtain ⟨r, e, hr⟩ := ih fun y hy => h y (List.mem_cons_of_mem _ hy)
      obtain ⟨its, rfl, hl, hi⟩ := h x List.mem_cons_self
      obtain ⟨r0, e0, h0⟩ := row its hi
      refine ⟨r0 :: r, by rw [e, e0]; rfl, fun k hk => ?_⟩
      rcases List.mem_cons.mp hk with rfl | z
      · refine ⟨?_, h0⟩
        rw [e0, List.length_map] at hl
        omega
      · exact hr k z
  have ends : ∀ es : List PyData, (∀ e ∈ es, ∃ b, e = .bool b) → ∃ bs : List Bool, es = bs.map .bool := by
    intro es
    induction es with
    | nil => exact fun _ => ⟨[], rfl⟩
    | cons x xs ih =>
      intro h
      obtain ⟨r, e⟩ := ih fun y hy => h y (List.mem_cons_of_mem _ hy)
      obtain ⟨b, rfl⟩ := h x List.mem_cons_self
      exact ⟨b :: r, by rw [e]; rfl⟩
  obtain ⟨rr, e1, hr⟩ := rows rs h2
  obtain ⟨bs, e2⟩ := ends es h4
  subst e1 e2
  rw [List.length_map] at h1 h3
  exact ⟨rr, bs, rfl, by omega, by omega, hr, l1, l4, n1, n9⟩
theorem Ext.newer {M : List Addr} {H H' : Hp} {p : Addr} {o : HO} (e : Ext M H H') (h : H p = none) : Ext M H (upd H' p o) := fun b u n hb => by
  have ne : b ≠ p := by
    rintro rfl
    rw [h] at hb
    cases hb
  rw [upd_ne ne]
  exact e b u n hb
theorem ta_set {K : PySem.W.Frag} {M : List Addr} {H : Hp} {y : V} {d : PyData} (t : T K M H y d) : ∀ {ys : List V} {ds : List PyData} (i : Nat), TA K M H ys ds → TA K M H (ys.set i y) (ds.set i d)
  | _, _, _, .nil => .nil
  | _, _, 0, .cons h1 h2 => .cons t h2
  | _, _, i + 1, .cons h1 h2 => .cons h1 (ta_set t i h2)
theorem ta_flat {K : PySem.W.Frag} {M N : List Addr} {H H' : Hp} : ∀ {ys : List V} {ds : List PyData}, TA K M H ys ds → (∀ x ∈ ds, x = .none ∨ ∃ z : Int, x = .int z) → TA K N H' ys ds
  | _, _, .nil, _ => .nil
  | _, d :: ds, .cons h1 h2, h => by
    refine .cons ?_ (ta_flat h2 fun x hx => h x (List.mem_cons_of_mem _ hx))
    rcases h d List.mem_cons_self with rfl | ⟨z, rfl⟩
    · cases h1
      exact .non
    · cases h1
      exact .int z
section
variable {P : Program} {w : World} {K : PySem.W.Frag} {mg : Str → Option Value} {base : Heap} {A : Adrs}
theorem ok_lawLine (T : Txt K mg A) : FnOk P w K mg base CX0 3 A.f__law_line A.d__law_line ["_law_deck_here", "_law_letters", "_law_many"] (spKind K) := by
  have G__law_draw : FnOk P w K mg base CX0 1 A.f__law_draw A.d__law_draw ["_law_deck_here", "_law_many"] spDraw := ok_draw T
  refine T.F__law_line.ok sc__law_line (fun vs H Q E h => ?_) (fun cdv Ar outer s H vs Q E hr h => ?_)
  · obtain ⟨_, _, _, _, _, rfl, _⟩ := h
    rfl
  obtain ⟨p, q, n, L, N, rfl, hD, hn, L1, L4, N1, N9, k⟩ := h
  have tr : Trk [p, q] H := hD.trk
  have stay : ∀ (D : Addr) (H1 H' : Hp) (m : Nat) (o : HO), Trk [p, q] H1 → H1 D = none → Deck H' p q m → Deck (upd H' D o) p q m := fun D H1 H' m o t1 d0 dk => by
    have n1 := t1.new d0
    refine dk.ext (M := [D]) (Ext.put (by simp)) ?_ ?_
    · intro z
      have e : p = D := by simpa using z
      exact n1 (by simp [e])
    · intro z
      have e : q = D := by simpa using z
      exact n1 (by simp [e])
  refine ⟨_, (pss_cons (ps_set (i := 3) sc__law_line.nd rfl (Or.inl rfl) (pe_lst pa_nil))
    (pss_cons (ps_for PassesOwn.never rfl (pi_range1 (by rfl) T.z_range (pa_cons (pv 2) pa_nil)) (pg_name (i := 4) sc__law_line.nd rfl (Or.inr rfl))
    (pss_cons (ps_setLc (i := 5) (own := [("_law_j", 6)]) (by rfl) sc__law_line.nd rfl rfl (sw_true rfl rfl rfl (by decide +kernel)) (pi_range1 (by rfl) T.z_range (pa_cons (pv 1) pa_nil)) (blkOk_by (own := [("_law_j", 6)]) (N := N__law_line) (sc := defScope s__law_line) (by decide +kernel)) (fun _ _ _ _ _ => (pg_name (i := 6) sc__law_line.nd rfl (Or.inl rfl))) (fun _ _ _ _ _ => pts_nil) (fun _ _ _ _ _ => (pe_ifExp (PW.pt (pw_and (pt_cmpR op_lt (pe_op op_add (pv 4) pe_int) (pv 2) (nomark _)) (pw_and1 (pt_cmpR op_gt (pe_call G__law_draw (hr.mono (by first | decide | omega)) rfl T.m__law_draw T.k__law_draw T.b__law_draw .nil pass0 (pa_cons (pv 0) (pa_cons pe_int pa_nil))) pe_int (nomark _))))) (pe_op op_add (pv 4) pe_int) pe_non)))
    (pss_cons (ps_if (pt_cmpR op_lt (pe_op op_add (pv 4) pe_int) (pv 2) (nomark _)) (pss_one (ps_asg (pe_op op_add (pv 4) pe_int) (pg_sub (pv 5) (pe_call G__law_draw (hr.mono (by first | decide | omega)) rfl T.m__law_draw T.k__law_draw T.b__law_draw .nil pass0 (pa_cons (pv 0) (pa_cons (pv 1) pa_nil))) set_list)))
    pss_nil)
    (pss_one (ps_expr (kBm K (pe_bm PySem.F.plainAttrs_list PySem.F.slot_list_append PySem.F.type_list_append mt_append (pv 3) (pa_cons (pe_callTy (T := "tuple") (kTupOf K) (by rfl) T.z_tuple (by decide +kernel) (pa_cons (pv 5) pa_nil)) pa_nil))))))))
    (pss_one (ps_ret (pe_tup (pa_cons (pv 1) (pa_cons (pe_callTy (T := "tuple") (kTupOf K) (by rfl) T.z_tuple (by decide +kernel) (pa_cons (pv 3) pa_nil)) (pa_cons (pe_callTy (T := "tuple") (kTupOf K) (by rfl) T.z_tuple (by decide +kernel) (pa_cons (pe_lc (own := [("_law_k", 4)]) rfl sc__law_line.nd (pi_range1 (by rfl) T.z_range (pa_cons (pv 2) pa_nil)) (blkOk_by (own := [("_law_k", 4)]) (N := N__law_line) (sc := defScope s__law_line) (by decide +kernel)) (fun _ _ _ _ _ => (pg_name (i := 4) sc__law_line.nd rfl (Or.inl rfl))) (fun _ _ _ _ _ => pts_nil) (fun _ _ _ _ _ => (pe_or (pe_cmpR op_eq (pv 4) (pe_op op_sub (pv 2) pe_int) (nomark _)) (pe_one (pe_cmpR op_eq (pe_call G__law_draw (hr.mono (by first | decide | omega)) rfl T.m__law_draw T.k__law_draw T.b__law_draw .nil pass0 (pa_cons (pv 0) (pa_cons pe_int pa_nil))) pe_int (nomark _)))))) pa_nil)) pa_nil)))))))), ?_⟩
  refine ⟨Nat.zero_le _, fun l hl => ?_⟩
  have nl := tr.new hl
  dsimp only [gName]
  refine sq (fun σ' H' => ∃ (ys : List V) (ds : List PyData) (n' : Nat) (o4 o5 : Option V), σ' = [some (.ref p), some (.int L), some (.int N), some (.ref l), o4, o5, none] ∧ H' l = some (.lst ys) ∧ TA K [l, p, q] H' ys ds ∧
      (ds.length : Int) = N ∧ (∀ r ∈ ds, RowD L N r) ∧ Deck H' p q n' ∧ n' ≤ n + 72 ∧ Ext [p, q] H H') (fun W hW => ?_) ?_
  · refine ⟨_, rfl, N, rfl, by omega, by omega, ?_⟩
    refine for_range (lo := 0) (n := N.toNat) (fun i σ' H' => ∃ (ys : List V) (ds : List PyData) (n' : Nat) (o4 o5 : Option V), σ' = [some (.ref p), some (.int L), some (.int N), some (.ref l), o4, o5, none] ∧ H' l = some (.lst ys) ∧ TA K [l, p, q] H' ys ds ∧
      ds.length = i ∧ (∀ r ∈ ds, RowD L N r) ∧ Deck H' p q n' ∧ n' ≤ n + 8 * i ∧ Ext [p, q] H H') ⟨[], [], n, none, none, rfl, upd_same, .nil, rfl, (fun r hr => by cases hr), stay l H H n _ tr hl hD, Nat.le_refl _, Ext.new hl⟩ ?_ ?_
    · rintro i σ' H' hi ⟨ys, ds, n', o4, o5, rfl, hl', ta, dl, dr, dk, dn, eH⟩
      have tr3 : Trk [l, p, q] H' := by
        intro b hb
        rcases List.mem_cons.mp hb with rfl | hb
        · rw [hl']
          exact fun z => nomatch z
        · exact dk.trk b hb
      have tr4 : Trk [p, q] H' := dk.trk
      obtain ⟨kk, hkk⟩ : ∃ kk : Int, kk = 0 + (i : Int) := ⟨_, rfl⟩
      have k0 : 0 ≤ kk := by omega
      dsimp only [gName]
      rw [← hkk]
      refine ⟨_, rfl, L, rfl, by omega, by omega, fun D hD' => ?_⟩
      have nD : D ∉ [l, p, q] := tr3.new hD'
      refine lcR (K := K) (M := [l, p, q]) (N := [p, q]) (n := L.toNat) (fun j H3 => ∃ m, Deck H3 p q m ∧ m ≤ n' + j) (fun _ => true) (fun _ e => e = .none ∨ ∃ z : Int, e = .int z ∧ 0 ≤ z ∧ z < N) (by omega) (by intro b hb; exact List.mem_cons_of_mem _ hb) tr3 hD' ⟨n', dk, Nat.le_refl _⟩
        (fun j H3 o ⟨m, dm, hm⟩ => ⟨m, stay D H' H3 m o tr4 hD' dm, hm⟩) ?_ ?_
      · rintro j H3 hj e3 ⟨m, dm, hm⟩ Ky Kn _ ky
        refine ⟨rfl, yes_ ?_⟩
        refine ⟨_, rfl, _, _, rfl, rfl, _, rfl, _, _, rfl, rfl, _, rfl, idec (fun lt => ?_) (fun _ => ?_)⟩
        · refine ⟨_, rfl, p, q, m, 4, rfl, dm, by omega, by decide, by decide, fun H4 r1 dm4 e4 r10 r11 => ⟨_, _, rfl, rfl, _, rfl, idec (fun _ => ?_) (fun _ => ?_)⟩⟩
          · refine ⟨_, rfl, _, _, rfl, rfl, ?_⟩
            exact ky rfl H4 _ _ e4 ⟨m + 1, dm4, by omega⟩ (.int _) (.inr ⟨_, rfl, by omega, lt⟩)
          · exact ky rfl H4 _ _ e4 ⟨m + 1, dm4, by omega⟩ .non (.inl rfl)
        · exact ky rfl H3 _ _ (Ext.refl _ _) ⟨m, dm, by omega⟩ .non (.inl rfl)
      · rintro H3 zs es e3 ⟨m, dm, hm⟩ hz tz pr
        have lp := U.Paired.len pr
        rw [U.filter_all, List.length_map, List.length_range] at lp
        have ge : ∀ x ∈ es, x = .none ∨ ∃ z : Int, x = .int z ∧ 0 ≤ z ∧ z < N := paired_all (G := fun x => x = .none ∨ ∃ i : Int, x = .int i ∧ 0 ≤ i ∧ i < N) (fun _ _ h => h) pr
        have eD : Ext [D, l, p, q] H' H3 := e3.sub (by intro b hb; exact List.mem_cons_of_mem _ (List.mem_cons_of_mem _ hb))
        clear pr
        dsimp only [gName]
        refine sq (fun σ5 H5 => σ5 = [some (.ref p), some (.int L), some (.int N), some (.ref l), some (.int kk), some (.ref D), none] ∧ ∃ (m : Nat) (zs : List V) (es : List PyData), Deck H5 p q m ∧ m ≤ n' + 8 ∧ H5 D = some (.lst zs) ∧ TA K [l, p, q] H5 zs es ∧
          (es.length : Int) = L ∧ (∀ x ∈ es, x = .none ∨ ∃ z : Int, x = .int z ∧ 0 ≤ z ∧ z < N) ∧ Ext [D, p, q] H' H5) (fun W5 hW5 => ?_) ?_
        · have fl : ∀ x ∈ es, x = .none ∨ ∃ z : Int, x = .int z := fun x hx => (ge x hx).imp id fun ⟨z, hz, _⟩ => ⟨z, hz⟩
          have npq : D ∉ [p, q] := fun z => nD (List.mem_cons_of_mem _ z)
          refine ⟨_, rfl, _, _, rfl, rfl, _, rfl, _, _, rfl, rfl, _, rfl, idec (fun lt => ?_) (fun _ => ?_)⟩
          · refine ⟨_, rfl, _, _, rfl, rfl, _, rfl, _, rfl, _, rfl, p, q, m, L, rfl, dm, by omega, by omega, by omega, fun H4 r dm4 e4 r0 r1 => ?_⟩
            have hz4 := e4 _ _ npq hz
            have lz := tz.len
            refine ⟨D, zs, r, r.toNat, rfl, rfl, hz4, ?_, ?_⟩
            · unfold ixN
              rw [if_pos r0, if_pos (by omega)]
            · refine hW5 _ _ ⟨rfl, m + 1, _, es.set r.toNat (.int (kk + 1)), stay D H' H4 _ _ tr4 hD' dm4, by omega, upd_same, ta_set (.int _) _ (ta_flat tz fl), by rw [List.length_set]; omega, ?_, ?_⟩
              · intro x hx
                rcases List.mem_or_eq_of_mem_set hx with h | rfl
                · exact ge x h
                · exact .inr ⟨_, rfl, by omega, lt⟩
              · exact ((e3.trans e4).sub (by intro b hb; exact List.mem_cons_of_mem _ hb)).trans (Ext.put (by simp))
          · exact hW5 _ _ ⟨rfl, m, zs, es, dm, by omega, hz, tz, by omega, ge, e3.sub (by intro b hb; exact List.mem_cons_of_mem _ hb)⟩
        · clear hz tz ge eD lp dm hm e3
          rintro σ5 H3 ⟨rfl, m, zs, es, dm, hm, hz, tz, lp, ge, e3⟩
          have fl : ∀ x ∈ es, x = .none ∨ ∃ z : Int, x = .int z := fun x hx => (ge x hx).imp id fun ⟨z, hz, _⟩ => ⟨z, hz⟩
          have lD : l ≠ D := fun e => nD (by simp [e])
          have hl3 : H3 l = some (.lst ys) := e3 _ _ (fun z => by
            rcases List.mem_cons.mp z with z | z
            · exact lD z
            · exact nl z) hl'
          have ta3 : TA K [l, p, q] H3 ys ds := ((ta.plus hD').ext (e3.sub (by
            intro b hb
            rcases List.mem_cons.mp hb with rfl | hb
            · exact List.mem_cons_self
            · exact List.mem_cons_of_mem _ (List.mem_cons_of_mem _ hb)))).off (by intro b hb; exact List.mem_cons_of_mem _ hb)
          have eP : Ext [p, q] H H3 := by
            intro b o nb hb
            have h1 := eH _ _ nb hb
            refine e3 _ _ (fun z => ?_) h1
            rcases List.mem_cons.mp z with rfl | z
            · rw [hD'] at h1
              cases h1
            · exact nb z
          have tr5 : Trk [l, p, q] H3 := by
            intro b hb
            rcases List.mem_cons.mp hb with rfl | hb
            · rw [hl3]
              exact fun z => nomatch z
            · exact dm.trk b hb
          refine ⟨_, rfl, .inl ⟨rfl, _, SqL.of hl3⟩, _, rfl, D, zs, rfl, .inl ⟨SqL.of hz, fun t ht => ?_⟩⟩
          obtain ⟨s4, tr6, tt, _⟩ := atT (K := K) tr5 tz ht
          have hl4 := s4 _ _ hl3
          have ta4 := ta3.same s4
          have dm4 := dm.same s4
          have e4 : Ext [p, q] H (upd H3 t (.tup zs)) := eP.trans (Ext.same s4)
          generalize upd H3 t (HO.tup zs) = H4 at s4 tr6 tt hl4 ta4 dm4 e4 ⊢
          refine ⟨l, ys, .ref t, rfl, rfl, hl4, ?_, ys ++ [.ref t], ds ++ [.tuple es], m, _, _, rfl, upd_same, (ta4.app (.one tt)).ext (Ext.put (by simp)), ?_, ?_, stay l H H4 m _ tr hl dm4, ?_, ?_⟩
          · have := ta4.len
            exact Nat.lt_of_le_of_lt (show ys.length ≤ 100 by omega) (by decide)
          · rw [List.length_append, dl]
            rfl
          · intro r hr
            rcases List.mem_append.mp hr with hr | hr
            · exact dr r hr
            · have er : r = .tuple es := by simpa using hr
              exact ⟨es, er, by omega, ge⟩
          · omega
          · exact Ext.newer e4 hl
    · rintro σ' H' ⟨ys, ds, n', o4, o5, rfl, hl', ta, dl, dr, dk, dn, eH⟩
      exact hW _ _ ⟨ys, ds, n', o4, o5, rfl, hl', ta, by omega, dr, dk, by omega, eH⟩
  rintro σ' H' ⟨ys, ds, n', o4, o5, rfl, hl', ta, dl, dr, dk, dn, eH⟩
  have tr3 : Trk [p, q] H' := dk.trk
  have ta3 : TA K [p, q] H' ys ds := ta.off (by intro b hb; exact List.mem_cons_of_mem _ hb)
  refine ⟨_, rfl, _, rfl, l, ys, rfl, .inl ⟨SqL.of hl', fun t ht => ?_⟩⟩
  obtain ⟨s4, tr4, tt, _⟩ := atT (K := K) tr3 ta3 ht
  have dk4 := dk.same s4
  have e4 : Ext [p, q] H (upd H' t (.tup ys)) := eH.trans (Ext.same s4)
  generalize upd H' t (HO.tup ys) = H4 at s4 tr4 tt dk4 e4 ⊢
  refine ⟨_, rfl, N, rfl, by omega, by omega, fun D hD' => ?_⟩
  refine lcR (K := K) (M := [p, q]) (N := [p, q]) (n := N.toNat) (fun j H3 => ∃ m, Deck H3 p q m ∧ m ≤ n' + j) (fun _ => true) (fun _ e => ∃ b, e = .bool b) (by omega) (by intro b hb; exact hb) tr4 hD' ⟨n', dk4, Nat.le_refl _⟩
    (fun j H3 o ⟨m, dm, hm⟩ => ⟨m, stay D H4 H3 m o tr4 hD' dm, hm⟩) ?_ ?_
  · rintro j H3 hj e3 ⟨m, dm, hm⟩ Ky Kn _ ky
    refine ⟨rfl, yes_ ?_⟩
    refine ⟨_, rfl, _, rfl, _, _, rfl, rfl, rfl, _, rfl, if_ (fun _ => ?_) (fun _ => ?_)⟩
    · exact ky rfl H3 _ _ (Ext.refl _ _) ⟨m, dm, by omega⟩ (.bl _) ⟨_, rfl⟩
    · refine ⟨_, rfl, p, q, m, 3, rfl, dm, by omega, by decide, by decide, fun H5 r1 dm5 e5 r10 r11 => ⟨rfl, ?_⟩⟩
      exact ky rfl H5 _ _ e5 ⟨m + 1, dm5, by omega⟩ (.bl _) ⟨_, rfl⟩
  · rintro H3 zs es e3 ⟨m, dm, hm⟩ hz tz pr
    have lp := U.Paired.len pr
    rw [U.filter_all, List.length_map, List.length_range] at lp
    have tr5 : Trk [p, q] H3 := dm.trk
    refine ⟨D, zs, rfl, .inl ⟨SqL.of hz, fun u hu => ?_⟩⟩
    obtain ⟨s6, tr6, tu, _⟩ := atT (K := K) tr5 tz hu
    have dm6 := dm.same s6
    have e6 : Ext [p, q] H (upd H3 u (.tup zs)) := (e4.trans e3).trans (Ext.same s6)
    have tt6 : U.T K [p, q] (upd H3 u (.tup zs)) (.ref t) (.tuple ds) := (tt.ext e3).same s6
    generalize upd H3 u (HO.tup zs) = H6 at s6 tr6 tu dm6 e6 tt6 ⊢
    refine ⟨(show 3 ≤ sizeLine by decide), fun v hv => ?_⟩
    obtain ⟨s7, tr7, tv, _⟩ := atT (K := K) tr6 (.cons (.int L) (.cons tt6 (.one tu))) hv
    exact k _ m _ _ (dm6.same s7) (by omega) (e6.trans (Ext.same s7)) tv ⟨ds, es, rfl, dl, dr, by omega, paired_all (G := fun e => ∃ b, e = .bool b) (fun _ _ h => h) pr⟩
end

/-! ### words drawn -/
theorem letters_cut {L : Nat} (l1 : 1 ≤ L) (l4 : L ≤ 4) : cutS (Str.ofString "abcd") none (some (L : Int)) = txt (List.range L) := by
  have h : L = 1 ∨ L = 2 ∨ L = 3 ∨ L = 4 := by omega
  rcases h with rfl | rfl | rfl | rfl <;> decide +kernel
theorem txt_app (a b : List Nat) : txt a ++ txt b = txt (a ++ b) := by
  show Str.mk _ = Str.mk _
  simp [txt]
theorem txt_one (c : Nat) : (⟨#[97 + c]⟩ : Str) = txt [c] := rfl
theorem txt_len (ws : List Nat) : (txt ws).length = ws.length := txt_size ws
theorem line_400 {n : Nat} (h : n ≤ 100000) : n ≤ sizeLine := Nat.le_trans h (by decide)
/-- the letter at a place of the letters' text -/
theorem range_get {L i c : Nat} (h : (txt (List.range L)).cps[i]? = some c) : ∃ d, d < L ∧ c = 97 + d := by
  rw [txt_get] at h
  obtain ⟨d, hd, rfl⟩ := Option.map_eq_some_iff.mp h
  exact ⟨d, List.mem_range.mp (List.mem_of_getElem? hd), rfl⟩
theorem cut_txt (ws : List Nat) (lo hi : Option Int) : ∃ vs : List Nat, cutS (txt ws) lo hi = txt vs ∧ vs.length ≤ ws.length ∧ ∀ c ∈ vs, c ∈ ws := by
  refine ⟨(ws.drop (HT.sIx (txt ws).length 0 lo)).take (HT.sIx (txt ws).length (txt ws).length hi - HT.sIx (txt ws).length 0 lo), ?_, ?_, fun c h => List.mem_of_mem_drop (List.mem_of_mem_take h)⟩
  · show Str.mk _ = Str.mk _
    congr 1
    simp [txt, List.map_take, List.map_drop]
  · rw [List.length_take, List.length_drop]
    omega
theorem join_txt (l : List Nat) : Txt.join (Str.ofString "") (l.map fun c => (⟨#[97 + c]⟩ : Str)) = txt l := by
  have e0 : (Str.ofString "").cps = #[] := rfl
  have fold : ∀ (l : List Nat) (acc : Array Nat), (l.map fun c => (⟨#[97 + c]⟩ : Str)).foldl (fun acc p => acc ++ (Str.ofString "").cps ++ p.cps) acc = acc ++ (l.map (97 + ·)).toArray := by
    intro l
    induction l with
    | nil => intro acc; simp
    | cons x xs ih =>
      intro acc
      rw [List.map_cons, List.foldl_cons, ih, e0]
      simp
  cases l with
  | nil => rfl
  | cons x xs =>
    show Str.mk _ = Str.mk _
    congr 1
    show (((x :: xs).map fun c => (⟨#[97 + c]⟩ : Str)).drop 1).foldl _ _ = _
    rw [List.map_cons, List.drop_succ_cons, List.drop_zero, fold]
    simp
theorem stay_ {p q D : Addr} {H1 H' : Hp} {m : Nat} {o : HO} (t1 : Trk [p, q] H1) (d0 : H1 D = none) (dk : Deck H' p q m) : Deck (upd H' D o) p q m := by
  have n1 := t1.new d0
  refine dk.ext (M := [D]) (Ext.put (by simp)) ?_ ?_
  · intro z
    have e : p = D := by simpa using z
    exact n1 (by simp [e])
  · intro z
    have e : q = D := by simpa using z
    exact n1 (by simp [e])
theorem signs_of {K : PySem.W.Frag} {M : List Addr} {H : Hp} {L : Nat} : ∀ {ys : List V} {es : List PyData}, TA K M H ys es → (∀ e ∈ es, ∃ c, c < L ∧ e = .str ⟨#[97 + c]⟩) → ∃ ws : List Nat, ys = (ws.map fun c => (⟨#[97 + c]⟩ : Str)).map V.str ∧ (∀ c ∈ ws, c < L) ∧ ws.length = es.length
  | _, [], h, _ => by
    cases h
    exact ⟨[], rfl, (fun c hc => nomatch hc), rfl⟩
  | _, e :: es, .cons h1 h2, h => by
    obtain ⟨ws, e1, e2, e3⟩ := signs_of h2 fun x hx => h x (List.mem_cons_of_mem _ hx)
    obtain ⟨c, hc, rfl⟩ := h e List.mem_cons_self
    cases h1
    refine ⟨c :: ws, by rw [e1]; rfl, fun d hd => ?_, by rw [List.length_cons, List.length_cons, e3]⟩
    rcases List.mem_cons.mp hd with rfl | hd
    · exact hc
    · exact e2 d hd
theorem sum_ones : ∀ ws : List Nat, ((ws.map fun c => (⟨#[97 + c]⟩ : Str)).map fun x : Str => x.length).sum = ws.length
  | [] => rfl
  | c :: ws => by
    rw [List.map_cons, List.map_cons, List.sum_cons, sum_ones ws, List.length_cons]
    show 1 + ws.length = _
    omega
def spWord : Sp := fun vs H Q _ => ∃ (p q : Addr) (n L most : Nat), vs = [.ref p, .int (L : Int), .int (most : Int)] ∧ Deck H p q n ∧ n + most + 10 ≤ 1000000000 ∧ 1 ≤ L ∧ L ≤ 4 ∧ most ≤ 400 ∧
  ∀ (H' : Hp) (n' : Nat) (ws : List Nat), Deck H' p q n' → n' ≤ n + most + 2 → Ext [p, q] H H' → (∀ c ∈ ws, c < L) → ws.length ≤ most → Q (.str (txt ws)) H'
section
variable {P : Program} {w : World} {K : PySem.W.Frag} {mg : Str → Option Value} {base : Heap} {A : Adrs}
theorem ok_lawWord (T : Txt K mg A) : FnOk P w K mg base CX0 3 A.f__law_word A.d__law_word ["_law_deck_here", "_law_letters", "_law_most"] spWord := by
  have G__law_one : FnOk P w K mg base CX0 2 A.f__law_one A.d__law_one ["_law_deck_here", "_law_items"] (spOne K) := ok_one T
  have G__law_draw : FnOk P w K mg base CX0 1 A.f__law_draw A.d__law_draw ["_law_deck_here", "_law_many"] spDraw := ok_draw T
  refine T.F__law_word.ok sc__law_word (fun vs H Q E h => ?_) (fun cdv Ar outer s H vs Q E hr h => ?_)
  · obtain ⟨_, _, _, _, _, rfl, _⟩ := h
    rfl
  obtain ⟨p, q, n, L, most, rfl, hD, hn, l1, l4, hm, k⟩ := h
  refine ⟨_, (pss_one (ps_ret (kJoin K (pe_join pe_str (pe_lc (own := [("_law_k", 3)]) rfl sc__law_word.nd (pi_range1 (by rfl) T.z_range (pa_cons (pe_call G__law_draw (hr.mono (by first | decide | omega)) rfl T.m__law_draw T.k__law_draw T.b__law_draw .nil pass0 (pa_cons (pv 0) (pa_cons (pe_op op_add (pv 2) pe_int) pa_nil))) pa_nil)) (blkOk_by (own := [("_law_k", 3)]) (N := N__law_word) (sc := defScope s__law_word) (by decide +kernel)) (fun _ _ _ _ _ => (pg_name (i := 3) sc__law_word.nd rfl (Or.inl rfl))) (fun _ _ _ _ _ => pts_nil) (fun _ _ _ _ _ => (pe_call G__law_one (hr.mono (by first | decide | omega)) rfl T.m__law_one T.k__law_one T.b__law_one .nil pass0 (pa_cons (pv 0) (pa_cons (pe_slice sl_str pe_str po_none (po_some (pv 1))) pa_nil))))))))), ?_⟩
  have tr : Trk [p, q] H := hD.trk
  refine ⟨⟨_, rfl⟩, _, rfl, _, rfl, _, _, rfl, rfl, p, q, n, (most : Int) + 1, rfl, hD, by omega, by omega, by omega, fun H1 r dk1 e1 r0 r1 => ⟨_, rfl, by omega, by omega, fun D hD' => ?_⟩⟩
  have tr1 : Trk [p, q] H1 := dk1.trk
  refine lcR2 (K := K) (M := [p, q]) (N := [p, q]) (n := r.toNat) (fun j H3 => ∃ m, Deck H3 p q m ∧ m ≤ n + 1 + j) (fun _ => true) (fun _ e => ∃ c, c < L ∧ e = .str ⟨#[97 + c]⟩) (by omega) (by intro b hb; exact hb) tr1 hD' ⟨n + 1, dk1, Nat.le_refl _⟩
    (fun j H3 o ⟨m, dm, hm⟩ => ⟨m, stay_ tr1 hD' dm, hm⟩) ?_ ?_
  · rintro j H3 hj e3 ⟨m, dm, hm⟩ _ Ky Kn _ ky
    refine ⟨rfl, yes_ ?_⟩
    refine ⟨_, rfl, _, rfl, _, rfl, _, rfl, (show 4 ≤ sizeLine by decide), ?_⟩
    rw [letters_cut l1 l4]
    refine ⟨p, q, m, dm, by omega, .inr ⟨_, rfl, ?_, ?_, fun H4 i c dm4 e4 hc => ?_⟩⟩
    · rw [txt_size, List.length_range]
      omega
    · rw [txt_size, List.length_range]
      omega
    · obtain ⟨d, dL, rfl⟩ := range_get hc
      exact ky rfl H4 _ _ e4 ⟨m + 1, dm4, by omega⟩ (.str _) ⟨d, dL, rfl⟩
  · rintro H3 zs es e3 ⟨m, dm, hm⟩ hz tz pr
    have lp := U.Paired.len pr
    rw [U.filter_all, List.length_map, List.length_range] at lp
    obtain ⟨ws, ez, hw, lw⟩ := signs_of tz (paired_all (G := fun e => ∃ c, c < L ∧ e = .str ⟨#[97 + c]⟩) (fun _ _ h => h) pr)
    subst ez
    refine ⟨_, D, _, rfl, rfl, .inl (SqL.of hz), ?_, ?_⟩
    · rw [sum_ones, List.length_map]
      have z : (Str.ofString "").length = 0 := rfl
      rw [z]
      omega
    · rw [join_txt]
      exact k _ m ws dm (by omega) (e1.trans e3) hw (by omega)
end

/-! ### a word walked along a kind -/
theorem KindAt.row {K : PySem.W.Frag} {M : List Addr} {H : Hp} {rs : List V} {L N : Nat} {rows : List (List (Option Nat))} {ends : List Bool} (tr : TA K M H rs (rows.map rowD)) (hk : KindOk L N rows ends) {t : Nat} (tN : t < N) :
    ∃ b its, rs[t]? = some (.ref b) ∧ H b = some (.tup its) ∧ b ∉ M ∧ its.length = L ∧ ∀ c, c < L → its[c]? = some (itemV (stepOf rows t c)) := by
  have tl : t < rows.length := by rw [hk.lr]; exact tN
  obtain ⟨b, its, hb, hits, nb, ti⟩ := rowAt tr tl
  have ei := TA.items ti
  obtain ⟨hlen, _⟩ := hk.row rows[t] (List.getElem_mem tl)
  refine ⟨b, its, hb, hits, nb, by rw [ei, List.length_map, hlen], fun c hc => ?_⟩
  have cl : c < rows[t].length := by omega
  have e1 : rows.getD t [] = rows[t] := by rw [List.getD_eq_getElem?_getD, List.getElem?_eq_getElem tl, Option.getD_some]
  have hst : stepOf rows t c = rows[t][c] := by
    unfold stepOf
    rw [e1, List.getD_eq_getElem?_getD, List.getElem?_eq_getElem cl, Option.getD_some]
  rw [ei, List.getElem?_map, List.getElem?_eq_getElem cl, hst]
  rfl
theorem KindAt.ext {M : List Addr} {H H' : Hp} (e : Ext M H H') {a r s : Addr} {L : Int} {rs : List V} {es : List V} (na : a ∉ M) (nr : r ∉ M) (ns : s ∉ M)
    (ha : H a = some (.tup [.int L, .ref r, .ref s])) (hr : H r = some (.tup rs)) (hs : H s = some (.tup es)) : H' a = some (.tup [.int L, .ref r, .ref s]) ∧ H' r = some (.tup rs) ∧ H' s = some (.tup es) :=
  ⟨e _ _ na ha, e _ _ nr hr, e _ _ ns hs⟩
theorem abcd_get {j : Nat} (h : j < 4) : atI (Str.ofString "abcd").cps.toList (j : Int) = some (97 + j) := by
  have h : j = 0 ∨ j = 1 ∨ j = 2 ∨ j = 3 := by omega
  rcases h with rfl | rfl | rfl | rfl <;> decide +kernel
def spWalked (K : PySem.W.Frag) : Sp := fun vs H Q _ => ∃ (p q : Addr) (v : V) (n L N most : Nat) (rows : List (List (Option Nat))) (ends : List Bool), vs = [.ref p, v, .int (most : Int)] ∧ Deck H p q n ∧ n + most + 10 ≤ 1000000000 ∧
  T K [p, q] H v (kindD L rows ends) ∧ KindOk L N rows ends ∧ most ≤ 400 ∧
  ∀ (H' : Hp) (n' : Nat) (ws : List Nat), Deck H' p q n' → n' ≤ n + most + 2 → Ext [p, q] H H' → (∀ c ∈ ws, c < L) → ws.length ≤ most → Q (.str (txt ws)) H'
section
variable {P : Program} {w : World} {K : PySem.W.Frag} {mg : Str → Option Value} {base : Heap} {A : Adrs}
theorem ok_lawWalked (T : Txt K mg A) : FnOk P w K mg base CX0 3 A.f__law_walked A.d__law_walked ["_law_deck_here", "_law_kind_here", "_law_most"] (spWalked K) := by
  have G__law_one : FnOk P w K mg base CX0 2 A.f__law_one A.d__law_one ["_law_deck_here", "_law_items"] (spOne K) := ok_one T
  have G__law_draw : FnOk P w K mg base CX0 1 A.f__law_draw A.d__law_draw ["_law_deck_here", "_law_many"] spDraw := ok_draw T
  refine T.F__law_walked.ok sc__law_walked (fun vs H Q E h => ?_) (fun cdv Ar outer s H vs Q E hr h => ?_)
  · obtain ⟨_, _, _, _, _, _, _, _, _, rfl, _⟩ := h
    rfl
  obtain ⟨p, q, v, n, L, N, most, rows, ends, rfl, hD, hn, ht, hk, hm, k⟩ := h
  obtain ⟨a, r, e, rs, rfl, ha, na, nr, ne, hr', tr, he⟩ := KindAt.parts ht
  refine ⟨_, (pss_cons (ps_asg (pe_tup (pa_cons pe_str (pa_cons pe_int pa_nil))) (kTgT K (n := 2) (by rfl) (pgs_cons (pg_name (i := 3) sc__law_walked.nd rfl (Or.inl rfl)) (pgs_cons (pg_name (i := 4) sc__law_walked.nd rfl (Or.inr rfl)) pgs_nil))))
    (pss_cons (ps_for PassesOwn.never rfl (pi_range1 (by rfl) T.z_range (pa_cons (pe_call G__law_draw (hr.mono (by first | decide | omega)) rfl T.m__law_draw T.k__law_draw T.b__law_draw .nil pass0 (pa_cons (pv 0) (pa_cons (pe_op op_add (pv 2) pe_int) pa_nil))) pa_nil)) (pg_name (i := 5) sc__law_walked.nd rfl (Or.inl rfl))
    (pss_cons (ps_setLc (i := 6) (own := [("_law_j", 7)]) (by rfl) sc__law_walked.nd rfl rfl (sw_true rfl rfl rfl (by decide +kernel)) (pi_range1 (by rfl) T.z_range (pa_cons (pe_ix (kIxT K) (pv 1) pe_int (fun _ _ => rfl)) pa_nil)) (blkOk_by (own := [("_law_j", 7)]) (N := N__law_walked) (sc := defScope s__law_walked) (by decide +kernel)) (fun _ _ _ _ _ => (pg_name (i := 7) sc__law_walked.nd rfl (Or.inl rfl))) (fun _ _ _ _ _ => (pts_one (pt_cmpR op_notN (pe_ix (kIxT K) (pe_ix (kIxT K) (pe_ix (kIxT K) (pv 1) pe_int (fun _ _ => rfl)) (pv 4) (fun _ _ => rfl)) (pv 7) (fun _ _ => rfl)) pe_non (nomark _)))) (fun _ _ _ _ _ => (pv 7)))
    (pss_one (ps_if (pt_cmpR (kNeNil K hr) (pv 6) (pe_lst pa_nil) (nomark _)) (pss_cons (ps_set (i := 7) sc__law_walked.nd rfl (Or.inl rfl) (pe_call G__law_one (hr.mono (by first | decide | omega)) rfl T.m__law_one T.k__law_one T.b__law_one .nil pass0 (pa_cons (pv 0) (pa_cons (pv 6) pa_nil))))
    (pss_one (ps_asg (pe_tup (pa_cons (pe_op op_add_str (pv 3) (pe_ix ix_str pe_str (pv 7) (fun _ _ => rfl))) (pa_cons (pe_ix (kIxT K) (pe_ix (kIxT K) (pe_ix (kIxT K) (pv 1) pe_int (fun _ _ => rfl)) (pv 4) (fun _ _ => rfl)) (pv 7) (fun _ _ => rfl)) pa_nil))) (kTgT K (n := 2) (by rfl) (pgs_cons (pg_name (i := 3) sc__law_walked.nd rfl (Or.inl rfl)) (pgs_cons (pg_name (i := 4) sc__law_walked.nd rfl (Or.inr rfl)) pgs_nil))))))
    pss_nil))))
    (pss_one (ps_ret (pv 3))))), ?_⟩
  have hN4 := hk.l4
  have hn1 := hk.n1
  have tr0 : Trk [p, q] H := hD.trk
  refine sq (fun σ' H' => σ' = [some (.ref p), some (.ref a), some (.int (most : Int)), some (.str (txt [])), some (.int ((0 : Nat) : Int)), none, none, none] ∧ Same H H') (fun W hW => ?_) ?_
  · refine ⟨(show 2 ≤ sizeLine by decide), fun t ht0 => ⟨t, _, rfl, SqT.of upd_same, rfl, _, _, rfl, _, _, rfl, rfl, hW _ _ ⟨rfl, Same.new ht0⟩⟩⟩
  rintro σ' H0 ⟨rfl, s0⟩
  refine sq (fun σ' H' => ∃ (n' : Nat) (ws : List Nat) (t : Nat) (o5 o6 o7 : Option V), σ' = [some (.ref p), some (.ref a), some (.int (most : Int)), some (.str (txt ws)), some (.int (t : Int)), o5, o6, o7] ∧ Deck H' p q n' ∧ n' ≤ n + 1 + most ∧ Ext [p, q] H H' ∧
      (∀ c ∈ ws, c < L) ∧ ws.length ≤ most) (fun W hW => ?_) ?_
  · refine ⟨_, rfl, _, rfl, _, _, rfl, rfl, p, q, n, (most : Int) + 1, rfl, hD.same s0, by omega, by omega, by omega, fun H1 rr dk1 e1 r0 r1 => ⟨_, rfl, by omega, by omega, ?_⟩⟩
    have e01 : Ext [p, q] H H1 := (Ext.same s0).trans e1
    refine for_range (lo := 0) (n := rr.toNat) (fun i σ' H' => ∃ (n' : Nat) (ws : List Nat) (t : Nat) (o5 o6 o7 : Option V), σ' = [some (.ref p), some (.ref a), some (.int (most : Int)), some (.str (txt ws)), some (.int (t : Int)), o5, o6, o7] ∧ Deck H' p q n' ∧ n' ≤ n + 1 + i ∧ Ext [p, q] H H' ∧
      (∀ c ∈ ws, c < L) ∧ ws.length ≤ i ∧ t < N) ⟨n + 1, [], 0, none, none, none, rfl, dk1, by omega, e01, (fun c hc => nomatch hc), Nat.le_refl _, by omega⟩ ?_ ?_
    · rintro i σ' H' hi ⟨n', ws, t, o5, o6, o7, rfl, dk, dn, eH, hw, lw, tN⟩
      obtain ⟨ha', hr2, he'⟩ := KindAt.ext eH na nr ne ha hr' he
      have tr' := tr.ext eH
      obtain ⟨b, its, hb, hits, nb, lits, hst⟩ := KindAt.row tr' hk tN
      have trk' : Trk [p, q] H' := dk.trk
      dsimp only [gName]
      refine ⟨_, rfl, a, _, 0, .int (L : Int), rfl, rfl, SqT.of ha', rfl, (L : Int), rfl, by omega, by omega, fun D hD' => ?_⟩
      rw [show ((L : Nat) : Int).toNat = L from Int.toNat_natCast L]
      refine lcR2 (K := K) (M := [p, q]) (N := []) (n := L) (fun _ _ => True) (fun d => match d with | .int i => (stepOf rows t i.toNat).isSome | _ => false) (fun d e => e = d) (by omega) (by simp) trk' hD' trivial (fun _ _ _ _ => trivial) ?_ ?_
      · intro j F hj e2 _ _ Ky Kn kn ky
        have s2 := same_ext e2
        have ej : stepOf rows t ((j : Int)).toNat = stepOf rows t j := by rw [Int.toNat_natCast]
        have cond : (match PyData.int (j : Int) with | .int i => (stepOf rows t i.toNat).isSome | _ => false) = (stepOf rows t j).isSome := by
          show (stepOf rows t ((j : Int)).toNat).isSome = _
          rw [ej]
        refine ⟨rfl, _, rfl, a, _, 1, .ref r, rfl, rfl, SqT.of (s2 _ _ ha'), rfl, _, rfl, r, rs, (t : Int), .ref b, rfl, rfl, SqT.of (s2 _ _ hr2), atI_nat hb, _, rfl, b, its, (j : Int), _, rfl, rfl, SqT.of (s2 _ _ hits), atI_nat (hst j hj), rfl, _, rfl, ?_⟩
        cases hq : stepOf rows t j with
        | none =>
          rw [hq] at cond
          exact if_f rfl (kn cond F (Ext.refl _ _) trivial)
        | some y =>
          rw [hq] at cond
          exact if_t rfl ⟨_, rfl, ky cond F _ _ (Ext.refl _ _) trivial (.int _) rfl⟩
      · intro H3 zs es e2 _ hz tz pr
        have s2 := same_ext e2
        have ee := paired_id pr
        rw [filter_nats (p := fun j => (stepOf rows t j).isSome) (fun j => by show (stepOf rows t ((j : Int)).toNat).isSome = _; rw [Int.toNat_natCast])] at ee
        subst ee
        clear pr
        have dk3 := dk.same s2
        have nD := dk.trk.new hD'
        have tl : U.T K [p, q] H3 (.ref D) (.list (((List.range L).filter fun j => (stepOf rows t j).isSome).map Law.nD)) := .lst nD hz tz
        dsimp only [gName]
        refine ⟨_, rfl, Nat.zero_le _, fun u hu => ?_⟩
        have su : Same H3 (upd H3 u (.lst [])) := Same.new hu
        have hue : (upd H3 u (.lst [])) u = some (.lst []) := upd_same
        generalize upd H3 u (HO.lst []) = H4 at su hue ⊢
        have lz := tz.len
        rw [List.length_map] at lz
        have s24 := s2.trans su
        refine ⟨D, u, zs, rfl, rfl, .inl ⟨SqL.of (su _ _ hz), SqL.of hue⟩, _, rfl, if_ (fun hne => ?_) (fun _ => ?_)⟩
        · have nz : zs ≠ [] := by
            intro z
            rw [z] at hne
            cases hne
          have njs : ((List.range L).filter fun j => (stepOf rows t j).isSome).map Law.nD ≠ [] := by
            intro z
            have z2 : (((List.range L).filter fun j => (stepOf rows t j).isSome).map Law.nD).length = 0 := by rw [z]; rfl
            rw [List.length_map] at z2
            exact nz (List.eq_nil_of_length_eq_zero (by omega))
          have ljs : (((List.range L).filter fun j => (stepOf rows t j).isSome).map Law.nD).length ≤ 1000 := by
            rw [List.length_map]
            have := List.length_filter_le (fun j => (stepOf rows t j).isSome) (List.range L)
            rw [List.length_range] at this
            omega
          refine ⟨_, rfl, _, rfl, p, q, n', dk3.same su, by omega, .inl ⟨_, [p, q], _, rfl, .inl (tl.same su), by simp, by simp, njs, ljs, fun H5 rj d dk5 e5 td hd => ?_⟩⟩
          obtain ⟨j, hj, rfl⟩ := List.mem_map.mp hd
          obtain ⟨hj1, hj2⟩ := List.mem_filter.mp hj
          have jL : j < L := List.mem_range.mp hj1
          cases td
          have e25 : Ext [p, q] H' H5 := (Ext.same s24).trans e5
          have eH5 := eH.trans e25
          obtain ⟨ha5, hr5, he5⟩ := KindAt.ext eH5 na nr ne ha hr' he
          obtain ⟨b5, its5, hb5, hits5, nb5, lits5, hst5⟩ := KindAt.row (tr.ext eH5) hk tN
          obtain ⟨t2, ht2⟩ : ∃ t2, stepOf rows t j = some t2 := Option.isSome_iff_exists.mp hj2
          have st5 := hst5 j jL
          rw [ht2] at st5
          dsimp only [gName]
          refine ⟨_, rfl, _, rfl, _, (j : Int), 97 + j, rfl, rfl, (show 4 ≤ sizeLine by decide), abcd_get (by omega), txt ws, _, rfl, rfl, ?_, ?_⟩
          · rw [txt_len]
            exact line_400 (show ws.length + 1 ≤ 100000 by omega)
          · rw [txt_one, txt_app]
            refine ⟨_, rfl, a, _, 1, .ref r, rfl, rfl, SqT.of ha5, rfl, _, rfl, r, rs, (t : Int), .ref b5, rfl, rfl, SqT.of hr5, atI_nat hb5, _, rfl, b5, its5, (j : Int), _, rfl, rfl, SqT.of hits5, atI_nat st5, (show 2 ≤ sizeLine by decide), fun u2 hu2 => ?_⟩
            have s6 : Same H5 (upd H5 u2 (.tup [.str (txt (ws ++ [j])), itemV (some t2)])) := Same.new hu2
            refine ⟨u2, _, rfl, SqT.of upd_same, rfl, _, _, rfl, _, _, rfl, rfl, ?_⟩
            refine ⟨n' + 1, ws ++ [j], t2, _, _, _, rfl, dk5.same s6, by omega, eH5.trans (Ext.same s6), ?_, ?_, hk.step ht2⟩
            · intro c hc
              rcases List.mem_append.mp hc with hc | hc
              · exact hw c hc
              · have : c = j := by simpa using hc
                omega
            · rw [List.length_append]
              show ws.length + 1 ≤ _
              omega
        · exact ⟨n', ws, t, _, _, _, rfl, dk3.same su, by omega, eH.trans (Ext.same s24), hw, by omega, tN⟩
    · rintro σ' H' ⟨n', ws, t, o5, o6, o7, rfl, dk, dn, eH, hw, lw, tN⟩
      exact hW _ _ ⟨n', ws, t, o5, o6, o7, rfl, dk, by omega, eH, hw, by omega⟩
  rintro σ' H' ⟨n', ws, t, o5, o6, o7, rfl, dk, dn, eH, hw, lw⟩
  exact ⟨_, rfl, k H' n' ws dk (by omega) eH hw lw⟩
end

/-! ### another letter -/
theorem txt_fits {ws : List Nat} (h : ws.length ≤ 100000) : (txt ws).length ≤ sizeLine := by
  rw [txt_len]
  exact line_400 h
def spOther (K : PySem.W.Frag) : Sp := fun vs H Q _ => ∃ (p q : Addr) (n L : Nat) (ws : List Nat), vs = [.ref p, .int (L : Int), .str (txt ws)] ∧ Deck H p q n ∧ n + 10 ≤ 1000000000 ∧ 1 ≤ L ∧ L ≤ 4 ∧ (∀ c ∈ ws, c < L) ∧ ws.length ≤ 400 ∧
  ∀ (H' : Hp) (vs : List Nat), Deck H' p q (n + 3) → Ext [p, q] H H' → (∀ c ∈ vs, c < L) → vs.length ≤ 400 → Q (.str (txt vs)) H'
section
variable {P : Program} {w : World} {K : PySem.W.Frag} {mg : Str → Option Value} {base : Heap} {A : Adrs}
theorem ok_lawOther (T : Txt K mg A) : FnOk P w K mg base CX0 3 A.f__law_otherwise A.d__law_otherwise ["_law_deck_here", "_law_letters", "_law_word_here"] (spOther K) := by
  have G__law_one : FnOk P w K mg base CX0 2 A.f__law_one A.d__law_one ["_law_deck_here", "_law_items"] (spOne K) := ok_one T
  have G__law_draw : FnOk P w K mg base CX0 1 A.f__law_draw A.d__law_draw ["_law_deck_here", "_law_many"] spDraw := ok_draw T
  refine T.F__law_otherwise.ok sc__law_otherwise (fun vs H Q E h => ?_) (fun cdv Ar outer s H vs Q E hr h => ?_)
  · obtain ⟨_, _, _, _, _, rfl, _⟩ := h
    rfl
  obtain ⟨p, q, n, L, ws, rfl, hD, hn, l1, l4, hw, lw, k⟩ := h
  refine ⟨_, (pss_cons (ps_set (i := 3) sc__law_otherwise.nd rfl (Or.inl rfl) (pe_call G__law_draw (hr.mono (by first | decide | omega)) rfl T.m__law_draw T.k__law_draw T.b__law_draw .nil pass0 (pa_cons (pv 0) (pa_cons (pe_op op_add (pe_callB (id := "len") call_len_str (by rfl) T.z_len (by decide +kernel) (pa_cons (pv 2) pa_nil)) pe_int) pa_nil))))
    (pss_one (ps_ret (pe_slice sl_str (pe_op op_add_str (pe_op op_add_str (pe_slice sl_str (pv 2) po_none (po_some (pv 3))) (pe_call G__law_one (hr.mono (by first | decide | omega)) rfl T.m__law_one T.k__law_one T.b__law_one .nil pass0 (pa_cons (pv 0) (pa_cons (pe_slice sl_str pe_str po_none (po_some (pv 1))) pa_nil)))) (pe_slice sl_str (pv 2) (po_some (pe_op op_add (pv 3) (pe_call G__law_draw (hr.mono (by first | decide | omega)) rfl T.m__law_draw T.k__law_draw T.b__law_draw .nil pass0 (pa_cons (pv 0) (pa_cons pe_int pa_nil))))) po_none)) po_none (po_some pe_int))))), ?_⟩
  have lt : (txt ws).length = ws.length := txt_len ws
  have fw : (txt ws).length ≤ sizeLine := txt_fits (by omega)
  refine ⟨_, rfl, _, rfl, _, rfl, fw, _, _, rfl, rfl, p, q, n, _, rfl, hD, by omega, by omega, by omega, fun H1 r1 dk1 e1 r10 r11 => ?_⟩
  dsimp only [gName]
  obtain ⟨v1, c1, n1, m1⟩ := cut_txt ws none (some r1)
  refine ⟨_, rfl, _, rfl, _, rfl, _, rfl, fw, ?_⟩
  rw [c1]
  refine ⟨_, rfl, _, rfl, _, rfl, _, rfl, (show 4 ≤ sizeLine by decide), ?_⟩
  rw [letters_cut l1 l4]
  refine ⟨p, q, n + 1, dk1, by omega, .inr ⟨_, rfl, ?_, ?_, fun H2 i c dk2 e2 hc => ?_⟩⟩
  · rw [txt_size, List.length_range]
    omega
  · rw [txt_size, List.length_range]
    omega
  obtain ⟨d, dL, rfl⟩ := range_get hc
  refine ⟨_, _, rfl, rfl, ?_, ?_⟩
  · rw [txt_len]
    exact line_400 (show v1.length + 1 ≤ 100000 by omega)
  rw [txt_one, txt_app]
  refine ⟨_, rfl, _, rfl, _, rfl, p, q, n + 2, 2, rfl, dk2, by omega, by decide, by decide, fun H3 r3 dk3 e3 r30 r31 => ?_⟩
  obtain ⟨v2, c2, n2, m2⟩ := cut_txt ws (some (r1 + r3)) none
  refine ⟨_, _, rfl, rfl, _, rfl, _, rfl, fw, ?_⟩
  rw [c2]
  refine ⟨_, _, rfl, rfl, ?_, ?_⟩
  · rw [txt_len, txt_len, List.length_append]
    exact line_400 (show v1.length + 1 + v2.length ≤ 100000 by omega)
  rw [txt_app]
  have l3 : (v1 ++ [d] ++ v2).length ≤ 100000 := by
    rw [List.length_append, List.length_append]
    show v1.length + 1 + v2.length ≤ 100000
    omega
  refine ⟨_, rfl, _, rfl, txt_fits l3, ?_⟩
  have c4 : cutS (txt (v1 ++ [d] ++ v2)) none (some ((400 : Nat) : Int)) = txt ((v1 ++ [d] ++ v2).take 400) := by
    show Str.mk _ = Str.mk _
    rw [HT.sIx_nat, HT.sIx_none, List.drop_zero, Nat.sub_zero, txt_len]
    congr 1
    simp only [txt, List.map_take]
    congr 1
    by_cases h : 400 ≤ (v1 ++ [d] ++ v2).length
    · rw [Nat.min_eq_left h]
    · rw [Nat.min_eq_right (by omega), List.take_of_length_le (by simp), List.take_of_length_le (by simp at h ⊢; omega)]
  have c4' : cutS (txt (v1 ++ [d] ++ v2)) none (some (400 : Int)) = txt ((v1 ++ [d] ++ v2).take 400) := c4
  show Q (.str (cutS (txt (v1 ++ [d] ++ v2)) none (some (400 : Int)))) H3
  rw [c4']
  refine k H3 _ dk3 ((e1.trans e2).trans e3) (fun c hc => ?_) (by rw [List.length_take]; omega)
  have hc := List.mem_of_mem_take hc
  rcases List.mem_append.mp hc with hc | hc
  · rcases List.mem_append.mp hc with hc | hc
    · exact hw c (m1 c hc)
    · have : c = d := by simpa using hc
      omega
  · exact hw c (m2 c hc)
end

/-! ### a word read by the law -/
theorem run_lt {L N : Nat} {rows : List (List (Option Nat))} {ends : List Bool} (k : KindOk L N rows ends) : ∀ (ws : List Nat) (s t : Nat), s < N → runOf rows s ws = some t → t < N
  | [], s, t, h, e => by
    cases e
    exact h
  | c :: cs, s, t, h, e => by
    have e : (match stepOf rows s c with | none => none | some u => runOf rows u cs) = some t := e
    cases hq : stepOf rows s c with
    | none => rw [hq] at e; cases e
    | some u =>
      rw [hq] at e
      exact run_lt k cs u t (k.step hq) e
def stsOf (rows : List (List (Option Nat))) (ws : List Nat) : List Nat := (runOf rows 0 ws).toList
theorem stsOf_snoc (rows : List (List (Option Nat))) (ws : List Nat) (c : Nat) : stsOf rows (ws ++ [c]) = (stsOf rows ws).filterMap fun t => stepOf rows t c := by
  unfold stsOf
  rw [runOf_snoc]
  cases runOf rows 0 ws with
  | none => rfl
  | some t =>
    show (stepOf rows t c).toList = _
    cases h : stepOf rows t c with
    | none => simp [h]
    | some u => simp [h]
theorem occ_abcd {c : Nat} (h : c < 4) : ∃ rest, Builtin.Str.occurrences (Str.ofString "abcd") ⟨#[97 + c]⟩ 0 (Str.ofString "abcd").length 1 = c :: rest := by
  have h : c = 0 ∨ c = 1 ∨ c = 2 ∨ c = 3 := by omega
  rcases h with rfl | rfl | rfl | rfl <;> exact ⟨[], by decide +kernel⟩
theorem items_kept {f : Nat → Option Nat} : ∀ l : List Nat, ((l.map fun s => itemD (f s)).filter fun d => !isNo d) = (l.filterMap f).map nD
  | [] => rfl
  | x :: xs => by
    have ih := items_kept (f := f) xs
    rw [List.map_cons]
    cases e : f x with
    | none =>
      rw [List.filter_cons_of_neg (by decide), ih, List.filterMap_cons_none e]
    | some n =>
      rw [List.filter_cons_of_pos (by rfl), ih, List.filterMap_cons_some e]
      rfl
def spRead (K : PySem.W.Frag) : Sp := fun vs H Q _ => ∃ (v : V) (M : List Addr) (L N : Nat) (rows : List (List (Option Nat))) (ends : List Bool) (ws : List Nat), vs = [v, .str (txt ws)] ∧ T K M H v (kindD L rows ends) ∧ KindOk L N rows ends ∧ (∀ c ∈ ws, c < L) ∧
  ∀ H', Same H H' → Q (.bl (isOf rows ends ws)) H'
section
variable {P : Program} {w : World} {K : PySem.W.Frag} {mg : Str → Option Value} {base : Heap} {A : Adrs}
theorem ok_lawRead (T : Txt K mg A) : FnOk P w K mg base CX0 2 A.f__law_read A.d__law_read ["_law_kind_here", "_law_word_here"] (spRead K) := by
  refine T.F__law_read.ok sc__law_read (fun vs H Q E h => ?_) (fun cdv Ar outer s H vs Q E hr h => ?_)
  · obtain ⟨_, _, _, _, _, _, _, rfl, _⟩ := h
    rfl
  obtain ⟨v, M, L, N, rows, ends, ws, rfl, ht, hk, hw, k⟩ := h
  obtain ⟨a, r, e, rs, rfl, ha, na, nr, ne, hr', tr, he⟩ := KindAt.parts (ht.off (N := []) (fun b hb => nomatch hb))
  have l4 := hk.l4
  refine ⟨_, (pss_cons (ps_set (i := 2) sc__law_read.nd rfl (Or.inl rfl) (pe_lst (pa_cons pe_int pa_nil)))
    (pss_cons (ps_for PassesOwn.never rfl (pi_str (pv 1)) (pg_name (i := 3) sc__law_read.nd rfl (Or.inr rfl))
    (pss_cons (ps_setLc (i := 2) (own := [("_law_state", 4)]) (by rfl) sc__law_read.nd rfl rfl (sw_true rfl rfl rfl (by decide +kernel)) (kPiL K (pv 2)) (blkOk_by (own := [("_law_state", 4)]) (N := N__law_read) (sc := defScope s__law_read) (by decide +kernel)) (fun _ _ _ _ _ => (pg_name (i := 4) sc__law_read.nd rfl (Or.inl rfl))) (fun _ _ _ _ _ => pts_nil) (fun _ _ _ _ _ => (pe_ix (kIxT K) (pe_ix (kIxT K) (pe_ix (kIxT K) (pv 0) pe_int (fun _ _ => rfl)) (pv 4) (fun _ _ => rfl)) (kBm K (pe_bm PySem.F.plainAttrs_str PySem.F.slot_str_index PySem.F.type_str_index mt_sindex pe_str (pa_cons (pv 3) pa_nil))) (fun _ _ => rfl))))
    (pss_one (ps_setLc (i := 2) (own := [("_law_state", 4)]) (by rfl) sc__law_read.nd rfl rfl (sw_true rfl rfl rfl (by decide +kernel)) (kPiL K (pv 2)) (blkOk_by (own := [("_law_state", 4)]) (N := N__law_read) (sc := defScope s__law_read) (by decide +kernel)) (fun _ _ _ _ _ => (pg_name (i := 4) sc__law_read.nd rfl (Or.inl rfl))) (fun _ _ _ _ _ => (pts_one (pt_cmpR op_notN (pv 4) pe_non (nomark _)))) (fun _ _ _ _ _ => (pv 4))))))
    (pss_one (ps_ret (pe_cmpR (kNeNil K hr) (pe_lc (own := [("_law_state", 4)]) rfl sc__law_read.nd (kPiL K (pv 2)) (blkOk_by (own := [("_law_state", 4)]) (N := N__law_read) (sc := defScope s__law_read) (by decide +kernel)) (fun _ _ _ _ _ => (pg_name (i := 4) sc__law_read.nd rfl (Or.inl rfl))) (fun _ _ _ _ _ => (pts_one (pt_val (pe_ix (kIxT K) (pe_ix (kIxT K) (pv 0) pe_int (fun _ _ => rfl)) (pv 4) (fun _ _ => rfl))))) (fun _ _ _ _ _ => (pv 4))) (pe_lst pa_nil) (nomark _)))))), ?_⟩
  refine sq (fun σ' H' => ∃ (l : Addr) (ns : List Nat), σ' = [some (.ref a), some (.str (txt ws)), some (.ref l), none, none] ∧ Same H H' ∧ H' l = some (.lst (ns.map nV)) ∧ ns = stsOf rows []) (fun W hW => ?_) ?_
  · exact ⟨(show 1 ≤ sizeLine by decide), fun l hl => hW _ _ ⟨l, [0], rfl, Same.new hl, upd_same, rfl⟩⟩
  rintro σ' H0 ⟨l0, ns0, rfl, s0, hl0, hns0⟩
  have few : ∀ ws : List Nat, (stsOf rows ws).length ≤ 1 := fun ws => by
    unfold stsOf
    cases runOf rows 0 ws <;> simp
  refine sq (fun σ' H' => ∃ (l : Addr) (o3 : Option V), σ' = [some (.ref a), some (.str (txt ws)), some (.ref l), o3, none] ∧ Same H H' ∧ H' l = some (.lst ((stsOf rows ws).map nV))) (fun W hW => ?_) ?_
  · refine ⟨_, rfl, _, rfl, ?_⟩
    refine for_txt (fun i σ' H' => ∃ (l : Addr) (o3 : Option V), σ' = [some (.ref a), some (.str (txt ws)), some (.ref l), o3, none] ∧ Same H H' ∧ H' l = some (.lst ((stsOf rows (ws.take i)).map nV))) ⟨l0, none, rfl, s0, by rw [hl0, hns0]; rfl⟩ ?_ ?_
    · rintro i x σ' H' hx ⟨l, o3, rfl, s1, hl⟩
      rw [txt_get] at hx
      obtain ⟨c, hc, rfl⟩ := Option.map_eq_some_iff.mp hx
      have cL := hw c (List.mem_of_getElem? hc)
      obtain ⟨occ, hocc⟩ := occ_abcd (show c < 4 by omega)
      have fw := few (ws.take i)
      dsimp only [gName]
      refine ⟨_, rfl, l, rfl, ⟨_, SqL.of hl⟩, fun D hD => ?_⟩
      refine lcL2 (K := K) (M := []) (N := []) (fun _ _ => True) (fun _ => true) (fun d e => ∃ s : Nat, d = .int (s : Int) ∧ e = itemD (stepOf rows s c)) hl (by simp) (ta_nats _) (by rw [List.length_map]; omega) (by simp) (by simp) hD trivial (fun _ _ _ _ => trivial) ?_ ?_
      · intro j x d F hd td e2 _ _ Ky Kn _ ky
        have s2 := s1.trans (same_ext e2)
        rw [List.getElem?_map] at hd
        obtain ⟨t, htj, rfl⟩ := Option.map_eq_some_iff.mp hd
        cases td
        have tN : t < N := by
          have hm := List.mem_of_getElem? htj
          unfold stsOf at hm
          rw [Option.mem_toList] at hm
          exact run_lt hk _ 0 t hk.n1 hm
        obtain ⟨b, its, hb, hits, nb, lits, hst⟩ := KindAt.row tr hk tN
        refine ⟨rfl, yes_ ?_⟩
        refine ⟨_, rfl, a, _, 1, .ref r, rfl, rfl, SqT.of (s2 _ _ ha), rfl, _, rfl, r, rs, (t : Int), .ref b, rfl, rfl, SqT.of (s2 _ _ hr'), atI_nat hb, rfl, _, rfl, _, _, c, occ, rfl, rfl, hocc, b, its, (c : Int), _, rfl, rfl, SqT.of (s2 _ _ hits), atI_nat (hst c cL), ?_⟩
        refine ky rfl F _ (itemD (stepOf rows t c)) (Ext.refl _ _) trivial ?_ ⟨t, rfl, rfl⟩
        cases stepOf rows t c with
        | none => exact .non
        | some y => exact .int _
      · intro F ys es e2 _ hy ty pr
        rw [U.filter_all] at pr
        have s2 := same_ext e2
        have ee : es = (stsOf rows (ws.take i)).map fun s => itemD (stepOf rows s c) := paired_fn (g := nD) (fun a e ⟨s, h1, h2⟩ => by
          have : a = s := by
            have h3 : PyData.int (a : Int) = PyData.int (s : Int) := h1
            injection h3 with h3
            omega
          rw [h2, this]) pr
        subst ee
        clear pr
        dsimp only [gName]
        refine ⟨_, rfl, D, rfl, ⟨_, SqL.of hy⟩, fun D2 hD2 => ?_⟩
        refine lcL2 (K := K) (M := []) (N := []) (fun _ _ => True) (fun d => !isNo d) (fun d e => e = d) hy (by simp) ty (by rw [List.length_map]; omega) (by simp) (by simp) hD2 trivial (fun _ _ _ _ => trivial) ?_ ?_
        · intro j x d F3 hd td e3 _ _ Ky Kn kn ky
          rw [List.getElem?_map] at hd
          obtain ⟨t, htj, rfl⟩ := Option.map_eq_some_iff.mp hd
          cases hq : stepOf rows t c with
          | none =>
            rw [hq] at td kn ky
            cases td
            exact ⟨rfl, _, rfl, rfl, _, rfl, if_f rfl (kn rfl F3 (Ext.refl _ _) trivial)⟩
          | some y =>
            rw [hq] at td kn ky
            cases td
            exact ⟨rfl, _, rfl, rfl, _, rfl, if_t rfl ⟨_, rfl, ky rfl F3 _ _ (Ext.refl _ _) trivial (.int _) rfl⟩⟩
        · intro F3 zs es3 e3 _ hz tz pr3
          have e4 := paired_id pr3
          rw [items_kept, ← stsOf_snoc] at e4
          have tk : ws.take (i + 1) = ws.take i ++ [c] := by rw [List.take_add_one, hc]; rfl
          rw [← tk] at e4
          subst e4
          have ez := TA.nats tz
          subst ez
          exact ⟨D2, _, rfl, (s1.trans s2).trans (same_ext e3), hz⟩
    · rintro σ' H' ⟨l, o3, rfl, s1, hl⟩
      rw [txt_size, List.take_length] at hl
      exact hW _ _ ⟨l, o3, rfl, s1, hl⟩
  rintro σ' H' ⟨l, o3, rfl, s1, hl⟩
  refine ⟨_, rfl, l, rfl, ⟨_, SqL.of hl⟩, fun D hD => ?_⟩
  have fw := few ws
  refine lcL2 (K := K) (M := []) (N := []) (fun _ _ => True) (fun d => match d with | .int i => ends.getD i.toNat false | _ => false) (fun d e => e = d) hl (by simp) (ta_nats _) (by rw [List.length_map]; omega) (by simp) (by simp) hD trivial (fun _ _ _ _ => trivial) ?_ ?_
  · intro j x d F hd td e2 _ _ Ky Kn kn ky
    have s2 := s1.trans (same_ext e2)
    rw [List.getElem?_map] at hd
    obtain ⟨t, htj, rfl⟩ := Option.map_eq_some_iff.mp hd
    cases td
    have tN : t < N := by
      have hm := List.mem_of_getElem? htj
      unfold stsOf at hm
      rw [Option.mem_toList] at hm
      exact run_lt hk _ 0 t hk.n1 hm
    have hte : t < ends.length := by rw [hk.le]; exact tN
    have eg : ends.getD t false = ends[t] := by rw [List.getD_eq_getElem?_getD, List.getElem?_eq_getElem hte, Option.getD_some]
    have cond : (match nD t with | .int i => ends.getD i.toNat false | _ => false) = ends[t] := by
      show ends.getD ((t : Int)).toNat false = _
      rw [Int.toNat_natCast, eg]
    refine ⟨rfl, _, rfl, a, _, 2, .ref e, rfl, rfl, SqT.of (s2 _ _ ha), rfl, _, rfl, e, _, (t : Int), .bl ends[t], rfl, rfl, SqT.of (s2 _ _ he), atI_nat (by rw [List.getElem?_map, List.getElem?_eq_getElem hte]; rfl), _, rfl, if_ (fun h => ?_) (fun h => ?_)⟩
    · exact ⟨_, rfl, ky (cond.trans h) F _ _ (Ext.refl _ _) trivial (.int _) rfl⟩
    · exact kn (cond.trans h) F (Ext.refl _ _) trivial
  · intro F zs es e2 _ hz tz pr
    have s2 := same_ext e2
    have ee := paired_id pr
    have lz := tz.len
    refine ⟨Nat.zero_le _, fun u hu => ?_⟩
    have su : Same F (upd F u (.lst [])) := Same.new hu
    refine ⟨D, u, zs, rfl, rfl, .inl ⟨SqL.of (su _ _ hz), SqL.of upd_same⟩, ?_⟩
    have ev : (!zs.isEmpty) = isOf rows ends ws := by
      have e3 : zs.isEmpty = es.isEmpty := by
        cases zs <;> cases es <;> first | rfl | simp at lz
      have fe := filter_nats (p := fun s => ends.getD s false) (q := fun d => match d with | .int i => ends.getD i.toNat false | _ => false) (fun s => by show ends.getD ((s : Int)).toNat false = _; rw [Int.toNat_natCast]) (stsOf rows ws)
      rw [e3, ee.trans fe]
      unfold stsOf isOf
      cases hq : runOf rows 0 ws with
      | none => rfl
      | some t =>
        show (!((List.filter (fun s => ends.getD s false) [t]).map nD).isEmpty) = ends.getD t false
        cases hb : ends.getD t false with
        | true => rw [List.filter_cons_of_pos (by exact hb)]; rfl
        | false => rw [List.filter_cons_of_neg (by rw [hb]; decide)]; rfl
    show Q (.bl (!zs.isEmpty)) _
    rw [ev]
    exact k _ ((s1.trans s2).trans su)
end

/-! ### the law's own rounds -/
theorem countP_lt {p q : Nat → Bool} : ∀ {R : List Nat} {x : Nat}, (∀ y ∈ R, p y = true → q y = true) → x ∈ R → p x = false → q x = true → R.countP p < R.countP q
  | r :: R, x, h, hx, px, qx => by
    have h' : ∀ y ∈ R, p y = true → q y = true := fun y hy => h y (List.mem_cons_of_mem _ hy)
    have le := List.countP_mono_left h'
    rw [List.countP_cons, List.countP_cons]
    rcases List.mem_cons.mp hx with rfl | hx
    · rw [px, qx]
      simp
      omega
    · have lt := countP_lt h' hx px qx
      have := h r List.mem_cons_self
      cases hp : p r with
      | false =>
        cases hq : q r <;> simp <;> omega
      | true =>
        rw [this hp]
        simp
        omega
def cnt (N : Nat) (l : List Nat) : Nat := (List.range N).countP fun x => decide (x ∈ l)
theorem cnt_le (N : Nat) (l : List Nat) : cnt N l ≤ N := by
  have := List.countP_le_length (p := fun x => decide (x ∈ l)) (l := List.range N)
  rw [List.length_range] at this
  exact this
theorem cnt_lt {N x : Nat} {l m : List Nat} (h : ∀ y ∈ l, y ∈ m) (hx : x < N) (h1 : x ∉ l) (h2 : x ∈ m) : cnt N l < cnt N m :=
  countP_lt (fun y _ hy => by
    have := h y (of_decide_eq_true hy)
    exact decide_eq_true this) (List.mem_range.mpr hx) (decide_eq_false h1) (decide_eq_true h2)
theorem cnt_full {N : Nat} {l : List Nat} (h : N ≤ cnt N l) : ∀ x, x < N → x ∈ l := fun x hx => by
  have e : cnt N l = (List.range N).length := by
    have := cnt_le N l
    rw [List.length_range]
    omega
  exact of_decide_eq_true (List.countP_eq_length.mp e x (List.mem_range.mpr hx))
/-- a round that may add: closed ahead of it, or one more -/
theorem grown {N r : Nat} {l m : List Nat} {cl : List Nat → Prop} (sub : ∀ y ∈ l, y ∈ m) (lt : ∀ y ∈ m, y < N) (keep : cl l → ∀ y ∈ m, y ∈ l) (same : (∀ y ∈ m, y ∈ l) → cl m) (h : cl l ∨ r ≤ cnt N l) : cl m ∨ r + 1 ≤ cnt N m := by
  rcases h with h | h
  · exact .inl (same (keep h))
  · by_cases e : ∀ y ∈ m, y ∈ l
    · exact .inl (same e)
    · right
      have ⟨y, hy⟩ : ∃ y, ¬ (y ∈ m → y ∈ l) := Classical.not_forall.mp e
      have hm : y ∈ m := Classical.byContradiction fun z => hy fun w => absurd w z
      have hl : y ∉ l := fun z => hy fun _ => z
      have := cnt_lt (N := N) sub (lt y hm) hl hm
      omega
theorem inV_none : ∀ r : List Nat, inV V.non (r.map nV) = false
  | [] => rfl
  | x :: xs => by
    have ih := inV_none xs
    unfold inV at ih ⊢
    rw [List.map_cons, List.any_cons, ih]
    rfl
def ClM (steps : List (List Nat)) (l : List Nat) : Prop := ∀ s ∈ l, ∀ t ∈ steps.getD s [], t ∈ l
def ClA (steps : List (List Nat)) (N : Nat) (l : List Nat) : Prop := ∀ s, s < N → ∀ t ∈ steps.getD s [], t ∈ l → s ∈ l
def MOk (steps : List (List Nat)) (N : Nat) (l : List Nat) : Prop := 0 ∈ l ∧ ∀ x ∈ l, x < N ∧ Rch steps [0] x
def AOk (steps : List (List Nat)) (N : Nat) (E l : List Nat) : Prop := (∀ x ∈ E, x ∈ l) ∧ ∀ x ∈ l, x < N ∧ Rch (turnedOf steps N) E x
/-- within a round: j states looked at, the lists ahead of the round, the lists now -/
structure InM (steps : List (List Nat)) (N : Nat) (l0 l : List Nat) (j : Nat) : Prop where
  sub : ∀ y ∈ l0, y ∈ l
  done : ∀ s, s < j → s ∈ l0 → ∀ t ∈ steps.getD s [], t ∈ l
  keep : ClM steps l0 → ∀ y ∈ l, y ∈ l0
  ok : MOk steps N l
  len : l.length ≤ l0.length + 100 * j
structure InA (steps : List (List Nat)) (N : Nat) (E l0 l : List Nat) (j : Nat) : Prop where
  sub : ∀ y ∈ l0, y ∈ l
  done : ∀ s, s < j → ∀ t ∈ steps.getD s [], t ∈ l0 → s ∈ l
  keep : ClA steps N l0 → ∀ y ∈ l, y ∈ l0
  ok : AOk steps N E l
  len : l.length ≤ l0.length + j
theorem InM.skip {steps : List (List Nat)} {N : Nat} {l0 l : List Nat} {j : Nat} (i : InM steps N l0 l j) (h : j ∉ l) : InM steps N l0 l (j + 1) :=
  ⟨i.sub, fun s hs h0 => by
    by_cases e : s = j
    · subst e
      exact absurd (i.sub _ h0) h
    · exact i.done s (by omega) h0, i.keep, i.ok, by have := i.len; omega⟩
theorem InM.add {steps : List (List Nat)} {N : Nat} {l0 l : List Nat} {j : Nat} (k : StepsOk steps N 100) (i : InM steps N l0 l j) (jn : j < N) (h : j ∈ l) :
    InM steps N l0 (l ++ (steps.getD j []).filter fun t => !decide (t ∈ l)) (j + 1) := by
  have mem : ∀ y, y ∈ l ++ (steps.getD j []).filter (fun t => !decide (t ∈ l)) ↔ y ∈ l ∨ y ∈ steps.getD j [] := by
    intro y
    rw [List.mem_append, List.mem_filter]
    constructor
    · rintro (h | ⟨h, _⟩)
      · exact .inl h
      · exact .inr h
    · rintro (h | h)
      · exact .inl h
      · by_cases e : y ∈ l
        · exact .inl e
        · exact .inr ⟨h, by simp [e]⟩
  have lj : (steps.getD j []).length ≤ 100 := by
    rw [List.getD_eq_getElem?_getD]
    cases hr : steps[j]? with
    | none => exact Nat.zero_le _
    | some r => exact (k.row r (List.mem_of_getElem? hr)).1
  refine ⟨fun y hy => (mem y).mpr (.inl (i.sub y hy)), fun s hs h0 t ht => ?_, fun c y hy => ?_, ⟨(mem 0).mpr (.inl i.ok.1), fun x hx => ?_⟩, ?_⟩
  · by_cases e : s = j
    · subst e
      exact (mem t).mpr (.inr ht)
    · exact (mem t).mpr (.inl (i.done s (by omega) h0 t ht))
  · rcases (mem y).mp hy with hy | hy
    · exact i.keep c y hy
    · exact c j (i.keep c j h) y hy
  · rcases (mem x).mp hx with hx | hx
    · exact i.ok.2 x hx
    · exact ⟨k.lt hx, .next (i.ok.2 j h).2 hx⟩
  · have := List.length_filter_le (fun t => !decide (t ∈ l)) (steps.getD j [])
    have := i.len
    rw [List.length_append]
    omega
theorem InA.skip {steps : List (List Nat)} {N : Nat} {E l0 l : List Nat} {j : Nat} (i : InA steps N E l0 l j) (h : j ∈ l ∨ ∀ t ∈ steps.getD j [], t ∉ l) : InA steps N E l0 l (j + 1) :=
  ⟨i.sub, fun s hs t ht h0 => by
    by_cases e : s = j
    · subst e
      rcases h with h | h
      · exact h
      · exact absurd (i.sub t h0) (h t ht)
    · exact i.done s (by omega) t ht h0, i.keep, i.ok, by have := i.len; omega⟩
theorem InA.add {steps : List (List Nat)} {N : Nat} {E l0 l : List Nat} {j t : Nat} (k : StepsOk steps N 100) (i : InA steps N E l0 l j) (jn : j < N) (ht : t ∈ steps.getD j []) (h : t ∈ l) : InA steps N E l0 (l ++ [j]) (j + 1) := by
  have mem : ∀ y, y ∈ l ++ [j] ↔ y ∈ l ∨ y = j := by
    intro y
    simp
  have tn := k.lt ht
  have tj : j ∈ (turnedOf steps N).getD t [] := by
    unfold turnedOf
    rw [List.getD_eq_getElem?_getD, List.getElem?_map, List.getElem?_range tn]
    show j ∈ List.filter _ (List.range N)
    exact List.mem_filter.mpr ⟨List.mem_range.mpr jn, decide_eq_true ht⟩
  refine ⟨fun y hy => (mem y).mpr (.inl (i.sub y hy)), fun s hs u hu h0 => ?_, fun c y hy => ?_, ⟨fun x hx => (mem x).mpr (.inl (i.ok.1 x hx)), fun x hx => ?_⟩, ?_⟩
  · by_cases e : s = j
    · exact (mem s).mpr (.inr e)
    · exact (mem s).mpr (.inl (i.done s (by omega) u hu h0))
  · rcases (mem y).mp hy with hy | rfl
    · exact i.keep c y hy
    · exact c y jn t ht (i.keep c t h)
  · rcases (mem x).mp hx with hx | rfl
    · exact i.ok.2 x hx
    · exact ⟨jn, .next (i.ok.2 t h).2 tj⟩
  · have := i.len
    rw [List.length_append]
    show l.length + 1 ≤ _
    omega
theorem InM.round {steps : List (List Nat)} {N r : Nat} {l0 l : List Nat} (i : InM steps N l0 l N) (o : MOk steps N l0) (h : ClM steps l0 ∨ r ≤ cnt N l0) : ClM steps l ∨ r + 1 ≤ cnt N l :=
  grown i.sub (fun y hy => (i.ok.2 y hy).1) i.keep (fun e s hs t ht => i.done s (i.ok.2 s hs).1 (e s hs) t ht) h
theorem InA.round {steps : List (List Nat)} {N r : Nat} {E l0 l : List Nat} (i : InA steps N E l0 l N) (h : ClA steps N l0 ∨ r ≤ cnt N l0) : ClA steps N l ∨ r + 1 ≤ cnt N l :=
  grown i.sub (fun y hy => (i.ok.2 y hy).1) i.keep (fun e s hs t ht h0 => i.done s hs t ht (e t h0)) h
theorem met_all {steps : List (List Nat)} {N : Nat} {l : List Nat} (k : StepsOk steps N 100) (o : MOk steps N l) (h : ClM steps l ∨ N ≤ cnt N l) : ∀ x, x ∈ l ↔ Rch steps [0] x := fun x =>
  ⟨fun hx => (o.2 x hx).2, fun hx => by
    have cl : ClM steps l := by
      rcases h with h | h
      · exact h
      · exact fun s _ t ht => cnt_full h t (k.lt ht)
    induction hx with
    | @base s h =>
      have : s = 0 := by simpa using h
      rw [this]
      exact o.1
    | next _ ht ih => exact cl _ ih _ ht⟩
theorem alive_all {steps : List (List Nat)} {N : Nat} {E l : List Nat} (o : AOk steps N E l) (h : ClA steps N l ∨ N ≤ cnt N l) : ∀ x, x ∈ l ↔ Rch (turnedOf steps N) E x := fun x =>
  ⟨fun hx => (o.2 x hx).2, fun hx => by
    have cl : ClA steps N l := by
      rcases h with h | h
      · exact h
      · exact fun s hs _ _ _ => cnt_full h s hs
    induction hx with
    | base h => exact o.1 _ h
    | @next s t _ ht ih =>
      unfold turnedOf at ht
      rw [List.getD_eq_getElem?_getD, List.getElem?_map] at ht
      cases hs : (List.range N)[s]? with
      | none => rw [hs] at ht; cases ht
      | some s' =>
        have e : s' = s := by
          have h1 := List.getElem?_eq_some_iff.mp hs
          obtain ⟨h2, h3⟩ := h1
          rw [List.getElem_range] at h3
          exact h3.symm
        subst e
        rw [hs] at ht
        obtain ⟨h1, h2⟩ := List.mem_filter.mp ht
        exact cl t (List.mem_range.mp h1) _ (of_decide_eq_true h2) ih⟩
theorem succ_eq {rows : List (List (Option Nat))} {j : Nat} (h : j < rows.length) : (stepsOf rows).getD j [] = rows[j].filterMap id := by
  unfold stepsOf
  rw [List.getD_eq_getElem?_getD, List.getElem?_map, List.getElem?_eq_getElem h]
  rfl
theorem row_filter {p : Nat → Bool} {q : PyData → Bool} (h0 : q .none = false) (h : ∀ s : Nat, q (.int (s : Int)) = p s) : ∀ row : List (Option Nat), (row.map itemD).filter q = ((row.filterMap id).filter p).map nD
  | [] => rfl
  | none :: xs => by
    rw [List.map_cons, List.filter_cons_of_neg (by show ¬ q .none = true; rw [h0]; decide), row_filter h0 h xs]
    rfl
  | some n :: xs => by
    have ih := row_filter h0 h xs
    have e2 : (some n :: xs).filterMap id = n :: xs.filterMap id := rfl
    rw [List.map_cons, e2]
    cases e : p n with
    | true => rw [List.filter_cons_of_pos (by show q (.int (n : Int)) = true; rw [h n, e]), List.filter_cons_of_pos e, ih]; rfl
    | false => rw [List.filter_cons_of_neg (by show ¬ q (.int (n : Int)) = true; rw [h n, e]; decide), List.filter_cons_of_neg (by rw [e]; decide), ih]
section
variable {P : Program} {w : World} {K : PySem.W.Frag} {mg : Str → Option Value} {base : Heap} {A : Adrs}
def spLawUsed (K : PySem.W.Frag) : Sp := fun vs H Q _ => ∃ (v : V) (M : List Addr) (L N : Nat) (rows : List (List (Option Nat))) (ends : List Bool), vs = [v] ∧ T K M H v (kindD L rows ends) ∧ KindOk L N rows ends ∧
  ∀ (H' : Hp) (D : Addr) (f : Nat → Bool), Same H H' → H D = none → H' D = some (.lst (((List.range N).filter f).map nV)) → (∀ s, s < N → (f s = true ↔ Used rows ends N s)) → Q (.ref D) H'
theorem ok_lawUsed (T : Txt K mg A) : FnOk P w K mg base CX0 2 A.f__law_used A.d__law_used ["_law_kind_here"] (spLawUsed K) := by
  refine T.F__law_used.ok sc__law_used (fun vs H Q E h => ?_) (fun cdv Ar outer s H vs Q E hr h => ?_)
  · obtain ⟨_, _, _, _, _, _, rfl, _⟩ := h
    rfl
  obtain ⟨v, M, L, N, rows, ends, rfl, ht, hk, k⟩ := h
  obtain ⟨a, r, e, rs, rfl, ha, na, nr, ne, hr', tr, he⟩ := KindAt.parts (ht.off (N := []) (fun b hb => nomatch hb))
  have l4 := hk.l4
  have n9 := hk.n9
  refine ⟨_, (pss_cons (ps_asg (pe_tup (pa_cons (pe_lst (pa_cons pe_int pa_nil)) (pa_cons (pe_lc (own := [("_law_k", 5)]) rfl sc__law_used.nd (pi_range1 (by rfl) T.z_range (pa_cons (pe_callB (id := "len") (kLenQ K) (by rfl) T.z_len (by decide +kernel) (pa_cons (pe_ix (kIxT K) (pv 0) pe_int (fun _ _ => rfl)) pa_nil)) pa_nil)) (blkOk_by (own := [("_law_k", 5)]) (N := N__law_used) (sc := defScope s__law_used) (by decide +kernel)) (fun _ _ _ _ _ => (pg_name (i := 5) sc__law_used.nd rfl (Or.inl rfl))) (fun _ _ _ _ _ => (pts_one (pt_val (pe_ix (kIxT K) (pe_ix (kIxT K) (pv 0) pe_int (fun _ _ => rfl)) (pv 5) (fun _ _ => rfl))))) (fun _ _ _ _ _ => (pv 5))) pa_nil))) (kTgT K (n := 2) (by rfl) (pgs_cons (pg_name (i := 1) sc__law_used.nd rfl (Or.inr rfl)) (pgs_cons (pg_name (i := 2) sc__law_used.nd rfl (Or.inr rfl)) pgs_nil))))
    (pss_cons (ps_for PassesOwn.never rfl (pi_range1 (by rfl) T.z_range (pa_cons (pe_callB (id := "len") (kLenQ K) (by rfl) T.z_len (by decide +kernel) (pa_cons (pe_ix (kIxT K) (pv 0) pe_int (fun _ _ => rfl)) pa_nil)) pa_nil)) (pg_name (i := 3) sc__law_used.nd rfl (Or.inl rfl))
    (pss_one (ps_for PassesOwn.never rfl (pi_range1 (by rfl) T.z_range (pa_cons (pe_callB (id := "len") (kLenQ K) (by rfl) T.z_len (by decide +kernel) (pa_cons (pe_ix (kIxT K) (pv 0) pe_int (fun _ _ => rfl)) pa_nil)) pa_nil)) (pg_name (i := 4) sc__law_used.nd rfl (Or.inl rfl))
    (pss_cons (ps_if (pt_cmpR (kIn K) (pv 4) (pv 1) (by with_unfolding_all rfl)) (pss_one (ps_set (i := 1) sc__law_used.nd rfl (Or.inr rfl) (pe_op op_cat (pv 1) (pe_lc (own := [("_law_item", 6)]) rfl sc__law_used.nd (kPiT K (pe_ix (kIxT K) (pe_ix (kIxT K) (pv 0) pe_int (fun _ _ => rfl)) (pv 4) (fun _ _ => rfl))) (blkOk_by (own := [("_law_item", 6)]) (N := N__law_used) (sc := defScope s__law_used) (by decide +kernel)) (fun _ _ _ _ _ => (pg_name (i := 6) sc__law_used.nd rfl (Or.inl rfl))) (fun _ _ _ _ _ => (pts_one (PW.pt (pw_and (pt_cmpR op_notN (pv 6) pe_non (nomark _)) (pw_and1 (pt_cmpR (kNotIn K) (pv 6) (pv 1) (by with_unfolding_all rfl))))))) (fun _ _ _ _ _ => (pv 6))))))
    pss_nil)
    (pss_one (ps_if (PW.pt (pw_and (pt_cmpR (kNotIn K) (pv 4) (pv 2) (by with_unfolding_all rfl)) (pw_and1 (pt_cmpR (kNeNil K hr) (pe_lc (own := [("_law_item", 6)]) rfl sc__law_used.nd (kPiT K (pe_ix (kIxT K) (pe_ix (kIxT K) (pv 0) pe_int (fun _ _ => rfl)) (pv 4) (fun _ _ => rfl))) (blkOk_by (own := [("_law_item", 6)]) (N := N__law_used) (sc := defScope s__law_used) (by decide +kernel)) (fun _ _ _ _ _ => (pg_name (i := 6) sc__law_used.nd rfl (Or.inl rfl))) (fun _ _ _ _ _ => (pts_one (pt_cmpR (kIn K) (pv 6) (pv 2) (by with_unfolding_all rfl)))) (fun _ _ _ _ _ => (pv 6))) (pe_lst pa_nil) (nomark _))))) (pss_one (ps_set (i := 2) sc__law_used.nd rfl (Or.inr rfl) (pe_op op_cat (pv 2) (pe_lst (pa_cons (pv 4) pa_nil)))))
    pss_nil))))))
    (pss_one (ps_ret (pe_lc (own := [("_law_state", 4)]) rfl sc__law_used.nd (pi_range1 (by rfl) T.z_range (pa_cons (pe_callB (id := "len") (kLenQ K) (by rfl) T.z_len (by decide +kernel) (pa_cons (pe_ix (kIxT K) (pv 0) pe_int (fun _ _ => rfl)) pa_nil)) pa_nil)) (blkOk_by (own := [("_law_state", 4)]) (N := N__law_used) (sc := defScope s__law_used) (by decide +kernel)) (fun _ _ _ _ _ => (pg_name (i := 4) sc__law_used.nd rfl (Or.inl rfl))) (fun _ _ _ _ _ => (pts_one (PW.pt (pw_and (pt_cmpR (kIn K) (pv 4) (pv 1) (by with_unfolding_all rfl)) (pw_and1 (pt_cmpR (kIn K) (pv 4) (pv 2) (by with_unfolding_all rfl))))))) (fun _ _ _ _ _ => (pv 4))))))), ?_⟩
  have lrs := tr.len
  rw [List.length_map, hk.lr] at lrs
  have sok := stepsOf_ok hk
  have tN : ((N : Nat) : Int).toNat = N := Int.toNat_natCast N
  refine sq (fun σ' H' => ∃ (lm la : Addr) (ml al : List Nat), σ' = [some (.ref a), some (.ref lm), some (.ref la), none, none, none, none] ∧ Same H H' ∧ H' lm = some (.lst (ml.map nV)) ∧ H' la = some (.lst (al.map nV)) ∧
      MOk (stepsOf rows) N ml ∧ AOk (stepsOf rows) N ((List.range N).filter fun s => ends.getD s false) al ∧ ml.length ≤ 1 ∧ al.length ≤ 9) (fun W hW => ?_) ?_
  · refine ⟨(show 1 ≤ sizeLine by decide), fun lm hlm => ?_⟩
    have s1 : Same H (upd H lm (.lst [.int 0])) := Same.new hlm
    have h1 : (upd H lm (.lst [.int 0])) lm = some (.lst ([0].map nV)) := upd_same
    generalize upd H lm (HO.lst [V.int 0]) = H1 at s1 h1 ⊢
    refine ⟨_, rfl, a, _, 1, .ref r, rfl, rfl, SqT.of (s1 _ _ ha), rfl, r, rs, rfl, .inr (SqT.of (s1 _ _ hr')), (N : Int), by rw [lrs], by omega, by omega, fun D hD => ?_⟩
    rw [tN]
    refine lcR2 (K := K) (M := []) (N := []) (n := N) (fun _ _ => True) (fun d => match d with | .int i => ends.getD i.toNat false | _ => false) (fun d e => e = d) (by omega) (by simp) (by simp) hD trivial (fun _ _ _ _ => trivial) ?_ ?_
    · intro j F hj e2 _ _ Ky Kn kn ky
      have s2 := s1.trans (same_ext e2)
      have hte : j < ends.length := by rw [hk.le]; exact hj
      have eg : ends.getD j false = ends[j] := by rw [List.getD_eq_getElem?_getD, List.getElem?_eq_getElem hte, Option.getD_some]
      have cond : (match PyData.int (j : Int) with | .int i => ends.getD i.toNat false | _ => false) = ends[j] := by
        show ends.getD ((j : Int)).toNat false = _
        rw [Int.toNat_natCast, eg]
      refine ⟨rfl, _, rfl, a, _, 2, .ref e, rfl, rfl, SqT.of (s2 _ _ ha), rfl, _, rfl, e, _, (j : Int), .bl ends[j], rfl, rfl, SqT.of (s2 _ _ he), atI_nat (by rw [List.getElem?_map, List.getElem?_eq_getElem hte]; rfl), _, rfl, if_ (fun h => ?_) (fun h => ?_)⟩
      · exact ⟨_, rfl, ky (cond.trans h) F _ _ (Ext.refl _ _) trivial (.int _) rfl⟩
      · exact kn (cond.trans h) F (Ext.refl _ _) trivial
    · intro F zs es e2 _ hz tz pr
      have fe := filter_nats (p := fun s => ends.getD s false) (q := fun d => match d with | .int i => ends.getD i.toNat false | _ => false) (fun s => by show ends.getD ((s : Int)).toNat false = _; rw [Int.toNat_natCast]) (List.range N)
      have ee := (paired_id pr).trans fe
      subst ee
      have ez := TA.nats tz
      subst ez
      have s2 := same_ext e2
      have lE := List.length_filter_le (fun s => ends.getD s false) (List.range N)
      rw [List.length_range] at lE
      refine ⟨(show 2 ≤ sizeLine by decide), fun t ht => ⟨t, _, rfl, SqT.of upd_same, rfl, _, _, rfl, _, _, rfl, rfl, ?_⟩⟩
      have s3 : Same F (upd F t (.tup [.ref lm, .ref D])) := Same.new ht
      refine hW _ _ ⟨lm, D, [0], _, rfl, (s1.trans s2).trans s3, s3 _ _ (s2 _ _ h1), s3 _ _ hz, ⟨by simp, fun x hx => ?_⟩, ⟨fun x hx => hx, fun x hx => ⟨List.mem_range.mp (List.mem_filter.mp hx).1, .base hx⟩⟩, Nat.le_refl _, by omega⟩
      have e0 : x = 0 := by simpa using hx
      rw [e0]
      exact ⟨hk.n1, .base (by simp)⟩
  rintro σ' H0 ⟨lm0, la0, ml0, al0, rfl, s0, hm0, ha0, mok0, aok0, lml0, lal0⟩
  refine sq (fun σ' H' => ∃ (lm la : Addr) (ml al : List Nat) (o3 o4 : Option V), σ' = [some (.ref a), some (.ref lm), some (.ref la), o3, o4, none, none] ∧ Same H H' ∧ H' lm = some (.lst (ml.map nV)) ∧ H' la = some (.lst (al.map nV)) ∧
      MOk (stepsOf rows) N ml ∧ AOk (stepsOf rows) N ((List.range N).filter fun s => ends.getD s false) al ∧ (ClM (stepsOf rows) ml ∨ N ≤ cnt N ml) ∧ (ClA (stepsOf rows) N al ∨ N ≤ cnt N al)) (fun W hW => ?_) ?_
  · refine ⟨_, rfl, a, _, 1, .ref r, rfl, rfl, SqT.of (s0 _ _ ha), rfl, r, rs, rfl, .inr (SqT.of (s0 _ _ hr')), (N : Int), by rw [lrs], by omega, by omega, ?_⟩
    rw [tN]
    refine for_range (lo := 0) (n := N) (fun i σ' H' => ∃ (lm la : Addr) (ml al : List Nat) (o3 o4 : Option V), σ' = [some (.ref a), some (.ref lm), some (.ref la), o3, o4, none, none] ∧ Same H H' ∧ H' lm = some (.lst (ml.map nV)) ∧ H' la = some (.lst (al.map nV)) ∧
      MOk (stepsOf rows) N ml ∧ AOk (stepsOf rows) N ((List.range N).filter fun s => ends.getD s false) al ∧ (ClM (stepsOf rows) ml ∨ i ≤ cnt N ml) ∧ (ClA (stepsOf rows) N al ∨ i ≤ cnt N al) ∧ ml.length ≤ 1 + 1000 * i ∧ al.length ≤ 9 + 10 * i)
      ⟨lm0, la0, ml0, al0, none, none, rfl, s0, hm0, ha0, mok0, aok0, .inr (Nat.zero_le _), .inr (Nat.zero_le _), by omega, by omega⟩ ?_ ?_
    · rintro i σ' H' hi ⟨lm, la, ml, al, o3, o4, rfl, s1, hm, hal, mok, aok, cm, ca, lml, lal⟩
      dsimp only [gName]
      refine ⟨_, rfl, a, _, 1, .ref r, rfl, rfl, SqT.of (s1 _ _ ha), rfl, r, rs, rfl, .inr (SqT.of (s1 _ _ hr')), (N : Int), by rw [lrs], by omega, by omega, ?_⟩
      rw [tN]
      refine for_range (lo := 0) (n := N) (fun j σ' H' => ∃ (lm la : Addr) (ml' al' : List Nat) (o3 o4 : Option V), σ' = [some (.ref a), some (.ref lm), some (.ref la), o3, o4, none, none] ∧ Same H H' ∧ H' lm = some (.lst (ml'.map nV)) ∧ H' la = some (.lst (al'.map nV)) ∧
        InM (stepsOf rows) N ml ml' j ∧ InA (stepsOf rows) N ((List.range N).filter fun s => ends.getD s false) al al' j)
        ⟨lm, la, ml, al, some (.int (0 + (i : Int))), o4, rfl, s1, hm, hal, ⟨fun _ h => h, (fun s hs => absurd hs (Nat.not_lt_zero _)), fun _ _ h => h, mok, by omega⟩, ⟨fun _ h => h, (fun s hs => absurd hs (Nat.not_lt_zero _)), fun _ _ h => h, aok, by omega⟩⟩ ?_ ?_
      · clear hm hal s1
        rintro j σ' H1 hj ⟨lm, la, ml', al', o3, o4, rfl, s1, hm, hal, inM, inA⟩
        obtain ⟨jj, hjj⟩ : ∃ jj : Int, jj = 0 + (j : Int) := ⟨_, rfl⟩
        dsimp only [gName]
        rw [show (0 : Int) + (j : Int) = (j : Int) by omega]
        have jl : j < rows.length := by rw [hk.lr]; exact hj
        obtain ⟨b, its, hb, hits, nb, ti⟩ := rowAt tr jl
        have lrow := (hk.row rows[j] (List.getElem_mem jl)).1
        have esu := succ_eq jl
        have lM := inM.len
        have lA := inA.len
        refine sq (fun σ5 H5 => ∃ (lm : Addr) (ml2 : List Nat), σ5 = [some (.ref a), some (.ref lm), some (.ref la), o3, some (.int (j : Int)), none, none] ∧ Same H H5 ∧ H5 lm = some (.lst (ml2.map nV)) ∧ H5 la = some (.lst (al'.map nV)) ∧ InM (stepsOf rows) N ml ml2 (j + 1)) (fun W5 hW5 => ?_) ?_
        · refine ⟨_, rfl, _, rfl, lm, _, rfl, .inl (SqL.of hm), rfl, flat_nats _, _, rfl, if_ (fun hin => ?_) (fun hin => ?_)⟩
          · have jm : j ∈ ml' := by
              have h2 : inV (nV j) (ml'.map nV) = true := hin
              rw [inV_nats] at h2
              exact of_decide_eq_true h2
            refine ⟨_, rfl, _, rfl, a, _, 1, .ref r, rfl, rfl, SqT.of (s1 _ _ ha), rfl, _, rfl, r, rs, (j : Int), .ref b, rfl, rfl, SqT.of (s1 _ _ hr'), atI_nat hb, b, rfl, ⟨_, SqT.of (s1 _ _ hits)⟩, fun D hD => ?_⟩
            refine lcT2 (K := K) (M := []) (N := []) (fun _ _ => True) (fun d => match d with | .int i => !decide (i.toNat ∈ ml') | _ => false) (fun d e => e = d) (s1 _ _ hits) nb (ti.same s1) (by rw [List.length_map]; omega) (by simp) (by simp) hD trivial (fun _ _ _ _ => trivial) ?_ ?_
            · intro j2 x2 d2 F2 hd2 td2 e2 _ _ Ky2 Kn2 kn2 ky2
              have s2 := same_ext e2
              rw [List.getElem?_map] at hd2
              obtain ⟨o, ho, rfl⟩ := Option.map_eq_some_iff.mp hd2
              cases o with
              | none =>
                cases td2
                exact ⟨rfl, _, rfl, rfl, _, rfl, if_f rfl (if_f rfl (kn2 rfl F2 (Ext.refl _ _) trivial))⟩
              | some t =>
                cases td2
                have cond : (match itemD (some t) with | .int i => !decide (i.toNat ∈ ml') | _ => false) = !decide (t ∈ ml') := by
                  show (!decide (((t : Int)).toNat ∈ ml')) = _
                  rw [Int.toNat_natCast]
                refine ⟨rfl, _, rfl, rfl, _, rfl, if_t rfl ⟨_, rfl, _, rfl, lm, _, rfl, .inl (SqL.of (s2 _ _ hm)), rfl, flat_nats _, _, rfl, if_ (fun h => ?_) (fun h => ?_)⟩⟩
                · have h2 : (!inV (nV t) (ml'.map nV)) = true := h
                  rw [inV_nats] at h2
                  exact ⟨_, rfl, ky2 (cond.trans h2) F2 _ _ (Ext.refl _ _) trivial (.int _) rfl⟩
                · have h2 : (!inV (nV t) (ml'.map nV)) = false := h
                  rw [inV_nats] at h2
                  exact kn2 (cond.trans h2) F2 (Ext.refl _ _) trivial
            · intro F zs es e2 _ hz tz pr
              have s2 := same_ext e2
              have fe := row_filter (p := fun t => !decide (t ∈ ml')) (q := fun d => match d with | .int i => !decide (i.toNat ∈ ml') | _ => false) rfl (fun t => by show (!decide (((t : Int)).toNat ∈ ml')) = _; rw [Int.toNat_natCast]) rows[j]
              have ee := (paired_id pr).trans fe
              subst ee
              have ez := TA.nats tz
              subst ez
              rw [← esu] at hz
              have lf := List.length_filter_le (fun t => !decide (t ∈ ml')) ((stepsOf rows).getD j [])
              have l2 : ((stepsOf rows).getD j []).length ≤ 4 := by
                rw [esu]
                have := List.length_filterMap_le id rows[j]
                omega
              refine ⟨lm, D, _, _, rfl, rfl, s2 _ _ hm, hz, ?_, fun p hp => ?_⟩
              · rw [List.length_map, List.length_map]
                exact line_400 (show _ ≤ 100000 by omega)
              · have s3 : Same F (upd F p (.lst (ml'.map nV ++ ((stepsOf rows).getD j [] |>.filter fun t => !decide (t ∈ ml')).map nV))) := Same.new hp
                exact hW5 _ _ ⟨p, _, rfl, (s1.trans s2).trans s3, by rw [upd_same, List.map_append], s3 _ _ (s2 _ _ hal), inM.add sok hj jm⟩
          · have jm : j ∉ ml' := by
              have h2 : inV (nV j) (ml'.map nV) = false := hin
              rw [inV_nats] at h2
              exact of_decide_eq_false h2
            exact hW5 _ _ ⟨lm, ml', rfl, s1, hm, hal, inM.skip jm⟩
        · clear hm inM lM s1
          rintro σ5 H5 ⟨lm, ml2, rfl, s1, hm, hal, inM⟩
          refine ⟨_, rfl, _, rfl, la, _, rfl, .inl (SqL.of hal), rfl, flat_nats _, _, rfl, if_ (fun hin => ?_) (fun hin => ?_)⟩
          · have ja : j ∉ al' := by
              have h2 : (!inV (nV j) (al'.map nV)) = true := hin
              rw [inV_nats] at h2
              simpa using h2
            refine ⟨_, rfl, a, _, 1, .ref r, rfl, rfl, SqT.of (s1 _ _ ha), rfl, _, rfl, r, rs, (j : Int), .ref b, rfl, rfl, SqT.of (s1 _ _ hr'), atI_nat hb, b, rfl, ⟨_, SqT.of (s1 _ _ hits)⟩, fun D hD => ?_⟩
            refine lcT2 (K := K) (M := []) (N := []) (fun _ _ => True) (fun d => match d with | .int i => decide (i.toNat ∈ al') | _ => false) (fun d e => e = d) (s1 _ _ hits) nb (ti.same s1) (by rw [List.length_map]; omega) (by simp) (by simp) hD trivial (fun _ _ _ _ => trivial) ?_ ?_
            · intro j2 x2 d2 F2 hd2 td2 e2 _ _ Ky2 Kn2 kn2 ky2
              have s2 := same_ext e2
              rw [List.getElem?_map] at hd2
              obtain ⟨o, ho, rfl⟩ := Option.map_eq_some_iff.mp hd2
              cases o with
              | none =>
                cases td2
                have z : inV V.non (al'.map nV) = false := inV_none _
                refine ⟨rfl, _, rfl, _, rfl, la, _, rfl, .inl (SqL.of (s2 _ _ hal)), rfl, flat_nats _, _, rfl, if_f ?_ (kn2 rfl F2 (Ext.refl _ _) trivial)⟩
                exact z
              | some t =>
                cases td2
                have cond : (match itemD (some t) with | .int i => decide (i.toNat ∈ al') | _ => false) = decide (t ∈ al') := by
                  show (decide (((t : Int)).toNat ∈ al')) = _
                  rw [Int.toNat_natCast]
                refine ⟨rfl, _, rfl, _, rfl, la, _, rfl, .inl (SqL.of (s2 _ _ hal)), rfl, flat_nats _, _, rfl, if_ (fun h => ?_) (fun h => ?_)⟩
                · have h2 : inV (nV t) (al'.map nV) = true := h
                  rw [inV_nats] at h2
                  exact ⟨_, rfl, ky2 (cond.trans h2) F2 _ _ (Ext.refl _ _) trivial (.int _) rfl⟩
                · have h2 : inV (nV t) (al'.map nV) = false := h
                  rw [inV_nats] at h2
                  exact kn2 (cond.trans h2) F2 (Ext.refl _ _) trivial
            · intro F zs es e2 _ hz tz pr
              have s2 := same_ext e2
              have fe := row_filter (p := fun t => decide (t ∈ al')) (q := fun d => match d with | .int i => decide (i.toNat ∈ al') | _ => false) rfl (fun t => by show (decide (((t : Int)).toNat ∈ al')) = _; rw [Int.toNat_natCast]) rows[j]
              have ee := (paired_id pr).trans fe
              subst ee
              have ez := TA.nats tz
              subst ez
              rw [← esu] at hz
              refine ⟨Nat.zero_le _, fun u hu => ?_⟩
              have su : Same F (upd F u (.lst [])) := Same.new hu
              have hue : (upd F u (.lst [])) u = some (.lst []) := upd_same
              generalize upd F u (HO.lst []) = F4 at su hue ⊢
              have s14 := (s1.trans s2).trans su
              have s24 := s2.trans su
              refine ⟨D, u, _, rfl, rfl, .inl ⟨SqL.of (su _ _ hz), SqL.of hue⟩, _, rfl, if_ (fun hne => ?_) (fun hem => ?_)⟩
              · obtain ⟨t, htl⟩ : ∃ t, t ∈ ((stepsOf rows).getD j []).filter fun t => decide (t ∈ al') := by
                  cases hq : ((stepsOf rows).getD j []).filter fun t => decide (t ∈ al') with
                  | nil =>
                    have h3 : (!(List.map nV (((stepsOf rows).getD j []).filter fun t => decide (t ∈ al'))).isEmpty) = true := hne
                    rw [hq] at h3
                    cases h3
                  | cons t ts => exact ⟨t, List.mem_cons_self⟩
                obtain ⟨ht1, ht2⟩ := List.mem_filter.mp htl
                refine ⟨_, rfl, _, rfl, (show 1 ≤ sizeLine by decide), fun p hp => ?_⟩
                have sp : Same F4 (upd F4 p (.lst [.int (j : Int)])) := Same.new hp
                have hpe : (upd F4 p (.lst [.int (j : Int)])) p = some (.lst ([j].map nV)) := upd_same
                generalize upd F4 p (HO.lst [V.int (j : Int)]) = F5 at sp hpe ⊢
                refine ⟨la, p, _, _, rfl, rfl, sp _ _ (s24 _ _ hal), hpe, ?_, fun p2 hp2 => ?_⟩
                · rw [List.length_map, List.length_map]
                  exact line_400 (show al'.length + 1 ≤ 100000 by omega)
                · have s5 : Same F5 (upd F5 p2 (.lst (al'.map nV ++ [j].map nV))) := Same.new hp2
                  exact ⟨lm, p2, ml2, _, _, _, rfl, (s14.trans sp).trans s5, s5 _ _ (sp _ _ (s24 _ _ hm)), by rw [upd_same, List.map_append], inM, inA.add sok hj ht1 (of_decide_eq_true ht2)⟩
              · refine ⟨lm, la, ml2, al', _, _, rfl, s14, s24 _ _ hm, s24 _ _ hal, inM, inA.skip (.inr fun t ht htA => ?_)⟩
                have h3 : (!(List.map nV (((stepsOf rows).getD j []).filter fun t => decide (t ∈ al'))).isEmpty) = false := hem
                have hm2 : t ∈ ((stepsOf rows).getD j []).filter fun t => decide (t ∈ al') := List.mem_filter.mpr ⟨ht, decide_eq_true htA⟩
                cases hq : ((stepsOf rows).getD j []).filter fun t => decide (t ∈ al') with
                | nil => rw [hq] at hm2; cases hm2
                | cons x xs => rw [hq] at h3; cases h3
          · have ja : j ∈ al' := by
              have h2 : (!inV (nV j) (al'.map nV)) = false := hin
              rw [inV_nats] at h2
              simpa using h2
            exact if_f rfl ⟨lm, la, ml2, al', _, _, rfl, s1, hm, hal, inM, inA.skip (.inl ja)⟩
      · rintro σ' H1 ⟨lm, la, ml', al', o3, o4, rfl, s1, hm, hal, inM, inA⟩
        have lM := inM.len
        have lA := inA.len
        exact ⟨lm, la, ml', al', o3, o4, rfl, s1, hm, hal, inM.ok, inA.ok, inM.round mok cm, inA.round ca, by omega, by omega⟩
    · rintro σ' H1 ⟨lm, la, ml, al, o3, o4, rfl, s1, hm, hal, mok, aok, cm, ca, _, _⟩
      exact hW _ _ ⟨lm, la, ml, al, o3, o4, rfl, s1, hm, hal, mok, aok, cm, ca⟩
  rintro σ' H1 ⟨lm, la, ml, al, o3, o4, rfl, s1, hm, hal, mok, aok, cm, ca⟩
  refine ⟨_, rfl, a, _, 1, .ref r, rfl, rfl, SqT.of (s1 _ _ ha), rfl, r, rs, rfl, .inr (SqT.of (s1 _ _ hr')), (N : Int), by rw [lrs], by omega, by omega, fun D hD => ?_⟩
  rw [tN]
  refine lcR2 (K := K) (M := []) (N := []) (n := N) (fun _ _ => True) (fun d => match d with | .int i => decide (i.toNat ∈ ml) && decide (i.toNat ∈ al) | _ => false) (fun d e => e = d) (by omega) (by simp) (by simp) hD trivial (fun _ _ _ _ => trivial) ?_ ?_
  · intro j F hj e2 _ _ Ky Kn kn ky
    have s2 := same_ext e2
    have cond : (match PyData.int (j : Int) with | .int i => decide (i.toNat ∈ ml) && decide (i.toNat ∈ al) | _ => false) = (decide (j ∈ ml) && decide (j ∈ al)) := by
      show (decide (((j : Int)).toNat ∈ ml) && decide (((j : Int)).toNat ∈ al)) = _
      rw [Int.toNat_natCast]
    refine ⟨rfl, _, rfl, _, rfl, lm, _, rfl, .inl (SqL.of (s2 _ _ hm)), rfl, flat_nats _, _, rfl, if_ (fun h => ?_) (fun h => ?_)⟩
    · have h2 : inV (nV j) (ml.map nV) = true := h
      rw [inV_nats] at h2
      refine ⟨_, rfl, _, rfl, la, _, rfl, .inl (SqL.of (s2 _ _ hal)), rfl, flat_nats _, _, rfl, if_ (fun h => ?_) (fun h => ?_)⟩
      · have h3 : inV (nV j) (al.map nV) = true := h
        rw [inV_nats] at h3
        exact ⟨_, rfl, ky (cond.trans (by rw [h2, h3]; rfl)) F _ _ (Ext.refl _ _) trivial (.int _) rfl⟩
      · have h3 : inV (nV j) (al.map nV) = false := h
        rw [inV_nats] at h3
        exact kn (cond.trans (by rw [h2, h3]; rfl)) F (Ext.refl _ _) trivial
    · have h2 : inV (nV j) (ml.map nV) = false := h
      rw [inV_nats] at h2
      exact if_f rfl (kn (cond.trans (by rw [h2]; rfl)) F (Ext.refl _ _) trivial)
  · intro F zs es e2 _ hz tz pr
    have fe := filter_nats (p := fun s => decide (s ∈ ml) && decide (s ∈ al)) (q := fun d => match d with | .int i => decide (i.toNat ∈ ml) && decide (i.toNat ∈ al) | _ => false) (fun s => by show (decide (((s : Int)).toNat ∈ ml) && decide (((s : Int)).toNat ∈ al)) = _; rw [Int.toNat_natCast]) (List.range N)
    have ee := (paired_id pr).trans fe
    subst ee
    have ez := TA.nats tz
    subst ez
    refine k F D _ (s1.trans (same_ext e2)) (Same.free s1 hD) hz fun s hs => ?_
    rw [Bool.and_eq_true, decide_eq_true_eq, decide_eq_true_eq, met_all sok mok cm, alive_all aok ca]
    exact Iff.rfl
end

/-! ### states in another order -/
def OrdOk (N : Nat) (ord : List Nat) : Prop := ord.Perm (List.range N) ∧ ord.head? = some 0
theorem OrdOk.mem {N : Nat} {ord : List Nat} (o : OrdOk N ord) (x : Nat) : x ∈ ord ↔ x < N := by rw [o.1.mem_iff, List.mem_range]
theorem OrdOk.len {N : Nat} {ord : List Nat} (o : OrdOk N ord) : ord.length = N := by rw [o.1.length_eq, List.length_range]
theorem OrdOk.nodup {N : Nat} {ord : List Nat} (o : OrdOk N ord) : ord.Nodup := o.1.nodup_iff.mpr List.nodup_range
theorem OrdOk.lt {N x : Nat} {ord : List Nat} (o : OrdOk N ord) (h : x < N) : ord.idxOf x < N := by
  have := List.idxOf_lt_length_of_mem ((o.mem x).mpr h)
  rw [o.len] at this
  exact this
theorem OrdOk.at_ {N x : Nat} {ord : List Nat} (o : OrdOk N ord) (h : x < N) : ord[ord.idxOf x]? = some x := by
  have l := List.idxOf_lt_length_of_mem ((o.mem x).mpr h)
  rw [List.getElem?_eq_getElem l, List.getElem_idxOf]
theorem OrdOk.zero {N : Nat} {ord : List Nat} (o : OrdOk N ord) : ord.idxOf 0 = 0 := by
  obtain ⟨_, h⟩ := o
  cases ord with
  | nil => cases h
  | cons x xs =>
    have : x = 0 := Option.some.inj h
    rw [this]
    exact List.idxOf_cons_self
def renRows (ord : List Nat) (rows : List (List (Option Nat))) : List (List (Option Nat)) := ord.map fun s => (rows.getD s []).map fun o => o.map fun t => ord.idxOf t
def renEnds (ord : List Nat) (ends : List Bool) : List Bool := ord.map fun s => ends.getD s false
theorem ren_kind {L N : Nat} {rows : List (List (Option Nat))} {ends : List Bool} {ord : List Nat} (k : KindOk L N rows ends) (o : OrdOk N ord) : KindOk L N (renRows ord rows) (renEnds ord ends) := by
  refine ⟨by unfold renRows; rw [List.length_map, o.len], by unfold renEnds; rw [List.length_map, o.len], fun r hr => ?_, k.l1, k.l4, k.n1, k.n9⟩
  obtain ⟨s, hs, rfl⟩ := List.mem_map.mp hr
  have sN := (o.mem s).mp hs
  have sl : s < rows.length := by rw [k.lr]; exact sN
  have e : rows.getD s [] = rows[s] := by rw [List.getD_eq_getElem?_getD, List.getElem?_eq_getElem sl, Option.getD_some]
  obtain ⟨h1, h2⟩ := k.row rows[s] (List.getElem_mem sl)
  rw [e]
  refine ⟨by rw [List.length_map, h1], fun n hn => ?_⟩
  obtain ⟨x, hx, ex⟩ := List.mem_map.mp hn
  obtain ⟨t, rfl, rfl⟩ := Option.map_eq_some_iff.mp ex
  exact o.lt (h2 t hx)
theorem ren_step {L N : Nat} {rows : List (List (Option Nat))} {ends : List Bool} {ord : List Nat} (k : KindOk L N rows ends) (o : OrdOk N ord) {s : Nat} (h : s < N) (c : Nat) : stepOf (renRows ord rows) (ord.idxOf s) c = (stepOf rows s c).map fun t => ord.idxOf t := by
  have e1 : (renRows ord rows).getD (ord.idxOf s) [] = (rows.getD s []).map fun o => o.map fun t => ord.idxOf t := by
    unfold renRows
    rw [List.getD_eq_getElem?_getD, List.getElem?_map, o.at_ h]
    rfl
  unfold stepOf
  rw [e1, List.getD_eq_getElem?_getD, List.getD_eq_getElem?_getD (l := rows.getD s []), List.getElem?_map]
  cases (rows.getD s [])[c]? with
  | none => rfl
  | some x => rfl
theorem ren_run {L N : Nat} {rows : List (List (Option Nat))} {ends : List Bool} {ord : List Nat} (k : KindOk L N rows ends) (o : OrdOk N ord) : ∀ (ws : List Nat) (s : Nat), s < N → runOf (renRows ord rows) (ord.idxOf s) ws = (runOf rows s ws).map fun t => ord.idxOf t
  | [], s, h => rfl
  | c :: cs, s, h => by
    show (match stepOf (renRows ord rows) (ord.idxOf s) c with | none => none | some t => runOf (renRows ord rows) t cs) = (match stepOf rows s c with | none => none | some t => runOf rows t cs).map _
    rw [ren_step k o h c]
    cases hq : stepOf rows s c with
    | none => rfl
    | some t => exact ren_run k o cs t (k.step hq)
theorem ren_is {L N : Nat} {rows : List (List (Option Nat))} {ends : List Bool} {ord : List Nat} (k : KindOk L N rows ends) (o : OrdOk N ord) (ws : List Nat) : isOf (renRows ord rows) (renEnds ord ends) ws = isOf rows ends ws := by
  have h := ren_run k o ws 0 k.n1
  rw [o.zero] at h
  unfold isOf
  rw [h]
  cases hq : runOf rows 0 ws with
  | none => rfl
  | some t =>
    show (renEnds ord ends).getD (ord.idxOf t) false = ends.getD t false
    have tN := run_lt k ws 0 t k.n1 hq
    unfold renEnds
    rw [List.getD_eq_getElem?_getD, List.getElem?_map, o.at_ tN]
    rfl
theorem erase_perm {l : List Nat} {k y : Nat} (h : l[k]? = some y) : l.Perm (y :: l.eraseIdx k) := by
  obtain ⟨hk, rfl⟩ := List.getElem?_eq_some_iff.mp h
  rw [List.eraseIdx_eq_take_drop_succ]
  have e : l = l.take k ++ l[k] :: l.drop (k + 1) := by
    rw [← List.drop_eq_getElem_cons hk, List.take_append_drop]
  exact (List.Perm.of_eq e).trans List.perm_middle
theorem merge_not {j : L2.Key} : ∀ (kvs acc : List (L2.Key × V)), j ∉ kvs.map (·.1) → valV (mergeK acc kvs) j = valV acc j
  | [], acc, _ => rfl
  | (k, x) :: r, acc, h => by
    have h1 : j ≠ k := fun e => h (by simp [e])
    have h2 : j ∉ r.map (·.1) := fun e => h (by rw [List.map_cons]; exact List.mem_cons_of_mem _ e)
    show valV (mergeK (putK acc k x) r) j = _
    rw [merge_not r _ h2, valV_put, if_neg h1]
theorem merge_get {j : L2.Key} {v : V} : ∀ (kvs acc : List (L2.Key × V)), (kvs.map (·.1)).Nodup → (j, v) ∈ kvs → valV (mergeK acc kvs) j = some v
  | (k, x) :: r, acc, nd, h => by
    rw [List.map_cons, List.nodup_cons] at nd
    show valV (mergeK (putK acc k x) r) j = _
    rcases List.mem_cons.mp h with e | h
    · cases e
      rw [merge_not r _ nd.1, valV_put, if_pos rfl]
    · exact merge_get r _ nd.2 h
/-- the dict's entries: each state with its new number -/
def ordKV (ord : List Nat) : List (L2.Key × V) := (List.range ord.length).map fun i => (.inl (ord.getD i 0 : Int), .int (i : Int))
theorem ordKV_get {N t : Nat} {ord : List Nat} (o : OrdOk N ord) (h : t < N) : valV (mergeK [] (ordKV ord)) (.inl (t : Int)) = some (.int (ord.idxOf t : Int)) := by
  refine merge_get _ _ ?_ ?_
  · unfold ordKV
    rw [List.map_map]
    have e : (List.range ord.length).map ((fun x : L2.Key × V => x.1) ∘ fun i => ((.inl (ord.getD i 0 : Int) : L2.Key), V.int (i : Int))) = ord.map fun t : Nat => (Sum.inl (t : Int) : L2.Key) := by
      apply List.ext_getElem
      · simp
      · intro i h1 h2
        simp at h1 h2 ⊢
        rw [List.getElem?_eq_getElem h1, Option.getD_some]
    rw [e]
    refine List.Pairwise.map _ (fun (a b : Nat) (hab : a ≠ b) (e : (Sum.inl (a : Int) : L2.Key) = Sum.inl (b : Int)) => ?_) o.nodup
    have e := Sum.inl.inj e
    exact hab (by omega)
  · unfold ordKV
    refine List.mem_map.mpr ⟨ord.idxOf t, List.mem_range.mpr (by rw [o.len]; exact o.lt h), ?_⟩
    rw [List.getD_eq_getElem?_getD, o.at_ h]
    rfl
theorem itemD_inj {a b : Option Nat} (h : itemD a = itemD b) : a = b := by
  cases a with
  | none =>
    cases b with
    | none => rfl
    | some q => cases h
  | some p =>
    cases b with
    | none => cases h
    | some q =>
      have h : PyData.int (p : Int) = PyData.int (q : Int) := h
      injection h with h
      have : p = q := by omega
      rw [this]
theorem paired_mono {α β : Type} {F G : α → β → Prop} (h : ∀ a b, F a b → G a b) : ∀ {l : List α} {m : List β}, Paired F l m → Paired G l m
  | _, _, .nil => .nil
  | _, _, .cons r t => .cons (h _ _ r) (paired_mono h t)
theorem pairs_of {K : PySem.W.Frag} {M : List Addr} {H : Hp} {g : Nat → Int} : ∀ {l : List Nat} {ys : List V}, TA K M H ys (l.map fun i => .tuple [.int (g i), .int (i : Int)]) → ∃ ps : List Addr, ys = ps.map V.ref ∧ Paired (fun p (kv : L2.Key × V) => H p = some (.tup [kV kv.1, kv.2])) ps (l.map fun i : Nat => ((Sum.inl (g i) : L2.Key), V.int (i : Int)))
  | [], ys, h => by
    cases h
    exact ⟨[], rfl, .nil⟩
  | x :: xs, ys, h => by
    cases h with
    | cons h1 h2 =>
      obtain ⟨ps, e, pr⟩ := pairs_of h2
      cases h1 with
      | @tup p its _ np hp t =>
        cases t with
        | cons a t =>
          cases t with
          | cons b t =>
            cases t
            cases a
            cases b
            exact ⟨p :: ps, by rw [e]; rfl, .cons hp pr⟩
def spRenamed (K : PySem.W.Frag) : Sp := fun vs H Q _ => ∃ (p q : Addr) (v : V) (n L N : Nat) (rows : List (List (Option Nat))) (ends : List Bool), vs = [.ref p, v] ∧ Deck H p q n ∧ n + 20 ≤ 1000000000 ∧ T K [p, q] H v (kindD L rows ends) ∧ KindOk L N rows ends ∧
  ∀ (H' : Hp) (n' : Nat) (r : V) (rows' : List (List (Option Nat))) (ends' : List Bool), Deck H' p q n' → n' ≤ n + 10 → Ext [p, q] H H' → T K [p, q] H' r (kindD L rows' ends') → KindOk L N rows' ends' → (∀ ws, isOf rows' ends' ws = isOf rows ends ws) → Q r H'
section
variable {P : Program} {w : World} {K : PySem.W.Frag} {mg : Str → Option Value} {base : Heap} {A : Adrs}
theorem ok_lawRenamed (T : Txt K mg A) : FnOk P w K mg base CX0 3 A.f__law_renamed A.d__law_renamed ["_law_deck_here", "_law_kind_here"] (spRenamed K) := by
  have G__law_draw : FnOk P w K mg base CX0 1 A.f__law_draw A.d__law_draw ["_law_deck_here", "_law_many"] spDraw := ok_draw T
  refine T.F__law_renamed.ok sc__law_renamed (fun vs H Q E h => ?_) (fun cdv Ar outer s H vs Q E hr h => ?_)
  · obtain ⟨_, _, _, _, _, _, _, _, rfl, _⟩ := h
    rfl
  obtain ⟨p, q, v, n, L, N, rows, ends, rfl, hD, hn, ht, hk, k⟩ := h
  obtain ⟨a, r, e, rs, rfl, ha, na, nr, ne, hr', tr, he⟩ := KindAt.parts ht
  refine ⟨_, (pss_cons (ps_asg (pv 1) (kTgT K (n := 3) (by rfl) (pgs_cons (pg_name (i := 2) sc__law_renamed.nd rfl (Or.inl rfl)) (pgs_cons (pg_name (i := 3) sc__law_renamed.nd rfl (Or.inr rfl)) (pgs_cons (pg_name (i := 4) sc__law_renamed.nd rfl (Or.inr rfl)) pgs_nil)))))
    (pss_cons (ps_set (i := 5) sc__law_renamed.nd rfl (Or.inl rfl) (pe_listRg rfl (by rfl) T.z_list (prg_2 (by rfl) T.z_range pe_int (pe_callB (id := "len") (kLenQ K) (by rfl) T.z_len (by decide +kernel) (pa_cons (pv 3) pa_nil)))))
    (pss_cons (ps_set (i := 6) sc__law_renamed.nd rfl (Or.inr rfl) (pe_lst (pa_cons pe_int pa_nil)))
    (pss_cons (ps_while PassesOwn.never (pt_cmpR (kNeNil K hr) (pv 5) (pe_lst pa_nil) (nomark _))
    (pss_one (ps_expr (kBm K (pe_bm PySem.F.plainAttrs_list PySem.F.slot_list_append PySem.F.type_list_append mt_append (pv 6) (pa_cons (kBm K (pe_bm PySem.F.plainAttrs_list PySem.F.slot_list_pop PySem.F.type_list_pop mt_popAt (pv 5) (pa_cons (pe_call G__law_draw (hr.mono (by first | decide | omega)) rfl T.m__law_draw T.k__law_draw T.b__law_draw .nil pass0 (pa_cons (pv 0) (pa_cons (pe_callB (id := "len") (kLenQ K) (by rfl) T.z_len (by decide +kernel) (pa_cons (pv 5) pa_nil)) pa_nil))) pa_nil))) pa_nil))))))
    (pss_cons (ps_set (i := 7) sc__law_renamed.nd rfl (Or.inr rfl) (pe_callTy (T := "dict") (call_dictP rfl) (by rfl) T.z_dict (by decide +kernel) (pa_cons (pe_lc (own := [("_law_k", 10)]) rfl sc__law_renamed.nd (pi_range1 (by rfl) T.z_range (pa_cons (pe_callB (id := "len") (kLenQ K) (by rfl) T.z_len (by decide +kernel) (pa_cons (pv 6) pa_nil)) pa_nil)) (blkOk_by (own := [("_law_k", 10)]) (N := N__law_renamed) (sc := defScope s__law_renamed) (by decide +kernel)) (fun _ _ _ _ _ => (pg_name (i := 10) sc__law_renamed.nd rfl (Or.inl rfl))) (fun _ _ _ _ _ => pts_nil) (fun _ _ _ _ _ => (pe_tup (pa_cons (pe_ix (kIxL K) (pv 6) (pv 10) (fun _ _ => rfl)) (pa_cons (pv 10) pa_nil))))) pa_nil)))
    (pss_cons (ps_setLc (i := 8) (own := [("_law_state", 9)]) (by rfl) sc__law_renamed.nd rfl rfl (sw_true rfl rfl rfl (by decide +kernel)) (kPiL K (pv 6)) (blkOk_by (own := [("_law_state", 9)]) (N := N__law_renamed) (sc := defScope s__law_renamed) (by decide +kernel)) (fun _ _ _ _ _ => (pg_name (i := 9) sc__law_renamed.nd rfl (Or.inl rfl))) (fun _ _ _ _ _ => pts_nil) (fun _ _ _ _ _ => (pe_callTy (T := "tuple") (kTupOf K) (by rfl) T.z_tuple (by decide +kernel) (pa_cons (pe_lc (own := [("_law_item", 11)]) rfl sc__law_renamed.nd (kPiT K (pe_ix (kIxT K) (pv 3) (pv 9) (fun _ _ => rfl))) (blkOk_by (own := [("_law_item", 11)]) (by kernel_rfl)) (fun _ _ _ _ _ => (pg_name (i := 11) sc__law_renamed.nd rfl (Or.inl rfl))) (fun _ _ _ _ _ => pts_nil) (fun _ _ _ _ _ => (pe_ifExp (pt_cmpR op_isN (pv 11) pe_non (nomark _)) pe_non (pe_dget (room1 hr) (pv 7) (pv 11) (fun _ _ => rfl))))) pa_nil))))
    (pss_one (ps_ret (pe_tup (pa_cons (pv 2) (pa_cons (pe_callTy (T := "tuple") (kTupOf K) (by rfl) T.z_tuple (by decide +kernel) (pa_cons (pv 8) pa_nil)) (pa_cons (pe_callTy (T := "tuple") (kTupOf K) (by rfl) T.z_tuple (by decide +kernel) (pa_cons (pe_lc (own := [("_law_state", 9)]) rfl sc__law_renamed.nd (kPiL K (pv 6)) (blkOk_by (own := [("_law_state", 9)]) (N := N__law_renamed) (sc := defScope s__law_renamed) (by decide +kernel)) (fun _ _ _ _ _ => (pg_name (i := 9) sc__law_renamed.nd rfl (Or.inl rfl))) (fun _ _ _ _ _ => pts_nil) (fun _ _ _ _ _ => (pe_ix (kIxT K) (pv 4) (pv 9) (fun _ _ => rfl)))) pa_nil)) pa_nil)))))))))))), ?_⟩
  have n9 := hk.n9
  have n1 := hk.n1
  have lrs := tr.len
  rw [List.length_map, hk.lr] at lrs
  have tk0 : Trk [p, q] H := hD.trk
  refine ⟨_, rfl, a, _, rfl, SqT.of ha, rfl, _, _, rfl, _, _, rfl, _, _, rfl, rfl, ?_⟩
  dsimp only [gName]
  refine ⟨_, rfl, r, rs, rfl, .inr (SqT.of hr'), 1, (rs.length : Nat), rfl, rfl, RgOk.of_le (by omega) (by omega) (by omega) (by omega), fun Wt hWt => ?_⟩
  have ew : rgV 1 ((rs.length : Nat) : Int) = ((List.range (N - 1)).map (1 + ·)).map nV := by
    unfold rgV
    rw [lrs, List.map_map, show (((N : Nat) : Int) - 1).toNat = N - 1 by omega]
    refine List.map_congr_left fun i _ => ?_
    show V.int (1 + (i : Nat)) = V.int ((1 + i : Nat) : Int)
    rw [show (1 : Int) + (i : Nat) = ((1 + i : Nat) : Int) by omega]
  rw [ew]
  have nW : Wt ∉ [p, q] := tk0.new hWt
  have s1 : Same H (upd H Wt (.lst (((List.range (N - 1)).map (1 + ·)).map nV))) := Same.new hWt
  have hW1 : (upd H Wt (.lst (((List.range (N - 1)).map (1 + ·)).map nV))) Wt = some (.lst (((List.range (N - 1)).map (1 + ·)).map nV)) := upd_same
  generalize upd H Wt (HO.lst (((List.range (N - 1)).map (1 + ·)).map nV)) = H1 at s1 hW1 ⊢
  dsimp only [gName]
  refine ⟨(show 1 ≤ sizeLine by decide), fun Or hOr => ?_⟩
  have nO : Or ∉ [p, q] := (tk0.same s1).new hOr
  have neWO : Wt ≠ Or := ne_of_none hW1 hOr
  have hO0 : H Or = none := Same.free s1 hOr
  have s2 : Same H (upd H1 Or (.lst [.int 0])) := s1.trans (Same.new hOr)
  have hO2 : (upd H1 Or (.lst [.int 0])) Or = some (.lst ([0].map nV)) := upd_same
  have hW2 : (upd H1 Or (.lst [.int 0])) Wt = some (.lst (((List.range (N - 1)).map (1 + ·)).map nV)) := by rw [upd_ne neWO]; exact hW1
  generalize upd H1 Or (HO.lst [V.int 0]) = H2 at s2 hO2 hW2 ⊢
  dsimp only [gName]
  have perm0 : ([0] ++ (List.range (N - 1)).map (1 + ·)).Perm (List.range N) := by
    refine List.Perm.of_eq ?_
    obtain ⟨m, rfl⟩ : ∃ m, N = m + 1 := ⟨N - 1, by omega⟩
    rw [List.range_succ_eq_map, Nat.add_sub_cancel]
    show 0 :: _ = _
    congr 1
    refine List.map_congr_left fun i _ => ?_
    show 1 + i = Nat.succ i
    omega
  refine sq (fun σ' H' => ∃ (ord : List Nat) (n' : Nat), σ' = [some (.ref p), some (.ref a), some (.int (L : Int)), some (.ref r), some (.ref e), some (.ref Wt), some (.ref Or), none, none, none, none, none] ∧ Deck H' p q n' ∧ n' ≤ n + 10 ∧ Ext [p, q] H H' ∧ H' Or = some (.lst (ord.map nV)) ∧ OrdOk N ord) (fun W hW => ?_) ?_
  · refine ⟨fun m σ' H' => ∃ (ord wt : List Nat) (n' : Nat), σ' = [some (.ref p), some (.ref a), some (.int (L : Int)), some (.ref r), some (.ref e), some (.ref Wt), some (.ref Or), none, none, none, none, none] ∧ Deck H' p q n' ∧ n' + wt.length ≤ n + 9 ∧ Ext [p, q] H H' ∧ H' Or = some (.lst (ord.map nV)) ∧ H' Wt = some (.lst (wt.map nV)) ∧
      (ord ++ wt).Perm (List.range N) ∧ ord.head? = some 0 ∧ m = wt.length, ⟨_, [0], (List.range (N - 1)).map (1 + ·), n, rfl, hD.same s2, by rw [List.length_map, List.length_range]; omega, Ext.same s2, hO2, hW2, perm0, rfl, rfl⟩, ?_⟩
    rintro m σ' H' ⟨ord, wt, n', rfl, dk, dn, eH, hO, hW', pm, h0, rfl⟩
    have lp := pm.length_eq
    rw [List.length_append, List.length_range] at lp
    refine ⟨_, rfl, Nat.zero_le _, fun u hu => ?_⟩
    have su : Same H' (upd H' u (.lst [])) := Same.new hu
    have hue : (upd H' u (.lst [])) u = some (.lst []) := upd_same
    generalize upd H' u (HO.lst []) = H3 at su hue ⊢
    have dk3 := dk.same su
    have e3 := eH.trans (Ext.same su)
    refine ⟨Wt, u, _, rfl, rfl, .inl ⟨SqL.of (su _ _ hW'), SqL.of hue⟩, _, rfl, if_ (fun hne => ?_) (fun hem => ?_)⟩
    · have nw : wt.length ≠ 0 := by
        intro z
        have z := List.eq_nil_of_length_eq_zero z
        subst z
        cases hne
      refine ⟨fun σ' H' => ∃ (ord' wt' : List Nat) (n' : Nat), σ' = [some (.ref p), some (.ref a), some (.int (L : Int)), some (.ref r), some (.ref e), some (.ref Wt), some (.ref Or), none, none, none, none, none] ∧ Deck H' p q n' ∧ n' + wt'.length ≤ n + 9 ∧ Ext [p, q] H H' ∧ H' Or = some (.lst (ord'.map nV)) ∧ H' Wt = some (.lst (wt'.map nV)) ∧
        (ord' ++ wt').Perm (List.range N) ∧ ord'.head? = some 0 ∧ wt'.length < wt.length, ?_, ?_⟩
      · rintro σ' H' ⟨ord', wt', n', rfl, x1, x2, x3, x4, x5, x6, x7, x8⟩
        exact ⟨_, x8, ord', wt', n', rfl, x1, x2, x3, x4, x5, x6, x7, rfl⟩
      refine ⟨_, rfl, .inl ⟨rfl, _, SqL.of (su _ _ hO)⟩, _, rfl, .inl ⟨rfl, _, SqL.of (su _ _ hW')⟩, _, rfl, _, rfl, Wt, _, rfl, .inl (SqL.of (su _ _ hW')), p, q, n', _, rfl, dk3, by omega, ?_, ?_, fun H4 x dk4 e4 x0 x1 => ?_⟩
      · rw [List.length_map]
        omega
      · rw [List.length_map]
        omega
      rw [List.length_map] at x1
      have hW4 := e4 _ _ nW (su _ _ hW')
      have hO4 := e4 _ _ nO (su _ _ hO)
      obtain ⟨kx, rfl⟩ : ∃ kx : Nat, x = (kx : Int) := ⟨x.toNat, (Int.toNat_of_nonneg x0).symm⟩
      have kl : kx < wt.length := by omega
      have er : (wt.map nV).eraseIdx kx = (wt.eraseIdx kx).map nV := by
        rw [List.eraseIdx_eq_take_drop_succ, List.eraseIdx_eq_take_drop_succ, List.map_append, List.map_take, List.map_drop]
      have sx : seqIndex? (kx : Int) (wt.map nV).length = some kx := by
        refine (ixN_seq ?_).1
        unfold ixN
        rw [if_pos (by omega), List.length_map, if_pos (by omega), Int.toNat_natCast]
      refine ⟨Wt, _, (kx : Int), kx, nV wt[kx], rfl, rfl, hW4, by omega, by omega, sx, by rw [List.getElem?_map, List.getElem?_eq_getElem kl]; rfl, ?_⟩
      rw [er]
      have hO5 : (upd H4 Wt (.lst ((wt.eraseIdx kx).map nV))) Or = some (.lst (ord.map nV)) := by rw [upd_ne neWO.symm]; exact hO4
      refine ⟨Or, _, nV wt[kx], rfl, rfl, hO5, ?_, ?_⟩
      · rw [List.length_map]
        exact Nat.lt_of_le_of_lt (show ord.length ≤ 100 by omega) (by decide)
      · have em : ord.map nV ++ [nV wt[kx]] = (ord ++ [wt[kx]]).map nV := by rw [List.map_append]; rfl
        rw [em]
        refine ⟨ord ++ [wt[kx]], wt.eraseIdx kx, n' + 1, rfl, stay_ tk0 hO0 (stay_ tk0 hWt dk4), ?_, Ext.newer (Ext.newer (e3.trans e4) hWt) hO0, upd_same, by rw [upd_ne neWO, upd_same], ?_, ?_, ?_⟩
        · rw [List.length_eraseIdx_of_lt kl]
          omega
        · refine List.Perm.trans ?_ pm
          rw [List.append_assoc]
          exact (List.Perm.append_left ord (erase_perm (List.getElem?_eq_getElem kl)).symm)
        · cases ord with
          | nil => cases h0
          | cons => exact h0
        · rw [List.length_eraseIdx_of_lt kl]
          omega
    · have z : wt = [] := by
        cases wt with
        | nil => rfl
        | cons => cases hem
      subst z
      rw [List.append_nil] at pm
      exact hW _ _ ⟨ord, n', rfl, dk3, by omega, e3, su _ _ hO, pm, h0⟩
  rintro σ' H' ⟨ord, n', rfl, dk, dn, eH, hO, ook⟩
  obtain ⟨ha', hr2, he'⟩ := KindAt.ext eH na nr ne ha hr' he
  have tk' : Trk [p, q] H' := dk.trk
  have lo := ook.len
  have tN : ((N : Nat) : Int).toNat = N := Int.toNat_natCast N
  have cons_trk : ∀ {D : Addr} {F : Hp}, F D ≠ none → Trk [p, q] F → Trk [D, p, q] F := fun h t b hb => by
    rcases List.mem_cons.mp hb with rfl | hb
    · exact h
    · exact t b hb
  refine ⟨_, rfl, Or, _, rfl, .inl (SqL.of hO), (N : Int), by rw [List.length_map, lo], by omega, by omega, fun D hD => ?_⟩
  rw [tN]
  refine lcR2 (K := K) (M := [p, q]) (N := []) (n := N) (fun _ _ => True) (fun _ => true) (fun d e => ∃ i : Nat, d = .int (i : Int) ∧ e = .tuple [.int (ord.getD i 0 : Int), .int (i : Int)]) (by omega) (by simp) tk' hD trivial (fun _ _ _ _ => trivial) ?_ ?_
  · intro j F hj e2 _ nD2 Ky Kn _ ky
    have s2' := same_ext e2
    have jl : j < ord.length := by omega
    have eg : ord.getD j 0 = ord[j] := by rw [List.getD_eq_getElem?_getD, List.getElem?_eq_getElem jl, Option.getD_some]
    refine ⟨rfl, yes_ ?_⟩
    refine ⟨_, rfl, _, rfl, Or, _, (j : Int), nV ord[j], rfl, rfl, SqL.of (s2' _ _ hO), atI_nat (by rw [List.getElem?_map, List.getElem?_eq_getElem jl]; rfl), _, rfl, (show 2 ≤ sizeLine by decide), fun t ht2 => ?_⟩
    obtain ⟨s3, _, t3, _⟩ := atT (K := K) (cons_trk nD2 (tk'.same s2')) (.cons (.int (ord[j] : Int)) (.one (.int (j : Int)))) ht2
    exact ky rfl _ _ _ (Ext.same s3) trivial t3 ⟨j, rfl, by rw [eg]⟩
  intro F1 ys es e1 _ hy ty pr
  rw [U.filter_all] at pr
  have ee : es = (List.range N).map fun i => .tuple [.int (ord.getD i 0 : Int), .int (i : Int)] := paired_fn (g := nD) (fun a e ⟨s, h1, h2⟩ => by
    have h3 : PyData.int (a : Int) = PyData.int (s : Int) := h1
    injection h3 with h3
    have : a = s := by omega
    rw [h2, this]) pr
  subst ee
  clear pr
  have f1 := same_ext e1
  obtain ⟨ps, hps, hpp⟩ := pairs_of ty
  subst hps
  have ekv : (List.range N).map (fun i : Nat => ((Sum.inl (ord.getD i 0 : Int) : L2.Key), V.int (i : Int))) = ordKV ord := by unfold ordKV; rw [lo]
  rw [ekv] at hpp
  refine ⟨D, ps, ordKV ord, rfl, SqL.of hy, paired_mono (fun _ _ h => SqT.of h) hpp, fun Nw hNw => ?_⟩
  have f2 : Same F1 (upd F1 Nw (.dK (mergeK [] (ordKV ord)))) := Same.new hNw
  have hN2 : (upd F1 Nw (.dK (mergeK [] (ordKV ord)))) Nw = some (.dK (mergeK [] (ordKV ord))) := upd_same
  generalize upd F1 Nw (HO.dK (mergeK [] (ordKV ord))) = F2 at f2 hN2 ⊢
  have f12 := f1.trans f2
  have tr2 := (tr.ext eH).same f12
  have hr4 := f12 _ _ hr2
  have hO4 := f12 _ _ hO
  have tk2 := tk'.same f12
  dsimp only [gName]
  refine ⟨_, rfl, Or, rfl, ⟨_, SqL.of hO4⟩, fun D2 hD2 => ?_⟩
  refine lcL2 (K := K) (M := [p, q]) (N := []) (fun _ _ => True) (fun _ => true) (fun d e => ∃ s : Nat, d = .int (s : Int) ∧ e = rowD ((rows.getD s []).map fun o => o.map fun t => ord.idxOf t)) hO4 nO (ta_nats _) (by rw [List.length_map]; omega) (by simp) tk2 hD2 trivial (fun _ _ _ _ => trivial) ?_ ?_
  · intro j x d F3 hd td e3 _ nD3 Ky Kn _ ky
    have s3 := same_ext e3
    rw [List.getElem?_map] at hd
    obtain ⟨t, htj, rfl⟩ := Option.map_eq_some_iff.mp hd
    cases td
    have tN' : t < N := (ook.mem t).mp (List.mem_of_getElem? htj)
    have tl : t < rows.length := by rw [hk.lr]; exact tN'
    have etl : rows.getD t [] = rows[t] := by rw [List.getD_eq_getElem?_getD, List.getElem?_eq_getElem tl, Option.getD_some]
    obtain ⟨b, its, hb, hits, nb, ti⟩ := rowAt (tr2.same s3) tl
    have tiD := (tr2.plus hD2).same s3
    obtain ⟨b2, its2, hb2, hits2, nb2, ti2⟩ := rowAt tiD tl
    have eb : b2 = b := by
      rw [hb] at hb2
      exact (V.ref.inj (Option.some.inj hb2)).symm
    subst eb
    obtain ⟨lrow, hrow⟩ := hk.row rows[t] (List.getElem_mem tl)
    have l4 := hk.l4
    refine ⟨rfl, yes_ ?_⟩
    refine ⟨_, rfl, _, rfl, r, rs, (t : Int), .ref b2, rfl, rfl, SqT.of (s3 _ _ hr4), atI_nat hb, b2, rfl, ⟨_, SqT.of hits⟩, fun D3 hD3 => ?_⟩
    have tkD := cons_trk nD3 (tk2.same s3)
    refine lcT2 (K := K) (M := [D2, p, q]) (N := []) (fun _ _ => True) (fun _ => true) (fun d e => ∃ o, d = itemD o ∧ e = itemD (o.map fun t => ord.idxOf t)) hits2 nb2 ti2 (by rw [List.length_map]; omega) (by simp) tkD hD3 trivial (fun _ _ _ _ => trivial) ?_ ?_
    · intro j2 x2 d2 F4 hd2 td2 e4 _ _ Ky2 Kn2 _ ky2
      have s4 := same_ext e4
      rw [List.getElem?_map] at hd2
      obtain ⟨o, ho, rfl⟩ := Option.map_eq_some_iff.mp hd2
      refine ⟨rfl, yes_ ?_⟩
      cases o with
      | none =>
        cases td2
        exact ⟨_, rfl, rfl, _, rfl, if_t rfl (ky2 rfl F4 _ _ (Ext.refl _ _) trivial .non ⟨none, rfl, rfl⟩)⟩
      | some u =>
        cases td2
        have uN := hrow u (List.mem_of_getElem? ho)
        refine ⟨_, rfl, rfl, _, rfl, if_f rfl ⟨_, rfl, _, rfl, Nw, .int (ord.idxOf u : Int), rfl, .inl ⟨_, .inl (u : Int), .inl (s4 _ _ (s3 _ _ hN2)), rfl, (ordKV_get ook uN).symm⟩, ?_⟩⟩
        exact ky2 rfl F4 _ _ (Ext.refl _ _) trivial (.int _) ⟨some u, rfl, rfl⟩
    · intro F4 zs es4 e4 _ hz tz pr4
      rw [U.filter_all] at pr4
      have s4 := same_ext e4
      have e5 : es4 = rows[t].map fun o => itemD (o.map fun t => ord.idxOf t) := paired_fn (g := itemD) (fun a e ⟨o, h1, h2⟩ => by rw [h2, itemD_inj h1]) pr4
      subst e5
      refine ⟨D3, zs, rfl, .inl ⟨SqL.of hz, fun t2 ht2 => ?_⟩⟩
      obtain ⟨s5, _, t5, _⟩ := atT (K := K) (tkD.same s4) tz ht2
      refine ky rfl _ _ _ (Ext.same (s4.trans s5)) trivial t5 ⟨t, rfl, ?_⟩
      rw [etl]
      unfold rowD
      rw [List.map_map]
      rfl
  intro F3 zs es3 e3 _ hz tz pr3
  rw [U.filter_all] at pr3
  have e4 : es3 = ord.map fun s => rowD ((rows.getD s []).map fun o => o.map fun t => ord.idxOf t) := paired_fn (g := nD) (fun a e ⟨s, h1, h2⟩ => by
    have h3 : PyData.int (a : Int) = PyData.int (s : Int) := h1
    injection h3 with h3
    have : a = s := by omega
    rw [h2, this]) pr3
  subst e4
  clear pr3
  have f3 := same_ext e3
  dsimp only [gName]
  refine ⟨_, rfl, _, rfl, D2, zs, rfl, .inl ⟨SqL.of hz, fun t1 ht1 => ?_⟩⟩
  obtain ⟨f4, tk4, tt1, _⟩ := atT (K := K) (tk2.same f3) tz ht1
  generalize upd F3 t1 (HO.tup zs) = F4 at f4 tk4 tt1 ⊢
  have f14 := (f12.trans f3).trans f4
  refine ⟨_, rfl, Or, rfl, ⟨_, SqL.of (f14 _ _ hO)⟩, fun D5 hD5 => ?_⟩
  refine lcL2 (K := K) (M := [p, q]) (N := []) (fun _ _ => True) (fun _ => true) (fun d e => ∃ s : Nat, d = .int (s : Int) ∧ e = .bool (ends.getD s false)) (f14 _ _ hO) nO (ta_nats _) (by rw [List.length_map]; omega) (by simp) tk4 hD5 trivial (fun _ _ _ _ => trivial) ?_ ?_
  · intro j x d F5 hd td e5 _ _ Ky Kn _ ky
    have s5 := f14.trans (same_ext e5)
    rw [List.getElem?_map] at hd
    obtain ⟨t, htj, rfl⟩ := Option.map_eq_some_iff.mp hd
    cases td
    have tN' : t < N := (ook.mem t).mp (List.mem_of_getElem? htj)
    have hte : t < ends.length := by rw [hk.le]; exact tN'
    have eg : ends.getD t false = ends[t] := by rw [List.getD_eq_getElem?_getD, List.getElem?_eq_getElem hte, Option.getD_some]
    refine ⟨rfl, yes_ ?_⟩
    refine ⟨_, rfl, _, rfl, e, _, (t : Int), .bl ends[t], rfl, rfl, SqT.of (s5 _ _ he'), atI_nat (by rw [List.getElem?_map, List.getElem?_eq_getElem hte]; rfl), ?_⟩
    exact ky rfl F5 _ _ (Ext.refl _ _) trivial (.bl _) ⟨t, rfl, by rw [eg]⟩
  intro F5 bs es5 e5 _ hb tb pr5
  rw [U.filter_all] at pr5
  have e6 : es5 = ord.map fun s => .bool (ends.getD s false) := paired_fn (g := nD) (fun a e ⟨s, h1, h2⟩ => by
    have h3 : PyData.int (a : Int) = PyData.int (s : Int) := h1
    injection h3 with h3
    have : a = s := by omega
    rw [h2, this]) pr5
  subst e6
  have f5 := same_ext e5
  refine ⟨D5, bs, rfl, .inl ⟨SqL.of hb, fun t6 ht6 => ?_⟩⟩
  obtain ⟨f6, tk6, tt6, _⟩ := atT (K := K) (tk4.same f5) tb ht6
  have tt1' := (tt1.same f5).same f6
  generalize upd F5 t6 (HO.tup bs) = F6 at f6 tk6 tt6 tt1' ⊢
  refine ⟨(show 3 ≤ sizeLine by decide), fun t7 ht7 => ?_⟩
  obtain ⟨f7, tk7, tt7, _⟩ := atT (K := K) tk6 (.cons (.int (L : Int)) (.cons tt1' (.one tt6))) ht7
  have fz := ((f14.trans f5).trans f6).trans f7
  have ek : kindD L (renRows ord rows) (renEnds ord ends) = .tuple [.int (L : Int), .tuple (ord.map fun s => rowD ((rows.getD s []).map fun o => o.map fun t => ord.idxOf t)), .tuple (ord.map fun s => .bool (ends.getD s false))] := by
    unfold kindD renRows renEnds
    rw [List.map_map, List.map_map]
    rfl
  refine k _ n' _ (renRows ord rows) (renEnds ord ends) (dk.same fz) dn (eH.trans (Ext.same fz)) ?_ (ren_kind hk ook) (ren_is hk ook)
  rw [ek]
  exact tt7
end

/-! ### the law -/
section
variable {K : PySem.W.Frag} {M N : List Addr} {g : TG} {tt : TT} {te : TE} {vs : List Nat} {σ : L2.St} {H1 : Hp} {D : Addr} {Qd : Hp → Prop}
/-- lcL, and what stands in the new list's place is a list -/
theorem lcL3 {a : Addr} {xs : List V} {ds : List PyData} (J : Nat → Hp → Prop) (keep : PyData → Bool) (f : PyData → PyData → Prop) (ha : H1 a = some (.lst xs)) (na : a ∉ M) (ht : TA K M H1 xs ds) (hl : ds.length ≤ 100000)
    (hNM : ∀ b ∈ N, b ∈ M) (hN : ∀ b ∈ M, H1 b ≠ none) (hD : H1 D = none) (j0 : J 0 H1) (hJ : ∀ i H o, J i H → J i (upd H D o))
    (turn : ∀ i x d H, ds[i]? = some d → T K (D :: M) H x d → Ext N H1 H → J i H → (∃ acc, H D = some (.lst acc)) → ∀ (Ky : V → Hp → Prop) (Kn : Hp → Prop), (keep d = false → ∀ H', Ext N H H' → J (i + 1) H' → Kn H') →
      (keep d = true → ∀ H' y e, Ext N H H' → J (i + 1) H' → T K (D :: M) H' y e → f d e → Ky y H') → Turn g tt te vs σ x H Ky Kn)
    (hd : ∀ H ys es, Ext N H1 H → J ds.length H → H D = some (.lst ys) → TA K M H ys es → Paired f (ds.filter keep) es → Qd H) :
    ∃ W : Nat → Nat → Hp → Prop, (∃ m, W 0 m (upd H1 D (.lst []))) ∧ ∀ i m H, W i m H →
      ((Itl K a).stop i H ∧ Qd H) ∨ ((Itl K a).go i H ∧ ∃ Nx : Hp → Prop, (∀ H', Nx H' → ∃ m', m' < m ∧ W (i + 1) m' H') ∧ ∀ x H', (Itl K a).yld i H x H' → g x (wipe σ vs) H' fun σ2 H2 => wipe σ2 vs = wipe σ vs ∧ tt σ2 H2 fun b H3 =>
        if b = true then te σ2 H3 fun y H4 => ∃ acc, H4 D = some (.lst acc) ∧ acc.length < sizeLine ∧ Nx (upd H4 D (.lst (acc ++ [y]))) else Nx H3) := by
  have hDM : D ∉ M := fun z => hN D z hD
  have hDN : D ∉ N := fun z => hDM (hNM D z)
  have naN : a ∉ N := fun z => na (hNM a z)
  have hT : TA K (D :: M) H1 xs ds := ht.plus hD
  refine lc_list (K := K) (a := a) (xs := xs) (fun i H => Sofar K (D :: M) N H1 D J keep f ds i H) ⟨[], [], Ext.new hD, hJ _ _ _ j0, upd_same, .nil, by simpa using Paired.nil⟩ (fun i H _ p => ?_) (fun i x H hx p => ?_) (fun H p => ?_)
  · obtain ⟨_, _, e, _⟩ := p
    exact SqL.of (e _ _ naN ha)
  · obtain ⟨d, hdi, td⟩ := hT.get hx
    have e := let ⟨_, _, e, _⟩ := p; e
    have j := let ⟨_, _, _, j, _⟩ := p; j
    have hy : ∃ acc, H D = some (.lst acc) := let ⟨ys, _, _, _, h, _⟩ := p; ⟨ys, h⟩
    exact sofar_turn hl hNM hDN hDM hD hJ hdi p (turn i x d H hdi (td.ext (e.sub fun b hb => List.mem_cons_of_mem _ (hNM b hb))) e j hy)
  · obtain ⟨ys, es, e, j, h1, h2, h3⟩ := p
    rw [ht.len, List.take_length] at h3
    rw [ht.len] at j
    exact hd H ys es e j h1 (h2.off fun b hb => List.mem_cons_of_mem _ hb) h3
end
theorem ta_same {K : PySem.W.Frag} {M : List Addr} {H : Hp} {v : V} {d : PyData} (t : T K M H v d) : ∀ n : Nat, TA K M H (List.replicate n v) (List.replicate n d)
  | 0 => .nil
  | n + 1 => .cons t (ta_same t n)
theorem timesA {K : PySem.W.Frag} {H : Hp} {u : Addr} {b : Bool} {N : Nat} {Q : VK} (hu : H u = some (.tup [V.bl b])) (n1 : 1 ≤ N) (n9 : N ≤ 9) (k : ∀ r F, Same H F → T K [] F r (.tuple (List.replicate N (.bool b))) → Q r F) : rTimes K (.ref u) (.int (N : Int)) H Q := by
  refine ⟨u, (N : Int), _, rfl, rfl, SqT.of hu, by simp, by omega, by omega, (show 1 ≤ 1000 by decide), fun e => ?_, fun _ p hp => ?_⟩
  · obtain rfl : N = 1 := by omega
    exact k _ _ (Same.refl _) (.tup (by simp) hu (.one (.bl b)))
  · rw [Int.toNat_natCast, flat_rep]
    have s := Same.new (o := .tup (List.replicate N (V.bl b))) hp
    exact k _ _ s (.tup (by simp) upd_same (ta_same (.bl b) N))
theorem sh_bools (a b c : Bool) : Shown (.list [.bool a, .bool b, .bool c]) := ((FineL.cons (fine_bool a) (FineL.cons (fine_bool b) (FineL.cons (fine_bool c) FineL.nil))).list.more (w' := 100) (dp' := 9) (by decide) (by decide)).shown (by decide) (by decide)
theorem sh_states (N : Nat) (n9 : N ≤ 9) (f g : Nat → Bool) : Shown (.list [.tuple (((List.range N).filter f).map nD), .tuple (((List.range N).filter g).map nD)]) := by
  have one : ∀ f : Nat → Bool, Fine 369 1 (.tuple (((List.range N).filter f).map nD)) := fun f => by
    refine fine_tup (w := 40) (dp := 0) (n := 9) (fun d hd => ?_) ?_
    · obtain ⟨x, hx, rfl⟩ := List.mem_map.mp hd
      have := List.mem_range.mp (List.mem_filter.mp hx).1
      exact fine_int (by omega)
    · have := List.length_filter_le f (List.range N)
      rw [List.length_range] at this
      rw [List.length_map]
      omega
  exact ((FineL.cons (one f) (FineL.cons (one g) FineL.nil)).list.more (w' := 1000) (dp' := 9) (by decide) (by decide)).shown (by decide) (by decide)
theorem filt_eq {N : Nat} {f g : Nat → Bool} {P : Nat → Prop} (hf : ∀ s, s < N → (f s = true ↔ P s)) (hg : ∀ s, s < N → (g s = true ↔ P s)) : (List.range N).filter f = (List.range N).filter g :=
  List.filter_congr fun x hx => by
    have l := List.mem_range.mp hx
    exact Bool.eq_iff_iff.mpr ((hf x l).trans (hg x l).symm)
theorem rch_nil {steps : List (List Nat)} {s : Nat} (h : Rch steps [] s) : False := by
  induction h with
  | base h => cases h
  | next _ _ ih => exact ih
theorem tiny_ok (b : Bool) : KindOk 1 1 [[none]] [b] := ⟨rfl, rfl, fun r hr => by
  have : r = [none] := by simpa using hr
  rw [this]
  exact ⟨rfl, fun n hn => by simp at hn⟩, by decide, by decide, by decide, by decide⟩
theorem tiny_used {b : Bool} {f : Nat → Bool} (h : ∀ s, s < 1 → (f s = true ↔ Used [[none]] [b] 1 s)) : (List.range 1).filter f = if b then [0] else [] := by
  have e : f 0 = b := by
    cases b with
    | true => exact (h 0 (by decide)).mpr ⟨.base (by simp), .base (by simp)⟩
    | false =>
      cases e : f 0 with
      | false => rfl
      | true =>
        have := ((h 0 (by decide)).mp e).2
        exact (rch_nil (by simpa using this)).elim
  show List.filter f [0] = _
  cases b with
  | true => rw [List.filter_cons_of_pos e]; rfl
  | false => rw [List.filter_cons_of_neg (by rw [e]; decide)]; rfl
def wordsV (wss : List (List Nat)) : List V := wss.map fun ws => V.str (txt ws)
def WordsOk (L : Nat) (wss : List (List Nat)) : Prop := ∀ ws ∈ wss, (∀ c ∈ ws, c < L) ∧ ws.length ≤ 400
theorem WordsOk.snoc {L : Nat} {wss : List (List Nat)} {ws : List Nat} (h : WordsOk L wss) (h1 : ∀ c ∈ ws, c < L) (h2 : ws.length ≤ 400) : WordsOk L (wss ++ [ws]) := fun x hx => by
  rcases List.mem_append.mp hx with hx | hx
  · exact h x hx
  · have : x = ws := by simpa using hx
    rw [this]
    exact ⟨h1, h2⟩
theorem wordsV_snoc (wss : List (List Nat)) (ws : List Nat) : wordsV wss ++ [V.str (txt ws)] = wordsV (wss ++ [ws]) := by
  unfold wordsV
  rw [List.map_append]
  rfl
def spLaw (K : PySem.W.Frag) : Sp := fun vs H Q _ => ∃ (a : Addr) (ns : List Int), vs = [.ref a] ∧ SqL K H a (ns.map V.int) ∧ ns.length ≤ 63 ∧ ∀ H', Q (.bl true) H'
theorem kindD_fine {L N : Nat} {rows : List (List (Option Nat))} {ends : List Bool} (k : KindOk L N rows ends) : Fine 1700 3 (kindD L rows ends) := by
  have l4 := k.l4
  have n9 := k.n9
  have f1 : Fine 40 2 (.int (L : Int)) := (fine_int (by omega)).more (Nat.le_refl _) (by decide)
  have f2 : Fine 1485 2 (.tuple (rows.map rowD)) := by
    refine fine_tup (w := 164) (dp := 1) (n := 9) (fun r hr => ?_) (by rw [List.length_map, k.lr]; omega)
    obtain ⟨x, hx, rfl⟩ := List.mem_map.mp hr
    obtain ⟨h1, h2⟩ := k.row x hx
    refine fine_tup (w := 40) (dp := 0) (n := 4) (fun y hy => ?_) (by rw [List.length_map]; omega)
    obtain ⟨o, ho, rfl⟩ := List.mem_map.mp hy
    cases o with
    | none => exact fine_none.more (by decide) (Nat.le_refl _)
    | some n =>
      have := h2 n ho
      exact fine_int (by omega)
  have f3 : Fine 9 2 (.tuple (ends.map .bool)) := by
    refine (fine_tup (w := 0) (dp := 0) (n := 9) (fun e he => ?_) (by rw [List.length_map, k.le]; omega)).more (Nat.le_refl _) (by decide)
    obtain ⟨b, _, rfl⟩ := List.mem_map.mp he
    exact fine_bool b
  exact (FineL.cons f1 (FineL.cons f2 (FineL.cons f3 FineL.nil))).tup.more (by decide) (by decide)
section
variable {P : Program} {w : World} {K : PySem.W.Frag} {mg : Str → Option Value} {base : Heap} {A : Adrs}
theorem ok_law (T : Txt K mg A) : FnG P w K mg base 6 A.f_law A.d_law ["_law_script"] (spLaw K) := by
  have G__law_deck : FnOk P w K mg base CX0 1 A.f__law_deck A.d__law_deck ["_law_script"] (spDeck K) := ok_deck T
  have G__law_draw : FnOk P w K mg base CX0 1 A.f__law_draw A.d__law_draw ["_law_deck_here", "_law_many"] spDraw := ok_draw T
  have G__law_kind : FnOk P w K mg base CX0 3 A.f__law_kind A.d__law_kind ["_law_deck_here", "_law_letters", "_law_many"] (spKind K) := ok_lawKind T
  have G__law_line : FnOk P w K mg base CX0 3 A.f__law_line A.d__law_line ["_law_deck_here", "_law_letters", "_law_many"] (spKind K) := ok_lawLine T
  have G__law_renamed : FnOk P w K mg base CX0 3 A.f__law_renamed A.d__law_renamed ["_law_deck_here", "_law_kind_here"] (spRenamed K) := ok_lawRenamed T
  have G__law_word : FnOk P w K mg base CX0 3 A.f__law_word A.d__law_word ["_law_deck_here", "_law_letters", "_law_most"] spWord := ok_lawWord T
  have G__law_walked : FnOk P w K mg base CX0 3 A.f__law_walked A.d__law_walked ["_law_deck_here", "_law_kind_here", "_law_most"] (spWalked K) := ok_lawWalked T
  have G__law_otherwise : FnOk P w K mg base CX0 3 A.f__law_otherwise A.d__law_otherwise ["_law_deck_here", "_law_letters", "_law_word_here"] (spOther K) := ok_lawOther T
  have G__law_read : FnOk P w K mg base CX0 2 A.f__law_read A.d__law_read ["_law_kind_here", "_law_word_here"] (spRead K) := ok_lawRead T
  have G__law_used : FnOk P w K mg base CX0 2 A.f__law_used A.d__law_used ["_law_kind_here"] (spLawUsed K) := ok_lawUsed T
  have G_is_of : FnOk P w K mg base CX0 2 A.f_is_of A.d_is_of ["kind", "word"] (spIs K) := ok_isOf T
  have G_used : FnOk P w K mg base CX0 2 A.f_used A.d_used ["kind"] (spUsed K) := ok_used T
  refine okG T.F_law sc_law (fun vs H Q E h => ?_) (fun cdv Ar outer s H vs Q E hG hr h => ?_)
  · obtain ⟨_, _, rfl, _⟩ := h
    rfl
  obtain ⟨a, ns, rfl, hS, hl, k⟩ := h
  refine ⟨_, (pss_cons (ps_set (i := 1) sc_law.nd rfl (Or.inl rfl) (pe_call G__law_deck (hr.mono (by first | decide | omega)) rfl T.m__law_deck T.k__law_deck T.b__law_deck .nil pass0 (pa_cons (pv 0) pa_nil)))
    (pss_cons (ps_for PassesOwn.never rfl (pi_range1 (by rfl) T.z_range (pa_cons pe_int pa_nil)) (pg_name (i := 2) sc_law.nd rfl (Or.inl rfl))
    (pss_cons (ps_par (i := 3) (j := 4) (by rfl) sc_law.nd rfl rfl (by decide) rfl rfl (pa_cons (pe_op op_add pe_int (pe_call G__law_draw (hr.mono (by first | decide | omega)) rfl T.m__law_draw T.k__law_draw T.b__law_draw .nil pass0 (pa_cons (pv 1) (pa_cons pe_int pa_nil)))) (pa_cons (pe_op op_add pe_int (pe_call G__law_draw (hr.mono (by first | decide | omega)) rfl T.m__law_draw T.k__law_draw T.b__law_draw .nil pass0 (pa_cons (pv 1) (pa_cons pe_int pa_nil)))) pa_nil)) (by rfl))
    (pss_cons (ps_set (i := 5) sc_law.nd rfl (Or.inl rfl) (pe_ifExp (pt_cmpR op_gt (pe_op op_mod (pv 2) pe_int) pe_int (nomark _)) (pe_call G__law_kind (hr.mono (by first | decide | omega)) rfl T.m__law_kind T.k__law_kind T.b__law_kind .nil pass0 (pa_cons (pv 1) (pa_cons (pv 3) (pa_cons (pv 4) pa_nil)))) (pe_call G__law_line (hr.mono (by first | decide | omega)) rfl T.m__law_line T.k__law_line T.b__law_line .nil pass0 (pa_cons (pv 1) (pa_cons (pv 3) (pa_cons (pv 4) pa_nil))))))
    (pss_cons (ps_par (i := 6) (j := 7) (by rfl) sc_law.nd rfl rfl (by decide) rfl rfl (pa_cons (pe_call G__law_renamed (hr.mono (by first | decide | omega)) rfl T.m__law_renamed T.k__law_renamed T.b__law_renamed .nil pass0 (pa_cons (pv 1) (pa_cons (pv 5) pa_nil))) (pa_cons (pe_callB (id := "repr") (kRepr K hG hr) (by rfl) T.z_repr (by decide +kernel) (pa_cons (pv 5) pa_nil)) pa_nil)) (by rfl))
    (pss_cons (ps_set (i := 8) sc_law.nd rfl (Or.inl rfl) (pe_lst (pa_cons pe_str (pa_cons (pe_call G__law_word (hr.mono (by first | decide | omega)) rfl T.m__law_word T.k__law_word T.b__law_word .nil pass0 (pa_cons (pv 1) (pa_cons (pv 3) (pa_cons pe_int pa_nil)))) (pa_cons (pe_call G__law_word (hr.mono (by first | decide | omega)) rfl T.m__law_word T.k__law_word T.b__law_word .nil pass0 (pa_cons (pv 1) (pa_cons (pv 3) (pa_cons pe_int pa_nil)))) (pa_cons (pe_call G__law_walked (hr.mono (by first | decide | omega)) rfl T.m__law_walked T.k__law_walked T.b__law_walked .nil pass0 (pa_cons (pv 1) (pa_cons (pv 5) (pa_cons pe_int pa_nil)))) pa_nil))))))
    (pss_cons (ps_for PassesOwn.never rfl (pi_range1 (by rfl) T.z_range (pa_cons pe_int pa_nil)) (pg_name (i := 9) sc_law.nd rfl (Or.inl rfl))
    (pss_cons (ps_expr (kBm K (pe_bm PySem.F.plainAttrs_list PySem.F.slot_list_append PySem.F.type_list_append mt_append (pv 8) (pa_cons (pe_call G__law_walked (hr.mono (by first | decide | omega)) rfl T.m__law_walked T.k__law_walked T.b__law_walked .nil pass0 (pa_cons (pv 1) (pa_cons (pv 5) (pa_cons pe_int pa_nil)))) pa_nil))))
    (pss_one (ps_expr (kBm K (pe_bm PySem.F.plainAttrs_list PySem.F.slot_list_append PySem.F.type_list_append mt_append (pv 8) (pa_cons (pe_call G__law_otherwise (hr.mono (by first | decide | omega)) rfl T.m__law_otherwise T.k__law_otherwise T.b__law_otherwise .nil pass0 (pa_cons (pv 1) (pa_cons (pv 3) (pa_cons (pe_ix (kIxL K) (pv 8) (pe_un un_neg pe_int) (fun _ _ => rfl)) pa_nil)))) pa_nil)))))))
    (pss_cons (ps_for PassesOwn.never rfl (kPiL K (pv 8)) (pg_name (i := 10) sc_law.nd rfl (Or.inl rfl))
    (pss_cons (ps_set (i := 11) sc_law.nd rfl (Or.inl rfl) (pe_call G__law_read (hr.mono (by first | decide | omega)) rfl T.m__law_read T.k__law_read T.b__law_read .nil pass0 (pa_cons (pv 5) (pa_cons (pv 10) pa_nil))))
    (pss_one (ps_if (pt_cmpR op_ne (pe_callB (id := "repr") (kRepr K hG hr) (by rfl) T.z_repr (by decide +kernel) (pa_cons (pe_lst (pa_cons (pe_call G_is_of (hr.mono (by first | decide | omega)) rfl T.m_is_of T.k_is_of T.b_is_of .nil pass0 (pa_cons (pv 5) (pa_cons (pv 10) pa_nil))) (pa_cons (pe_call G_is_of (hr.mono (by first | decide | omega)) rfl T.m_is_of T.k_is_of T.b_is_of .nil pass0 (pa_cons (pv 6) (pa_cons (pv 10) pa_nil))) (pa_cons (pe_call G_is_of (hr.mono (by first | decide | omega)) rfl T.m_is_of T.k_is_of T.b_is_of .nil pass0 (pa_cons (pv 5) (pa_cons (pv 10) pa_nil))) pa_nil)))) pa_nil)) (pe_callB (id := "repr") (kRepr K hG hr) (by rfl) T.z_repr (by decide +kernel) (pa_cons (pe_lst (pa_cons (pv 11) (pa_cons (pv 11) (pa_cons (pv 11) pa_nil)))) pa_nil)) (nomark _)) (pss_one (ps_ret pe_bl))
    pss_nil))))
    (pss_cons (ps_for PassesOwn.never rfl (kPiL K (pe_lst (pa_cons (pv 5) (pa_cons (pv 6) (pa_cons (pe_tup (pa_cons (pv 3) (pa_cons (pe_ix (kIxT K) (pv 5) pe_int (fun _ _ => rfl)) (pa_cons (pe_op (kTimes K) (pe_tup (pa_cons pe_bl pa_nil)) (pv 4)) pa_nil)))) (pa_cons (pe_tup (pa_cons (pv 3) (pa_cons (pe_ix (kIxT K) (pv 5) pe_int (fun _ _ => rfl)) (pa_cons (pe_op (kTimes K) (pe_tup (pa_cons pe_bl pa_nil)) (pv 4)) pa_nil)))) pa_nil)))))) (pg_name (i := 12) sc_law.nd rfl (Or.inl rfl))
    (pss_one (ps_if (pt_cmpR op_ne (pe_callB (id := "repr") (kRepr K hG hr) (by rfl) T.z_repr (by decide +kernel) (pa_cons (pe_lst (pa_cons (pe_call G_used (hr.mono (by first | decide | omega)) rfl T.m_used T.k_used T.b_used .nil pass0 (pa_cons (pv 12) pa_nil)) (pa_cons (pe_call G_used (hr.mono (by first | decide | omega)) rfl T.m_used T.k_used T.b_used .nil pass0 (pa_cons (pv 12) pa_nil)) pa_nil))) pa_nil)) (pe_callB (id := "repr") (kRepr K hG hr) (by rfl) T.z_repr (by decide +kernel) (pa_cons (pe_op op_rep (pe_lst (pa_cons (pe_callTy (T := "tuple") (kTupOf K) (by rfl) T.z_tuple (by decide +kernel) (pa_cons (pe_call G__law_used (hr.mono (by first | decide | omega)) rfl T.m__law_used T.k__law_used T.b__law_used .nil pass0 (pa_cons (pv 12) pa_nil)) pa_nil)) pa_nil)) pe_int) pa_nil)) (nomark _)) (pss_one (ps_ret pe_bl))
    pss_nil)))
    (pss_one (ps_if (pt_cmpR op_ne (pe_callB (id := "repr") (kRepr K hG hr) (by rfl) T.z_repr (by decide +kernel) (pa_cons (pv 5) pa_nil)) (pv 7) (nomark _)) (pss_one (ps_ret pe_bl))
    pss_nil))))))))))
    (pss_one (ps_ret (pe_cmpR op_eq (pe_callB (id := "repr") (kRepr K hG hr) (by rfl) T.z_repr (by decide +kernel) (pa_cons (pe_lc (own := [("_law_end", 13)]) rfl sc_law.nd (kPiL K (pe_lst (pa_cons pe_bl (pa_cons pe_bl pa_nil)))) (blkOk_by (own := [("_law_end", 13)]) (N := N_law) (sc := defScope s_law) (by decide +kernel)) (fun _ _ _ _ _ => (pg_name (i := 13) sc_law.nd rfl (Or.inl rfl))) (fun _ _ _ _ _ => pts_nil) (fun _ _ _ _ _ => (pe_call G_used (hr.mono (by first | decide | omega)) rfl T.m_used T.k_used T.b_used .nil pass0 (pa_cons (pe_tup (pa_cons pe_int (pa_cons (pe_tup (pa_cons (pe_tup (pa_cons pe_non pa_nil)) pa_nil)) (pa_cons (pe_tup (pa_cons (pv 13) pa_nil)) pa_nil)))) pa_nil)))) pa_nil)) pe_str (nomark _)))))), ?_⟩
  refine ⟨_, rfl, a, ns, rfl, hS, hl, fun H1 p q _ _ hD s1 => ?_⟩
  dsimp only [gName]
  refine sq (fun σ' H' => ∃ o2 o3 o4 o5 o6 o7 o8 o9 o10 o11 o12 : Option V, σ' = [some (.ref a), some (.ref p), o2, o3, o4, o5, o6, o7, o8, o9, o10, o11, o12, none]) (fun W hW => ?_) ?_
  · refine ⟨6, rfl, by decide, by decide, ?_⟩
    refine for_range (lo := 0) (n := 6) (fun i σ' H' => ∃ (n : Nat) (o2 o3 o4 o5 o6 o7 o8 o9 o10 o11 o12 : Option V), σ' = [some (.ref a), some (.ref p), o2, o3, o4, o5, o6, o7, o8, o9, o10, o11, o12, none] ∧ Deck H' p q n ∧ n ≤ 2000 * i) ⟨0, none, none, none, none, none, none, none, none, none, none, none, rfl, hD, Nat.zero_le _⟩ ?_
      (fun σ' H' ⟨_, o2, o3, o4, o5, o6, o7, o8, o9, o10, o11, o12, e, _⟩ => hW _ _ ⟨o2, o3, o4, o5, o6, o7, o8, o9, o10, o11, o12, e⟩)
    rintro i σ' H2 hi ⟨n, o2, o3, o4, o5, o6, o7, o8, o9, o10, o11, o12, rfl, dk, dn⟩
    dsimp only [gName]
    refine ⟨_, rfl, p, q, n, 4, rfl, dk, by omega, by decide, by decide, fun H3 r1 dk3 e3 r10 r11 => ⟨_, _, rfl, rfl, _, rfl, p, q, n + 1, 8, rfl, dk3, by omega, by decide, by decide, fun H4 r2 dk4 e4 r20 r21 => ⟨_, _, rfl, rfl, _, _, rfl, ?_⟩⟩⟩
    obtain ⟨L, hL⟩ : ∃ L : Nat, 1 + r1 = (L : Int) := ⟨(1 + r1).toNat, (Int.toNat_of_nonneg (by omega)).symm⟩
    obtain ⟨N, hN⟩ : ∃ N : Nat, 1 + r2 = (N : Int) := ⟨(1 + r2).toNat, (Int.toNat_of_nonneg (by omega)).symm⟩
    have l1 : 1 ≤ L := by omega
    have l4 : L ≤ 4 := by omega
    have n1 : 1 ≤ N := by omega
    have n8 : N ≤ 8 := by omega
    dsimp only
    rw [hL, hN]
    refine sq (fun σ' H' => ∃ (n' : Nat) (vk : V) (rows : List (List (Option Nat))) (ends : List Bool), σ' = [some (.ref a), some (.ref p), some (.int (0 + (i : Int))), some (.int (L : Int)), some (.int (N : Int)), some vk, o6, o7, o8, o9, o10, o11, o12, none] ∧ Deck H' p q n' ∧ n' ≤ n + 102 ∧
      U.T K [p, q] H' vk (kindD L rows ends) ∧ KindOk L N rows ends) (fun W1 hW1 => ?_) ?_
    · have fin : ∀ (H5 : Hp) (n5 : Nat) (vk : V) (d : PyData), Deck H5 p q n5 → n5 ≤ n + 2 + 100 → U.T K [p, q] H5 vk d → KindD (L : Int) (N : Int) d → W1 [some (.ref a), some (.ref p), some (.int (0 + (i : Int))), some (.int (L : Int)), some (.int (N : Int)), some vk, o6, o7, o8, o9, o10, o11, o12, none] H5 := by
        intro H5 n5 vk d dk5 h5 tk kd
        obtain ⟨rows, ends, rfl, ko⟩ := kind_abs kd rfl rfl l1 l4 n1 (by omega)
        exact hW1 _ _ ⟨n5, vk, rows, ends, rfl, dk5, by omega, tk, ko⟩
      refine ⟨_, rfl, _, _, rfl, rfl, (show (0 : Int) < 3 by decide), _, _, rfl, rfl, _, rfl, idec (fun _ => ?_) (fun _ => ?_)⟩
      · exact ⟨_, rfl, _, rfl, _, rfl, p, q, n + 2, (L : Int), (N : Int), rfl, dk4, by omega, by omega, by omega, by omega, by omega, fun H5 n5 vk d dk5 n5' e5 tk kd => fin H5 n5 vk d dk5 n5' tk kd⟩
      · exact ⟨_, rfl, _, rfl, _, rfl, p, q, n + 2, (L : Int), (N : Int), rfl, dk4, by omega, by omega, by omega, by omega, by omega, fun H5 n5 vk d dk5 n5' e5 tk kd => fin H5 n5 vk d dk5 n5' tk kd⟩
    clear dk dk3 dk4 e3 e4
    rintro σ' H5 ⟨n5, vk, rows, ends, rfl, dk5, h5, tk5, ko⟩
    have fk := (kindD_fine ko).shown (by decide) (by decide)
    refine ⟨_, rfl, _, rfl, p, q, vk, n5, L, N, rows, ends, rfl, dk5, by omega, tk5, ko, fun H6 n6 vo rows2 ends2 dk6 n6' e6 to6 ko2 iso => ⟨_, rfl, vk, [p, q], _, rfl, tk5.ext e6, fk, _, _, rfl, ?_⟩⟩
    have tk6 := tk5.ext e6
    clear tk5 dk5
    obtain ⟨kept, hkept⟩ : ∃ kept, kept = (kindD L rows ends).shown := ⟨_, rfl⟩
    rw [← hkept]
    dsimp only
    refine sq (fun σ' H' => ∃ (n' : Nat) (Wl : Addr) (wss : List (List Nat)), σ' = [some (.ref a), some (.ref p), some (.int (0 + (i : Int))), some (.int (L : Int)), some (.int (N : Int)), some vk, some vo, some (.str kept), some (.ref Wl), o9, o10, o11, o12, none] ∧ Deck H' p q n' ∧ n' ≤ n + 1000 ∧ Wl ∉ [p, q] ∧
      H' Wl = some (.lst (wordsV wss)) ∧ U.T K [Wl, p, q] H' vk (kindD L rows ends) ∧ U.T K [Wl, p, q] H' vo (kindD L rows2 ends2) ∧ WordsOk L wss ∧ wss.length ≤ 4) (fun W1 hW1 => ?_) ?_
    · refine ⟨_, rfl, _, rfl, p, q, n6, L, 6, rfl, dk6, by omega, l1, l4, by decide, fun H7 n7 w1 dk7 h7 e7 hw1 lw1 => ?_⟩
      refine ⟨_, rfl, _, rfl, p, q, n7, L, 400, rfl, dk7, by omega, l1, l4, by decide, fun H8 n8' w2 dk8 h8 e8 hw2 lw2 => ?_⟩
      have tk8 := (tk6.ext e7).ext e8
      have to8 := (to6.ext e7).ext e8
      refine ⟨_, rfl, _, rfl, p, q, vk, n8', L, N, 400, rows, ends, rfl, dk8, by omega, tk8, ko, by decide, fun H9 n9 w3 dk9 h9 e9 hw3 lw3 => ⟨(show 4 ≤ sizeLine by decide), fun Wl hWl => ?_⟩⟩
      have sW : Same H9 (upd H9 Wl (.lst [.str (Str.ofString ""), .str (txt w1), .str (txt w2), .str (txt w3)])) := Same.new hWl
      refine hW1 _ _ ⟨n9, Wl, [[], w1, w2, w3], rfl, dk9.same sW, by omega, dk9.trk.new hWl, upd_same, ((tk8.ext e9).plus hWl).same sW, ((to8.ext e9).plus hWl).same sW, ?_, Nat.le_refl _⟩
      intro x hx
      simp only [List.mem_cons, List.not_mem_nil, or_false] at hx
      rcases hx with rfl | rfl | rfl | rfl
      · exact ⟨fun c hc => (nomatch hc), Nat.zero_le _⟩
      · exact ⟨hw1, by omega⟩
      · exact ⟨hw2, by omega⟩
      · exact ⟨hw3, by omega⟩
    clear tk6 to6 dk6
    rintro σ' H7 ⟨n7, Wl, wss0, rfl, dk7, h7, nW, hW7, tk7, to7, wok0, lw0⟩
    refine sq (fun σ' H' => ∃ (n' : Nat) (wss : List (List Nat)) (o9 : Option V), σ' = [some (.ref a), some (.ref p), some (.int (0 + (i : Int))), some (.int (L : Int)), some (.int (N : Int)), some vk, some vo, some (.str kept), some (.ref Wl), o9, o10, o11, o12, none] ∧ Deck H' p q n' ∧ n' ≤ n + 1500 ∧
      H' Wl = some (.lst (wordsV wss)) ∧ U.T K [Wl, p, q] H' vk (kindD L rows ends) ∧ U.T K [Wl, p, q] H' vo (kindD L rows2 ends2) ∧ WordsOk L wss ∧ wss.length ≤ 20) (fun W1 hW1 => ?_) ?_
    · refine ⟨8, rfl, by decide, by decide, ?_⟩
      refine for_range (lo := 0) (n := 8) (fun j σ' H' => ∃ (n' : Nat) (wss : List (List Nat)) (o9 : Option V), σ' = [some (.ref a), some (.ref p), some (.int (0 + (i : Int))), some (.int (L : Int)), some (.int (N : Int)), some vk, some vo, some (.str kept), some (.ref Wl), o9, o10, o11, o12, none] ∧ Deck H' p q n' ∧ n' ≤ n + 1000 + 20 * j ∧
        H' Wl = some (.lst (wordsV wss)) ∧ U.T K [Wl, p, q] H' vk (kindD L rows ends) ∧ U.T K [Wl, p, q] H' vo (kindD L rows2 ends2) ∧ WordsOk L wss ∧ wss.length ≤ 4 + 2 * j) ⟨n7, wss0, o9, rfl, dk7, by omega, hW7, tk7, to7, wok0, lw0⟩ ?_ ?_
      · clear dk7 hW7 tk7 to7
        rintro j σ' F hj ⟨m, wss, o9', rfl, dk, hm, hWl, tk, to, wok, lw⟩
        have sub1 : ∀ {A B : Hp}, Ext [p, q] A B → Ext [Wl, p, q] A B := fun e => e.sub fun b hb => List.mem_cons_of_mem _ hb
        have off1 : ∀ {A : Hp} {v : V} {d : PyData}, U.T K [Wl, p, q] A v d → U.T K [p, q] A v d := fun t => t.off fun b hb => List.mem_cons_of_mem _ hb
        have deckW : ∀ {A : Hp} {m : Nat} {o : HO}, Deck A p q m → Deck (upd A Wl o) p q m := fun {A m o} d => by
          refine d.ext (M := [Wl]) (Ext.put (by simp)) ?_ ?_
          · intro z
            have e : p = Wl := by simpa using z
            exact nW (by simp [e])
          · intro z
            have e : q = Wl := by simpa using z
            exact nW (by simp [e])
        dsimp only [gName]
        refine sq (fun σ' H' => ∃ (m' : Nat) (ws : List Nat), σ' = [some (.ref a), some (.ref p), some (.int (0 + (i : Int))), some (.int (L : Int)), some (.int (N : Int)), some vk, some vo, some (.str kept), some (.ref Wl), some (.int (0 + (j : Int))), o10, o11, o12, none] ∧ Deck H' p q m' ∧ m' ≤ m + 14 ∧
          H' Wl = some (.lst (wordsV (wss ++ [ws]))) ∧ U.T K [Wl, p, q] H' vk (kindD L rows ends) ∧ U.T K [Wl, p, q] H' vo (kindD L rows2 ends2) ∧ WordsOk L (wss ++ [ws]) ∧ (∀ c ∈ ws, c < L) ∧ ws.length ≤ 400) (fun W2 hW2 => ?_) ?_
        · refine ⟨_, rfl, .inl ⟨rfl, _, SqL.of hWl⟩, _, rfl, _, rfl, p, q, vk, m, L, N, 12, rows, ends, rfl, dk, by omega, off1 tk, ko, by decide, fun F2 m2 ws dk2 h2 e2 hw lw2 => ?_⟩
          have hWl2 := e2 _ _ nW hWl
          refine ⟨Wl, _, _, rfl, rfl, hWl2, ?_, ?_⟩
          · unfold wordsV
            rw [List.length_map]
            exact Nat.lt_of_le_of_lt (show wss.length ≤ 100 by omega) (by decide)
          · rw [wordsV_snoc]
            exact hW2 _ _ ⟨m2, ws, rfl, deckW dk2, by omega, upd_same, (tk.ext (sub1 e2)).ext (Ext.put (by simp)), (to.ext (sub1 e2)).ext (Ext.put (by simp)), wok.snoc hw (by omega), hw, by omega⟩
        clear dk hWl tk to
        rintro σ' F2 ⟨m2, ws, rfl, dk, hm2, hWl, tk, to, wok2, hw, lw2⟩
        have lastW : atI (wordsV (wss ++ [ws])) (-1) = some (.str (txt ws)) := by
          rw [← wordsV_snoc]
          exact atI_last _ _
        refine ⟨_, rfl, .inl ⟨rfl, _, SqL.of hWl⟩, _, rfl, _, rfl, _, rfl, 1, rfl, Wl, _, -1, _, rfl, rfl, SqL.of hWl, lastW, p, q, m2, L, ws, rfl, dk, by omega, l1, l4, hw, lw2, fun F3 ws3 dk3 e3 hw3 lw3 => ?_⟩
        have hWl3 := e3 _ _ nW hWl
        refine ⟨Wl, _, _, rfl, rfl, hWl3, ?_, ?_⟩
        · unfold wordsV
          rw [List.length_map, List.length_append]
          exact Nat.lt_of_le_of_lt (show wss.length + 1 ≤ 100 by omega) (by decide)
        · rw [wordsV_snoc]
          refine ⟨m2 + 3, wss ++ [ws] ++ [ws3], _, rfl, deckW dk3, by omega, upd_same, (tk.ext (sub1 e3)).ext (Ext.put (by simp)), (to.ext (sub1 e3)).ext (Ext.put (by simp)), wok2.snoc hw3 lw3, ?_⟩
          rw [List.length_append, List.length_append]
          show wss.length + 1 + 1 ≤ _
          omega
      · rintro σ' F ⟨m, wss, o9', rfl, dk, hm, hWl, tk, to, wok, lw⟩
        exact hW1 _ _ ⟨m, wss, o9', rfl, dk, by omega, hWl, tk, to, wok, by omega⟩
    clear dk7 hW7 tk7 to7
    rintro σ' H8 ⟨n8', wss, o9', rfl, dk8, h8, hW8, tk8, to8, wok, lw⟩
    have tk : U.T K [] H8 vk (kindD L rows ends) := tk8.off (N := []) (fun b hb => nomatch hb)
    have to : U.T K [] H8 vo (kindD L rows2 ends2) := to8.off (N := []) (fun b hb => nomatch hb)
    clear tk8 to8
    refine sq (fun σ' H' => ∃ o9 o10 o11 : Option V, σ' = [some (.ref a), some (.ref p), some (.int (0 + (i : Int))), some (.int (L : Int)), some (.int (N : Int)), some vk, some vo, some (.str kept), some (.ref Wl), o9, o10, o11, o12, none] ∧ Same H8 H') (fun W1 hW1 => ?_) ?_
    · refine ⟨_, rfl, Wl, rfl, ⟨_, SqL.of hW8⟩, ?_⟩
      refine for_list (K := K) (a := Wl) (xs := wordsV wss) (fun j σ' H' => ∃ o9 o10 o11 : Option V, σ' = [some (.ref a), some (.ref p), some (.int (0 + (i : Int))), some (.int (L : Int)), some (.int (N : Int)), some vk, some vo, some (.str kept), some (.ref Wl), o9, o10, o11, o12, none] ∧ Same H8 H') ⟨o9', o10, o11, rfl, Same.refl _⟩ ?_ ?_ ?_
      · rintro j σ' F _ ⟨_, _, _, _, s⟩
        exact SqL.of (s _ _ hW8)
      · rintro j x σ' F hx ⟨p9, p10, p11, rfl, s⟩
        unfold wordsV at hx
        rw [List.getElem?_map] at hx
        obtain ⟨ws, hws, rfl⟩ := Option.map_eq_some_iff.mp hx
        have hw := (wok ws (List.mem_of_getElem? hws)).1
        dsimp only [gName]
        refine ⟨_, rfl, _, rfl, vk, [], L, N, rows, ends, ws, rfl, tk.same s, ko, hw, fun F1 f1 => ?_⟩
        have s1 := s.trans f1
        dsimp only [gName]
        refine ⟨_, rfl, _, rfl, vk, [], L, N, rows, ends, ws, rfl, tk.same s1, ko, hw, fun F2 f2 => ⟨_, rfl, _, rfl, vo, [], L, N, rows2, ends2, ws, rfl, to.same (s1.trans f2), ko2, hw, fun F3 f3 => ⟨_, rfl, _, rfl, vk, [], L, N, rows, ends, ws, rfl, tk.same ((s1.trans f2).trans f3), ko, hw, fun F4 f4 => ⟨(show 3 ≤ sizeLine by decide), fun u hu => ?_⟩⟩⟩⟩
        have s4 := ((s1.trans f2).trans f3).trans f4
        rw [iso ws]
        have t1 : U.T K [] (upd F4 u (.lst [.bl (isOf rows ends ws), .bl (isOf rows ends ws), .bl (isOf rows ends ws)])) (.ref u) (.list [.bool (isOf rows ends ws), .bool (isOf rows ends ws), .bool (isOf rows ends ws)]) := .lst (by simp) upd_same (.cons (.bl _) (.cons (.bl _) (.one (.bl _))))
        refine ⟨.ref u, [], _, rfl, t1, sh_bools _ _ _, _, rfl, _, rfl, _, rfl, (show 3 ≤ sizeLine by decide), fun u2 hu2 => ?_⟩
        have s5 : Same F4 (upd F4 u (.lst [.bl (isOf rows ends ws), .bl (isOf rows ends ws), .bl (isOf rows ends ws)])) := Same.new hu
        generalize upd F4 u (HO.lst [V.bl (isOf rows ends ws), .bl (isOf rows ends ws), .bl (isOf rows ends ws)]) = F5 at s5 hu2 ⊢
        have t2 : U.T K [] (upd F5 u2 (.lst [.bl (isOf rows ends ws), .bl (isOf rows ends ws), .bl (isOf rows ends ws)])) (.ref u2) (.list [.bool (isOf rows ends ws), .bool (isOf rows ends ws), .bool (isOf rows ends ws)]) := .lst (by simp) upd_same (.cons (.bl _) (.cons (.bl _) (.one (.bl _))))
        refine ⟨.ref u2, [], _, rfl, t2, sh_bools _ _ _, rfl, _, rfl, if_f ?_ ⟨_, _, _, rfl, (s4.trans s5).trans (Same.new hu2)⟩⟩
        simp
      · rintro σ' F ⟨p9, p10, p11, rfl, s⟩
        exact hW1 _ _ ⟨p9, p10, p11, rfl, s⟩
    rintro σ' G ⟨p9, p10, p11, rfl, sG⟩
    have tk := tk.same sG
    have to := to.same sG
    have dkG := dk8.same sG
    clear sG
    obtain ⟨ak, rk, ek, rsk, rfl, hak, _, _, _, hrk, trk, hek⟩ := KindAt.parts tk
    have trow : U.T K [] G (.ref rk) (.tuple (rows.map rowD)) := .tup (by simp) hrk trk
    refine sq (fun σ' H' => ∃ o12 : Option V, σ' = [some (.ref a), some (.ref p), some (.int (0 + (i : Int))), some (.int (L : Int)), some (.int (N : Int)), some (.ref ak), some vo, some (.str kept), some (.ref Wl), p9, p10, p11, o12, none] ∧ Same G H') (fun W1 hW1 => ?_) ?_
    · refine ⟨_, rfl, _, rfl, _, rfl, _, rfl, ak, _, 1, .ref rk, rfl, rfl, SqT.of hak, rfl, (show 1 ≤ sizeLine by decide), fun u1 hu1 => ⟨_, rfl, ?_⟩⟩
      have s1 : Same G (upd G u1 (.tup [.bl false])) := Same.new hu1
      show rTimes K _ _ _ _
      refine timesA upd_same n1 (by omega) fun r1 F1 f1 t1 => ⟨(show 3 ≤ sizeLine by decide), fun t2 ht2 => ?_⟩
      have s2 := s1.trans f1
      have s3 : Same F1 (upd F1 t2 (.tup [.int (L : Int), .ref rk, r1])) := Same.new ht2
      have k1 : U.T K [] (upd F1 t2 (.tup [.int (L : Int), .ref rk, r1])) (.ref t2) (kindD L rows (List.replicate N false)) := by
        unfold kindD
        rw [List.map_replicate]
        exact .tup (by simp) upd_same (.cons (.int _) (.cons ((trow.same s2).same s3) (.one (t1.same s3))))
      have s4 := s2.trans s3
      generalize upd F1 t2 (HO.tup [V.int (L : Int), .ref rk, r1]) = F2 at s3 k1 s4 ⊢
      refine ⟨_, rfl, _, rfl, ak, _, 1, .ref rk, rfl, rfl, SqT.of (s4 _ _ hak), rfl, (show 1 ≤ sizeLine by decide), fun u3 hu3 => ⟨_, rfl, ?_⟩⟩
      have s5 : Same F2 (upd F2 u3 (.tup [.bl true])) := Same.new hu3
      show rTimes K _ _ _ _
      refine timesA upd_same n1 (by omega) fun r3 F3 f3 t3 => ⟨(show 3 ≤ sizeLine by decide), fun t4 ht4 => ?_⟩
      have s6 := s5.trans f3
      have s7 : Same F3 (upd F3 t4 (.tup [.int (L : Int), .ref rk, r3])) := Same.new ht4
      have k2 : U.T K [] (upd F3 t4 (.tup [.int (L : Int), .ref rk, r3])) (.ref t4) (kindD L rows (List.replicate N true)) := by
        unfold kindD
        rw [List.map_replicate]
        exact .tup (by simp) upd_same (.cons (.int _) (.cons (((trow.same s4).same s6).same s7) (.one (t3.same s7))))
      have s8 := s6.trans s7
      have k1' := k1.same s8
      generalize upd F3 t4 (HO.tup [V.int (L : Int), .ref rk, r3]) = F4 at s7 k2 s8 k1' ⊢
      have s48 := s4.trans s8
      refine ⟨(show 4 ≤ sizeLine by decide), fun Lo hLo => ?_⟩
      have s9 : Same F4 (upd F4 Lo (.lst [.ref ak, vo, .ref t2, .ref t4])) := Same.new hLo
      have hLo9 : (upd F4 Lo (.lst [.ref ak, vo, .ref t2, .ref t4])) Lo = some (.lst [.ref ak, vo, .ref t2, .ref t4]) := upd_same
      generalize upd F4 Lo (HO.lst [V.ref ak, vo, .ref t2, .ref t4]) = F5 at s9 hLo9 ⊢
      have s59 := s48.trans s9
      have okr : ∀ b, KindOk L N rows (List.replicate N b) := fun b => ⟨ko.lr, List.length_replicate, ko.row, ko.l1, ko.l4, ko.n1, ko.n9⟩
      have each : ∀ x ∈ [V.ref ak, vo, .ref t2, .ref t4], ∃ rows3 ends3, U.T K [] F5 x (kindD L rows3 ends3) ∧ KindOk L N rows3 ends3 := by
        intro x hx
        simp only [List.mem_cons, List.not_mem_nil, or_false] at hx
        rcases hx with rfl | rfl | rfl | rfl
        · exact ⟨_, _, tk.same s59, ko⟩
        · exact ⟨_, _, to.same s59, ko2⟩
        · exact ⟨_, _, k1'.same s9, okr _⟩
        · exact ⟨_, _, k2.same s9, okr _⟩
      refine ⟨Lo, rfl, ⟨_, SqL.of hLo9⟩, ?_⟩
      refine for_list (K := K) (a := Lo) (xs := [V.ref ak, vo, .ref t2, .ref t4]) (fun j σ' H' => ∃ o12 : Option V, σ' = [some (.ref a), some (.ref p), some (.int (0 + (i : Int))), some (.int (L : Int)), some (.int (N : Int)), some (.ref ak), some vo, some (.str kept), some (.ref Wl), p9, p10, p11, o12, none] ∧ Same F5 H') ⟨o12, rfl, Same.refl _⟩ ?_ ?_ ?_
      · rintro j σ' F _ ⟨_, _, s⟩
        exact SqL.of (s _ _ hLo9)
      · rintro j x σ' F hx ⟨p12, rfl, s⟩
        obtain ⟨rows3, ends3, t5, ko3⟩ := each x (List.mem_of_getElem? hx)
        dsimp only [gName]
        refine ⟨_, rfl, x, [], L, N, rows3, ends3, rfl, t5.same s, ko3, fun G1 v1 g1 x1 y1 z1 => ⟨_, rfl, x, [], L, N, rows3, ends3, rfl, t5.same (s.trans x1), ko3, fun G2 v2 g2 x2 y2 z2 => ⟨(show 2 ≤ sizeLine by decide), fun u hu => ?_⟩⟩⟩
        have x3 : Same G2 (upd G2 u (.lst [v1, v2])) := Same.new hu
        have y3 : U.T K [] (upd G2 u (.lst [v1, v2])) (.ref u) (.list [.tuple (((List.range N).filter g1).map nD), .tuple (((List.range N).filter g2).map nD)]) := .lst (by simp) upd_same (.cons ((y1.same x2).same x3) (.one (y2.same x3)))
        generalize upd G2 u (HO.lst [v1, v2]) = G3 at x3 y3 ⊢
        have x13 := ((s.trans x1).trans x2).trans x3
        refine ⟨.ref u, [], _, rfl, y3, sh_states N (by omega) _ _, _, rfl, x, [], L, N, rows3, ends3, rfl, t5.same x13, ko3, fun G4 D g4 x4 _ hD z4 => ⟨D, _, rfl, .inl ⟨SqL.of hD, fun t ht => ⟨(show 1 ≤ sizeLine by decide), fun l hl2 => ?_⟩⟩⟩⟩
        have x5 : Same G4 (upd G4 t (.tup (((List.range N).filter g4).map nV))) := Same.new ht
        have y5 : U.T K [] (upd G4 t (.tup (((List.range N).filter g4).map nV))) (.ref t) (.tuple (((List.range N).filter g4).map nD)) := .tup (by simp) upd_same (ta_nats _)
        generalize upd G4 t (HO.tup (((List.range N).filter g4).map nV)) = G5 at x5 y5 hl2 ⊢
        have x6 : Same G5 (upd G5 l (.lst [.ref t])) := Same.new hl2
        have h6 : (upd G5 l (.lst [.ref t])) l = some (.lst [.ref t]) := upd_same
        generalize upd G5 l (HO.lst [V.ref t]) = G6 at x6 h6 ⊢
        refine ⟨l, 2, _, rfl, rfl, h6, by decide, by decide, (show 2 ≤ sizeLine by decide), fun l2 hl3 => ?_⟩
        have x7 : Same G6 (upd G6 l2 (.lst [.ref t, .ref t])) := Same.new hl3
        have y7 : U.T K [] (upd G6 l2 (.lst [.ref t, .ref t])) (.ref l2) (.list [.tuple (((List.range N).filter g4).map nD), .tuple (((List.range N).filter g4).map nD)]) := .lst (by simp) upd_same (.cons ((y5.same x6).same x7) (.one ((y5.same x6).same x7)))
        refine ⟨.ref l2, [], _, rfl, y7, sh_states N (by omega) _ _, rfl, _, rfl, if_f ?_ ⟨_, rfl, (((x13.trans x4).trans x5).trans x6).trans x7⟩⟩
        rw [filt_eq z1 z4, filt_eq z2 z4]
        simp
      · rintro σ' F ⟨p12, rfl, s⟩
        exact hW1 _ _ ⟨p12, rfl, s59.trans s⟩
    rintro σ' G2 ⟨p12, rfl, s2⟩
    refine ⟨_, rfl, .ref ak, [], _, rfl, tk.same s2, fk, _, rfl, rfl, _, rfl, if_f ?_ ?_⟩
    · rw [hkept]
      simp
    · exact ⟨n8', _, _, _, _, _, _, _, _, _, _, _, rfl, dkG.same s2, by omega⟩
  rintro σ' H' ⟨o2, o3, o4, o5, o6, o7, o8, o9, o10, o11, o12, rfl⟩
  refine ⟨(show 2 ≤ sizeLine by decide), fun t1 ht1 => ?_⟩
  have hl1 : (upd H' t1 (.lst [.bl true, .bl false])) t1 = some (.lst [.bl true, .bl false]) := upd_same
  have tl1 : TA K [] (upd H' t1 (.lst [.bl true, .bl false])) [.bl true, .bl false] [.bool true, .bool false] := .cons (.bl _) (.one (.bl _))
  generalize upd H' t1 (HO.lst [V.bl true, .bl false]) = F1 at hl1 tl1 ⊢
  refine ⟨t1, rfl, ⟨_, SqL.of hl1⟩, fun D hD => ?_⟩
  refine lcL3 (K := K) (M := []) (N := []) (fun _ _ => True) (fun _ => true) (fun d e => ∃ b, d = .bool b ∧ e = .tuple (if b then [.int 0] else [])) hl1 (by simp) tl1 (show 2 ≤ 100000 by decide) (by simp) (by simp) hD trivial (fun _ _ _ _ => trivial) ?_ ?_
  · intro j x d F2 hd td e2 _ hacc Ky Kn _ ky
    obtain ⟨acc, hacc⟩ := hacc
    obtain ⟨b, rfl⟩ : ∃ b, d = .bool b := by
      have h := List.mem_of_getElem? hd
      simp only [List.mem_cons, List.not_mem_nil, or_false] at h
      rcases h with rfl | rfl
      · exact ⟨true, rfl⟩
      · exact ⟨false, rfl⟩
    cases td
    refine ⟨rfl, yes_ ?_⟩
    refine ⟨(show 1 ≤ sizeLine by decide), fun a1 h1 => ⟨(show 1 ≤ sizeLine by decide), fun a2 h2 => ⟨_, rfl, (show 1 ≤ sizeLine by decide), fun a3 h3 => ⟨(show 3 ≤ sizeLine by decide), fun a4 h4 => ?_⟩⟩⟩⟩
    obtain ⟨s1, _, q1, _⟩ := atT (K := K) (M := []) (H := F2) (by intro b hb; cases hb) (.one .non) h1
    obtain ⟨s2, _, q2, _⟩ := atT (K := K) (M := []) (by intro b hb; cases hb) (.one q1) h2
    obtain ⟨s3, _, q3, _⟩ := atT (K := K) (M := []) (by intro b hb; cases hb) (.one (.bl b)) h3
    obtain ⟨s4, _, q4, _⟩ := atT (K := K) (M := []) (by intro b hb; cases hb) (.cons (.int 1) (.cons (q2.same s3) (.one q3))) h4
    have s14 := ((s1.trans s2).trans s3).trans s4
    refine ⟨_, [], 1, 1, [[none]], [b], rfl, q4, tiny_ok b, fun G r f s5 t5 hf => ?_⟩
    rw [tiny_used hf] at t5
    have sz := s14.trans s5
    refine ky rfl G r _ (Ext.same sz) trivial ?_ ⟨b, rfl, rfl⟩
    have hD2 := sz _ _ hacc
    have e5 : ((if b then [0] else []) : List Nat).map nD = (if b then [.int 0] else []) := by cases b <;> rfl
    rw [e5] at t5
    cases t5 with
    | @tup a5 xs _ na h5 t =>
      refine .tup ?_ h5 ?_
      · intro z
        have e6 : a5 = D := by simpa using z
        rw [e6, hD2] at h5
        cases h5
      · refine ta_flat t fun x hx => ?_
        cases b with
        | true =>
          have : x = .int 0 := by simpa using hx
          exact .inr ⟨0, this⟩
        | false => cases hx
  · intro F2 zs es e2 _ hz tz pr
    rw [U.filter_all] at pr
    have ee : es = [.tuple [.int 0], .tuple []] := by
      cases pr with
      | cons a b =>
        cases b with
        | cons c d =>
          cases d
          obtain ⟨b1, h1, rfl⟩ := a
          obtain ⟨b2, h2, rfl⟩ := c
          cases h1
          cases h2
          rfl
    subst ee
    have sh : Shown (.list [.tuple [.int 0], .tuple []]) := (fine_of (w := 100) (dp := 3) (by decide +kernel)).shown (by decide) (by decide)
    refine ⟨.ref D, [], _, rfl, .lst (by simp) hz tz, sh, rfl, ?_⟩
    have z : (PyData.list [.tuple [.int 0], .tuple []]).shown = Str.ofString "[(0,), ()]" := by decide +kernel
    show Q (.bl (decide (V.str (PyData.list [.tuple [.int 0], .tuple []]).shown = V.str (Str.ofString "[(0,), ()]")))) _
    rw [z]
    have z2 : decide (V.str (Str.ofString "[(0,), ()]") = V.str (Str.ofString "[(0,), ()]")) = true := decide_eq_true rfl
    rw [z2]
    exact k _
end
abbrev sp_law (K : PySem.W.Frag) : Sp := spLaw K
theorem sp_law_end {K : PySem.W.Frag} {H : Hp} {a : Addr} {ns : List Int} (hl : ns.length ≤ 63) (hS : SqL K H a (ns.map V.int)) : sp_law K [.ref a] H (fun v _ => v = .bl true) E0 := ⟨a, ns, rfl, hS, hl, fun _ => rfl⟩

theorem all_mk {l : PySem.W.OpenLaw} {w : World} {K : PySem.W.Frag} {h : Heap} {mg : Str → Option Value} {fa : Addr} (X : K.In h) (G : h.Ns mainGlobals mg) (hfa : mg "law" = some (.ref fa))
    {f__law_deck : Addr} {od__law_deck an__law_deck : Option Addr} {sl__law_deck : Array (Option Value)} {oc__law_deck kV__law_deck dc__law_deck pm__law_deck cd__law_deck ct__law_deck : Value}
    {f__law_draw : Addr} {od__law_draw an__law_draw : Option Addr} {sl__law_draw : Array (Option Value)} {oc__law_draw kV__law_draw dc__law_draw pm__law_draw cd__law_draw ct__law_draw : Value}
    {f__law_one : Addr} {od__law_one an__law_one : Option Addr} {sl__law_one : Array (Option Value)} {oc__law_one kV__law_one dc__law_one pm__law_one cd__law_one ct__law_one : Value}
    {f_letter_number : Addr} {od_letter_number an_letter_number : Option Addr} {sl_letter_number : Array (Option Value)} {oc_letter_number kV_letter_number dc_letter_number pm_letter_number cd_letter_number ct_letter_number : Value}
    {f_is_of : Addr} {od_is_of an_is_of : Option Addr} {sl_is_of : Array (Option Value)} {oc_is_of kV_is_of dc_is_of pm_is_of cd_is_of ct_is_of : Value}
    {f_used : Addr} {od_used an_used : Option Addr} {sl_used : Array (Option Value)} {oc_used kV_used dc_used pm_used cd_used ct_used : Value}
    {f__reached : Addr} {od__reached an__reached : Option Addr} {sl__reached : Array (Option Value)} {oc__reached kV__reached dc__reached pm__reached cd__reached ct__reached : Value}
    {f__turned : Addr} {od__turned an__turned : Option Addr} {sl__turned : Array (Option Value)} {oc__turned kV__turned dc__turned pm__turned cd__turned ct__turned : Value}
    {f__law_kind : Addr} {od__law_kind an__law_kind : Option Addr} {sl__law_kind : Array (Option Value)} {oc__law_kind kV__law_kind dc__law_kind pm__law_kind cd__law_kind ct__law_kind : Value}
    {f__law_line : Addr} {od__law_line an__law_line : Option Addr} {sl__law_line : Array (Option Value)} {oc__law_line kV__law_line dc__law_line pm__law_line cd__law_line ct__law_line : Value}
    {f__law_word : Addr} {od__law_word an__law_word : Option Addr} {sl__law_word : Array (Option Value)} {oc__law_word kV__law_word dc__law_word pm__law_word cd__law_word ct__law_word : Value}
    {f__law_walked : Addr} {od__law_walked an__law_walked : Option Addr} {sl__law_walked : Array (Option Value)} {oc__law_walked kV__law_walked dc__law_walked pm__law_walked cd__law_walked ct__law_walked : Value}
    {f__law_read : Addr} {od__law_read an__law_read : Option Addr} {sl__law_read : Array (Option Value)} {oc__law_read kV__law_read dc__law_read pm__law_read cd__law_read ct__law_read : Value}
    {f__law_renamed : Addr} {od__law_renamed an__law_renamed : Option Addr} {sl__law_renamed : Array (Option Value)} {oc__law_renamed kV__law_renamed dc__law_renamed pm__law_renamed cd__law_renamed ct__law_renamed : Value}
    {f__law_used : Addr} {od__law_used an__law_used : Option Addr} {sl__law_used : Array (Option Value)} {oc__law_used kV__law_used dc__law_used pm__law_used cd__law_used ct__law_used : Value}
    {f__law_otherwise : Addr} {od__law_otherwise an__law_otherwise : Option Addr} {sl__law_otherwise : Array (Option Value)} {oc__law_otherwise kV__law_otherwise dc__law_otherwise pm__law_otherwise cd__law_otherwise ct__law_otherwise : Value}
    {f_law : Addr} {od_law an_law : Option Addr} {sl_law : Array (Option Value)} {oc_law kV_law dc_law pm_law cd_law ct_law : Value}
    (a__law_deck : PySem.W.nsIn K mainGlobals "_law_deck" = some (some (.ref f__law_deck))) (l__law_deck : K.lookup f__law_deck = some ⟨oc__law_deck, od__law_deck, .func (PySem.W.fnOf "_law_deck" "_law_deck" (defArgs s__law_deck) (defBody s__law_deck) (defScope s__law_deck) .none kV__law_deck dc__law_deck pm__law_deck an__law_deck cd__law_deck ct__law_deck), sl__law_deck⟩) (e__law_deck : PySem.W.codeIn K cd__law_deck "_law_deck" = true) (k__law_deck : PySem.W.keepIn K (.ref f__law_deck) = true)
    (a__law_draw : PySem.W.nsIn K mainGlobals "_law_draw" = some (some (.ref f__law_draw))) (l__law_draw : K.lookup f__law_draw = some ⟨oc__law_draw, od__law_draw, .func (PySem.W.fnOf "_law_draw" "_law_draw" (defArgs s__law_draw) (defBody s__law_draw) (defScope s__law_draw) .none kV__law_draw dc__law_draw pm__law_draw an__law_draw cd__law_draw ct__law_draw), sl__law_draw⟩) (e__law_draw : PySem.W.codeIn K cd__law_draw "_law_draw" = true) (k__law_draw : PySem.W.keepIn K (.ref f__law_draw) = true)
    (a__law_one : PySem.W.nsIn K mainGlobals "_law_one" = some (some (.ref f__law_one))) (l__law_one : K.lookup f__law_one = some ⟨oc__law_one, od__law_one, .func (PySem.W.fnOf "_law_one" "_law_one" (defArgs s__law_one) (defBody s__law_one) (defScope s__law_one) .none kV__law_one dc__law_one pm__law_one an__law_one cd__law_one ct__law_one), sl__law_one⟩) (e__law_one : PySem.W.codeIn K cd__law_one "_law_one" = true) (k__law_one : PySem.W.keepIn K (.ref f__law_one) = true)
    (a_letter_number : PySem.W.nsIn K mainGlobals "letter_number" = some (some (.ref f_letter_number))) (l_letter_number : K.lookup f_letter_number = some ⟨oc_letter_number, od_letter_number, .func (PySem.W.fnOf "letter_number" "letter_number" (defArgs s_letter_number) (defBody s_letter_number) (defScope s_letter_number) .none kV_letter_number dc_letter_number pm_letter_number an_letter_number cd_letter_number ct_letter_number), sl_letter_number⟩) (e_letter_number : PySem.W.codeIn K cd_letter_number "letter_number" = true) (k_letter_number : PySem.W.keepIn K (.ref f_letter_number) = true)
    (a_is_of : PySem.W.nsIn K mainGlobals "is_of" = some (some (.ref f_is_of))) (l_is_of : K.lookup f_is_of = some ⟨oc_is_of, od_is_of, .func (PySem.W.fnOf "is_of" "is_of" (defArgs s_is_of) (defBody s_is_of) (defScope s_is_of) .none kV_is_of dc_is_of pm_is_of an_is_of cd_is_of ct_is_of), sl_is_of⟩) (e_is_of : PySem.W.codeIn K cd_is_of "is_of" = true) (k_is_of : PySem.W.keepIn K (.ref f_is_of) = true)
    (a_used : PySem.W.nsIn K mainGlobals "used" = some (some (.ref f_used))) (l_used : K.lookup f_used = some ⟨oc_used, od_used, .func (PySem.W.fnOf "used" "used" (defArgs s_used) (defBody s_used) (defScope s_used) .none kV_used dc_used pm_used an_used cd_used ct_used), sl_used⟩) (e_used : PySem.W.codeIn K cd_used "used" = true) (k_used : PySem.W.keepIn K (.ref f_used) = true)
    (a__reached : PySem.W.nsIn K mainGlobals "_reached" = some (some (.ref f__reached))) (l__reached : K.lookup f__reached = some ⟨oc__reached, od__reached, .func (PySem.W.fnOf "_reached" "_reached" (defArgs s__reached) (defBody s__reached) (defScope s__reached) .none kV__reached dc__reached pm__reached an__reached cd__reached ct__reached), sl__reached⟩) (e__reached : PySem.W.codeIn K cd__reached "_reached" = true) (k__reached : PySem.W.keepIn K (.ref f__reached) = true)
    (a__turned : PySem.W.nsIn K mainGlobals "_turned" = some (some (.ref f__turned))) (l__turned : K.lookup f__turned = some ⟨oc__turned, od__turned, .func (PySem.W.fnOf "_turned" "_turned" (defArgs s__turned) (defBody s__turned) (defScope s__turned) .none kV__turned dc__turned pm__turned an__turned cd__turned ct__turned), sl__turned⟩) (e__turned : PySem.W.codeIn K cd__turned "_turned" = true) (k__turned : PySem.W.keepIn K (.ref f__turned) = true)
    (a__law_kind : PySem.W.nsIn K mainGlobals "_law_kind" = some (some (.ref f__law_kind))) (l__law_kind : K.lookup f__law_kind = some ⟨oc__law_kind, od__law_kind, .func (PySem.W.fnOf "_law_kind" "_law_kind" (defArgs s__law_kind) (defBody s__law_kind) (defScope s__law_kind) .none kV__law_kind dc__law_kind pm__law_kind an__law_kind cd__law_kind ct__law_kind), sl__law_kind⟩) (e__law_kind : PySem.W.codeIn K cd__law_kind "_law_kind" = true) (k__law_kind : PySem.W.keepIn K (.ref f__law_kind) = true)
    (a__law_line : PySem.W.nsIn K mainGlobals "_law_line" = some (some (.ref f__law_line))) (l__law_line : K.lookup f__law_line = some ⟨oc__law_line, od__law_line, .func (PySem.W.fnOf "_law_line" "_law_line" (defArgs s__law_line) (defBody s__law_line) (defScope s__law_line) .none kV__law_line dc__law_line pm__law_line an__law_line cd__law_line ct__law_line), sl__law_line⟩) (e__law_line : PySem.W.codeIn K cd__law_line "_law_line" = true) (k__law_line : PySem.W.keepIn K (.ref f__law_line) = true)
    (a__law_word : PySem.W.nsIn K mainGlobals "_law_word" = some (some (.ref f__law_word))) (l__law_word : K.lookup f__law_word = some ⟨oc__law_word, od__law_word, .func (PySem.W.fnOf "_law_word" "_law_word" (defArgs s__law_word) (defBody s__law_word) (defScope s__law_word) .none kV__law_word dc__law_word pm__law_word an__law_word cd__law_word ct__law_word), sl__law_word⟩) (e__law_word : PySem.W.codeIn K cd__law_word "_law_word" = true) (k__law_word : PySem.W.keepIn K (.ref f__law_word) = true)
    (a__law_walked : PySem.W.nsIn K mainGlobals "_law_walked" = some (some (.ref f__law_walked))) (l__law_walked : K.lookup f__law_walked = some ⟨oc__law_walked, od__law_walked, .func (PySem.W.fnOf "_law_walked" "_law_walked" (defArgs s__law_walked) (defBody s__law_walked) (defScope s__law_walked) .none kV__law_walked dc__law_walked pm__law_walked an__law_walked cd__law_walked ct__law_walked), sl__law_walked⟩) (e__law_walked : PySem.W.codeIn K cd__law_walked "_law_walked" = true) (k__law_walked : PySem.W.keepIn K (.ref f__law_walked) = true)
    (a__law_read : PySem.W.nsIn K mainGlobals "_law_read" = some (some (.ref f__law_read))) (l__law_read : K.lookup f__law_read = some ⟨oc__law_read, od__law_read, .func (PySem.W.fnOf "_law_read" "_law_read" (defArgs s__law_read) (defBody s__law_read) (defScope s__law_read) .none kV__law_read dc__law_read pm__law_read an__law_read cd__law_read ct__law_read), sl__law_read⟩) (e__law_read : PySem.W.codeIn K cd__law_read "_law_read" = true) (k__law_read : PySem.W.keepIn K (.ref f__law_read) = true)
    (a__law_renamed : PySem.W.nsIn K mainGlobals "_law_renamed" = some (some (.ref f__law_renamed))) (l__law_renamed : K.lookup f__law_renamed = some ⟨oc__law_renamed, od__law_renamed, .func (PySem.W.fnOf "_law_renamed" "_law_renamed" (defArgs s__law_renamed) (defBody s__law_renamed) (defScope s__law_renamed) .none kV__law_renamed dc__law_renamed pm__law_renamed an__law_renamed cd__law_renamed ct__law_renamed), sl__law_renamed⟩) (e__law_renamed : PySem.W.codeIn K cd__law_renamed "_law_renamed" = true) (k__law_renamed : PySem.W.keepIn K (.ref f__law_renamed) = true)
    (a__law_used : PySem.W.nsIn K mainGlobals "_law_used" = some (some (.ref f__law_used))) (l__law_used : K.lookup f__law_used = some ⟨oc__law_used, od__law_used, .func (PySem.W.fnOf "_law_used" "_law_used" (defArgs s__law_used) (defBody s__law_used) (defScope s__law_used) .none kV__law_used dc__law_used pm__law_used an__law_used cd__law_used ct__law_used), sl__law_used⟩) (e__law_used : PySem.W.codeIn K cd__law_used "_law_used" = true) (k__law_used : PySem.W.keepIn K (.ref f__law_used) = true)
    (a__law_otherwise : PySem.W.nsIn K mainGlobals "_law_otherwise" = some (some (.ref f__law_otherwise))) (l__law_otherwise : K.lookup f__law_otherwise = some ⟨oc__law_otherwise, od__law_otherwise, .func (PySem.W.fnOf "_law_otherwise" "_law_otherwise" (defArgs s__law_otherwise) (defBody s__law_otherwise) (defScope s__law_otherwise) .none kV__law_otherwise dc__law_otherwise pm__law_otherwise an__law_otherwise cd__law_otherwise ct__law_otherwise), sl__law_otherwise⟩) (e__law_otherwise : PySem.W.codeIn K cd__law_otherwise "_law_otherwise" = true) (k__law_otherwise : PySem.W.keepIn K (.ref f__law_otherwise) = true)
    (a_law : PySem.W.nsIn K mainGlobals "law" = some (some (.ref f_law))) (l_law : K.lookup f_law = some ⟨oc_law, od_law, .func (PySem.W.fnOf "law" "law" (defArgs s_law) (defBody s_law) (defScope s_law) .none kV_law dc_law pm_law an_law cd_law ct_law), sl_law⟩) (e_law : PySem.W.codeIn K cd_law "law" = true) (k_law : PySem.W.keepIn K (.ref f_law) = true)
    (z_abs : PySem.W.nsIn K mainGlobals "abs" = some none)
    (z_dict : PySem.W.nsIn K mainGlobals "dict" = some none)
    (z_enumerate : PySem.W.nsIn K mainGlobals "enumerate" = some none)
    (z_int : PySem.W.nsIn K mainGlobals "int" = some none)
    (z_len : PySem.W.nsIn K mainGlobals "len" = some none)
    (z_list : PySem.W.nsIn K mainGlobals "list" = some none)
    (z_ord : PySem.W.nsIn K mainGlobals "ord" = some none)
    (z_range : PySem.W.nsIn K mainGlobals "range" = some none)
    (z_repr : PySem.W.nsIn K mainGlobals "repr" = some none)
    (z_tuple : PySem.W.nsIn K mainGlobals "tuple" = some none)
    : ∃ fd : FuncData, (∀ (s : Shared) (v : Value), BindsTo s fd ⟨[v], []⟩ [("_law_script", v)]) ∧ ∀ base : Heap, K.In base → base.Ns mainGlobals mg → FnG l.prog w K mg base 6 fa fd ["_law_script"] (sp_law K) := by
  have e := (PySem.W.mg_of X G a_law).symm.trans hfa
  have e2 : f_law = fa := by injection e with e; injection e
  subst e2
  have F__law_deck := fun_mk (st := s__law_deck) l__law_deck e__law_deck k__law_deck
  have b__law_deck := F__law_deck.binds (ps := ["_law_script"]) fun _ _ _ _ _ _ us hl => match us, hl with | [_], _ => rfl
  have F__law_draw := fun_mk (st := s__law_draw) l__law_draw e__law_draw k__law_draw
  have b__law_draw := F__law_draw.binds (ps := ["_law_deck_here", "_law_many"]) fun _ _ _ _ _ _ us hl => match us, hl with | [_, _], _ => rfl
  have F__law_one := fun_mk (st := s__law_one) l__law_one e__law_one k__law_one
  have b__law_one := F__law_one.binds (ps := ["_law_deck_here", "_law_items"]) fun _ _ _ _ _ _ us hl => match us, hl with | [_, _], _ => rfl
  have F_letter_number := fun_mk (st := s_letter_number) l_letter_number e_letter_number k_letter_number
  have b_letter_number := F_letter_number.binds (ps := ["letter"]) fun _ _ _ _ _ _ us hl => match us, hl with | [_], _ => rfl
  have F_is_of := fun_mk (st := s_is_of) l_is_of e_is_of k_is_of
  have b_is_of := F_is_of.binds (ps := ["kind", "word"]) fun _ _ _ _ _ _ us hl => match us, hl with | [_, _], _ => rfl
  have F_used := fun_mk (st := s_used) l_used e_used k_used
  have b_used := F_used.binds (ps := ["kind"]) fun _ _ _ _ _ _ us hl => match us, hl with | [_], _ => rfl
  have F__reached := fun_mk (st := s__reached) l__reached e__reached k__reached
  have b__reached := F__reached.binds (ps := ["steps", "begins"]) fun _ _ _ _ _ _ us hl => match us, hl with | [_, _], _ => rfl
  have F__turned := fun_mk (st := s__turned) l__turned e__turned k__turned
  have b__turned := F__turned.binds (ps := ["steps"]) fun _ _ _ _ _ _ us hl => match us, hl with | [_], _ => rfl
  have F__law_kind := fun_mk (st := s__law_kind) l__law_kind e__law_kind k__law_kind
  have b__law_kind := F__law_kind.binds (ps := ["_law_deck_here", "_law_letters", "_law_many"]) fun _ _ _ _ _ _ us hl => match us, hl with | [_, _, _], _ => rfl
  have F__law_line := fun_mk (st := s__law_line) l__law_line e__law_line k__law_line
  have b__law_line := F__law_line.binds (ps := ["_law_deck_here", "_law_letters", "_law_many"]) fun _ _ _ _ _ _ us hl => match us, hl with | [_, _, _], _ => rfl
  have F__law_word := fun_mk (st := s__law_word) l__law_word e__law_word k__law_word
  have b__law_word := F__law_word.binds (ps := ["_law_deck_here", "_law_letters", "_law_most"]) fun _ _ _ _ _ _ us hl => match us, hl with | [_, _, _], _ => rfl
  have F__law_walked := fun_mk (st := s__law_walked) l__law_walked e__law_walked k__law_walked
  have b__law_walked := F__law_walked.binds (ps := ["_law_deck_here", "_law_kind_here", "_law_most"]) fun _ _ _ _ _ _ us hl => match us, hl with | [_, _, _], _ => rfl
  have F__law_read := fun_mk (st := s__law_read) l__law_read e__law_read k__law_read
  have b__law_read := F__law_read.binds (ps := ["_law_kind_here", "_law_word_here"]) fun _ _ _ _ _ _ us hl => match us, hl with | [_, _], _ => rfl
  have F__law_renamed := fun_mk (st := s__law_renamed) l__law_renamed e__law_renamed k__law_renamed
  have b__law_renamed := F__law_renamed.binds (ps := ["_law_deck_here", "_law_kind_here"]) fun _ _ _ _ _ _ us hl => match us, hl with | [_, _], _ => rfl
  have F__law_used := fun_mk (st := s__law_used) l__law_used e__law_used k__law_used
  have b__law_used := F__law_used.binds (ps := ["_law_kind_here"]) fun _ _ _ _ _ _ us hl => match us, hl with | [_], _ => rfl
  have F__law_otherwise := fun_mk (st := s__law_otherwise) l__law_otherwise e__law_otherwise k__law_otherwise
  have b__law_otherwise := F__law_otherwise.binds (ps := ["_law_deck_here", "_law_letters", "_law_word_here"]) fun _ _ _ _ _ _ us hl => match us, hl with | [_, _, _], _ => rfl
  have F_law := fun_mk (st := s_law) l_law e_law k_law
  have b_law := F_law.binds (ps := ["_law_script"]) fun _ _ _ _ _ _ us hl => match us, hl with | [_], _ => rfl
  have T : Txt K mg ⟨f__law_deck, PySem.W.fnOf "_law_deck" "_law_deck" (defArgs s__law_deck) (defBody s__law_deck) (defScope s__law_deck) .none kV__law_deck dc__law_deck pm__law_deck an__law_deck cd__law_deck ct__law_deck, f__law_draw, PySem.W.fnOf "_law_draw" "_law_draw" (defArgs s__law_draw) (defBody s__law_draw) (defScope s__law_draw) .none kV__law_draw dc__law_draw pm__law_draw an__law_draw cd__law_draw ct__law_draw, f__law_one, PySem.W.fnOf "_law_one" "_law_one" (defArgs s__law_one) (defBody s__law_one) (defScope s__law_one) .none kV__law_one dc__law_one pm__law_one an__law_one cd__law_one ct__law_one, f_letter_number, PySem.W.fnOf "letter_number" "letter_number" (defArgs s_letter_number) (defBody s_letter_number) (defScope s_letter_number) .none kV_letter_number dc_letter_number pm_letter_number an_letter_number cd_letter_number ct_letter_number, f_is_of, PySem.W.fnOf "is_of" "is_of" (defArgs s_is_of) (defBody s_is_of) (defScope s_is_of) .none kV_is_of dc_is_of pm_is_of an_is_of cd_is_of ct_is_of, f_used, PySem.W.fnOf "used" "used" (defArgs s_used) (defBody s_used) (defScope s_used) .none kV_used dc_used pm_used an_used cd_used ct_used, f__reached, PySem.W.fnOf "_reached" "_reached" (defArgs s__reached) (defBody s__reached) (defScope s__reached) .none kV__reached dc__reached pm__reached an__reached cd__reached ct__reached, f__turned, PySem.W.fnOf "_turned" "_turned" (defArgs s__turned) (defBody s__turned) (defScope s__turned) .none kV__turned dc__turned pm__turned an__turned cd__turned ct__turned, f__law_kind, PySem.W.fnOf "_law_kind" "_law_kind" (defArgs s__law_kind) (defBody s__law_kind) (defScope s__law_kind) .none kV__law_kind dc__law_kind pm__law_kind an__law_kind cd__law_kind ct__law_kind, f__law_line, PySem.W.fnOf "_law_line" "_law_line" (defArgs s__law_line) (defBody s__law_line) (defScope s__law_line) .none kV__law_line dc__law_line pm__law_line an__law_line cd__law_line ct__law_line, f__law_word, PySem.W.fnOf "_law_word" "_law_word" (defArgs s__law_word) (defBody s__law_word) (defScope s__law_word) .none kV__law_word dc__law_word pm__law_word an__law_word cd__law_word ct__law_word, f__law_walked, PySem.W.fnOf "_law_walked" "_law_walked" (defArgs s__law_walked) (defBody s__law_walked) (defScope s__law_walked) .none kV__law_walked dc__law_walked pm__law_walked an__law_walked cd__law_walked ct__law_walked, f__law_read, PySem.W.fnOf "_law_read" "_law_read" (defArgs s__law_read) (defBody s__law_read) (defScope s__law_read) .none kV__law_read dc__law_read pm__law_read an__law_read cd__law_read ct__law_read, f__law_renamed, PySem.W.fnOf "_law_renamed" "_law_renamed" (defArgs s__law_renamed) (defBody s__law_renamed) (defScope s__law_renamed) .none kV__law_renamed dc__law_renamed pm__law_renamed an__law_renamed cd__law_renamed ct__law_renamed, f__law_used, PySem.W.fnOf "_law_used" "_law_used" (defArgs s__law_used) (defBody s__law_used) (defScope s__law_used) .none kV__law_used dc__law_used pm__law_used an__law_used cd__law_used ct__law_used, f__law_otherwise, PySem.W.fnOf "_law_otherwise" "_law_otherwise" (defArgs s__law_otherwise) (defBody s__law_otherwise) (defScope s__law_otherwise) .none kV__law_otherwise dc__law_otherwise pm__law_otherwise an__law_otherwise cd__law_otherwise ct__law_otherwise, f_law, PySem.W.fnOf "law" "law" (defArgs s_law) (defBody s_law) (defScope s_law) .none kV_law dc_law pm_law an_law cd_law ct_law⟩ := ⟨F__law_deck, PySem.W.mg_of X G a__law_deck, k__law_deck, b__law_deck, F__law_draw, PySem.W.mg_of X G a__law_draw, k__law_draw, b__law_draw, F__law_one, PySem.W.mg_of X G a__law_one, k__law_one, b__law_one, F_letter_number, PySem.W.mg_of X G a_letter_number, k_letter_number, b_letter_number, F_is_of, PySem.W.mg_of X G a_is_of, k_is_of, b_is_of, F_used, PySem.W.mg_of X G a_used, k_used, b_used, F__reached, PySem.W.mg_of X G a__reached, k__reached, b__reached, F__turned, PySem.W.mg_of X G a__turned, k__turned, b__turned, F__law_kind, PySem.W.mg_of X G a__law_kind, k__law_kind, b__law_kind, F__law_line, PySem.W.mg_of X G a__law_line, k__law_line, b__law_line, F__law_word, PySem.W.mg_of X G a__law_word, k__law_word, b__law_word, F__law_walked, PySem.W.mg_of X G a__law_walked, k__law_walked, b__law_walked, F__law_read, PySem.W.mg_of X G a__law_read, k__law_read, b__law_read, F__law_renamed, PySem.W.mg_of X G a__law_renamed, k__law_renamed, b__law_renamed, F__law_used, PySem.W.mg_of X G a__law_used, k__law_used, b__law_used, F__law_otherwise, PySem.W.mg_of X G a__law_otherwise, k__law_otherwise, b__law_otherwise, F_law, PySem.W.mg_of X G a_law, k_law, b_law, PySem.W.mg_none_of X G z_abs, PySem.W.mg_none_of X G z_dict, PySem.W.mg_none_of X G z_enumerate, PySem.W.mg_none_of X G z_int, PySem.W.mg_none_of X G z_len, PySem.W.mg_none_of X G z_list, PySem.W.mg_none_of X G z_ord, PySem.W.mg_none_of X G z_range, PySem.W.mg_none_of X G z_repr, PySem.W.mg_none_of X G z_tuple⟩
  exact ⟨_, fun s v => .of_eq rfl, fun base _ _ => ok_law T⟩
theorem walk {l : PySem.W.OpenLaw} {q : Program} {loose : List Str} {XP : (Str → Option Value) → Heap → Prop} {YP : World → Heap → Prop} {d : DefRec} {K : Params → PySem.W.Frag} (hn : l.most = some 63) (hdf : d.params.defaults = [])
    (hY : ∀ (w : World) (h : Heap), YP w h → (K w.params).In h)
    (F : ∀ (w : World) (mg : Str → Option Value) (fa : Addr) (h : Heap), (K w.params).In h → h.Ns mainGlobals mg → mg d.name = some (.ref fa) →
      ∃ fd : FuncData, (∀ (s : Shared) (u : Value), BindsTo s fd ⟨[u], []⟩ [("_law_script", u)]) ∧ ∀ base : Heap, (K w.params).In base → base.Ns mainGlobals mg → FnG l.prog w (K w.params) mg base 6 fa fd ["_law_script"] (sp_law (K w.params))) :
    PySem.W.WalkO q loose XP YP l.row.toRowW d [] (fun f vs => PySem.call f vs) :=
  U.walkG (n := 63) (k := 6) (x := "_law_script") (sp := sp_law) hn (by decide) hdf ⟨rfl, by decide, by decide⟩ hY F fun K H a ns hl _ hS => sp_law_end hl hS
end Law

open PySem PySem.W PyProof.Rows in
set_option maxRecDepth 100000 in
set_option maxHeartbeats 0 in
theorem PySem.Challenge.cw_unitlimits_k22_words_and_used_states_holds : PySem.Challenge.rw_unitlimits_k22_words_and_used_states.Holds := by
  w_on; o_law; k_head; (case hw => w_witness2)
  k_fill
  refine Law.walk (l := PySem.Challenge.rw_unitlimits_k22_words_and_used_states) rfl rfl (fun w h Y => PySem.W.kIn_of Y) ?F
  case F =>
    intro w mg fa h KX G hmg
    refine' Law.all_mk KX G hmg ?a__law_deck ?l__law_deck ?e__law_deck ?k__law_deck ?a__law_draw ?l__law_draw ?e__law_draw ?k__law_draw ?a__law_one ?l__law_one ?e__law_one ?k__law_one ?a_letter_number ?l_letter_number ?e_letter_number ?k_letter_number ?a_is_of ?l_is_of ?e_is_of ?k_is_of ?a_used ?l_used ?e_used ?k_used ?a__reached ?l__reached ?e__reached ?k__reached ?a__turned ?l__turned ?e__turned ?k__turned ?a__law_kind ?l__law_kind ?e__law_kind ?k__law_kind ?a__law_line ?l__law_line ?e__law_line ?k__law_line ?a__law_word ?l__law_word ?e__law_word ?k__law_word ?a__law_walked ?l__law_walked ?e__law_walked ?k__law_walked ?a__law_read ?l__law_read ?e__law_read ?k__law_read ?a__law_renamed ?l__law_renamed ?e__law_renamed ?k__law_renamed ?a__law_used ?l__law_used ?e__law_used ?k__law_used ?a__law_otherwise ?l__law_otherwise ?e__law_otherwise ?k__law_otherwise ?a_law ?l_law ?e_law ?k_law ?z_abs ?z_dict ?z_enumerate ?z_int ?z_len ?z_list ?z_ord ?z_range ?z_repr ?z_tuple
    (case a__law_deck => k_is)
    (case l__law_deck => k_is)
    (case e__law_deck => k_is)
    (case k__law_deck => k_is)
    (case a__law_draw => k_is)
    (case l__law_draw => k_is)
    (case e__law_draw => k_is)
    (case k__law_draw => k_is)
    (case a__law_one => k_is)
    (case l__law_one => k_is)
    (case e__law_one => k_is)
    (case k__law_one => k_is)
    (case a_letter_number => k_is)
    (case l_letter_number => k_is)
    (case e_letter_number => k_is)
    (case k_letter_number => k_is)
    (case a_is_of => k_is)
    (case l_is_of => k_is)
    (case e_is_of => k_is)
    (case k_is_of => k_is)
    (case a_used => k_is)
    (case l_used => k_is)
    (case e_used => k_is)
    (case k_used => k_is)
    (case a__reached => k_is)
    (case l__reached => k_is)
    (case e__reached => k_is)
    (case k__reached => k_is)
    (case a__turned => k_is)
    (case l__turned => k_is)
    (case e__turned => k_is)
    (case k__turned => k_is)
    (case a__law_kind => k_is)
    (case l__law_kind => k_is)
    (case e__law_kind => k_is)
    (case k__law_kind => k_is)
    (case a__law_line => k_is)
    (case l__law_line => k_is)
    (case e__law_line => k_is)
    (case k__law_line => k_is)
    (case a__law_word => k_is)
    (case l__law_word => k_is)
    (case e__law_word => k_is)
    (case k__law_word => k_is)
    (case a__law_walked => k_is)
    (case l__law_walked => k_is)
    (case e__law_walked => k_is)
    (case k__law_walked => k_is)
    (case a__law_read => k_is)
    (case l__law_read => k_is)
    (case e__law_read => k_is)
    (case k__law_read => k_is)
    (case a__law_renamed => k_is)
    (case l__law_renamed => k_is)
    (case e__law_renamed => k_is)
    (case k__law_renamed => k_is)
    (case a__law_used => k_is)
    (case l__law_used => k_is)
    (case e__law_used => k_is)
    (case k__law_used => k_is)
    (case a__law_otherwise => k_is)
    (case l__law_otherwise => k_is)
    (case e__law_otherwise => k_is)
    (case k__law_otherwise => k_is)
    (case a_law => k_is)
    (case l_law => k_is)
    (case e_law => k_is)
    (case k_law => k_is)
    (case z_abs => k_is)
    (case z_dict => k_is)
    (case z_enumerate => k_is)
    (case z_int => k_is)
    (case z_len => k_is)
    (case z_list => k_is)
    (case z_ord => k_is)
    (case z_range => k_is)
    (case z_repr => k_is)
    (case z_tuple => k_is)
