import PyProof.Rows.All
import Wide.All
import OpenK.AllK
import Wide.FinOn
import HandS.ForMost
import HandS.IsInst
import HandS.Conv
import HandS.TupAny
import HandS.TupMul
import HandS.Codes
import HandS.Replace
import PySem.Challenge.RW_unitlimits_k21_kinds_with_errors
set_option Elab.async false
set_option linter.all false
set_option maxRecDepth 100000
set_option maxHeartbeats 2000000
namespace U
open PySem PySem.Spec PyProof.Rows L2

/-! ### defs that are run where no guard is on the stack (for repr of lists and tuples) -/
/-- as FnOk, but asked only where no guard runs -/
structure FnG (P : Program) (w : World) (K : PySem.W.Frag) (mg : Str → Option Value) (base : Heap) (k : Nat) (f : Addr) (fd : FuncData) (ps : List Str) (sp : Sp) : Prop where
  arity : ∀ vs H Q E, sp vs H Q E → vs.length = ps.length
  runs : ∀ (A : Around) (outer : List Env) (s : Shared) (H : Hp) (args : Args) (us : List Value) (vs : List V) (Q : VK) (E : XK), A.guards = some [] → Room k A → Env0 P w K mg base A outer s H →
    BindsTo s fd args (ps.zip us) → Vals vs us → sp vs H Q E → codeAny (model P w) A (.call (.ref f) args) (CR CX0 outer P w H s Q E) s

section
variable {P : Program} {w : World} {K : PySem.W.Frag} {mg : Str → Option Value} {base : Heap}
theorem FnG.of {k : Nat} {f : Addr} {fd : FuncData} {ps : List Str} {sp : Sp} (F : FnOk P w K mg base CX0 k f fd ps sp) : FnG P w K mg base k f fd ps sp :=
  ⟨F.len, fun A o s H a us vs Q E _ => F.run A o s H a us vs Q E⟩
theorem FnG.more {j k : Nat} {f : Addr} {fd : FuncData} {ps : List Str} {sp : Sp} (F : FnG P w K mg base j f fd ps sp) (h : j ≤ k) : FnG P w K mg base k f fd ps sp :=
  ⟨F.arity, fun A o s H a us vs Q E g hr => F.runs A o s H a us vs Q E g (hr.mono h)⟩

/-- the body's rule, as Fun.ok, with the guards told -/
theorem okG {x qual : Str} {st : Stmt} {f : Addr} {fd : FuncData} {N ps : List Str} {k : Nat} {sp : Sp} (F : Fun K x qual st f fd) (S : FnScope N ps (defScope st)) (len : ∀ vs H Q E, sp vs H Q E → vs.length = ps.length)
    (hbody : ∀ (cdv : Value) (A : Around) (outer : List Env) (s : Shared) (H : Hp) (vs : List V) (Q : VK) (E : XK), A.guards = some [] → Room k (A.deeper (envOfC qual (defScope st) s.heap.objs.size f cdv)) → sp vs H Q E →
      ∃ t, PSs (cxOf CX0 P w K mg base N qual (defScope st) f cdv A outer s H E).nox (defBody st) t ∧ t { nx := fun _ H' => Q .non H', rt := Q } (start N vs) H) : FnG P w K mg base (k + 1) f fd ps sp := by
  obtain ⟨oc, od, kV, doc, pm, an, cdv, ct, osl, rfl, lk, hcd⟩ := F.ex
  refine ⟨len, fun A outer s H args us vs Q E hg hr e0 hb rel hsp => ?_⟩
  have nargs := len _ _ _ _ hsp
  have inH : K.In s.heap := e0.mod.kin.keeps (fun b o e => And.left (e0.bs b o e))
  have noLim : s.heap.NoLimit := e0.mod.nolimit.keeps (fun b o e => And.left (e0.bs b o e))
  have kinds : ∀ y ∈ ps.zip us, (defScope st).names.lookup y.1 = some .local ∨ ((defScope st).names.lookup y.1 = some .cell ∧ ((cellsFrom (s.heap.objs.size + 1) (defScope st).names []).lookup y.1).isSome = true) := by
    rintro ⟨n, v⟩ hy
    cases S.par n (List.of_mem_zip hy).1 with
    | inl q => exact Or.inl q
    | inr q => exact Or.inr ⟨q, PySem.W.cellsFrom_some _ _ _ (Or.inl q)⟩
  apply codeAny_call_function hr.depth (inH _ _ lk) rfl S.co S.gen rfl (PySem.W.codeRec_of inH hcd)
  refine hb _ _ _ _ (wpAny_newFunctionEnv_cells S.kind kinds fun env he s1 inC => ?_)
  cases he
  obtain ⟨t, ht, start_ok⟩ := hbody cdv A outer s H vs Q E hg (hr.deeper _) hsp
  have I0 : Inv (cxOf CX0 P w K mg base N qual (defScope st) f cdv A outer s H E) [] (start N vs) H s1 := inv_start S hr.hd e0 nargs rel inC
  have done : ∀ {σ' : L2.St} {H' : Hp} {v : V} {u : Value} {s' : Shared}, Inv (cxOf CX0 P w K mg base N qual (defScope st) f cdv A outer s H E) [] σ' H' s' → RelV v u → Q v H' → CE outer P w H s Q u s' :=
    fun {σ' H' v u s'} J rv q => ⟨v, H', J.os, J.bare, J.base, J.hok, rv, q⟩
  refine ⟨noLim.keeps inC.toInCall.keep, codeAny_func (wpAny_mono (ht.nox.run [] s1 (start N vs) H _ I0 start_ok) (fun fl s' hs => ?_) (fun _ _ z => z))⟩
  cases fl with
  | next =>
    obtain ⟨σ', H', J, q⟩ := hs
    exact done (v := V.non) (u := Value.none) J rfl q
  | ret u =>
    obtain ⟨v, σ', H', J, rv, q⟩ := hs
    exact done J rv q
  | brk => exact False.elim (let ⟨_, _, _, q⟩ := hs; q)
  | cont => exact False.elim (let ⟨_, _, _, q⟩ := hs; q)
end

section
variable {X : Cx} {k : Nat} {f : Addr} {fd : FuncData} {ps : List Str} {sp : Sp} {E : XK} {x : Str} {p pos : Pos} {e : Expr} {es : List Expr} {t : TA}
theorem pe_callG (hG : X.A.guards = some []) (F : FnG X.prog X.w X.K X.mg X.base k f fd ps sp) (hr : Room k X.A) (hg : Gl X x) (hm : X.mg x = some (.ref f)) (hk : PySem.W.keepIn X.K (.ref f) = true) (hb : Binds X.K fd ps [])
    (ha : PA X (e :: es) t) (hdb : (x == ("__debug__" : Str)) = false := by decide) (he : starEach (e :: es) X.env = (false, eval e X.env) :: starEach es X.env := by rfl) (hpl : (backTo pos (starEach es X.env)).any (·.1) = false := by rfl) :
    PE X (.Call (.Name x p) (e :: es) [] pos) (tCall sp [] E0 t) := by
  constructor
  intro pins s σ H Q I h
  apply wpAny_Call_Name_kw
  apply ld_glob I hg hm _ hdb
  apply PySem.W.callWith_K (h₀ := X.base) I.ok.mod.kin hk _ he hpl
  refine thn (ha.run pos pins s σ H _ I h) ?_
  rintro us s1 ⟨vs, H1, I1, r, q⟩
  refine ⟨I1.kIn, ?_⟩
  have q' : sp vs H1 Q E0 := by
    have z : sp (vs ++ []) H1 Q E0 := q
    rwa [List.append_nil] at z
  have nargs : (us ++ []).length = ps.length := by rw [List.append_nil, ← r.length]; exact F.arity _ _ _ _ q'
  have bd := hb s1 us I1.kIn nargs
  rw [List.append_nil] at bd
  apply wpAny_call
  refine codeAny_mono (F.runs X.A X.stack s1 H1 ⟨us, []⟩ us vs Q E0 hG hr I1.env0 bd r q') ?_
  intro res s' hres
  match res, hres with
  | .ok (.ret u), hres => exact I1.after hres
  | .ok .next, hres => exact False.elim hres
  | .ok .brk, hres => exact False.elim hres
  | .ok .cont, hres => exact False.elim hres
  | .error _, hres => exact False.elim hres
end

/-! ### the end of a law over such a def -/
theorem lawG {P : Program} {w : World} {K : PySem.W.Frag} {mg mb : Str → Option Value} {k : Nat} {fa a : Addr} {fd : FuncData} {x : Str} {sp : Sp} {s₁ : Shared} {vs : List Value} {ns : List Int}
    (inK : K.In s₁.heap) (glo : s₁.heap.Ns mainGlobals mg) (blt : s₁.heap.Ns builtinsNs mb) (boot : ∀ x : Str, x ≠ "__name__" → mb x = bootBuiltins x) (noLim : s₁.heap.NoLimit) (noGen : s₁.gens = #[])
    (scr : s₁.heap.get? a = some { cls := .type "list", data := .seq vs.toArray }) (nums : IntsAre vs ns) (small : ns.length ≤ sizeLine) (room : Room k callerA)
    (F : ∀ base : Heap, K.In base → base.Ns mainGlobals mg → FnG P w K mg base k fa fd [x] sp) (bind : ∀ (s : Shared) (u : Value), BindsTo s fd ⟨[u], []⟩ [(x, u)])
    (hsp : ∀ H : Hp, Only H → SqL K H a (ns.map V.int) → sp [.ref a] H (fun v _ => v = .bl true) E0) :
    codeAny (model P w) callerA (.call (.ref fa) ⟨[.ref a], []⟩) (fun r s' => r = .ok (.ret (.bool true)) ∧ OldK s₁.heap s'.heap ∧ s'.os = s₁.os ∧ AllBare s'.gens) s₁ := by
  have rel : Vals (ns.map V.int) vs := vals_ints nums
  have many : vs.length = ns.length := nums.length
  -- what is tracked: the script, where it is no object of the module's own
  obtain ⟨H, hOnly, hScr, hOk, hAt, hOwn⟩ : ∃ H : Hp, Only H ∧ SqL K H a (ns.map V.int) ∧ HOk P w H s₁.heap ∧ (∀ b u, H b = some u → b = a) ∧ (∀ u, H a = some u → K.lookup a = none) := by
    cases own : K.lookup a with
    | some o =>
      have e := inK a o own
      rw [scr] at e
      cases e
      exact ⟨fun _ => none, fun _ => Or.inl rfl, Or.inr ⟨_, vs.toArray, _, own, rfl, rfl, rfl, by rw [List.size_toArray, many]; exact small, by simpa using rel⟩,
        (fun b u z => absurd (show (none : Option HO) = some u from z) (by simp)), (fun b u z => absurd (show (none : Option HO) = some u from z) (by simp)), fun u z => absurd (show (none : Option HO) = some u from z) (by simp)⟩
    | none =>
      have at_ : ∀ b u, (fun b => if b = a then some (HO.frz { cls := .type "list", data := .seq vs.toArray } (.lst (ns.map V.int))) else none : Hp) b = some u → b = a ∧ u = HO.frz { cls := .type "list", data := .seq vs.toArray } (.lst (ns.map V.int)) := by
        intro b u z
        by_cases hb : b = a
        · exact ⟨hb, (Option.some.inj ((if_pos hb).symm.trans z)).symm⟩
        · exact nomatch (if_neg hb).symm.trans z
      refine ⟨fun b => if b = a then some (.frz { cls := .type "list", data := .seq vs.toArray } (.lst (ns.map V.int))) else none, fun b => ?_, Or.inl (Or.inr ⟨_, if_pos rfl⟩), fun b u z => ?_, fun b u z => (at_ b u z).1, fun _ _ => rfl⟩
      · by_cases hb : b = a
        · exact Or.inr ⟨_, _, if_pos hb⟩
        · exact Or.inl (if_neg hb)
      · obtain ⟨rfl, rfl⟩ := at_ b u z
        exact ⟨scr, by rw [List.length_map]; exact small, vs, _, rel, scr⟩
  have dictFree : ∀ {b : Addr} {o : Obj} {es : Array DictEntry} {ep : Nat}, s₁.heap.get? b = some o → o.data = .dict es ep → H b = none := by
    intro b o es ep e d
    cases q : H b with
    | none => rfl
    | some u =>
      cases hAt b u q
      rw [scr] at e
      cases e
      exact nomatch (show Data.seq vs.toArray _ = Data.dict es ep from d)
  have nsKeep : ∀ {b : Addr} {m : Str → Option Value}, s₁.heap.Ns b m → (hidT s₁.heap H).Ns b m := by
    rintro b m ⟨o, es, ep, e, d, r⟩
    exact ⟨o, es, ep, hidT_get e (dictFree e d), d, r⟩
  have inB : K.In (hidT s₁.heap H) := by
    intro b o e
    refine hidT_get (inK b o e) ?_
    cases q : H b with
    | none => rfl
    | some u =>
      cases hAt b u q
      rw [hOwn u q] at e
      cases e
  have M : Mod K mg (hidT s₁.heap H) := by
    obtain ⟨mc, h1, h2⟩ := noLim
    exact ⟨inB, nsKeep glo, ⟨mb, nsKeep blt, boot⟩, ⟨mc, nsKeep h1, h2⟩⟩
  have env : Env0 P w K mg (hidT s₁.heap H) callerA [] s₁ H := by
    refine ⟨rfl, M, fun b o e => of_hidT e, Nat.le_of_eq (hidT_size _ _), trivial, fun b hb => ?_, hOk, .of_eq noGen⟩
    exact nomatch (show b ∈ ([] : List Addr) from hb)
  refine codeAny_mono ((F _ inB (nsKeep glo)).runs callerA [] s₁ H ⟨[.ref a], []⟩ [.ref a] [.ref a] _ _ rfl room env (bind s₁ (.ref a)) (.cons rfl .nil) (hsp H hOnly hScr)) ?_
  intro res s' hres
  match res, hres with
  | .error _, hres => exact False.elim hres
  | .ok .next, hres => exact False.elim hres
  | .ok .brk, hres => exact False.elim hres
  | .ok .cont, hres => exact False.elim hres
  | .ok (.ret u), hres =>
    obtain ⟨v, H', os, bare, un, ok', rv, q⟩ := hres
    cases (show v = .bl true from q)
    cases (show u = Value.bool true from rv)
    refine ⟨rfl, OldK.of_keep (fun b o e => ?_), os, bare⟩
    cases q : H b with
    | none => exact un.keep b o e q (fun z => nomatch (show b ∈ ([] : List Addr) from z)) (by simp)
    | some u =>
      rcases hOnly b with z | ⟨ob, xs, z⟩
      · rw [q] at z
        cases z
      · have before := (hOk b _ z).1
        have after := (ok' b _ (un.frzs b ob _ z)).1
        rw [e] at before
        cases before
        exact after

theorem walkG {l : PySem.W.OpenLaw} {n k : Nat} {q : Program} {loose : List Str} {XP : (Str → Option Value) → Heap → Prop} {YP : World → Heap → Prop} {d : DefRec} {K : Params → PySem.W.Frag} {sp : PySem.W.Frag → Sp} {x : Str}
    (many : l.most = some n) (small : n ≤ sizeLine) (noDef : d.params.defaults = []) (room : Room k callerA)
    (inK : ∀ (w : World) (h : Heap), YP w h → (K w.params).In h)
    (F : ∀ (w : World) (mg : Str → Option Value) (fa : Addr) (h : Heap), (K w.params).In h → h.Ns mainGlobals mg → mg d.name = some (.ref fa) →
      ∃ fd : FuncData, (∀ (s : Shared) (u : Value), BindsTo s fd ⟨[u], []⟩ [(x, u)]) ∧
        ∀ base : Heap, (K w.params).In base → base.Ns mainGlobals mg → FnG l.prog w (K w.params) mg base k fa fd [x] (sp (K w.params)))
    (hsp : ∀ (K : PySem.W.Frag) (H : Hp) (a : Addr) (ns : List Int), ns.length ≤ n → Only H → SqL K H a (ns.map V.int) → sp K [.ref a] H (fun v _ => v = .bl true) E0) :
    PySem.W.WalkO q loose XP YP l.row.toRowW d [] (fun f vs => PySem.call f vs) := by
  apply Att.attach_call many noDef
  intro w s₀ s₁ mg mb fa o pm cd doc a vs ns G Y ho hd hcd hmg hobj hints hlen hg
  obtain ⟨fd, hb, hF⟩ := F w mg fa _ (inK w _ Y) G.T.g hmg
  exact lawG (inK w _ Y) G.T.g G.T.b G.T.builtins G.T.nolimit hg hobj hints (Nat.le_trans hlen small) room hF hb fun H hO hS => hsp (K w.params) H a ns hlen hO hS
end U

set_option Elab.async false
set_option linter.all false
set_option maxRecDepth 100000
set_option maxHeartbeats 2000000
namespace U
open PySem PySem.Spec PyProof.Rows L2

/-! ### data in the heap, off the places that are written (M) -/
mutual
inductive T (K : PySem.W.Frag) (M : List Addr) (H : Hp) : V → PyData → Prop
  | non : T K M H .non .none
  | bl (b : Bool) : T K M H (.bl b) (.bool b)
  | int (i : Int) : T K M H (.int i) (.int i)
  | str (x : Str) : T K M H (.str x) (.str x)
  | lst {a : Addr} {xs : List V} {ds : List PyData} : a ∉ M → H a = some (.lst xs) → TA K M H xs ds → T K M H (.ref a) (.list ds)
  | tup {a : Addr} {xs : List V} {ds : List PyData} : a ∉ M → H a = some (.tup xs) → TA K M H xs ds → T K M H (.ref a) (.tuple ds)
  | dct {a : Addr} {kvs : List (Key × V)} {es : List (PyData × PyData)} : a ∉ M → H a = some (.dK kvs) → TK K M H kvs es → T K M H (.ref a) (.dict es)
inductive TA (K : PySem.W.Frag) (M : List Addr) (H : Hp) : List V → List PyData → Prop
  | nil : TA K M H [] []
  | cons {v : V} {vs : List V} {d : PyData} {ds : List PyData} : T K M H v d → TA K M H vs ds → TA K M H (v :: vs) (d :: ds)
inductive TK (K : PySem.W.Frag) (M : List Addr) (H : Hp) : List (Key × V) → List (PyData × PyData) → Prop
  | nil : TK K M H [] []
  | cons {k : Key} {v : V} {e d : PyData} {kvs : List (Key × V)} {es : List (PyData × PyData)} : T K M H (kV k) e → T K M H v d → TK K M H kvs es → TK K M H ((k, v) :: kvs) ((e, d) :: es)
end

/-- what was tracked off M stands as before -/
def Ext (M : List Addr) (H H' : Hp) : Prop := ∀ b o, b ∉ M → H b = some o → H' b = some o
theorem Ext.refl (M : List Addr) (H : Hp) : Ext M H H := fun _ _ _ h => h
theorem Ext.trans {M : List Addr} {H H1 H2 : Hp} (a : Ext M H H1) (b : Ext M H1 H2) : Ext M H H2 := fun c o h e => b c o h (a c o h e)
theorem Ext.same {M : List Addr} {H H' : Hp} (a : Same H H') : Ext M H H' := fun b o _ e => a b o e
theorem Ext.sub {M N : List Addr} {H H' : Hp} (a : Ext M H H') (h : ∀ b ∈ M, b ∈ N) : Ext N H H' := fun b o n e => a b o (fun z => n (h b z)) e
theorem Ext.new {M : List Addr} {H : Hp} {p : Addr} {o : HO} (h : H p = none) : Ext M H (upd H p o) := fun b u _ e => by
  rw [upd_ne (ne_of_none e h)]
  exact e
theorem Ext.put {M : List Addr} {H : Hp} {p : Addr} {o : HO} (h : p ∈ M) : Ext M H (upd H p o) := fun b u n e => by
  have q : b ≠ p := by
    rintro rfl
    exact n h
  rw [upd_ne q]
  exact e
theorem Same.new {H : Hp} {p : Addr} {o : HO} (h : H p = none) : Same H (upd H p o) := fun b u e => by
  rw [upd_ne (ne_of_none e h)]
  exact e
theorem Same.newer {H H' : Hp} {p : Addr} {o : HO} (s : Same H H') (h : H p = none) : Same H (upd H' p o) := fun b u e => by
  rw [upd_ne (ne_of_none e h)]
  exact s b u e

section
variable {K : PySem.W.Frag} {M N : List Addr} {H H' : Hp}
theorem SqT.ext {a : Addr} {xs : List V} (e : Ext M H H') (n : a ∉ M) (h : SqT K H a xs) : SqT K H' a xs := by
  rcases h with (h | ⟨o, h⟩) | h
  · exact Or.inl (Or.inl (e _ _ n h))
  · exact Or.inl (Or.inr ⟨o, e _ _ n h⟩)
  · exact Or.inr h
mutual
theorem T.ext (e : Ext M H H') : ∀ {v : V} {d : PyData}, T K M H v d → T K M H' v d
  | _, _, .non => .non
  | _, _, .bl b => .bl b
  | _, _, .int i => .int i
  | _, _, .str x => .str x
  | _, _, .lst n h t => .lst n (e _ _ n h) (TA.ext e t)
  | _, _, .tup n h t => .tup n (e _ _ n h) (TA.ext e t)
  | _, _, .dct n h t => .dct n (e _ _ n h) (TK.ext e t)
theorem TA.ext (e : Ext M H H') : ∀ {vs : List V} {ds : List PyData}, TA K M H vs ds → TA K M H' vs ds
  | _, _, .nil => .nil
  | _, _, .cons h t => .cons (T.ext e h) (TA.ext e t)
theorem TK.ext (e : Ext M H H') : ∀ {kvs : List (Key × V)} {es : List (PyData × PyData)}, TK K M H kvs es → TK K M H' kvs es
  | _, _, .nil => .nil
  | _, _, .cons h g t => .cons (T.ext e h) (T.ext e g) (TK.ext e t)
end
mutual
/-- off fewer places -/
theorem T.off (s : ∀ b ∈ N, b ∈ M) : ∀ {v : V} {d : PyData}, T K M H v d → T K N H v d
  | _, _, .non => .non
  | _, _, .bl b => .bl b
  | _, _, .int i => .int i
  | _, _, .str x => .str x
  | _, _, .lst n h t => .lst (fun z => n (s _ z)) h (TA.off s t)
  | _, _, .tup n h t => .tup (fun z => n (s _ z)) h (TA.off s t)
  | _, _, .dct n h t => .dct (fun z => n (s _ z)) h (TK.off s t)
theorem TA.off (s : ∀ b ∈ N, b ∈ M) : ∀ {vs : List V} {ds : List PyData}, TA K M H vs ds → TA K N H vs ds
  | _, _, .nil => .nil
  | _, _, .cons h t => .cons (T.off s h) (TA.off s t)
theorem TK.off (s : ∀ b ∈ N, b ∈ M) : ∀ {kvs : List (Key × V)} {es : List (PyData × PyData)}, TK K M H kvs es → TK K N H kvs es
  | _, _, .nil => .nil
  | _, _, .cons h g t => .cons (T.off s h) (T.off s g) (TK.off s t)
end
mutual
/-- off one more place, which is free -/
theorem T.plus {p : Addr} (hp : H p = none) : ∀ {v : V} {d : PyData}, T K M H v d → T K (p :: M) H v d
  | _, _, .non => .non
  | _, _, .bl b => .bl b
  | _, _, .int i => .int i
  | _, _, .str x => .str x
  | _, _, .lst n h t => .lst (fun z => (List.mem_cons.mp z).elim (ne_of_none h hp) n) h (TA.plus hp t)
  | _, _, .tup n h t => .tup (fun z => (List.mem_cons.mp z).elim (ne_of_none h hp) n) h (TA.plus hp t)
  | _, _, .dct n h t => .dct (fun z => (List.mem_cons.mp z).elim (ne_of_none h hp) n) h (TK.plus hp t)
theorem TA.plus {p : Addr} (hp : H p = none) : ∀ {vs : List V} {ds : List PyData}, TA K M H vs ds → TA K (p :: M) H vs ds
  | _, _, .nil => .nil
  | _, _, .cons h t => .cons (T.plus hp h) (TA.plus hp t)
theorem TK.plus {p : Addr} (hp : H p = none) : ∀ {kvs : List (Key × V)} {es : List (PyData × PyData)}, TK K M H kvs es → TK K (p :: M) H kvs es
  | _, _, .nil => .nil
  | _, _, .cons h g t => .cons (T.plus hp h) (T.plus hp g) (TK.plus hp t)
end
theorem T.same (s : Same H H') {v : V} {d : PyData} (h : T K M H v d) : T K M H' v d := T.ext (Ext.same s) h
theorem TA.same (s : Same H H') {v : List V} {d : List PyData} (h : TA K M H v d) : TA K M H' v d := TA.ext (Ext.same s) h
theorem TA.len : ∀ {vs : List V} {ds : List PyData}, TA K M H vs ds → vs.length = ds.length
  | _, _, .nil => rfl
  | _, _, .cons _ t => by rw [List.length_cons, List.length_cons, TA.len t]
theorem TA.get : ∀ {vs : List V} {ds : List PyData} {i : Nat} {v : V}, TA K M H vs ds → vs[i]? = some v → ∃ d, ds[i]? = some d ∧ T K M H v d
  | _, _, _, _, .nil, e => by simp at e
  | _, _, 0, _, .cons h _, e => by simp at e; subst e; exact ⟨_, rfl, h⟩
  | _, _, i + 1, _, .cons _ t, e => by
    obtain ⟨d, h1, h2⟩ := TA.get (i := i) t (by simpa using e)
    exact ⟨d, by simpa using h1, h2⟩
theorem TA.app : ∀ {vs us : List V} {ds es : List PyData}, TA K M H vs ds → TA K M H us es → TA K M H (vs ++ us) (ds ++ es)
  | _, _, _, _, .nil, s => s
  | _, _, _, _, .cons h t, s => .cons h (TA.app t s)
theorem TA.take : ∀ {vs : List V} {ds : List PyData} (n : Nat), TA K M H vs ds → TA K M H (vs.take n) (ds.take n)
  | _, _, 0, _ => .nil
  | _, _, _ + 1, .nil => .nil
  | _, _, n + 1, .cons h t => .cons h (TA.take n t)
theorem TA.drop : ∀ {vs : List V} {ds : List PyData} (n : Nat), TA K M H vs ds → TA K M H (vs.drop n) (ds.drop n)
  | _, _, 0, h => h
  | _, _, _ + 1, .nil => .nil
  | _, _, n + 1, .cons _ t => TA.drop n t
theorem TA.one {v : V} {d : PyData} (h : T K M H v d) : TA K M H [v] [d] := .cons h .nil
theorem TA.ints : ∀ (is : List Int), TA K M H (is.map V.int) (is.map PyData.int)
  | [] => .nil
  | i :: is => .cons (.int i) (TA.ints is)
theorem TA.bls : ∀ (is : List Bool), TA K M H (is.map V.bl) (is.map PyData.bool)
  | [] => .nil
  | i :: is => .cons (.bl i) (TA.bls is)
end

/-! ### such data is read off the concrete heap -/
section
variable {X : Cx} {pins : List (Addr × Obj)} {σ : L2.St} {H : Hp} {s : Shared} {M : List Addr}
theorem pairs_two {P : Program} {w : World} : ∀ {es : List DictEntry} {kvs : List (Key × V)} {us : List (Key × Value)}, Pairs (mixKind P w) es us → KV kvs us →
    Vals (kvs.map fun p => kV p.1) (es.map (·.key)) ∧ Vals (kvs.map (·.2)) (es.map (·.val))
  | _, _, _, .nil, .nil => ⟨.nil, .nil⟩
  | _, _, _, .cons (e := e) h1 h2 t, .cons r rs => by
    obtain ⟨a, b⟩ := pairs_two t rs
    refine ⟨.cons ?_ a, .cons ?_ b⟩
    · show L2.RelV (kV _) _
      rw [r.1]
      rcases keyIs_shape h1 with ⟨i, t, e1, e2⟩ | ⟨x, t, e1, e2⟩
      · rw [e1]
        exact ⟨t, e2⟩
      · rw [e1]
        exact ⟨t, e2⟩
    · show L2.RelV _ (DictEntry.val _)
      rw [h2]
      exact r.2
mutual
theorem T.reads (I : Inv X pins σ H s) : ∀ (d : PyData) (v : V) (u : Value), T X.K M H v d → RelV v u → ∃ as, Reads s.heap u d as
  | .none, _, _, h, r => by
    cases h
    cases r
    exact ⟨_, .none⟩
  | .bool b, _, _, h, r => by
    cases h
    cases r
    exact ⟨_, .bool b⟩
  | .int i, _, _, h, r => by
    cases h
    obtain ⟨t, rfl⟩ := r
    exact ⟨_, .int i t⟩
  | .str x, _, _, h, r => by
    cases h
    obtain ⟨t, rfl⟩ := r
    exact ⟨_, .str x t⟩
  | .list ds, _, _, h, r => by
    cases h with
    | lst n ha t =>
      cases r
      obtain ⟨its, rv, ⟨o, k, ho, hc, _, hd⟩, _⟩ := I.list (SqL.of ha)
      obtain ⟨as, q⟩ := TA.reads I ds _ its t rv
      exact ⟨_, .list ho hc hd q⟩
  | .tuple ds, _, _, h, r => by
    cases h with
    | tup n ha t =>
      cases r
      obtain ⟨its, rv, ⟨o, ho, hc, k, hd⟩, _⟩ := I.tuple (SqT.of ha)
      obtain ⟨as, q⟩ := TA.reads I ds _ its t rv
      exact ⟨_, .tuple ho hc hd q⟩
  | .dict es, _, _, h, r => by
    cases h with
    | dct n ha t =>
      cases r
      obtain ⟨_, _, us, kv, o, es', ep, ho, hx, hd, _, hp, _⟩ := I.hok _ _ ha
      obtain ⟨r1, r2⟩ := pairs_two hp kv
      obtain ⟨⟨as, q1⟩, ⟨bs, q2⟩⟩ := TK.reads I es _ _ _ t r1 r2
      exact ⟨_, .dict ho hx.1 hd q1 q2⟩
theorem TA.reads (I : Inv X pins σ H s) : ∀ (ds : List PyData) (vs : List V) (us : List Value), TA X.K M H vs ds → Vals vs us → ∃ as, ReadsAll s.heap us ds as
  | [], _, _, h, r => by
    cases h
    cases r
    exact ⟨_, .nil⟩
  | d :: ds, _, _, h, r => by
    cases h with
    | cons h1 h2 =>
      cases r with
      | cons r1 r2 =>
        obtain ⟨as, q1⟩ := T.reads I d _ _ h1 r1
        obtain ⟨bs, q2⟩ := TA.reads I ds _ _ h2 r2
        exact ⟨_, .cons q1 q2⟩
theorem TK.reads (I : Inv X pins σ H s) : ∀ (es : List (PyData × PyData)) (kvs : List (Key × V)) (ks us : List Value), TK X.K M H kvs es → Vals (kvs.map fun p => kV p.1) ks → Vals (kvs.map (·.2)) us →
    (∃ as, ReadsAll s.heap ks (es.map (·.1)) as) ∧ ∃ bs, ReadsAll s.heap us (es.map (·.2)) bs
  | [], _, _, _, h, r1, r2 => by
    cases h
    cases r1
    cases r2
    exact ⟨⟨_, .nil⟩, ⟨_, .nil⟩⟩
  | (e, d) :: es, _, _, _, h, r1, r2 => by
    cases h with
    | cons h1 h2 h3 =>
      cases r1 with
      | cons a1 b1 =>
        cases r2 with
        | cons a2 b2 =>
          obtain ⟨as, q1⟩ := T.reads I e _ _ h1 a1
          obtain ⟨bs, q2⟩ := T.reads I d _ _ h2 a2
          obtain ⟨⟨cs, q3⟩, ⟨fs, q4⟩⟩ := TK.reads I es _ _ _ h3 b1 b2
          exact ⟨⟨_, .cons q1 q3⟩, ⟨_, .cons q2 q4⟩⟩
end
mutual
/-- .. and shown -/
theorem T.shows (I : Inv X pins σ H s) : ∀ (d : PyData) (v : V) (u : Value), T X.K M H v d → RelV v u → d.showable = true → d.shown.length ≤ sizeLine →
    ∃ bs, ReadAtMost s.heap d.depth bs ∧ ReprK X.prog X.w bs s.heap d.depth u d.shown
  | .none, _, _, h, r, _, _ => by
    cases h
    cases r
    exact ⟨[], (fun _ z => nomatch z), by simpa only [PyData.shown] using ReprK.of_is ReprIs.none [] s.heap _⟩
  | .bool b, _, _, h, r, _, _ => by
    cases h
    cases r
    exact ⟨[], (fun _ z => nomatch z), by simpa only [PyData.shown] using ReprK.of_is (ReprIs.bool b) [] s.heap _⟩
  | .int i, _, _, h, r, hs, _ => by
    cases h
    obtain ⟨t, rfl⟩ := r
    exact ⟨[], (fun _ z => nomatch z), by simpa only [PyData.shown] using ReprK.of_is (ReprIs.int t (by simpa [PyData.showable] using hs)) [] s.heap _⟩
  | .str x, _, _, h, r, _, hz => by
    cases h
    obtain ⟨t, rfl⟩ := r
    exact ⟨[], (fun _ z => nomatch z), by simpa only [PyData.shown] using ReprK.of_is (ReprIs.str x t (by simpa only [PyData.shown] using hz)) [] s.heap _⟩
  | .list ds, v, u, h, r, hs, hz => by
    obtain ⟨as0, rd⟩ := T.reads I _ v u h r
    cases h with
    | lst n ha t =>
      cases r
      obtain ⟨its, rv, ⟨o, k, ho, hc, _, hd⟩, _⟩ := I.list (SqL.of ha)
      have z' : (listText (PyData.shownAll ds)).length ≤ sizeLine := by simpa only [PyData.shown] using hz
      obtain ⟨bs, low, all⟩ := TA.shows I ds _ its t rv (by simpa [PyData.showable] using hs) fun x hx => Nat.le_trans (listText_mem_le hx) z'
      have out := not_mem_of_deeper rd (by simp only [PyData.depth]; omega) low
      refine ⟨_ :: bs, ReadAtMost.cons rd (by simp only [PyData.depth]; omega) low, ?_⟩
      simp only [PyData.depth, PyData.shown]
      cases its with
      | nil =>
        cases rv
        cases t
        simp only [PyData.shownAll, listText_nil]
        exact ReprK.listEmpty ho hc hd
      | cons x l => exact ReprK.list ho hc hd out (by simpa using all.length_eq) fun i y e => all.item i y (by simpa using e)
  | .tuple ds, v, u, h, r, hs, hz => by
    obtain ⟨as0, rd⟩ := T.reads I _ v u h r
    cases h with
    | tup n ha t =>
      cases r
      obtain ⟨its, rv, ⟨o, ho, hc, k, hd⟩, _⟩ := I.tuple (SqT.of ha)
      have z' : (tupleText (PyData.shownAll ds)).length ≤ sizeLine := by simpa only [PyData.shown] using hz
      obtain ⟨bs, low, all⟩ := TA.shows I ds _ its t rv (by simpa [PyData.showable] using hs) fun x hx => Nat.le_trans (tupleText_mem_le hx) z'
      have out := not_mem_of_deeper rd (by simp only [PyData.depth]; omega) low
      refine ⟨_ :: bs, ReadAtMost.cons rd (by simp only [PyData.depth]; omega) low, ?_⟩
      simp only [PyData.depth, PyData.shown]
      exact ReprK.tuple ho hc hd out (by simpa using all)
  | .dict es, v, u, h, r, hs, hz => by
    obtain ⟨as0, rd⟩ := T.reads I _ v u h r
    cases h with
    | dct n ha t =>
      cases r
      obtain ⟨_, sys, us, kv, o, es', ep, ho, hx, hd, _, hp, _⟩ := I.hok _ _ ha
      obtain ⟨r1, r2⟩ := pairs_two hp kv
      have z' : (dictText (PyData.shownKv es)).length ≤ sizeLine := by simpa only [PyData.shown] using hz
      obtain ⟨s1, s2⟩ := PyData.showableKv_split es (by simpa [PyData.showable] using hs)
      obtain ⟨⟨b1, l1, k1⟩, ⟨b2, l2, k2⟩⟩ := TK.shows I es _ _ _ t r1 r2 s1 s2
        (fun x hx => let ⟨p, hp, hl⟩ := PyData.shownKv_key_le es x hx; Nat.le_trans hl (Nat.le_trans (dictText_mem_le hp) z'))
        (fun x hx => let ⟨p, hp, hl⟩ := PyData.shownKv_val_le es x hx; Nat.le_trans hl (Nat.le_trans (dictText_mem_le hp) z'))
      have low : ReadAtMost s.heap (PyData.depthKv es) (b1 ++ b2) := (l1.mono (PyData.depthAll_keys_le es)).append (l2.mono (PyData.depthAll_vals_le es))
      have out := not_mem_of_deeper rd (by simp only [PyData.depth]; omega) low
      refine ⟨_ :: (b1 ++ b2), ReadAtMost.cons rd (by simp only [PyData.depth]; omega) low, ?_⟩
      simp only [PyData.depth, PyData.shown, PyData.shownKv_eq]
      exact ReprK.dict ho hx.1 hd sys out (ReprEntriesK.of_two es'.toList _ _ (k1.more_le (fun b hb => List.mem_append_left _ hb) (PyData.depthAll_keys_le es))
        (k2.more_le (fun b hb => List.mem_append_right _ hb) (PyData.depthAll_vals_le es)))
theorem TA.shows (I : Inv X pins σ H s) : ∀ (ds : List PyData) (vs : List V) (us : List Value), TA X.K M H vs ds → Vals vs us → PyData.showableAll ds = true → (∀ t ∈ PyData.shownAll ds, t.length ≤ sizeLine) →
    ∃ bs, ReadAtMost s.heap (PyData.depthAll ds) bs ∧ ReprAllK X.prog X.w bs s.heap (PyData.depthAll ds) us (PyData.shownAll ds)
  | [], _, _, h, r, _, _ => by
    cases h
    cases r
    exact ⟨[], (fun _ z => nomatch z), by simpa only [PyData.shownAll] using ReprAllK.nil⟩
  | d :: ds, _, _, h, r, hs, hz => by
    cases h with
    | cons h1 h2 =>
      cases r with
      | cons r1 r2 =>
        have hs' : d.showable = true ∧ PyData.showableAll ds = true := by simpa [PyData.showableAll] using hs
        obtain ⟨b1, l1, k1⟩ := T.shows I d _ _ h1 r1 hs'.1 (hz _ (by simp only [PyData.shownAll]; exact List.mem_cons_self ..))
        obtain ⟨b2, l2, k2⟩ := TA.shows I ds _ _ h2 r2 hs'.2 fun t ht => hz t (by simp only [PyData.shownAll]; exact List.mem_cons_of_mem _ ht)
        refine ⟨b1 ++ b2, ?_, ?_⟩
        · simp only [PyData.depthAll]
          exact (l1.mono (Nat.le_max_left _ _)).append (l2.mono (Nat.le_max_right _ _))
        · simp only [PyData.depthAll, PyData.shownAll]
          exact .cons ((k1.more fun b hb => List.mem_append_left _ hb).level_le (Nat.le_max_left _ _)) (k2.more_le (fun b hb => List.mem_append_right _ hb) (Nat.le_max_right _ _))
theorem TK.shows (I : Inv X pins σ H s) : ∀ (es : List (PyData × PyData)) (kvs : List (Key × V)) (ks us : List Value), TK X.K M H kvs es → Vals (kvs.map fun p => kV p.1) ks → Vals (kvs.map (·.2)) us →
    PyData.showableAll (es.map (·.1)) = true → PyData.showableAll (es.map (·.2)) = true → (∀ t ∈ PyData.shownAll (es.map (·.1)), t.length ≤ sizeLine) → (∀ t ∈ PyData.shownAll (es.map (·.2)), t.length ≤ sizeLine) →
    (∃ bs, ReadAtMost s.heap (PyData.depthAll (es.map (·.1))) bs ∧ ReprAllK X.prog X.w bs s.heap (PyData.depthAll (es.map (·.1))) ks (PyData.shownAll (es.map (·.1)))) ∧
    (∃ bs, ReadAtMost s.heap (PyData.depthAll (es.map (·.2))) bs ∧ ReprAllK X.prog X.w bs s.heap (PyData.depthAll (es.map (·.2))) us (PyData.shownAll (es.map (·.2))))
  | [], _, _, _, h, r1, r2, _, _, _, _ => by
    cases h
    cases r1
    cases r2
    exact ⟨⟨[], (fun _ z => nomatch z), by simpa only [List.map_nil, PyData.shownAll] using ReprAllK.nil⟩, ⟨[], (fun _ z => nomatch z), by simpa only [List.map_nil, PyData.shownAll] using ReprAllK.nil⟩⟩
  | (e, d) :: es, _, _, _, h, r1, r2, s1, s2, z1, z2 => by
    cases h with
    | cons h1 h2 h3 =>
      cases r1 with
      | cons a1 c1 =>
        cases r2 with
        | cons a2 c2 =>
          simp only [List.map_cons] at s1 s2 z1 z2 ⊢
          have t1 : e.showable = true ∧ PyData.showableAll (es.map (·.1)) = true := by simpa [PyData.showableAll] using s1
          have t2 : d.showable = true ∧ PyData.showableAll (es.map (·.2)) = true := by simpa [PyData.showableAll] using s2
          obtain ⟨b1, l1, k1⟩ := T.shows I e _ _ h1 a1 t1.1 (z1 _ (by simp only [PyData.shownAll]; exact List.mem_cons_self ..))
          obtain ⟨b2, l2, k2⟩ := T.shows I d _ _ h2 a2 t2.1 (z2 _ (by simp only [PyData.shownAll]; exact List.mem_cons_self ..))
          obtain ⟨⟨b3, l3, k3⟩, ⟨b4, l4, k4⟩⟩ := TK.shows I es _ _ _ h3 c1 c2 t1.2 t2.2 (fun t ht => z1 t (by simp only [PyData.shownAll]; exact List.mem_cons_of_mem _ ht)) (fun t ht => z2 t (by simp only [PyData.shownAll]; exact List.mem_cons_of_mem _ ht))
          refine ⟨⟨b1 ++ b3, ?_, ?_⟩, ⟨b2 ++ b4, ?_, ?_⟩⟩
          · simp only [PyData.depthAll]
            exact (l1.mono (Nat.le_max_left _ _)).append (l3.mono (Nat.le_max_right _ _))
          · simp only [PyData.depthAll, PyData.shownAll]
            exact .cons ((k1.more fun b hb => List.mem_append_left _ hb).level_le (Nat.le_max_left _ _)) (k3.more_le (fun b hb => List.mem_append_right _ hb) (Nat.le_max_right _ _))
          · simp only [PyData.depthAll]
            exact (l2.mono (Nat.le_max_left _ _)).append (l4.mono (Nat.le_max_right _ _))
          · simp only [PyData.depthAll, PyData.shownAll]
            exact .cons ((k2.more fun b hb => List.mem_append_left _ hb).level_le (Nat.le_max_left _ _)) (k4.more_le (fun b hb => List.mem_append_right _ hb) (Nat.le_max_right _ _))
end
end

/-! ### repr -/
/-- what repr asks of data: ints of a size that is written out, a text that fits -/
def Shown (d : PyData) : Prop := d.showable = true ∧ d.shown.length ≤ sizeLine ∧ d.depth ≤ 100
def rRepr (K : PySem.W.Frag) : List V → Hp → VK → Prop := fun xs H Q => ∃ (v : V) (M : List Addr) (d : PyData), xs = [v] ∧ T K M H v d ∧ Shown d ∧ Q (.str d.shown) H
section
variable {X : Cx}
theorem call_repr {k : Nat} (hG : X.A.guards = some []) (hr : Room k X.A) : CallR X (.builtin "repr") (rRepr X.K) := by
  intro pins s σ H xs us Q I r h
  obtain ⟨v, M, d, rfl, ht, ⟨hs, hz, hd⟩, q⟩ := h
  obtain ⟨u, rfl, ru⟩ := vals1 r
  have room := hr.un
  have back : ∀ h' tok tk, (∀ b o, s.heap.get? b = some o → h'.get? b = some o) → EP X pins σ Q (.str d.shown tok) { s with heap := h', toks := tk } := fun h' tok tk kp => ⟨.str d.shown, H, I.kept kp, ⟨tok, rfl⟩, q⟩
  have ofCall : ∀ h' tok tk, (∀ b o, s.heap.get? b = some o → h'.get? b = some o) → ∃ y t, Value.str d.shown tok = Value.str y t ∧ EP X pins σ Q (.str d.shown tok) { s with heap := h', toks := tk } := fun h' tok tk kp => ⟨_, _, rfl, back h' tok tk kp⟩
  cases ht with
  | non =>
    cases ru
    exact PySem.P.repr_of_none (by simpa only [PyData.shown] using back s.heap _ _ fun _ _ e => e)
  | bl b =>
    cases ru
    exact PySem.P.repr_of_bool (by simpa only [PyData.shown] using back s.heap _ _ fun _ _ e => e)
  | int i =>
    obtain ⟨t, rfl⟩ := ru
    exact PySem.P.repr_of_int (by simpa [PyData.showable] using hs) (by simpa only [PyData.shown] using back s.heap _ _ fun _ _ e => e)
  | str x =>
    obtain ⟨t, rfl⟩ := ru
    exact PySem.P.repr_of_str (by simpa only [PyData.shown] using back s.heap _ _ fun _ _ e => e) (by simpa only [PyData.shown] using hz)
  | @lst a xs ds n ha t =>
    obtain ⟨as0, rd⟩ := T.reads I _ _ _ (T.lst n ha t) ru
    cases ru
    obtain ⟨its, rv, ⟨o, k', ho, hc, _, hdat⟩, _⟩ := I.list (SqL.of ha)
    have z' : (listText (PyData.shownAll ds)).length ≤ sizeLine := by simpa only [PyData.shown] using hz
    obtain ⟨bs, low, all⟩ := TA.shows I ds _ its t rv (by simpa [PyData.showable] using hs) fun x hx => Nat.le_trans (listText_mem_le hx) z'
    have out := not_mem_of_deeper rd (by simp only [PyData.depth]; omega) low
    simp only [PyData.depth] at hd
    simp only [PyData.shown] at ofCall
    refine call_repr_slot (T := "list") (idr := "list.__repr__") (by omega) ⟨o, ho, hc⟩ F.slot_list_repr.toG ?_
    cases its with
    | nil =>
      cases rv
      cases t
      simp only [PyData.shownAll, listText_nil] at ofCall
      exact call_list_repr_empty ⟨o, ho, hc⟩ ho hdat (ofCall s.heap _ _ fun _ _ e => e)
    | cons x l =>
      exact call_list_reprK ho hc hdat out (by simpa using all.length_eq) (fun i y e => all.item i y (by simpa using e)) hG (fun b _ => Clear.nil b) (by show X.A.units + 1 + (_ + 1) < cLine; omega) (fun _ _ e => e) ofCall z'
  | @tup a xs ds n ha t =>
    obtain ⟨as0, rd⟩ := T.reads I _ _ _ (T.tup n ha t) ru
    cases ru
    obtain ⟨its, rv, ⟨o, ho, hc, k', hdat⟩, _⟩ := I.tuple (SqT.of ha)
    have z' : (tupleText (PyData.shownAll ds)).length ≤ sizeLine := by simpa only [PyData.shown] using hz
    obtain ⟨bs, low, all⟩ := TA.shows I ds _ its t rv (by simpa [PyData.showable] using hs) fun x hx => Nat.le_trans (tupleText_mem_le hx) z'
    have out := not_mem_of_deeper rd (by simp only [PyData.depth]; omega) low
    simp only [PyData.depth] at hd
    simp only [PyData.shown] at ofCall
    refine call_repr_slot (T := "tuple") (idr := "tuple.__repr__") (by omega) ⟨o, ho, hc⟩ F.slot_tuple_repr ?_
    exact call_tuple_reprK ho hc hdat out (by simpa using all) hG (fun b _ => Clear.nil b) (by show X.A.units + 1 + (_ + 1) < cLine; omega) (fun _ _ e => e) ofCall z'
  | @dct a kvs es n ha t =>
    obtain ⟨as0, rd⟩ := T.reads I _ _ _ (T.dct n ha t) ru
    cases ru
    obtain ⟨_, sys, us, kv, o, es', ep, ho, hx, hdat, _, hp, _⟩ := I.hok _ _ ha
    obtain ⟨r1, r2⟩ := pairs_two hp kv
    have z' : (dictText (PyData.shownKv es)).length ≤ sizeLine := by simpa only [PyData.shown] using hz
    obtain ⟨s1, s2⟩ := PyData.showableKv_split es (by simpa [PyData.showable] using hs)
    obtain ⟨⟨b1, l1, k1⟩, ⟨b2, l2, k2⟩⟩ := TK.shows I es _ _ _ t r1 r2 s1 s2
      (fun x hx => let ⟨p, hp, hl⟩ := PyData.shownKv_key_le es x hx; Nat.le_trans hl (Nat.le_trans (dictText_mem_le hp) z'))
      (fun x hx => let ⟨p, hp, hl⟩ := PyData.shownKv_val_le es x hx; Nat.le_trans hl (Nat.le_trans (dictText_mem_le hp) z'))
    have low : ReadAtMost s.heap (PyData.depthKv es) (b1 ++ b2) := (l1.mono (PyData.depthAll_keys_le es)).append (l2.mono (PyData.depthAll_vals_le es))
    have out := not_mem_of_deeper rd (by simp only [PyData.depth]; omega) low
    simp only [PyData.depth] at hd
    simp only [PyData.shown, PyData.shownKv_eq] at ofCall
    refine call_repr_slot (T := "dict") (idr := "dict.__repr__") (by omega) ⟨o, ho, hx.1⟩ F.slot_dict_repr ?_
    exact call_dict_reprK ho hx.1 hdat sys out (ReprEntriesK.of_two es'.toList _ _ (k1.more_le (fun b hb => List.mem_append_left _ hb) (PyData.depthAll_keys_le es))
        (k2.more_le (fun b hb => List.mem_append_right _ hb) (PyData.depthAll_vals_le es))) hG (fun b _ => Clear.nil b) (by show X.A.units + 1 + (PyData.depthKv es + 1) < cLine; omega) (fun _ _ e => e) ofCall (by rw [← PyData.shownKv_eq]; exact z')
end
end U

set_option Elab.async false
set_option linter.all false
set_option maxRecDepth 100000
set_option maxHeartbeats 2000000
namespace U
open PySem PySem.Spec PyProof.Rows L2

/-! ### short steps of a reading -/
section
variable {a b : TS} {D : Ends} {σ : L2.St} {H : Hp}
/-- two statements, what holds between them -/
theorem sq (J : L2.St → Hp → Prop) (h1 : ∀ N : L2.St → Hp → Prop, (∀ σ' H', J σ' H' → N σ' H') → a { D with nx := N } σ H) (h2 : ∀ σ' H', J σ' H' → b D σ' H') : tSeq a b D σ H := h1 _ h2
theorem nx_ {N : L2.St → Hp → Prop} (h : N σ H) : tNext { D with nx := N } σ H := h
theorem two_ {i j : Nat} {x y : V} {Q : L2.St → Hp → Prop} (h : Q ((σ.set i (some x)).set j (some y)) H) : gCons (gName i) (gCons (gName j) gNil) [x, y] σ H Q := ⟨_, _, rfl, _, _, rfl, rfl, h⟩
theorem if_ {P Q : Prop} {c : Bool} (h1 : c = true → P) (h2 : c = false → Q) : if c = true then P else Q := by
  cases c with
  | true => exact iteT (h1 rfl)
  | false => exact iteF (h2 rfl)
theorem idec {P Q c : Prop} [Decidable c] (h1 : c → P) (h2 : ¬ c → Q) : if (decide c) = true then P else Q := by
  by_cases h : c
  · rw [decide_eq_true h]
    exact iteT (h1 h)
  · rw [decide_eq_false h]
    exact iteF (h2 h)
theorem ndec {P Q c : Prop} [Decidable c] (h1 : c → Q) (h2 : ¬ c → P) : if (!decide c) = true then P else Q := by
  by_cases h : c
  · rw [decide_eq_true h]
    exact iteF (h1 h)
  · rw [decide_eq_false h]
    exact iteT (h2 h)
theorem if_t {P Q : Prop} {c : Bool} (e : c = true) (h : P) : if c = true then P else Q := by rw [e]; exact iteT h
theorem if_f {P Q : Prop} {c : Bool} (e : c = false) (h : Q) : if c = true then P else Q := by rw [e]; exact iteF h
end
/-- a comprehension's turn without a test -/
theorem yes_ {te : TE} {σ : L2.St} {H : Hp} {Q : VK} {R : Hp → Prop} (h : te σ H Q) : tYes σ H fun b H' => if b = true then te σ H' Q else R H' := by
  show if true = true then te σ H Q else R H
  rw [if_pos rfl]
  exact h
/-- a module's number -/
theorem pe_gi {X : Cx} {x : Str} {i : Int} {pos : Pos} (hg : Gl X x) (h : ∃ t, X.mg x = some (.int i t)) (hd : (x == ("__debug__" : Str)) = false := by decide) : PE X (.Name x pos) (tC (.int i)) := by
  obtain ⟨t, e⟩ := h
  exact pe_glob hg e ⟨t, rfl⟩ hd
theorem ne_new {H : Hp} {a p : Addr} {o u : HO} (h : H a = some o) (hp : H p = none) : upd H p u a = some o := by
  rw [upd_ne (ne_of_none h hp)]
  exact h
end U

set_option Elab.async false
set_option linter.all false
set_option maxRecDepth 100000
set_option maxHeartbeats 2000000
namespace U
open PySem PySem.Spec PyProof.Rows L2

/-! ### a list or tuple against the empty one -/
section
variable {X : Cx}
theorem lstOf {pins : List (Addr × Obj)} {σ : L2.St} {H : Hp} {s : Shared} {a : Addr} {xs : List V} (I : Inv X pins σ H s) (h : SqL X.K H a xs) : ∃ its : List Value, its.length = xs.length ∧ s.heap.IsList a its.toArray := by
  obtain ⟨its, rv, ⟨o, n, ho, hc, _, hd⟩, _⟩ := I.list h
  exact ⟨its, rv.length.symm, o, ho, hc, n, hd⟩
theorem tupOf {pins : List (Addr × Obj)} {σ : L2.St} {H : Hp} {s : Shared} {a : Addr} {xs : List V} (I : Inv X pins σ H s) (h : SqT X.K H a xs) : ∃ its : List Value, its.length = xs.length ∧ s.heap.IsTuple a its.toArray := by
  obtain ⟨its, rv, ⟨o, ho, hc, n, hd⟩, _⟩ := I.tuple h
  exact ⟨its, rv.length.symm, o, ho, hc, n, hd⟩
def rNil (K : PySem.W.Frag) (neg : Bool) : R2 := fun x y H Q => ∃ a b xs, x = .ref a ∧ y = .ref b ∧ ((SqL K H a xs ∧ SqL K H b []) ∨ (SqT K H a xs ∧ SqT K H b [])) ∧ Q (.bl (if neg then !xs.isEmpty else xs.isEmpty)) H
theorem op_neNil {k : Nat} (hr : Room k X.A) : OpR X (compareOp .NotEq) (rNil X.K true) := by
  intro pins s σ H x y v u Q I rx ry h
  obtain ⟨a, b, xs, rfl, rfl, h, q⟩ := h
  cases (show v = Value.ref a from rx)
  cases (show u = Value.ref b from ry)
  have room := hr.un
  have q' : EP X pins σ Q (.bool (!xs.isEmpty)) s := ⟨.bl (!xs.isEmpty), H, I, rfl, q⟩
  rcases h with ⟨h1, h2⟩ | ⟨h1, h2⟩
  · obtain ⟨i1, l1, L1⟩ := lstOf I h1
    obtain ⟨i2, l2, L2⟩ := lstOf I h2
    have e2 : i2 = [] := List.length_eq_zero_iff.mp l2
    subst e2
    cases xs with
    | nil =>
      have e1 : i1 = [] := List.length_eq_zero_iff.mp l1
      subst e1
      exact PySem.SeqAt.RcNeAt.lists (e := fun _ => true) L1 L2 rfl (by omega) (fun j h1 h2 => absurd h1 (by simp)) _ _ _ _ (by simpa using q')
    | cons x xs =>
      exact PySem.SeqAt.RcNeAt.lists_lengths L1 L2 (by simp [l1]) (by omega) _ _ _ _ q'
  · obtain ⟨i1, l1, L1⟩ := tupOf I h1
    obtain ⟨i2, l2, L2⟩ := tupOf I h2
    have e2 : i2 = [] := List.length_eq_zero_iff.mp l2
    subst e2
    refine PySem.SeqAt.RcNeAt.tuples (e := fun _ => true) L1 L2 (by omega) (fun j h1 h2 => absurd h2 (by simp)) _ _ _ _ ?_
    cases xs with
    | nil => simpa [l1] using q'
    | cons x xs => simpa [l1] using q'
theorem op_eqNil {k : Nat} (hr : Room k X.A) : OpR X (compareOp .Eq) (rNil X.K false) := by
  intro pins s σ H x y v u Q I rx ry h
  obtain ⟨a, b, xs, rfl, rfl, h, q⟩ := h
  cases (show v = Value.ref a from rx)
  cases (show u = Value.ref b from ry)
  have room := hr.un
  have q' : EP X pins σ Q (.bool xs.isEmpty) s := ⟨.bl xs.isEmpty, H, I, rfl, q⟩
  rcases h with ⟨h1, h2⟩ | ⟨h1, h2⟩
  · obtain ⟨i1, l1, L1⟩ := lstOf I h1
    obtain ⟨i2, l2, L2⟩ := lstOf I h2
    have e2 : i2 = [] := List.length_eq_zero_iff.mp l2
    subst e2
    cases xs with
    | nil =>
      have e1 : i1 = [] := List.length_eq_zero_iff.mp l1
      subst e1
      exact PySem.SeqAt.RcAt.lists (e := fun _ => true) L1 L2 rfl (by omega) (fun j h1 h2 => absurd h1 (by simp)) _ _ _ _ (by simpa using q')
    | cons x xs =>
      exact PySem.SeqAt.RcAt.lists_lengths L1 L2 (by simp [l1]) (by omega) _ _ _ _ q'
  · obtain ⟨i1, l1, L1⟩ := tupOf I h1
    obtain ⟨i2, l2, L2⟩ := tupOf I h2
    have e2 : i2 = [] := List.length_eq_zero_iff.mp l2
    subst e2
    refine PySem.SeqAt.RcAt.tuples (e := fun _ => true) L1 L2 (by omega) (fun j h1 h2 => absurd h2 (by simp)) _ _ _ _ ?_
    cases xs with
    | nil => simpa [l1] using q'
    | cons x xs => simpa [l1] using q'
end

/-! ### isinstance of data -/
def tyName : PyData → String
  | .none => "NoneType" | .bool _ => "bool" | .int _ => "int" | .str _ => "str" | .list _ => "list" | .tuple _ => "tuple" | .dict _ => "dict"
theorem T.ty {K : PySem.W.Frag} {M : List Addr} {H : Hp} {v : V} {d : PyData} (h : T K M H v d) : TyX K H v (.type (tyName d)) := by
  cases h with
  | non => exact .base .non
  | bl b => exact .base (.bl b)
  | int i => exact .base (.int i)
  | str x => exact .base (.str x)
  | lst n h t => exact .base (.lst h)
  | tup n h t => exact .base (.tup h)
  | dct n h t => exact .base (.dK h)
def isInt : PyData → Bool | .bool _ => true | .int _ => true | _ => false
def isBool : PyData → Bool | .bool _ => true | _ => false
def isTup : PyData → Bool | .tuple _ => true | _ => false
def isList : PyData → Bool | .list _ => true | _ => false
def isStr : PyData → Bool | .str _ => true | _ => false
theorem kit_int (d : PyData) : kitB (tyName d) "int" = some (isInt d) := by
  cases d with
  | none => exact (by decide +kernel : kitB "NoneType" "int" = some false)
  | bool _ => exact (by decide +kernel : kitB "bool" "int" = some true)
  | int _ => exact (by decide +kernel : kitB "int" "int" = some true)
  | str _ => exact (by decide +kernel : kitB "str" "int" = some false)
  | list _ => exact (by decide +kernel : kitB "list" "int" = some false)
  | tuple _ => exact (by decide +kernel : kitB "tuple" "int" = some false)
  | dict _ => exact (by decide +kernel : kitB "dict" "int" = some false)
theorem kit_bool (d : PyData) : kitB (tyName d) "bool" = some (isBool d) := by
  cases d with
  | none => exact (by decide +kernel : kitB "NoneType" "bool" = some false)
  | bool _ => exact (by decide +kernel : kitB "bool" "bool" = some true)
  | int _ => exact (by decide +kernel : kitB "int" "bool" = some false)
  | str _ => exact (by decide +kernel : kitB "str" "bool" = some false)
  | list _ => exact (by decide +kernel : kitB "list" "bool" = some false)
  | tuple _ => exact (by decide +kernel : kitB "tuple" "bool" = some false)
  | dict _ => exact (by decide +kernel : kitB "dict" "bool" = some false)
theorem kit_tup (d : PyData) : kitB (tyName d) "tuple" = some (isTup d) := by
  cases d with
  | none => exact (by decide +kernel : kitB "NoneType" "tuple" = some false)
  | bool _ => exact (by decide +kernel : kitB "bool" "tuple" = some false)
  | int _ => exact (by decide +kernel : kitB "int" "tuple" = some false)
  | str _ => exact (by decide +kernel : kitB "str" "tuple" = some false)
  | list _ => exact (by decide +kernel : kitB "list" "tuple" = some false)
  | tuple _ => exact (by decide +kernel : kitB "tuple" "tuple" = some true)
  | dict _ => exact (by decide +kernel : kitB "dict" "tuple" = some false)
theorem kit_list (d : PyData) : kitB (tyName d) "list" = some (isList d) := by
  cases d with
  | none => exact (by decide +kernel : kitB "NoneType" "list" = some false)
  | bool _ => exact (by decide +kernel : kitB "bool" "list" = some false)
  | int _ => exact (by decide +kernel : kitB "int" "list" = some false)
  | str _ => exact (by decide +kernel : kitB "str" "list" = some false)
  | list _ => exact (by decide +kernel : kitB "list" "list" = some true)
  | tuple _ => exact (by decide +kernel : kitB "tuple" "list" = some false)
  | dict _ => exact (by decide +kernel : kitB "dict" "list" = some false)
theorem kit_str (d : PyData) : kitB (tyName d) "str" = some (isStr d) := by
  cases d with
  | none => exact (by decide +kernel : kitB "NoneType" "str" = some false)
  | bool _ => exact (by decide +kernel : kitB "bool" "str" = some false)
  | int _ => exact (by decide +kernel : kitB "int" "str" = some false)
  | str _ => exact (by decide +kernel : kitB "str" "str" = some true)
  | list _ => exact (by decide +kernel : kitB "list" "str" = some false)
  | tuple _ => exact (by decide +kernel : kitB "tuple" "str" = some false)
  | dict _ => exact (by decide +kernel : kitB "dict" "str" = some false)
/-- isinstance(x, type): the answer by the datum -/
theorem isi_ {K : PySem.W.Frag} {M : List Addr} {H : Hp} {v : V} {d : PyData} {n : String} {b : Bool} {Q : VK} (t : T K M H v d) (e : kitB (tyName d) n = some b) (q : Q (.bl b) H) : rIsi K [v, .ty n] H Q :=
  ⟨v, .ty n, _, _, b, rfl, .ty n, t.ty, kit_ty e, q⟩
end U

set_option Elab.async false
set_option linter.all false
set_option maxRecDepth 100000
set_option maxHeartbeats 2000000
namespace U
open PySem PySem.Spec PyProof.Rows L2

theorem not_mem_of_none {N : List Addr} {H : Hp} {D : Addr} (tr : ∀ b ∈ N, H b ≠ none) (h : H D = none) : D ∉ N := fun z => tr D z h
theorem Ext.tracked {N : List Addr} {H H' : Hp} {b : Addr} {o : HO} (e : Ext N H H') (n : b ∉ N) (h : H b = some o) : H' b = some o := e b o n h
theorem Ext.fresh {N : List Addr} {H H' : Hp} {p : Addr} (e : Ext N H H') (n : p ∉ N) (h : H' p = none) : H p = none := by
  cases q : H p with
  | none => rfl
  | some o =>
    rw [e p o n q] at h
    cases h
theorem TA.of_bools {K : PySem.W.Frag} {M : List Addr} {H : Hp} : ∀ {ys : List V} {bs : List Bool}, TA K M H ys (bs.map .bool) → ys = bs.map V.bl
  | _, [], h => by
    cases h
    rfl
  | _, b :: bs, h => by
    cases h with
    | cons h1 h2 =>
      cases h1
      rw [TA.of_bools h2]
      rfl
theorem T.mut {K : PySem.W.Frag} {M : List Addr} {H : Hp} {p : Addr} {o : HO} {v : V} {d : PyData} (h : T K M H v d) (hp : p ∈ M) : T K M (upd H p o) v d := h.ext (Ext.put hp)
section
variable {K : PySem.W.Frag} {M N : List Addr} {g : TG} {tt : TT} {te : TE} {vs : List Nat} {σ : L2.St} {H1 : Hp} {D : Addr} {Qd : Hp → Prop}
/-- what one turn of a comprehension is asked: the item taken, the test, the element; Ky: what is wanted of the element, Kn: where the item is not kept -/
def Turn (g : TG) (tt : TT) (te : TE) (vs : List Nat) (σ : L2.St) (x : V) (H : Hp) (Ky : V → Hp → Prop) (Kn : Hp → Prop) : Prop :=
  g x (wipe σ vs) H fun σ2 H2 => wipe σ2 vs = wipe σ vs ∧ tt σ2 H2 fun b H3 => if b = true then te σ2 H3 Ky else Kn H3

/-- the state ahead of turn i: the list so far -/
def Sofar (K : PySem.W.Frag) (M N : List Addr) (H1 : Hp) (D : Addr) (J : Nat → Hp → Prop) (keep : PyData → Bool) (f : PyData → PyData → Prop) (ds : List PyData) (i : Nat) (H : Hp) : Prop :=
  ∃ (ys : List V) (es : List PyData), Ext N H1 H ∧ J i H ∧ H D = some (.lst ys) ∧ TA K M H ys es ∧ Paired f ((ds.take i).filter keep) es
theorem Paired.snoc {α β : Type} {F : α → β → Prop} : ∀ {l : List α} {m : List β} {a : α} {b : β}, Paired F l m → F a b → Paired F (l ++ [a]) (m ++ [b])
  | _, _, _, _, .nil, h => .cons h .nil
  | _, _, _, _, .cons r t, h => .cons r (Paired.snoc t h)
theorem Paired.len {α β : Type} {F : α → β → Prop} : ∀ {l : List α} {m : List β}, Paired F l m → l.length = m.length
  | _, _, .nil => rfl
  | _, _, .cons _ t => by rw [List.length_cons, List.length_cons, Paired.len t]
theorem paired_map {α β : Type} {h : α → β} : ∀ {l : List α} {m : List β}, Paired (fun a b => b = h a) l m → m = l.map h
  | _, _, .nil => rfl
  | _, _, .cons r t => by rw [r, paired_map t]; rfl

theorem sofar_turn {J : Nat → Hp → Prop} {keep : PyData → Bool} {f : PyData → PyData → Prop} {ds : List PyData} {i : Nat} {x : V} {d : PyData} {H : Hp} (hl : ds.length ≤ 100000)
    (hNM : ∀ b ∈ N, b ∈ M) (hDN : D ∉ N) (hDM : D ∉ M) (hD : H1 D = none) (hJ : ∀ i H o, J i H → J i (upd H D o)) (hd : ds[i]? = some d)
    (p : Sofar K (D :: M) N H1 D J keep f ds i H)
    (turn : ∀ (Ky : V → Hp → Prop) (Kn : Hp → Prop), (keep d = false → ∀ H', Ext N H H' → J (i + 1) H' → Kn H') →
      (keep d = true → ∀ H' y e, Ext N H H' → J (i + 1) H' → T K (D :: M) H' y e → f d e → Ky y H') → Turn g tt te vs σ x H Ky Kn) :
    g x (wipe σ vs) H fun σ2 H2 => wipe σ2 vs = wipe σ vs ∧ tt σ2 H2 fun b H3 => if b = true then te σ2 H3 fun y H4 => ∃ acc, H4 D = some (.lst acc) ∧ acc.length < sizeLine ∧ Sofar K (D :: M) N H1 D J keep f ds (i + 1) (upd H4 D (.lst (acc ++ [y])))
      else Sofar K (D :: M) N H1 D J keep f ds (i + 1) H3 := by
  obtain ⟨ys, es, e, j, hDy, ht, pr⟩ := p
  have eM : ∀ {A B : Hp}, Ext N A B → Ext (D :: M) A B := fun x => x.sub fun b hb => List.mem_cons_of_mem _ (hNM b hb)
  refine turn _ _ (fun hk H' e' j' => ⟨ys, es, e.trans e', j', e' _ _ hDN hDy, ht.ext (eM e'), ?_⟩) (fun hk H' y ed e' j' ty fy => ⟨ys, e' _ _ hDN hDy, ?_, ys ++ [y], es ++ [ed], ?_, hJ _ _ _ j', upd_same, ?_, ?_⟩)
  · rw [List.take_add_one, hd, List.filter_append]
    simpa [hk] using pr
  · have l1 := ht.len
    have l2 := Paired.len pr
    have l3 := List.length_filter_le keep (ds.take i)
    rw [List.length_take] at l3
    exact Nat.lt_of_le_of_lt (show ys.length ≤ 100000 by omega) (by decide)
  · intro b o nb hb
    have hbD : b ≠ D := ne_of_none hb hD
    rw [upd_ne hbD]
    exact e' _ _ nb (e _ _ nb hb)
  · exact ((ht.ext (eM e')).app (.one ty)).ext (Ext.put (by simp))
  · rw [List.take_add_one, hd, List.filter_append]
    have : (some d).toList.filter keep = [d] := by simp [hk]
    rw [this]
    exact Paired.snoc pr fy

/-- a comprehension over a tuple of data -/
theorem lcT {a : Addr} {xs : List V} {ds : List PyData} (J : Nat → Hp → Prop) (keep : PyData → Bool) (f : PyData → PyData → Prop) (ha : H1 a = some (.tup xs)) (na : a ∉ M) (ht : TA K M H1 xs ds) (hl : ds.length ≤ 100000)
    (hNM : ∀ b ∈ N, b ∈ M) (hN : ∀ b ∈ M, H1 b ≠ none) (hD : H1 D = none) (j0 : J 0 H1) (hJ : ∀ i H o, J i H → J i (upd H D o))
    (turn : ∀ i x d H, ds[i]? = some d → T K (D :: M) H x d → Ext N H1 H → J i H → ∀ (Ky : V → Hp → Prop) (Kn : Hp → Prop), (keep d = false → ∀ H', Ext N H H' → J (i + 1) H' → Kn H') →
      (keep d = true → ∀ H' y e, Ext N H H' → J (i + 1) H' → T K (D :: M) H' y e → f d e → Ky y H') → Turn g tt te vs σ x H Ky Kn)
    (hd : ∀ H ys es, Ext N H1 H → J ds.length H → H D = some (.lst ys) → TA K M H ys es → Paired f (ds.filter keep) es → Qd H) :
    ∃ W : Nat → Nat → Hp → Prop, (∃ m, W 0 m (upd H1 D (.lst []))) ∧ ∀ i m H, W i m H →
      ((Itt K a).stop i H ∧ Qd H) ∨ ((Itt K a).go i H ∧ ∃ Nx : Hp → Prop, (∀ H', Nx H' → ∃ m', m' < m ∧ W (i + 1) m' H') ∧ ∀ x H', (Itt K a).yld i H x H' → g x (wipe σ vs) H' fun σ2 H2 => wipe σ2 vs = wipe σ vs ∧ tt σ2 H2 fun b H3 =>
        if b = true then te σ2 H3 fun y H4 => ∃ acc, H4 D = some (.lst acc) ∧ acc.length < sizeLine ∧ Nx (upd H4 D (.lst (acc ++ [y]))) else Nx H3) := by
  have hDM : D ∉ M := fun z => hN D z hD
  have hDN : D ∉ N := fun z => hDM (hNM D z)
  have naN : a ∉ N := fun z => na (hNM a z)
  have hT : TA K (D :: M) H1 xs ds := ht.plus hD
  refine lc_tup (K := K) (a := a) (xs := xs) (fun i H => Sofar K (D :: M) N H1 D J keep f ds i H) ⟨[], [], Ext.new hD, hJ _ _ _ j0, upd_same, .nil, by simpa using Paired.nil⟩ (fun i H _ p => ?_) (fun i x H hx p => ?_) (fun H p => ?_)
  · obtain ⟨_, _, e, _⟩ := p
    exact SqT.of (e _ _ naN ha)
  · obtain ⟨d, hdi, td⟩ := hT.get hx
    have e := let ⟨_, _, e, _⟩ := p; e
    have j := let ⟨_, _, _, j, _⟩ := p; j
    exact sofar_turn hl hNM hDN hDM hD hJ hdi p (turn i x d H hdi (td.ext (e.sub fun b hb => List.mem_cons_of_mem _ (hNM b hb))) e j)
  · obtain ⟨ys, es, e, j, h1, h2, h3⟩ := p
    rw [ht.len, List.take_length] at h3
    rw [ht.len] at j
    exact hd H ys es e j h1 (h2.off fun b hb => List.mem_cons_of_mem _ hb) h3
/-- over a list of data -/
theorem lcL {a : Addr} {xs : List V} {ds : List PyData} (J : Nat → Hp → Prop) (keep : PyData → Bool) (f : PyData → PyData → Prop) (ha : H1 a = some (.lst xs)) (na : a ∉ M) (ht : TA K M H1 xs ds) (hl : ds.length ≤ 100000)
    (hNM : ∀ b ∈ N, b ∈ M) (hN : ∀ b ∈ M, H1 b ≠ none) (hD : H1 D = none) (j0 : J 0 H1) (hJ : ∀ i H o, J i H → J i (upd H D o))
    (turn : ∀ i x d H, ds[i]? = some d → T K (D :: M) H x d → Ext N H1 H → J i H → ∀ (Ky : V → Hp → Prop) (Kn : Hp → Prop), (keep d = false → ∀ H', Ext N H H' → J (i + 1) H' → Kn H') →
      (keep d = true → ∀ H' y e, Ext N H H' → J (i + 1) H' → T K (D :: M) H' y e → f d e → Ky y H') → Turn g tt te vs σ x H Ky Kn)
    (hd : ∀ H ys es, Ext N H1 H → J ds.length H → H D = some (.lst ys) → TA K M H ys es → Paired f (ds.filter keep) es → Qd H) :
    ∃ W : Nat → Nat → Hp → Prop, (∃ m, W 0 m (upd H1 D (.lst []))) ∧ ∀ i m H, W i m H →
      ((Itl K a).stop i H ∧ Qd H) ∨ ((Itl K a).go i H ∧ ∃ Nx : Hp → Prop, (∀ H', Nx H' → ∃ m', m' < m ∧ W (i + 1) m' H') ∧ ∀ x H', (Itl K a).yld i H x H' → g x (wipe σ vs) H' fun σ2 H2 => wipe σ2 vs = wipe σ vs ∧ tt σ2 H2 fun b H3 =>
        if b = true then te σ2 H3 fun y H4 => ∃ acc, H4 D = some (.lst acc) ∧ acc.length < sizeLine ∧ Nx (upd H4 D (.lst (acc ++ [y]))) else Nx H3) := by
  have hDM : D ∉ M := fun z => hN D z hD
  have hDN : D ∉ N := fun z => hDM (hNM D z)
  have naN : a ∉ N := fun z => na (hNM a z)
  have hT : TA K (D :: M) H1 xs ds := ht.plus hD
  refine lc_list (K := K) (a := a) (xs := xs) (fun i H => Sofar K (D :: M) N H1 D J keep f ds i H) ⟨[], [], Ext.new hD, hJ _ _ _ j0, upd_same, .nil, by simpa using Paired.nil⟩ (fun i H _ p => ?_) (fun i x H hx p => ?_) (fun H p => ?_)
  · obtain ⟨_, _, e, _⟩ := p
    exact SqL.of (e _ _ naN ha)
  · obtain ⟨d, hdi, td⟩ := hT.get hx
    have e := let ⟨_, _, e, _⟩ := p; e
    have j := let ⟨_, _, _, j, _⟩ := p; j
    exact sofar_turn hl hNM hDN hDM hD hJ hdi p (turn i x d H hdi (td.ext (e.sub fun b hb => List.mem_cons_of_mem _ (hNM b hb))) e j)
  · obtain ⟨ys, es, e, j, h1, h2, h3⟩ := p
    rw [ht.len, List.take_length] at h3
    rw [ht.len] at j
    exact hd H ys es e j h1 (h2.off fun b hb => List.mem_cons_of_mem _ hb) h3
/-- over a range from 0 -/
theorem lcR {n : Nat} (J : Nat → Hp → Prop) (keep : PyData → Bool) (f : PyData → PyData → Prop) (hl : n ≤ 100000)
    (hNM : ∀ b ∈ N, b ∈ M) (hN : ∀ b ∈ M, H1 b ≠ none) (hD : H1 D = none) (j0 : J 0 H1) (hJ : ∀ i H o, J i H → J i (upd H D o))
    (turn : ∀ (i : Nat) H, i < n → Ext N H1 H → J i H → ∀ (Ky : V → Hp → Prop) (Kn : Hp → Prop), (keep (.int (i : Int)) = false → ∀ H', Ext N H H' → J (i + 1) H' → Kn H') →
      (keep (.int (i : Int)) = true → ∀ H' y e, Ext N H H' → J (i + 1) H' → T K (D :: M) H' y e → f (.int (i : Int)) e → Ky y H') → Turn g tt te vs σ (.int (i : Int)) H Ky Kn)
    (hd : ∀ H ys es, Ext N H1 H → J n H → H D = some (.lst ys) → TA K M H ys es → Paired f (((List.range n).map fun i : Nat => PyData.int (i : Int)).filter keep) es → Qd H) :
    ∃ W : Nat → Nat → Hp → Prop, (∃ m, W 0 m (upd H1 D (.lst []))) ∧ ∀ i m H, W i m H →
      ((Itr 0 n).stop i H ∧ Qd H) ∨ ((Itr 0 n).go i H ∧ ∃ Nx : Hp → Prop, (∀ H', Nx H' → ∃ m', m' < m ∧ W (i + 1) m' H') ∧ ∀ x H', (Itr 0 n).yld i H x H' → g x (wipe σ vs) H' fun σ2 H2 => wipe σ2 vs = wipe σ vs ∧ tt σ2 H2 fun b H3 =>
        if b = true then te σ2 H3 fun y H4 => ∃ acc, H4 D = some (.lst acc) ∧ acc.length < sizeLine ∧ Nx (upd H4 D (.lst (acc ++ [y]))) else Nx H3) := by
  have hDM : D ∉ M := fun z => hN D z hD
  have hDN : D ∉ N := fun z => hDM (hNM D z)
  refine lc_range (lo := 0) (n := n) (fun i H => Sofar K (D :: M) N H1 D J keep f ((List.range n).map fun i : Nat => PyData.int (i : Int)) i H) ⟨[], [], Ext.new hD, hJ _ _ _ j0, upd_same, .nil, by simpa using Paired.nil⟩ (fun i H hi p => ?_) (fun H p => ?_)
  · have e := let ⟨_, _, e, _⟩ := p; e
    have j := let ⟨_, _, _, j, _⟩ := p; j
    have z : (0 : Int) + (i : Int) = (i : Int) := Int.zero_add _
    rw [z]
    exact sofar_turn (d := .int (i : Int)) (by simpa using hl) hNM hDN hDM hD hJ (by simp [hi]) p (turn i H hi e j)
  · obtain ⟨ys, es, e, j, h1, h2, h3⟩ := p
    rw [List.take_of_length_le (by simp)] at h3
    exact hd H ys es e j h1 (h2.off fun b hb => List.mem_cons_of_mem _ hb) h3
end
section
variable {K : PySem.W.Frag} {M N : List Addr} {H : Hp}
theorem filter_all (ds : List PyData) : (ds.filter fun _ => true) = ds := List.filter_eq_self.mpr fun _ _ => rfl
theorem bools_of {h : PyData → Bool} {ds es : List PyData} {ys : List V} (pr : Paired (fun d e => e = .bool (h d)) (ds.filter fun _ => true) es) (ty : TA K M H ys es) : ys = (ds.map h).map V.bl := by
  rw [filter_all] at pr
  have e := paired_map pr
  rw [e, show (fun a => PyData.bool (h a)) = PyData.bool ∘ h from rfl, ← List.map_map] at ty
  exact TA.of_bools ty
theorem same_ext {H' : Hp} (e : Ext [] H H') : Same H H' := fun b o h => e b o (by simp) h
theorem T.non_ {d : PyData} (h : T K M H .non d) : d = .none := by
  cases h
  rfl
theorem all_id (bs : List Bool) : bs.all id = bs.all fun b => b := rfl
theorem all_map {h : PyData → Bool} (ds : List PyData) : (ds.map h).all id = ds.all h := by
  rw [List.all_map]
  rfl
end
end U

set_option Elab.async false
set_option linter.all false
set_option maxRecDepth 100000
set_option maxHeartbeats 2000000
namespace U
open PySem PySem.Spec PyProof.Rows L2

/-! ### the rules with the written part named (K), so that a comprehension's reading hangs on K alone -/
def rLenQ (K : PySem.W.Frag) : List V → Hp → VK → Prop := fun xs H Q => ∃ p ys, xs = [.ref p] ∧ (SqL K H p ys ∨ SqT K H p ys) ∧ Q (.int (ys.length : Nat)) H
def rLenA (K : PySem.W.Frag) : List V → Hp → VK → Prop := fun xs H Q => ∃ x n, xs = [x] ∧ LenV K x H n ∧ Q (.int (n : Nat)) H
def rListOf (K : PySem.W.Frag) : List V → Hp → VK → Prop := fun xs H Q => ∃ p ys, xs = [.ref p] ∧ (SqL K H p ys ∨ SqT K H p ys) ∧ ∀ l, H l = none → Q (.ref l) (upd H l (.lst ys))
def rTupOf (K : PySem.W.Frag) : List V → Hp → VK → Prop := fun xs H Q => ∃ p ys, xs = [.ref p] ∧ ((SqL K H p ys ∧ ∀ l, H l = none → Q (.ref l) (upd H l (.tup ys))) ∨ (SqT K H p ys ∧ Q (.ref p) H))
theorem room1 {k : Nat} {A : Around} (r : Room k A) : A.units + 1 < cLine := by have := r.units; omega
section
variable {X : Cx}
theorem kLenQ (K : PySem.W.Frag) (h : X.K = K := by rfl) : CallR X (.builtin "len") (rLenQ K) := by subst h; exact call_len_seq
theorem kLenA (K : PySem.W.Frag) (h : X.K = K := by rfl) : CallR X (.builtin "len") (rLenA K) := by subst h; exact call_len
theorem kListOf (K : PySem.W.Frag) (h : X.K = K := by rfl) : CallR X (.type "list") (rListOf K) := by subst h; exact call_list_of
theorem kTupOf (K : PySem.W.Frag) (h : X.K = K := by rfl) : CallR X (.type "tuple") (rTupOf K) := by subst h; exact call_tuple_of
theorem kIsi (K : PySem.W.Frag) (h : X.K = K := by rfl) : CallR X (.builtin "isinstance") (rIsi K) := by subst h; exact call_isi
theorem kAll (K : PySem.W.Frag) (hc : X.calm = true) (h : X.K = K := by rfl) : CallR X (.builtin "all") (rAll K) := by subst h; exact cr_all hc
theorem kAny (K : PySem.W.Frag) (hc : X.calm = true) (h : X.K = K := by rfl) : CallR X (.builtin "any") (rAny K) := by subst h; exact cr_any hc
theorem kSum (K : PySem.W.Frag) (hc : X.calm = true) (h : X.K = K := by rfl) : CallR X (.builtin "sum") (rSum K) := by subst h; exact cr_sum hc
theorem kMax (K : PySem.W.Frag) (hc : X.calm = true) (h : X.K = K := by rfl) : CallR X (.builtin "max") (rMax K) := by subst h; exact cr_max hc
theorem kMin (K : PySem.W.Frag) (hc : X.calm = true) (h : X.K = K := by rfl) : CallR X (.builtin "min") (rMin K) := by subst h; exact cr_min hc
theorem kRepr (K : PySem.W.Frag) {k : Nat} (hG : X.A.guards = some []) (hr : Room k X.A) (h : X.K = K := by rfl) : CallR X (.builtin "repr") (rRepr K) := by subst h; exact call_repr hG hr
theorem kIxL (K : PySem.W.Frag) (h : X.K = K := by rfl) : IxR X (rIxL K) := by subst h; exact ix_list
theorem kIxT (K : PySem.W.Frag) (h : X.K = K := by rfl) : IxR X (rIxT K) := by subst h; exact ix_tup
theorem kIxQ (K : PySem.W.Frag) (h : X.K = K := by rfl) : IxR X (rIx K) := by subst h; exact ix_seq
theorem kSlL (K : PySem.W.Frag) (h : X.K = K := by rfl) : SlR X (rSlL K) := by subst h; exact sl_list
theorem kSlT (K : PySem.W.Frag) (h : X.K = K := by rfl) : SlR X (rSlA K) := by subst h; exact sl_tupA
theorem kCatT (K : PySem.W.Frag) (h : X.K = K := by rfl) : OpR X (binaryOp .Add) (rCatA K) := by subst h; exact op_catA
theorem kRepT (K : PySem.W.Frag) (h : X.K = K := by rfl) : OpR X (binaryOp .Mult) (rRepT K) := by subst h; exact op_repT
theorem kIn (K : PySem.W.Frag) (h : X.K = K := by rfl) : OpR X (compareOp .In) (rIn K false) := by subst h; exact op_in_seq
theorem kNotIn (K : PySem.W.Frag) (h : X.K = K := by rfl) : OpR X (compareOp .NotIn) (rIn K true) := by subst h; exact op_notIn_seq
theorem kEqD (K : PySem.W.Frag) {k : Nat} (hr : Room k X.A) (h : X.K = K := by rfl) : OpR X (compareOp .Eq) (rEqD K) := by subst h; exact op_eqD hr.units
theorem kNeD (K : PySem.W.Frag) {k : Nat} (hr : Room k X.A) (h : X.K = K := by rfl) : OpR X (compareOp .NotEq) (rNeD K) := by subst h; exact op_neD hr.units
theorem kEqNil (K : PySem.W.Frag) {k : Nat} (hr : Room k X.A) (h : X.K = K := by rfl) : OpR X (compareOp .Eq) (rNil K false) := by subst h; exact op_eqNil hr
theorem kNeNil (K : PySem.W.Frag) {k : Nat} (hr : Room k X.A) (h : X.K = K := by rfl) : OpR X (compareOp .NotEq) (rNil K true) := by subst h; exact op_neNil hr
theorem kPiL (K : PySem.W.Frag) {tg l : Expr} {tl : TE} (hl : PE X l tl) (h : X.K = K := by rfl) : PI X tg l (iList K tl) := by subst h; exact pi_list hl
theorem kPiT (K : PySem.W.Frag) {tg l : Expr} {tl : TE} (hl : PE X l tl) (h : X.K = K := by rfl) : PI X tg l (iTup K tl) := by subst h; exact pi_tup hl
theorem kTgT (K : PySem.W.Frag) {es : List Expr} {k : Nat} {t : TGs} {n : Nat} {pos : Pos} (hc : X.calm = true) (g : PGs X es t) (h : X.K = K := by rfl)
    (hn : (assignEach es X.env).length = n := by rfl) (hst : (assignEach es X.env).findIdx? (·.1) = none := by rfl) : PG X (.Tuple es k pos) (gTup K n t) := by
  subst h
  exact pg_tup hc g hn hst
theorem kBm (K : PySem.W.Frag) {e : Expr} {t : String} {r : V → List V → Hp → VK → Prop} {to : TE} {ts : L2.TA} (p : PE X e (tBM X.K t r to ts)) (h : X.K = K := by rfl) : PE X e (tBM K t r to ts) := by subst h; exact p
theorem kBm0 (K : PySem.W.Frag) {e : Expr} {t : String} {r : V → List V → Hp → VK → Prop} {to : TE} (p : PE X e (tBM0 X.K t r to)) (h : X.K = K := by rfl) : PE X e (tBM0 K t r to) := by subst h; exact p
theorem kTruth (K : PySem.W.Frag) {a : Expr} {ta : TE} (ha : PE X a ta) (he : ∀ whole, isTrue a X.env whole = (do let v ← whole; standAt a.pos; holding [v] (truthy v))) (h : X.K = K := by rfl) :
    PT X a (fun σ H Q => ta σ H fun x H' => ∃ k, TruV K x H' k ∧ Q k H') := by subst h; exact pt_truth ha he
theorem kEnum (K : PySem.W.Frag) {e : Expr} {ta : L2.TA} {p pos tpos : Pos} {elts : List Expr} {kk : Nat} (hg : Gl X "enumerate") (hm : X.mg "enumerate" = none) (ha : PA X [e] ta) (h : X.K = K := by rfl) (hs : starEach [e] X.env = [(false, eval e X.env)] := by rfl) :
    PI X (.Tuple elts kk tpos) (.Call (.Name "enumerate" p) [e] [] pos) (iEnum K ta) := by subst h; exact pi_enum hg hm ha hs
end
end U

set_option Elab.async false
set_option linter.all false
set_option maxRecDepth 100000
set_option maxHeartbeats 2000000
namespace U
open PySem PySem.Spec PyProof.Rows L2
/-- the places that are written are tracked -/
def Trk (M : List Addr) (H : Hp) : Prop := ∀ b ∈ M, H b ≠ none
theorem Trk.same {M : List Addr} {H H' : Hp} (t : Trk M H) (s : Same H H') : Trk M H' := fun b hb z => t b hb (Same.free s z)
theorem Trk.new {M : List Addr} {H : Hp} {p : Addr} (t : Trk M H) (h : H p = none) : p ∉ M := fun z => t p z h
theorem Trk.upd {M : List Addr} {H : Hp} {p : Addr} {o : HO} (t : Trk M H) : Trk M (upd H p o) := fun b hb z => by
  by_cases e : b = p
  · rw [e, upd_same] at z
    cases z
  · rw [upd_ne e] at z
    exact t b hb z
section
variable {K : PySem.W.Frag} {M : List Addr} {H : Hp} {xs : List V} {ds : List PyData} {Q : VK}
theorem newT (tr : Trk M H) (t : TA K M H xs ds) (k : ∀ p H', H p = none → Same H H' → Trk M H' → H' p = some (.tup xs) → T K M H' (.ref p) (.tuple ds) → Q (.ref p) H') : ∀ p, H p = none → Q (.ref p) (upd H p (.tup xs)) := fun p hp =>
  k p _ hp (Same.new hp) (tr.same (Same.new hp)) upd_same (.tup (tr.new hp) upd_same (t.same (Same.new hp)))
theorem newL (tr : Trk M H) (t : TA K M H xs ds) (k : ∀ p H', H p = none → Same H H' → Trk M H' → H' p = some (.lst xs) → T K M H' (.ref p) (.list ds) → Q (.ref p) H') : ∀ p, H p = none → Q (.ref p) (upd H p (.lst xs)) := fun p hp =>
  k p _ hp (Same.new hp) (tr.same (Same.new hp)) upd_same (.lst (tr.new hp) upd_same (t.same (Same.new hp)))
theorem newD (tr : Trk M H) (k : ∀ p H', H p = none → Same H H' → Trk M H' → T K M H' (.ref p) (.dict []) → Q (.ref p) H') : ∀ p, H p = none → Q (.ref p) (upd H p (.dK [])) := fun p hp =>
  k p _ hp (Same.new hp) (tr.same (Same.new hp)) (.dct (tr.new hp) upd_same .nil)
end
section
variable {K : PySem.W.Frag} {M : List Addr} {H : Hp} {xs : List V} {ds : List PyData} {p : Addr}
theorem atT (tr : Trk M H) (t : TA K M H xs ds) (hp : H p = none) : Same H (upd H p (.tup xs)) ∧ Trk M (upd H p (.tup xs)) ∧ T K M (upd H p (.tup xs)) (.ref p) (.tuple ds) ∧ (upd H p (.tup xs)) p = some (.tup xs) :=
  ⟨Same.new hp, tr.upd, .tup (tr.new hp) upd_same (t.same (Same.new hp)), upd_same⟩
theorem atL (tr : Trk M H) (t : TA K M H xs ds) (hp : H p = none) : Same H (upd H p (.lst xs)) ∧ Trk M (upd H p (.lst xs)) ∧ T K M (upd H p (.lst xs)) (.ref p) (.list ds) ∧ (upd H p (.lst xs)) p = some (.lst xs) :=
  ⟨Same.new hp, tr.upd, .lst (tr.new hp) upd_same (t.same (Same.new hp)), upd_same⟩
theorem atD (tr : Trk M H) (hp : H p = none) : Same H (upd H p (.dK [])) ∧ Trk M (upd H p (.dK [])) ∧ T K M (upd H p (.dK [])) (.ref p) (.dict []) ∧ (upd H p (.dK [])) p = some (.dK []) :=
  ⟨Same.new hp, tr.upd, .dct (tr.new hp) upd_same .nil, upd_same⟩
end
/-! ### parts of tuples, tuples put together -/
def cutD (ds : List PyData) (lo hi : Option Int) : List PyData := (ds.drop (HT.sIx ds.length 0 lo)).take (HT.sIx ds.length ds.length hi - HT.sIx ds.length 0 lo)
section
variable {K : PySem.W.Frag} {M : List Addr} {H : Hp} {a b : Addr} {ds es : List PyData} {lo hi : Option Int} {Q : VK}
theorem slA {x : V} (tr : Trk M H) (t : T K M H x (.tuple ds)) (k : ∀ r H', Same H H' → Trk M H' → T K M H' r (.tuple (cutD ds lo hi)) → Q r H') : rSlA K x lo hi H Q := by
  cases t with
  | @tup a xs _ na ha t =>
    have lx := t.len
    refine ⟨a, xs, rfl, SqT.of ha, fun w => ?_, fun w p hp => ?_⟩
    · rw [lx] at w
      refine k _ _ (Same.refl _) tr ?_
      have e : cutD ds lo hi = ds := by
        unfold cutD
        rw [w.1, w.2, List.drop_zero, Nat.sub_zero, List.take_length]
      rw [e]
      exact .tup na ha t
    · have tc : TA K M H (cutV xs lo hi) (cutD ds lo hi) := by
        unfold cutV cutD
        rw [lx]
        exact (t.drop _).take _
      obtain ⟨s, tr', t', _⟩ := atT tr tc hp
      exact k _ _ s tr' t'
theorem catA {x y : V} (tr : Trk M H) (t : T K M H x (.tuple ds)) (u : T K M H y (.tuple es)) (hl : ds.length + es.length ≤ 100000) (k : ∀ r H', Same H H' → Trk M H' → T K M H' r (.tuple (ds ++ es)) → Q r H') : rCatA K x y H Q := by
  cases t with
  | @tup a xs _ na ha t =>
    cases u with
    | @tup b ys _ nb hb u =>
      have lx := t.len
      have ly := u.len
      refine ⟨a, b, xs, ys, rfl, rfl, SqT.of ha, SqT.of hb, Nat.le_trans (show xs.length + ys.length ≤ 100000 by omega) (by decide), fun e => ?_, fun e1 e2 => ?_, fun e1 e2 p hp => ?_⟩
      · subst e
        cases t
        exact k _ _ (Same.refl _) tr (.tup nb hb u)
      · subst e2
        cases u
        exact k _ _ (Same.refl _) tr (.tup na ha (by rw [List.append_nil]; exact t))
      · obtain ⟨s, tr', t', _⟩ := atT tr (t.app u) hp
        exact k _ _ s tr' t'
theorem T.get {v : V} {j : Nat} (t : T K M H v (.tuple ds)) (hj : j < ds.length) : ∃ a xs x, v = .ref a ∧ H a = some (.tup xs) ∧ xs[j]? = some x ∧ T K M H x ds[j] := by
  cases t with
  | @tup a xs _ na ha t =>
    have lx := t.len
    have hx : xs[j]? = some xs[j] := by simp [lx, hj]
    obtain ⟨d, hd, td⟩ := t.get hx
    refine ⟨a, xs, _, rfl, ha, hx, ?_⟩
    have e : d = ds[j] := by
      rw [List.getElem?_eq_getElem hj] at hd
      exact (Option.some.inj hd).symm
    rw [← e]
    exact td
end
/-! ### data that is small enough to be shown -/
structure Fine (w dp : Nat) (d : PyData) : Prop where
  show_ : d.showable = true
  short : d.leavesShort 60 = true
  weight : d.weight ≤ w
  depth : d.depth ≤ dp
theorem Fine.shown {w dp : Nat} {d : PyData} (f : Fine w dp d) (hw : w ≤ 200000) (hd : dp ≤ 100) : Shown d := by
  refine ⟨f.show_, ?_, Nat.le_trans f.depth hd⟩
  have h := PyData.shown_le 60 (by decide) d f.short
  have h2 : (60 + 2) * d.weight ≤ (60 + 2) * 200000 := Nat.mul_le_mul_left _ (Nat.le_trans f.weight hw)
  rw [sizeLine_eq]
  omega
theorem Fine.more {w dp w' dp' : Nat} {d : PyData} (f : Fine w dp d) (hw : w ≤ w') (hd : dp ≤ dp') : Fine w' dp' d := ⟨f.show_, f.short, Nat.le_trans f.weight hw, Nat.le_trans f.depth hd⟩
theorem fine_all {w dp : Nat} : ∀ {ds : List PyData}, (∀ d ∈ ds, Fine w dp d) → PyData.showableAll ds = true ∧ PyData.leavesShortAll 60 ds = true ∧ PyData.weightAll ds ≤ (w + 1) * ds.length ∧ PyData.depthAll ds ≤ dp
  | [], _ => ⟨rfl, rfl, Nat.le_refl _, Nat.zero_le _⟩
  | d :: ds, h => by
    obtain ⟨a, b, c, e⟩ := fine_all fun x hx => h x (List.mem_cons_of_mem _ hx)
    have f := h d List.mem_cons_self
    refine ⟨?_, ?_, ?_, ?_⟩
    · simp only [PyData.showableAll, f.show_, a, Bool.and_self]
    · simp only [PyData.leavesShortAll, f.short, b, Bool.and_self]
    · simp only [PyData.weightAll, List.length_cons, Nat.mul_add, Nat.mul_one]
      have := f.weight
      omega
    · simp only [PyData.depthAll]
      have := f.depth
      omega
theorem fine_tup {w dp n : Nat} {ds : List PyData} (h : ∀ d ∈ ds, Fine w dp d) (hn : ds.length ≤ n) : Fine ((w + 1) * n) (dp + 1) (.tuple ds) := by
  obtain ⟨a, b, c, e⟩ := fine_all h
  refine ⟨by simp only [PyData.showable, a], by simp only [PyData.leavesShort, b], ?_, ?_⟩
  · simp only [PyData.weight]
    exact Nat.le_trans c (Nat.mul_le_mul_left _ hn)
  · simp only [PyData.depth]
    omega
theorem fine_list {w dp n : Nat} {ds : List PyData} (h : ∀ d ∈ ds, Fine w dp d) (hn : ds.length ≤ n) : Fine ((w + 1) * n) (dp + 1) (.list ds) := by
  obtain ⟨a, b, c, e⟩ := fine_all h
  refine ⟨by simp only [PyData.showable, a], by simp only [PyData.leavesShort, b], ?_, ?_⟩
  · simp only [PyData.weight]
    exact Nat.le_trans c (Nat.mul_le_mul_left _ hn)
  · simp only [PyData.depth]
    omega
theorem fine_of {w dp : Nat} {d : PyData} (h : (d.showable && d.leavesShort 60 && decide (d.weight ≤ w) && decide (d.depth ≤ dp)) = true) : Fine w dp d := by
  simp only [Bool.and_eq_true, decide_eq_true_eq] at h
  exact ⟨h.1.1.1, h.1.1.2, h.1.2, h.2⟩
theorem fine_int {i : Int} (h : i.natAbs < 10 ^ 12) : Fine 40 0 (.int i) := by
  have h1 := PyData.shown_int_le h
  have h2 : i.natAbs.log2 < 40 := by
    by_cases z : i.natAbs = 0
    · rw [z]
      decide
    · exact (Nat.log2_lt z).mpr (Nat.lt_trans h (by decide))
  refine ⟨?_, ?_, ?_, Nat.le_refl _⟩
  · simp only [PyData.showable, decide_eq_true_eq]
    omega
  · simp only [PyData.leavesShort, decide_eq_true_eq]
    omega
  · simp only [PyData.weight]
    split <;> omega
theorem fine_bool (b : Bool) : Fine 0 0 (.bool b) := ⟨rfl, rfl, Nat.le_refl _, Nat.le_refl _⟩
theorem fine_none : Fine 0 0 .none := ⟨rfl, rfl, Nat.le_refl _, Nat.le_refl _⟩
/-- the parts of data that is fine -/
theorem Fine.items {w dp : Nat} {ds : List PyData} (f : Fine w dp (.tuple ds)) : ∀ d ∈ ds, Fine w (dp - 1) d := by
  have s : PyData.showableAll ds = true := by simpa only [PyData.showable] using f.show_
  have l : PyData.leavesShortAll 60 ds = true := by simpa only [PyData.leavesShort] using f.short
  have wt : PyData.weightAll ds ≤ w := f.weight
  have dt : PyData.depthAll ds + 1 ≤ dp := by simpa only [PyData.depth] using f.depth
  clear f
  induction ds with
  | nil => intro d hd; cases hd
  | cons x xs ih =>
    simp only [PyData.showableAll, Bool.and_eq_true] at s
    simp only [PyData.leavesShortAll, Bool.and_eq_true] at l
    simp only [PyData.weightAll] at wt
    simp only [PyData.depthAll] at dt
    intro d hd
    rcases List.mem_cons.mp hd with rfl | hd
    · exact ⟨s.1, l.1, by omega, by omega⟩
    · exact ih s.2 l.2 (by omega) (by omega) d hd
/-! ### rows of data that are fine together -/
structure FineL (w dp : Nat) (ds : List PyData) : Prop where
  show_ : PyData.showableAll ds = true
  short : PyData.leavesShortAll 60 ds = true
  weight : PyData.weightAll ds ≤ w
  depth : PyData.depthAll ds ≤ dp
theorem FineL.nil {dp : Nat} : FineL 0 dp [] := ⟨rfl, rfl, Nat.le_refl _, Nat.zero_le _⟩
theorem FineL.cons {w v dp : Nat} {d : PyData} {ds : List PyData} (f : Fine v dp d) (g : FineL w dp ds) : FineL (v + 1 + w) dp (d :: ds) := by
  refine ⟨?_, ?_, ?_, ?_⟩
  · simp only [PyData.showableAll, f.show_, g.show_, Bool.and_self]
  · simp only [PyData.leavesShortAll, f.short, g.short, Bool.and_self]
  · simp only [PyData.weightAll]
    have := f.weight
    have := g.weight
    omega
  · simp only [PyData.depthAll]
    have := f.depth
    have := g.depth
    omega
theorem FineL.head {w dp : Nat} {d : PyData} {ds : List PyData} (h : FineL w dp (d :: ds)) : Fine w dp d ∧ FineL w dp ds ∧ d.weight + 1 + PyData.weightAll ds ≤ w := by
  obtain ⟨a, b, c, e⟩ := h
  simp only [PyData.showableAll, Bool.and_eq_true] at a
  simp only [PyData.leavesShortAll, Bool.and_eq_true] at b
  simp only [PyData.weightAll] at c
  simp only [PyData.depthAll] at e
  exact ⟨⟨a.1, b.1, by omega, by omega⟩, ⟨a.2, b.2, by omega, by omega⟩, c⟩
theorem FineL.more {w dp w' dp' : Nat} {ds : List PyData} (f : FineL w dp ds) (hw : w ≤ w') (hd : dp ≤ dp') : FineL w' dp' ds := ⟨f.show_, f.short, Nat.le_trans f.weight hw, Nat.le_trans f.depth hd⟩
theorem FineL.app {v w dp : Nat} : ∀ {as bs : List PyData}, FineL v dp as → FineL w dp bs → FineL (v + w) dp (as ++ bs)
  | [], _, _, g => g.more (by omega) (Nat.le_refl _)
  | a :: as, bs, f, g => by
    obtain ⟨h1, h2, h3⟩ := f.head
    have h4 : FineL (PyData.weightAll as) dp as := ⟨h2.show_, h2.short, Nat.le_refl _, h2.depth⟩
    have h5 : Fine a.weight dp a := ⟨h1.show_, h1.short, Nat.le_refl _, h1.depth⟩
    exact (FineL.cons h5 (h4.app g)).more (by omega) (Nat.le_refl _)
theorem FineL.drop {w dp : Nat} : ∀ {ds : List PyData} (n : Nat), FineL w dp ds → FineL w dp (ds.drop n)
  | _, 0, f => f
  | [], _ + 1, f => f
  | _ :: ds, n + 1, f => f.head.2.1.drop n
theorem FineL.take {w dp : Nat} : ∀ {ds : List PyData} (n : Nat), FineL w dp ds → FineL w dp (ds.take n)
  | _, 0, f => FineL.nil.more (Nat.zero_le _) (Nat.le_refl _)
  | [], _ + 1, f => f
  | d :: ds, n + 1, f => by
    obtain ⟨h1, h2, h3⟩ := f.head
    have h4 : FineL (PyData.weightAll ds) dp ds := ⟨h2.show_, h2.short, Nat.le_refl _, h2.depth⟩
    have h5 : Fine d.weight dp d := ⟨h1.show_, h1.short, Nat.le_refl _, h1.depth⟩
    exact (FineL.cons h5 (h4.take n)).more (by omega) (Nat.le_refl _)
theorem FineL.cut {w dp : Nat} {ds : List PyData} (f : FineL w dp ds) (lo hi : Option Int) : FineL w dp (cutD ds lo hi) := (f.drop _).take _
theorem FineL.get {w dp : Nat} : ∀ {ds : List PyData} {d : PyData}, FineL w dp ds → d ∈ ds → Fine w dp d
  | _ :: _, d, f, h => by
    rcases List.mem_cons.mp h with rfl | h
    · exact f.head.1
    · exact f.head.2.1.get h
theorem FineL.len {w dp : Nat} {ds : List PyData} (f : FineL w dp ds) : ds.length ≤ w := by
  have : ds.length ≤ PyData.weightAll ds := by
    clear f
    induction ds with
    | nil => exact Nat.zero_le _
    | cons y ys ih => simp only [List.length_cons, PyData.weightAll]; omega
  exact Nat.le_trans this f.weight
theorem FineL.tup {w dp : Nat} {ds : List PyData} (f : FineL w dp ds) : Fine w (dp + 1) (.tuple ds) :=
  ⟨by simp only [PyData.showable, f.show_], by simp only [PyData.leavesShort, f.short], f.weight, by simp only [PyData.depth]; have := f.depth; omega⟩
theorem FineL.list {w dp : Nat} {ds : List PyData} (f : FineL w dp ds) : Fine w (dp + 1) (.list ds) :=
  ⟨by simp only [PyData.showable, f.show_], by simp only [PyData.leavesShort, f.short], f.weight, by simp only [PyData.depth]; have := f.depth; omega⟩
theorem Fine.row {w dp : Nat} {ds : List PyData} (f : Fine w dp (.tuple ds)) : FineL w (dp - 1) ds ∧ 1 ≤ dp := by
  have d := f.depth
  simp only [PyData.depth] at d
  exact ⟨⟨by simpa only [PyData.showable] using f.show_, by simpa only [PyData.leavesShort] using f.short, f.weight, by omega⟩, by omega⟩
theorem cut_take {ds : List PyData} {j : Nat} (h : j ≤ ds.length) : cutD ds none (some (j : Int)) = ds.take j := by
  unfold cutD
  rw [HT.sIx_nat, HT.sIx_none, List.drop_zero, Nat.sub_zero, Nat.min_eq_left h]
theorem cut_drop {ds : List PyData} {j : Nat} (h : j ≤ ds.length) : cutD ds (some (j : Int)) none = ds.drop j := by
  unfold cutD
  rw [HT.sIx_nat, HT.sIx_none, Nat.min_eq_left h]
  exact List.take_of_length_le (by rw [List.length_drop]; exact Nat.le_refl _)
theorem weight_split : ∀ {ds : List PyData} {j : Nat} (h : j < ds.length), PyData.weightAll (ds.take j) + (ds[j].weight + 1) + PyData.weightAll (ds.drop (j + 1)) = PyData.weightAll ds
  | d :: ds, 0, _ => by
    simp only [List.take_zero, PyData.weightAll, List.getElem_cons_zero, List.drop_succ_cons, List.drop_zero]
    omega
  | d :: ds, j + 1, h => by
    have := weight_split (ds := ds) (j := j) (by simpa using h)
    simp only [List.take_succ_cons, PyData.weightAll, List.getElem_cons_succ, List.drop_succ_cons]
    omega
end U

set_option Elab.async false
set_option linter.all false
set_option maxRecDepth 100000
set_option maxHeartbeats 2000000
namespace Law
open PySem PySem.Spec PyProof.Rows L2 U
local macro_rules | `(tactic| walk_at "rd") => `(tactic| simp only [L2.start, List.map_cons, List.map_nil, List.length_cons, List.length_nil, List.cons_append, List.nil_append, List.replicate, List.set_cons_succ, List.set_cons_zero, List.getElem?_cons_succ, List.getElem?_cons_zero,
  tVar, tC, tB, tAnd, tOr, tNot, tAndV, tOrV, tNotV, tIf, tNext, tSeq, tBreak, tCont, tDrop, tRet, tRetN, tIfS, gName, gNil, gCons, gTup, gSub, tAsg, tPar, tAug, tOp, tUn, rI, rI0, rU, rEq, rNe, tTest, tChain,
  tNil, tCons, tTup, tLst, tCall, tCB, tNoPart, tPart, tSl, rIxL, rIxT, rIxS, rSetL, rSlL, tBM, rAppend,
  Option.some.injEq, V.int.injEq, V.bl.injEq, V.str.injEq, V.ref.injEq, V.ty.injEq, List.cons.injEq, and_true, true_and, exists_eq_left, exists_eq_left', exists_eq_right, exists_eq_right', exists_and_left, exists_and_right, exists_eq, and_assoc, exists_const])


def top (i : Nat) : Stmt := PySem.Challenge.pw_unitlimits_k21_kinds_with_errors.main.body.getD i (.Pass ⟨0, 0, 0, 0⟩)
abbrev s__law_deck : Stmt := top 10
abbrev N__law_deck : List Str := ["_law_script", "_law_cell"]
theorem sc__law_deck : FnScope N__law_deck ["_law_script"] (defScope s__law_deck) := ⟨rfl, rfl, rfl, by decide +kernel, rfl, by decide +kernel, by decide +kernel⟩
abbrev s__law_draw : Stmt := top 11
abbrev N__law_draw : List Str := ["_law_deck_here", "_law_many", "_law_cell", "_law_at", "_law_mixed"]
theorem sc__law_draw : FnScope N__law_draw ["_law_deck_here", "_law_many"] (defScope s__law_draw) := ⟨rfl, rfl, rfl, by decide +kernel, rfl, by decide +kernel, by decide +kernel⟩
abbrev s__law_one : Stmt := top 12
abbrev N__law_one : List Str := ["_law_deck_here", "_law_items"]
theorem sc__law_one : FnScope N__law_one ["_law_deck_here", "_law_items"] (defScope s__law_one) := ⟨rfl, rfl, rfl, by decide +kernel, rfl, by decide +kernel, by decide +kernel⟩
abbrev s_is_integer : Stmt := top 3
abbrev N_is_integer : List Str := ["value"]
theorem sc_is_integer : FnScope N_is_integer ["value"] (defScope s_is_integer) := ⟨rfl, rfl, rfl, by decide +kernel, rfl, by decide +kernel, by decide +kernel⟩
abbrev s_is_number : Stmt := top 4
abbrev N_is_number : List Str := ["value", "least", "most"]
theorem sc_is_number : FnScope N_is_number ["value", "least", "most"] (defScope s_is_number) := ⟨rfl, rfl, rfl, by decide +kernel, rfl, by decide +kernel, by decide +kernel⟩
abbrev s_kind_error : Stmt := top 5
abbrev N_kind_error : List Str := ["value", "letters", "rows", "ends"]
theorem sc_kind_error : FnScope N_kind_error ["value"] (defScope s_kind_error) := ⟨rfl, rfl, rfl, by decide +kernel, rfl, by decide +kernel, by decide +kernel⟩
abbrev s__are_rows : Stmt := top 6
abbrev N__are_rows : List Str := ["value", "letters", "row"]
theorem sc__are_rows : FnScope N__are_rows ["value", "letters"] (defScope s__are_rows) := ⟨rfl, rfl, rfl, by decide +kernel, rfl, by decide +kernel, by decide +kernel⟩
abbrev s__is_row : Stmt := top 7
abbrev N__is_row : List Str := ["value", "letters", "states", "item"]
theorem sc__is_row : FnScope N__is_row ["value", "letters", "states"] (defScope s__is_row) := ⟨rfl, rfl, rfl, by decide +kernel, rfl, by decide +kernel, by decide +kernel⟩
abbrev s__are_ends : Stmt := top 8
abbrev N__are_ends : List Str := ["value", "states", "end"]
theorem sc__are_ends : FnScope N__are_ends ["value", "states"] (defScope s__are_ends) := ⟨rfl, rfl, rfl, by decide +kernel, rfl, by decide +kernel, by decide +kernel⟩
abbrev s__law_kind : Stmt := top 13
abbrev N__law_kind : List Str := ["_law_deck_here", "_law_letters", "_law_many", "_law_none", "_law_rows", "_law_k", "_law_row", "_law_j"]
theorem sc__law_kind : FnScope N__law_kind ["_law_deck_here", "_law_letters", "_law_many"] (defScope s__law_kind) := ⟨rfl, rfl, rfl, by decide +kernel, rfl, by decide +kernel, by decide +kernel⟩
abbrev s__law_whole : Stmt := top 14
abbrev N__law_whole : List Str := ["_law_value", "_law_least", "_law_most"]
theorem sc__law_whole : FnScope N__law_whole ["_law_value", "_law_least", "_law_most"] (defScope s__law_whole) := ⟨rfl, rfl, rfl, by decide +kernel, rfl, by decide +kernel, by decide +kernel⟩
abbrev s__law_are_rows : Stmt := top 15
abbrev N__law_are_rows : List Str := ["_law_value", "_law_letters", "_law_row", "_law_item"]
theorem sc__law_are_rows : FnScope N__law_are_rows ["_law_value", "_law_letters"] (defScope s__law_are_rows) := ⟨rfl, rfl, rfl, by decide +kernel, rfl, by decide +kernel, by decide +kernel⟩
abbrev s__law_error : Stmt := top 16
abbrev N__law_error : List Str := ["_law_value", "_law_end"]
theorem sc__law_error : FnScope N__law_error ["_law_value"] (defScope s__law_error) := ⟨rfl, rfl, rfl, by decide +kernel, rfl, by decide +kernel, by decide +kernel⟩
abbrev s__law_odd : Stmt := top 17
abbrev N__law_odd : List Str := ["_law_deck_here", "_law_many", "_law_some"]
theorem sc__law_odd : FnScope N__law_odd ["_law_deck_here", "_law_many"] (defScope s__law_odd) := ⟨rfl, rfl, rfl, by decide +kernel, rfl, by decide +kernel, by decide +kernel⟩
abbrev s__law_bent : Stmt := top 18
abbrev N__law_bent : List Str := ["_law_deck_here", "_law_value", "_law_many", "_law_deep", "_law_at", "_law_way"]
theorem sc__law_bent : FnScope N__law_bent ["_law_deck_here", "_law_value", "_law_many", "_law_deep"] (defScope s__law_bent) := ⟨rfl, rfl, rfl, by decide +kernel, rfl, by decide +kernel, by decide +kernel⟩
abbrev s__law_right : Stmt := top 19
abbrev N__law_right : List Str := ["_law_value", "_law_told"]
theorem sc__law_right : FnScope N__law_right ["_law_value"] (defScope s__law_right) := ⟨rfl, rfl, rfl, by decide +kernel, rfl, by decide +kernel, by decide +kernel⟩
abbrev s_law : Stmt := top 20
abbrev N_law : List Str := ["_law_script", "_law_deck_here", "_law_turn", "_law_letters", "_law_many", "_law_kind_here", "_law_bent_here", "_law_values", "_law_value", "_law_nine", "_law_letter", "_law_end"]
theorem sc_law : FnScope N_law ["_law_script"] (defScope s_law) := ⟨rfl, rfl, rfl, by decide +kernel, rfl, by decide +kernel, by decide +kernel⟩
/-- where the defs stand -/
structure Adrs where
  f__law_deck : Addr
  d__law_deck : FuncData
  f__law_draw : Addr
  d__law_draw : FuncData
  f__law_one : Addr
  d__law_one : FuncData
  f_is_integer : Addr
  d_is_integer : FuncData
  f_is_number : Addr
  d_is_number : FuncData
  f_kind_error : Addr
  d_kind_error : FuncData
  f__are_rows : Addr
  d__are_rows : FuncData
  f__is_row : Addr
  d__is_row : FuncData
  f__are_ends : Addr
  d__are_ends : FuncData
  f__law_kind : Addr
  d__law_kind : FuncData
  f__law_whole : Addr
  d__law_whole : FuncData
  f__law_are_rows : Addr
  d__law_are_rows : FuncData
  f__law_error : Addr
  d__law_error : FuncData
  f__law_odd : Addr
  d__law_odd : FuncData
  f__law_bent : Addr
  d__law_bent : FuncData
  f__law_right : Addr
  d__law_right : FuncData
  f_law : Addr
  d_law : FuncData
structure Txt (K : PySem.W.Frag) (mg : Str → Option Value) (A : Adrs) : Prop where
  F__law_deck : Fun K "_law_deck" "_law_deck" s__law_deck A.f__law_deck A.d__law_deck
  m__law_deck : mg "_law_deck" = some (.ref A.f__law_deck)
  k__law_deck : PySem.W.keepIn K (.ref A.f__law_deck) = true
  b__law_deck : Binds K A.d__law_deck ["_law_script"] []
  F__law_draw : Fun K "_law_draw" "_law_draw" s__law_draw A.f__law_draw A.d__law_draw
  m__law_draw : mg "_law_draw" = some (.ref A.f__law_draw)
  k__law_draw : PySem.W.keepIn K (.ref A.f__law_draw) = true
  b__law_draw : Binds K A.d__law_draw ["_law_deck_here", "_law_many"] []
  F__law_one : Fun K "_law_one" "_law_one" s__law_one A.f__law_one A.d__law_one
  m__law_one : mg "_law_one" = some (.ref A.f__law_one)
  k__law_one : PySem.W.keepIn K (.ref A.f__law_one) = true
  b__law_one : Binds K A.d__law_one ["_law_deck_here", "_law_items"] []
  F_is_integer : Fun K "is_integer" "is_integer" s_is_integer A.f_is_integer A.d_is_integer
  m_is_integer : mg "is_integer" = some (.ref A.f_is_integer)
  k_is_integer : PySem.W.keepIn K (.ref A.f_is_integer) = true
  b_is_integer : Binds K A.d_is_integer ["value"] []
  F_is_number : Fun K "is_number" "is_number" s_is_number A.f_is_number A.d_is_number
  m_is_number : mg "is_number" = some (.ref A.f_is_number)
  k_is_number : PySem.W.keepIn K (.ref A.f_is_number) = true
  b_is_number : Binds K A.d_is_number ["value", "least", "most"] []
  F_kind_error : Fun K "kind_error" "kind_error" s_kind_error A.f_kind_error A.d_kind_error
  m_kind_error : mg "kind_error" = some (.ref A.f_kind_error)
  k_kind_error : PySem.W.keepIn K (.ref A.f_kind_error) = true
  b_kind_error : Binds K A.d_kind_error ["value"] []
  F__are_rows : Fun K "_are_rows" "_are_rows" s__are_rows A.f__are_rows A.d__are_rows
  m__are_rows : mg "_are_rows" = some (.ref A.f__are_rows)
  k__are_rows : PySem.W.keepIn K (.ref A.f__are_rows) = true
  b__are_rows : Binds K A.d__are_rows ["value", "letters"] []
  F__is_row : Fun K "_is_row" "_is_row" s__is_row A.f__is_row A.d__is_row
  m__is_row : mg "_is_row" = some (.ref A.f__is_row)
  k__is_row : PySem.W.keepIn K (.ref A.f__is_row) = true
  b__is_row : Binds K A.d__is_row ["value", "letters", "states"] []
  F__are_ends : Fun K "_are_ends" "_are_ends" s__are_ends A.f__are_ends A.d__are_ends
  m__are_ends : mg "_are_ends" = some (.ref A.f__are_ends)
  k__are_ends : PySem.W.keepIn K (.ref A.f__are_ends) = true
  b__are_ends : Binds K A.d__are_ends ["value", "states"] []
  F__law_kind : Fun K "_law_kind" "_law_kind" s__law_kind A.f__law_kind A.d__law_kind
  m__law_kind : mg "_law_kind" = some (.ref A.f__law_kind)
  k__law_kind : PySem.W.keepIn K (.ref A.f__law_kind) = true
  b__law_kind : Binds K A.d__law_kind ["_law_deck_here", "_law_letters", "_law_many"] []
  F__law_whole : Fun K "_law_whole" "_law_whole" s__law_whole A.f__law_whole A.d__law_whole
  m__law_whole : mg "_law_whole" = some (.ref A.f__law_whole)
  k__law_whole : PySem.W.keepIn K (.ref A.f__law_whole) = true
  b__law_whole : Binds K A.d__law_whole ["_law_value", "_law_least", "_law_most"] []
  F__law_are_rows : Fun K "_law_are_rows" "_law_are_rows" s__law_are_rows A.f__law_are_rows A.d__law_are_rows
  m__law_are_rows : mg "_law_are_rows" = some (.ref A.f__law_are_rows)
  k__law_are_rows : PySem.W.keepIn K (.ref A.f__law_are_rows) = true
  b__law_are_rows : Binds K A.d__law_are_rows ["_law_value", "_law_letters"] []
  F__law_error : Fun K "_law_error" "_law_error" s__law_error A.f__law_error A.d__law_error
  m__law_error : mg "_law_error" = some (.ref A.f__law_error)
  k__law_error : PySem.W.keepIn K (.ref A.f__law_error) = true
  b__law_error : Binds K A.d__law_error ["_law_value"] []
  F__law_odd : Fun K "_law_odd" "_law_odd" s__law_odd A.f__law_odd A.d__law_odd
  m__law_odd : mg "_law_odd" = some (.ref A.f__law_odd)
  k__law_odd : PySem.W.keepIn K (.ref A.f__law_odd) = true
  b__law_odd : Binds K A.d__law_odd ["_law_deck_here", "_law_many"] []
  F__law_bent : Fun K "_law_bent" "_law_bent" s__law_bent A.f__law_bent A.d__law_bent
  m__law_bent : mg "_law_bent" = some (.ref A.f__law_bent)
  k__law_bent : PySem.W.keepIn K (.ref A.f__law_bent) = true
  b__law_bent : Binds K A.d__law_bent ["_law_deck_here", "_law_value", "_law_many", "_law_deep"] []
  F__law_right : Fun K "_law_right" "_law_right" s__law_right A.f__law_right A.d__law_right
  m__law_right : mg "_law_right" = some (.ref A.f__law_right)
  k__law_right : PySem.W.keepIn K (.ref A.f__law_right) = true
  b__law_right : Binds K A.d__law_right ["_law_value"] []
  F_law : Fun K "law" "law" s_law A.f_law A.d_law
  m_law : mg "law" = some (.ref A.f_law)
  k_law : PySem.W.keepIn K (.ref A.f_law) = true
  b_law : Binds K A.d_law ["_law_script"] []
  z_abs : mg "abs" = none
  z_all : mg "all" = none
  z_bool : mg "bool" = none
  z_int : mg "int" = none
  z_isinstance : mg "isinstance" = none
  z_len : mg "len" = none
  z_list : mg "list" = none
  z_range : mg "range" = none
  z_repr : mg "repr" = none
  z_tuple : mg "tuple" = none
  c_MAX_LETTERS : ∃ t, mg "MAX_LETTERS" = some (.int 4 t)
  c_MAX_STATES : ∃ t, mg "MAX_STATES" = some (.int 8 t)
/-! ### the deck -/
/-- a deck at p, its cells at q, n numbers drawn so far -/
structure Deck (H : Hp) (p q : Addr) (n : Nat) : Prop where
  top : H p = some (.lst [.ref q, .int (n : Int)])
  cells : ∃ cs : List Int, H q = some (.lst (cs.map V.int)) ∧ (∀ c ∈ cs, 0 ≤ c) ∧ cs.length ≤ 63
theorem Deck.ne {H : Hp} {p q : Addr} {n : Nat} (d : Deck H p q n) : p ≠ q := by
  obtain ⟨cs, h, _⟩ := d.cells
  refine ne_of d.top h ?_
  intro e
  have e1 : [V.ref q, V.int (n : Int)] = cs.map V.int := HO.lst.inj e
  cases cs with
  | nil => cases e1
  | cons c cs =>
    have e2 := (List.cons.inj e1).1
    cases e2
/-- a deck that is not written -/
theorem Deck.ext {H H' : Hp} {p q : Addr} {n : Nat} {M : List Addr} (d : Deck H p q n) (e : Ext M H H') (hp : p ∉ M) (hq : q ∉ M) : Deck H' p q n := by
  obtain ⟨cs, h, r⟩ := d.cells
  exact ⟨e _ _ hp d.top, cs, e _ _ hq h, r⟩
theorem Deck.same {H H' : Hp} {p q : Addr} {n : Nat} (d : Deck H p q n) (e : Same H H') : Deck H' p q n := d.ext (M := []) (Ext.same e) (by simp) (by simp)
def spDraw : Sp := fun vs H Q _ => ∃ (p q : Addr) (n : Nat) (many : Int), vs = [.ref p, .int many] ∧ Deck H p q n ∧ n ≤ 1000000000 ∧ 0 < many ∧ many ≤ 1000000000 ∧
  ∀ (H' : Hp) (r : Int), Deck H' p q (n + 1) → Ext [p, q] H H' → 0 ≤ r → r < many → Q (.int r) H'
def spDeck (K : PySem.W.Frag) : Sp := fun vs H Q _ => ∃ (a : Addr) (ns : List Int), vs = [.ref a] ∧ SqL K H a (ns.map V.int) ∧ ns.length ≤ 63 ∧
  ∀ (H' : Hp) (p q : Addr), H p = none → H q = none → Deck H' p q 0 → Same H H' → Q (.ref p) H'
/-- one of the items of a list or a tuple, or one sign of a text -/
def spOne (K : PySem.W.Frag) : Sp := fun vs H Q _ => ∃ (p q : Addr) (n : Nat), Deck H p q n ∧ n ≤ 1000000000 ∧
  ((∃ (v : V) (M : List Addr) (ds : List PyData), vs = [.ref p, v] ∧ (T K M H v (.list ds) ∨ T K M H v (.tuple ds)) ∧ p ∈ M ∧ q ∈ M ∧ ds ≠ [] ∧ ds.length ≤ 1000 ∧
    ∀ (H' : Hp) (r : V) (d : PyData), Deck H' p q (n + 1) → Ext [p, q] H H' → T K M H' r d → d ∈ ds → Q r H') ∨
  (∃ z : Str, vs = [.ref p, .str z] ∧ z.cps.size ≠ 0 ∧ z.cps.size ≤ 1000 ∧ ∀ (H' : Hp) (i c : Nat), Deck H' p q (n + 1) → Ext [p, q] H H' → z.cps[i]? = some c → Q (.str ⟨#[c]⟩) H'))
section
variable {P : Program} {w : World} {K : PySem.W.Frag} {mg : Str → Option Value} {base : Heap} {A : Adrs}
theorem ok_deck (T : Txt K mg A) : FnOk P w K mg base CX0 1 A.f__law_deck A.d__law_deck ["_law_script"] (spDeck K) := by
  refine T.F__law_deck.ok sc__law_deck (fun vs H Q E h => ?_) (fun cdv Ar outer s H vs Q E hr h => ?_)
  · obtain ⟨_, _, rfl, _⟩ := h
    rfl
  obtain ⟨a, ns, rfl, hS, hl, k⟩ := h
  refine ⟨_, (pss_one (ps_ret (pe_lst (pa_cons (pe_lc (own := [("_law_cell", 1)]) rfl sc__law_deck.nd (kPiL K (pe_slice (kSlL K) (pv 0) po_none (po_some pe_int))) (blkOk_by (own := [("_law_cell", 1)]) (N := N__law_deck) (sc := defScope s__law_deck) (by decide +kernel)) (fun _ _ _ _ _ => (pg_name (i := 1) sc__law_deck.nd rfl (Or.inl rfl))) (fun _ _ _ _ _ => pts_nil) (fun _ _ _ _ _ => (pe_callB (id := "abs") call_abs (by rfl) T.z_abs (by decide +kernel) (pa_cons (pv 1) pa_nil)))) (pa_cons pe_int pa_nil))))), ?_⟩
  refine ⟨_, rfl, _, rfl, a, ns.map V.int, rfl, hS, fun l hl0 => ?_⟩
  have cut : cutV (ns.map V.int) none (some 63) = ns.map V.int := by
    unfold cutV
    rw [show HT.sIx (ns.map V.int).length 0 none = 0 from rfl, show (some (63 : Int)) = some ((63 : Nat) : Int) from rfl, HT.sIx_nat, List.drop_zero, List.length_map]
    exact List.take_of_length_le (by rw [List.length_map]; omega)
  rw [cut]
  refine ⟨l, rfl, ⟨_, SqL.of upd_same⟩, fun D hD => ?_⟩
  have hDl : D ≠ l := by
    intro e
    rw [e, upd_same] at hD
    cases hD
  have hD0 : H D = none := (upd_ne hDl).symm.trans hD
  refine lc_list (K := K) (a := l) (xs := ns.map V.int) (fun i H' => H' D = some (.lst (((ns.take i).map fun c => if c < 0 then -c else c).map V.int)) ∧ H' l = some (.lst (ns.map V.int)) ∧ Same H H')
    ⟨upd_same, by rw [upd_ne hDl.symm, upd_same], Same.newer (Same.new hl0) hD0⟩ (fun i H' _ h => SqL.of h.2.1) ?_ ?_
  · rintro i x H' hx ⟨h1, h2, h3⟩
    rw [List.getElem?_map] at hx
    obtain ⟨c, hc, rfl⟩ := Option.map_eq_some_iff.mp hx
    have hi : i < ns.length := (List.getElem?_eq_some_iff.mp hc).1
    refine ⟨rfl, ?_⟩
    refine yes_ ?_
    refine ⟨_, rfl, c, rfl, _, h1, ?_, ?_, ?_, ?_⟩
    · rw [List.length_map, List.length_map, List.length_take]
      exact Nat.lt_of_le_of_lt (show min i ns.length ≤ 63 by omega) (by decide)
    · rw [upd_same, List.take_add_one, hc, List.map_append, List.map_append]
      rfl
    · rw [upd_ne hDl.symm]
      exact h2
    · exact Same.newer h3 hD0
  · rintro H' ⟨h1, h2, h3⟩
    refine ⟨(show 2 ≤ sizeLine by decide), fun p hp => ?_⟩
    have hDp : D ≠ p := ne_of_none h1 hp
    refine k _ p D (Same.free h3 hp) hD0 ⟨upd_same, _, by rw [upd_ne hDp]; exact h1, ?_, ?_⟩ (Same.newer h3 (Same.free h3 hp))
    · intro c hc
      obtain ⟨b, _, rfl⟩ := List.mem_map.mp hc
      split <;> omega
    · rw [List.length_map, List.length_take]
      omega
theorem ok_draw (T : Txt K mg A) : FnOk P w K mg base CX0 1 A.f__law_draw A.d__law_draw ["_law_deck_here", "_law_many"] spDraw := by
  refine T.F__law_draw.ok sc__law_draw (fun vs H Q E h => ?_) (fun cdv Ar outer s H vs Q E hr h => ?_)
  · obtain ⟨_, _, _, _, rfl, _⟩ := h
    rfl
  obtain ⟨p, q, n, many, rfl, hD, hn, h0, h9, k⟩ := h
  obtain ⟨cs, hq, hc, hl⟩ := hD.cells
  have hp := hD.top
  have pq := hD.ne
  refine ⟨_, (pss_cons (ps_asg (pe_op op_add (pe_ix (kIxL K) (pv 0) pe_int (fun _ _ => rfl)) pe_int) (pg_sub (pv 0) pe_int set_list))
    (pss_cons (ps_asg (pe_tup (pa_cons pe_int (pa_cons (pe_un un_neg pe_int) pa_nil))) (kTgT K (n := 2) (by rfl) (pgs_cons (pg_name (i := 2) sc__law_draw.nd rfl (Or.inl rfl)) (pgs_cons (pg_name (i := 3) sc__law_draw.nd rfl (Or.inl rfl)) pgs_nil))))
    (pss_cons (ps_if (pt_cmpR op_gt (pe_callB (id := "len") (kLenQ K) (by rfl) T.z_len (by decide +kernel) (pa_cons (pe_ix (kIxL K) (pv 0) pe_int (fun _ _ => rfl)) pa_nil)) pe_int (nomark _)) (pss_cons (ps_set (i := 3) sc__law_draw.nd rfl (Or.inl rfl) (pe_op op_mod (pe_callTy (T := "int") call_int1 (by rfl) T.z_int (by decide +kernel) (pa_cons (pe_ix (kIxL K) (pv 0) pe_int (fun _ _ => rfl)) pa_nil)) (pe_callB (id := "len") (kLenQ K) (by rfl) T.z_len (by decide +kernel) (pa_cons (pe_ix (kIxL K) (pv 0) pe_int (fun _ _ => rfl)) pa_nil))))
    (pss_one (ps_set (i := 2) sc__law_draw.nd rfl (Or.inl rfl) (pe_ix (kIxL K) (pe_ix (kIxL K) (pv 0) pe_int (fun _ _ => rfl)) (pv 3) (fun _ _ => rfl)))))
    pss_nil)
    (pss_cons (ps_if (pt_cmpR op_ge (pv 2) (pe_op op_pow pe_int pe_int) (nomark _)) (pss_cons (ps_asg (pe_op op_fdiv (pe_callTy (T := "int") call_int1 (by rfl) T.z_int (by decide +kernel) (pa_cons (pv 2) pa_nil)) (pv 1)) (pg_sub (pe_ix (kIxL K) (pv 0) pe_int (fun _ _ => rfl)) (pv 3) set_list))
    (pss_one (ps_ret (pe_op op_mod (pe_callTy (T := "int") call_int1 (by rfl) T.z_int (by decide +kernel) (pa_cons (pv 2) pa_nil)) (pv 1)))))
    pss_nil)
    (pss_cons (ps_set (i := 4) sc__law_draw.nd rfl (Or.inl rfl) (pe_op op_add (pe_op op_add (pe_op op_mod (pe_callTy (T := "int") call_int1 (by rfl) T.z_int (by decide +kernel) (pa_cons (pv 2) pa_nil)) pe_int) (pe_op op_mul pe_int (pe_ix (kIxL K) (pv 0) pe_int (fun _ _ => rfl)))) pe_int))
    (pss_one (ps_ret (pe_op op_mod (pe_callTy (T := "int") call_int1 (by rfl) T.z_int (by decide +kernel) (pa_cons (pe_op op_mod (pe_callTy (T := "int") call_int1 (by rfl) T.z_int (by decide +kernel) (pa_cons (pe_op op_pow (pv 4) pe_int) pa_nil)) pe_int) pa_nil)) (pv 1))))))))), ?_⟩
  refine ⟨_, rfl, p, _, 1, _, rfl, rfl, SqL.of hp, rfl, _, _, rfl, rfl, _, rfl, p, _, 1, 1, rfl, rfl, hp, rfl, ?_⟩
  refine ⟨_, rfl, by decide, fun t ht => ?_⟩
  refine ⟨t, _, rfl, SqT.of upd_same, rfl, ?_⟩
  have tp : t ≠ p := by
    intro e
    rw [e, upd_same] at ht
    cases ht
  have ht0 : H t = none := (upd_ne tp).symm.trans ht
  have tq : t ≠ q := fun e => by rw [e, hq] at ht0; cases ht0
  have hp2 : (upd (upd H p (.lst ([V.ref q, V.int (n : Int)].set 1 (.int ((n : Int) + 1))))) t (.tup [V.int 0, .int (-1)])) p = some (.lst [V.ref q, V.int ((n : Int) + 1)]) := by
    rw [upd_ne tp.symm, upd_same]
    rfl
  have hq2 : (upd (upd H p (.lst ([V.ref q, V.int (n : Int)].set 1 (.int ((n : Int) + 1))))) t (.tup [V.int 0, .int (-1)])) q = some (.lst (cs.map V.int)) := by
    rw [upd_ne tq.symm, upd_ne pq.symm]
    exact hq
  have he2 : Ext [p, q] H (upd (upd H p (.lst ([V.ref q, V.int (n : Int)].set 1 (.int ((n : Int) + 1))))) t (.tup [V.int 0, .int (-1)])) :=
    Ext.trans (Ext.put (by simp)) (Ext.new ht)
  revert hp2 hq2 he2
  intro hp2 hq2 he2
  refine two_ ?_
  dsimp only
  revert hp2 hq2 he2
  generalize upd (upd H p (.lst ([V.ref q, V.int (n : Int)].set 1 (.int ((n : Int) + 1))))) t (.tup [V.int 0, .int (-1)]) = H2
  intro hp2 hq2 he2
  refine sq (fun σ' H' => H' = H2 ∧ ∃ (c : Int) (z : Int), 0 ≤ c ∧ σ' = [some (.ref p), some (.int many), some (.int c), some (.int z), none] ∧ (c = 0 ∨ ∃ i : Nat, z = (i : Int) ∧ cs[i]? = some c)) (fun N hN => ?_) ?_
  · refine ⟨_, rfl, p, _, 0, _, rfl, rfl, SqL.of hp2, rfl, q, _, rfl, .inl (SqL.of hq2), _, _, rfl, rfl, _, rfl, idec (fun hlen => ?_) (fun hlen => ?_)⟩
    · rw [List.length_map] at hlen
      have hm0 : 0 ≤ ((n : Int) + 1) % (cs.length : Int) := Int.emod_nonneg _ (by omega)
      have hm1 : ((n : Int) + 1) % (cs.length : Int) < cs.length := Int.emod_lt_of_pos _ (by omega)
      obtain ⟨i, hi⟩ : ∃ i : Nat, ((n : Int) + 1) % (cs.length : Int) = (i : Int) := ⟨_, (Int.toNat_of_nonneg hm0).symm⟩
      have hil : i < cs.length := by omega
      obtain ⟨c, hci⟩ : ∃ c, cs[i]? = some c := ⟨cs[i], by simp [hil]⟩
      refine ⟨_, rfl, p, _, 1, _, rfl, rfl, SqL.of hp2, rfl, .inl ⟨_, rfl, _, rfl, p, _, 0, _, rfl, rfl, SqL.of hp2, rfl, q, _, rfl, .inl (SqL.of hq2), _, _, rfl, rfl, ?_, ?_⟩⟩
      · rw [List.length_map]
        exact hlen
      · dsimp only
        rw [List.length_map, hi]
        refine ⟨_, rfl, p, _, 0, _, rfl, rfl, SqL.of hp2, rfl, _, rfl, q, _, (i : Int), .int c, rfl, rfl, SqL.of hq2, atI_nat (by rw [List.getElem?_map, hci]; rfl), ?_⟩
        exact hN _ _ ⟨rfl, c, (i : Int), hc c (List.mem_of_getElem? hci), rfl, .inr ⟨i, rfl, hci⟩⟩
    · exact hN _ _ ⟨rfl, 0, -1, Int.le_refl 0, rfl, .inl rfl⟩
  rintro σ' H' ⟨rfl, c, z, hc0, rfl, hcz⟩
  refine sq (fun σ' H'' => H'' = H' ∧ σ' = [some (.ref p), some (.int many), some (.int c), some (.int z), none]) (fun N hN => ?_) ?_
  · refine ⟨_, rfl, (10 : Int), (18 : Int), rfl, rfl, ⟨by decide, by decide, by decide⟩, _, _, rfl, rfl, _, rfl, idec (fun hbig => ?_) (fun _ => ?_)⟩
    · -- a great cell
      obtain ⟨i, rfl, hci⟩ : ∃ i : Nat, z = (i : Int) ∧ cs[i]? = some c := by
        rcases hcz with rfl | h
        · exact absurd hbig (by decide)
        · exact h
      have hil : i < cs.length := (List.getElem?_eq_some_iff.mp hci).1
      refine ⟨_, rfl, .inl ⟨_, rfl, _, rfl, _, _, rfl, rfl, ⟨h0, by omega⟩, ?_⟩⟩
      refine ⟨_, rfl, p, _, 0, _, rfl, rfl, SqL.of hp2, rfl, _, rfl, q, _, (i : Int), i, rfl, rfl, hq2, ?_, ?_⟩
      · unfold ixN
        rw [List.length_map, if_pos (by omega), if_pos (by omega)]
        simp
      refine ⟨_, rfl, .inl ⟨_, rfl, _, rfl, _, _, rfl, rfl, h0, ?_⟩⟩
      refine k _ _ ⟨by rw [upd_ne pq]; exact hp2, cs.set i (c / many), by rw [upd_same, List.map_set], ?_, by rw [List.length_set]; exact hl⟩ (Ext.trans he2 (Ext.put (by simp))) (Int.emod_nonneg _ (by omega)) (Int.emod_lt_of_pos _ h0)
      intro d hd
      rcases List.mem_or_eq_of_mem_set hd with h | rfl
      · exact hc d h
      · exact Int.ediv_nonneg hc0 (by omega)
    · exact hN _ _ ⟨rfl, rfl⟩
  rintro σ' H'' ⟨rfl, rfl⟩
  have hm0 : 0 ≤ c % 2147483563 := Int.emod_nonneg _ (by decide)
  have hm1 : c % 2147483563 < 2147483563 := Int.emod_lt_of_pos _ (by decide)
  refine ⟨_, rfl, .inl ⟨_, rfl, _, _, rfl, rfl, (show (0 : Int) < 2147483563 by decide), _, rfl, p, _, 1, _, rfl, rfl, SqL.of hp2, rfl, _, _, rfl, rfl, .inl ⟨by decide, by decide⟩, _, _, rfl, rfl, _, _, rfl, rfl, ?_⟩⟩
  refine ⟨_, rfl, _, _, rfl, rfl, ⟨by decide, by decide, by omega⟩, .inl ⟨_, rfl, _, _, rfl, rfl, (show (0 : Int) < 2147483629 by decide), .inl ⟨_, rfl, _, rfl, _, _, rfl, rfl, h0, ?_⟩⟩⟩
  exact k _ _ ⟨hp2, cs, hq2, hc, hl⟩ he2 (Int.emod_nonneg _ (by omega)) (Int.emod_lt_of_pos _ h0)
theorem ok_one (T : Txt K mg A) : FnOk P w K mg base CX0 2 A.f__law_one A.d__law_one ["_law_deck_here", "_law_items"] (spOne K) := by
  have G__law_draw : FnOk P w K mg base CX0 1 A.f__law_draw A.d__law_draw ["_law_deck_here", "_law_many"] spDraw := ok_draw T
  refine T.F__law_one.ok sc__law_one (fun vs H Q E h => ?_) (fun cdv Ar outer s H vs Q E hr h => ?_)
  · obtain ⟨_, _, _, _, _, ⟨_, _, _, rfl, _⟩ | ⟨_, rfl, _⟩⟩ := h
    · rfl
    · rfl
  obtain ⟨p, q, n, hD, hn, h⟩ := h
  rcases h with ⟨v, M, ds, rfl, ht, pM, qM, hne, hlen, k⟩ | ⟨z, rfl, hne, hlen, k⟩
  · refine ⟨_, (pss_one (ps_ret (pe_ix (kIxQ K) (pv 1) (pe_call G__law_draw (hr.mono (by first | decide | omega)) rfl T.m__law_draw T.k__law_draw T.b__law_draw .nil pass0 (pa_cons (pv 0) (pa_cons (pe_callB (id := "len") (kLenA K) (by rfl) T.z_len (by decide +kernel) (pa_cons (pv 1) pa_nil)) pa_nil))) (fun _ _ => rfl)))), ?_⟩
    rcases ht with ht | ht
    · cases ht with
      | @lst a xs ds' na ha t =>
        have lx := t.len
        refine ⟨_, rfl, _, rfl, _, rfl, _, xs.length, rfl, .inl ⟨xs, SqL.of ha, rfl⟩, p, q, n, _, rfl, hD, hn, ?_, ?_, fun H' r hD' e' r0 r1 => ?_⟩
        · have : ds.length ≠ 0 := fun z => hne (List.length_eq_zero_iff.mp z)
          omega
        · omega
        · obtain ⟨i, rfl⟩ : ∃ i : Nat, r = (i : Int) := ⟨r.toNat, (Int.toNat_of_nonneg r0).symm⟩
          have hi : i < xs.length := by omega
          have hx : xs[i]? = some xs[i] := by simp [hi]
          obtain ⟨d, hd, td⟩ := t.get hx
          have eM : Ext M H H' := e'.sub (by intro b hb; rcases List.mem_cons.mp hb with rfl | hb; exact pM; rcases List.mem_cons.mp hb with rfl | hb; exact qM; cases hb)
          refine .inl ⟨a, xs, (i : Int), xs[i], rfl, rfl, SqL.of (eM _ _ na ha), atI_nat hx, ?_⟩
          exact k H' _ d hD' e' (td.ext eM) (List.mem_of_getElem? hd)
    · cases ht with
      | @tup a xs ds' na ha t =>
        have lx := t.len
        refine ⟨_, rfl, _, rfl, _, rfl, _, xs.length, rfl, .inr ⟨xs, SqT.of ha, rfl⟩, p, q, n, _, rfl, hD, hn, ?_, ?_, fun H' r hD' e' r0 r1 => ?_⟩
        · have : ds.length ≠ 0 := fun z => hne (List.length_eq_zero_iff.mp z)
          omega
        · omega
        · obtain ⟨i, rfl⟩ : ∃ i : Nat, r = (i : Int) := ⟨r.toNat, (Int.toNat_of_nonneg r0).symm⟩
          have hi : i < xs.length := by omega
          have hx : xs[i]? = some xs[i] := by simp [hi]
          obtain ⟨d, hd, td⟩ := t.get hx
          have eM : Ext M H H' := e'.sub (by intro b hb; rcases List.mem_cons.mp hb with rfl | hb; exact pM; rcases List.mem_cons.mp hb with rfl | hb; exact qM; cases hb)
          refine .inr (.inl ⟨a, xs, (i : Int), xs[i], rfl, rfl, SqT.of (eM _ _ na ha), atI_nat hx, ?_⟩)
          exact k H' _ d hD' e' (td.ext eM) (List.mem_of_getElem? hd)
  · refine ⟨_, (pss_one (ps_ret (pe_ix (kIxQ K) (pv 1) (pe_call G__law_draw (hr.mono (by first | decide | omega)) rfl T.m__law_draw T.k__law_draw T.b__law_draw .nil pass0 (pa_cons (pv 0) (pa_cons (pe_callB (id := "len") (kLenA K) (by rfl) T.z_len (by decide +kernel) (pa_cons (pv 1) pa_nil)) pa_nil))) (fun _ _ => rfl)))), ?_⟩
    have zl : z.length = z.cps.size := rfl
    have zs : z.length ≤ sizeLine := Nat.le_trans (by omega) (show 1000 ≤ sizeLine by decide)
    refine ⟨_, rfl, _, rfl, _, rfl, _, z.length, rfl, ⟨zs, rfl⟩, p, q, n, _, rfl, hD, hn, by omega, by omega, fun H' r hD' e' r0 r1 => ?_⟩
    obtain ⟨i, rfl⟩ : ∃ i : Nat, r = (i : Int) := ⟨r.toNat, (Int.toNat_of_nonneg r0).symm⟩
    have hi : i < z.cps.size := by omega
    have hx : z.cps.toList[i]? = some z.cps[i] := by simp [hi]
    refine .inr (.inr ⟨z, (i : Int), z.cps[i], rfl, rfl, zs, atI_nat hx, ?_⟩)
    exact k H' i _ hD' e' (by simp [hi])
end

/-! ### kinds: what kind_error tells, by data -/
def num (lo hi : Int) : PyData → Bool | .int i => decide (lo ≤ i) && decide (i ≤ hi) | _ => false
def isNone : PyData → Bool | .none => true | _ => false
def rowOk (L S : Int) : PyData → Bool | .tuple ds => decide ((ds.length : Int) = L) && ds.all (fun d => isNone d || num 0 (S - 1) d) | _ => false
def rowsOk (L : Int) : PyData → Bool | .tuple ds => decide (1 ≤ ds.length) && decide (ds.length ≤ 8) && ds.all (rowOk L ds.length) | _ => false
def endsOk (n : Int) : PyData → Bool | .tuple ds => decide ((ds.length : Int) = n) && ds.all isBool | _ => false
def many : PyData → Int | .tuple ds => ds.length | _ => 0
def whole : PyData → Int | .int i => i | _ => 0
def kerr : PyData → V
  | .tuple [l, r, e] => if num 1 4 l = false then .str "letters" else if rowsOk (whole l) r = false then .str "rows" else if endsOk (many r) e = false then .str "ends" else .non
  | _ => .str "kind"
theorem num_int {lo hi : Int} {d : PyData} (h : num lo hi d = true) : ∃ i, d = .int i ∧ lo ≤ i ∧ i ≤ hi := by
  cases d with
  | int i =>
    have h' : (decide (lo ≤ i) && decide (i ≤ hi)) = true := h
    rw [Bool.and_eq_true, decide_eq_true_eq, decide_eq_true_eq] at h'
    exact ⟨i, rfl, h'.1, h'.2⟩
  | _ => cases h
theorem weight_item : ∀ {ds : List PyData} {d : PyData}, d ∈ ds → d.weight + ds.length ≤ PyData.weightAll ds
  | x :: xs, d, h => by
    have hl : xs.length ≤ PyData.weightAll xs := by
      clear h
      induction xs with
      | nil => exact Nat.zero_le _
      | cons y ys ih => simp only [List.length_cons, PyData.weightAll]; omega
    simp only [List.length_cons, PyData.weightAll]
    rcases List.mem_cons.mp h with rfl | h
    · omega
    · have := weight_item h
      omega
theorem weight_len (ds : List PyData) : ds.length ≤ PyData.weightAll ds := by
  induction ds with
  | nil => exact Nat.zero_le _
  | cons y ys ih => simp only [List.length_cons, PyData.weightAll]; omega
def isInt : PyData → Bool | .int _ => true | _ => false
def spInt (K : PySem.W.Frag) : Sp := fun vs H Q _ => ∃ (v : V) (M : List Addr) (d : PyData), vs = [v] ∧ T K M H v d ∧ Q (.bl (isInt d)) H
def spNum (K : PySem.W.Frag) : Sp := fun vs H Q _ => ∃ (v : V) (M : List Addr) (d : PyData) (lo hi : Int), vs = [v, .int lo, .int hi] ∧ T K M H v d ∧ Q (.bl (num lo hi d)) H
def spRow (K : PySem.W.Frag) : Sp := fun vs H Q _ => ∃ (v : V) (M : List Addr) (d : PyData) (L S : Int), vs = [v, .int L, .int S] ∧ T K M H v d ∧ d.weight ≤ 100000 ∧ ∀ H', Same H H' → Q (.bl (rowOk L S d)) H'
def spRows (K : PySem.W.Frag) : Sp := fun vs H Q _ => ∃ (v : V) (M : List Addr) (d : PyData) (L : Int), vs = [v, .int L] ∧ T K M H v d ∧ d.weight ≤ 100000 ∧ ∀ H', Same H H' → Q (.bl (rowsOk L d)) H'
def spEnds (K : PySem.W.Frag) : Sp := fun vs H Q _ => ∃ (v : V) (M : List Addr) (d : PyData) (n : Int), vs = [v, .int n] ∧ T K M H v d ∧ d.weight ≤ 100000 ∧ ∀ H', Same H H' → Q (.bl (endsOk n d)) H'
def spErr (K : PySem.W.Frag) : Sp := fun vs H Q _ => ∃ (v : V) (M : List Addr) (d : PyData), vs = [v] ∧ T K M H v d ∧ d.weight ≤ 100000 ∧ ∀ H', Same H H' → Q (kerr d) H'
section
variable {P : Program} {w : World} {K : PySem.W.Frag} {mg : Str → Option Value} {base : Heap} {A : Adrs}
theorem ok_integer (T : Txt K mg A) : FnOk P w K mg base CX0 1 A.f_is_integer A.d_is_integer ["value"] (spInt K) := by
  refine T.F_is_integer.ok sc_is_integer (fun vs H Q E h => ?_) (fun cdv Ar outer s H vs Q E hr h => ?_)
  · obtain ⟨_, _, _, rfl, _⟩ := h
    rfl
  obtain ⟨v, M, d, rfl, ht, k⟩ := h
  refine ⟨_, (pss_one (ps_ret (pe_and (pe_callB (id := "isinstance") (kIsi K) (by rfl) T.z_isinstance (by decide +kernel) (pa_cons (pv 0) (pa_cons (pe_bltn (v := .ty "int") (by rfl) T.z_int (by decide +kernel) rfl) pa_nil))) (pe_one (pe_not (pe_callB (id := "isinstance") (kIsi K) (by rfl) T.z_isinstance (by decide +kernel) (pa_cons (pv 0) (pa_cons (pe_bltn (v := .ty "bool") (by rfl) T.z_bool (by decide +kernel) rfl) pa_nil)))))))), ?_⟩
  refine ⟨_, rfl, _, _, _, _, _, rfl, .ty _, ht.ty, kit_ty (kit_int d), _, rfl, if_ (fun hi => ?_) (fun hi => ?_)⟩
  · refine ⟨_, rfl, _, _, _, _, _, rfl, .ty _, ht.ty, kit_ty (kit_bool d), _, rfl, ?_⟩
    cases d with
    | int i => exact k
    | bool b => exact k
    | _ => cases hi
  · cases d with
    | int i => cases hi
    | bool b => cases hi
    | _ => exact k
theorem ok_num (T : Txt K mg A) : FnOk P w K mg base CX0 2 A.f_is_number A.d_is_number ["value", "least", "most"] (spNum K) := by
  have G_is_integer : FnOk P w K mg base CX0 1 A.f_is_integer A.d_is_integer ["value"] (spInt K) := ok_integer T
  refine T.F_is_number.ok sc_is_number (fun vs H Q E h => ?_) (fun cdv Ar outer s H vs Q E hr h => ?_)
  · obtain ⟨_, _, _, _, _, rfl, _⟩ := h
    rfl
  obtain ⟨v, M, d, lo, hi0, rfl, ht, k⟩ := h
  refine ⟨_, (pss_one (ps_ret (pe_and (pe_call G_is_integer (hr.mono (by first | decide | omega)) rfl T.m_is_integer T.k_is_integer T.b_is_integer .nil pass0 (pa_cons (pv 0) pa_nil)) (pe_one (pe_chain op_le op_le (pv 1) (pv 0) (pv 2)))))), ?_⟩
  refine ⟨_, rfl, _, _, _, rfl, ht, _, rfl, if_ (fun hi => ?_) (fun hi => ?_)⟩
  · cases d with
    | int i =>
      cases ht
      refine ⟨_, rfl, _, rfl, _, _, rfl, rfl, _, rfl, ?_⟩
      by_cases hl : lo ≤ i
      · rw [decide_eq_true hl]
        refine iteT ⟨_, rfl, _, _, rfl, rfl, ?_⟩
        have e : num lo hi0 (.int i) = decide (i ≤ hi0) := by
          show (decide (lo ≤ i) && decide (i ≤ hi0)) = _
          rw [decide_eq_true hl, Bool.true_and]
        show Q (.bl (decide (i ≤ hi0))) H
        rw [← e]
        exact k
      · rw [decide_eq_false hl]
        refine iteF ?_
        have e : num lo hi0 (.int i) = false := by
          show (decide (lo ≤ i) && decide (i ≤ hi0)) = _
          rw [decide_eq_false hl, Bool.false_and]
        show Q (.bl false) H
        rw [← e]
        exact k
    | _ => cases hi
  · cases d with
    | int i => cases hi
    | _ => exact k
theorem ok_row (T : Txt K mg A) : FnOk P w K mg base CX0 3 A.f__is_row A.d__is_row ["value", "letters", "states"] (spRow K) := by
  have G_is_number : FnOk P w K mg base CX0 2 A.f_is_number A.d_is_number ["value", "least", "most"] (spNum K) := ok_num T
  refine T.F__is_row.ok sc__is_row (fun vs H Q E h => ?_) (fun cdv Ar outer s H vs Q E hr h => ?_)
  · obtain ⟨_, _, _, _, _, rfl, _⟩ := h
    rfl
  obtain ⟨v, M, d, L, S, rfl, ht, hw, k⟩ := h
  refine ⟨_, (pss_cons (ps_if (PW.pt (pw_or (pt_not (pt_val (pe_callB (id := "isinstance") (kIsi K) (by rfl) T.z_isinstance (by decide +kernel) (pa_cons (pv 0) (pa_cons (pe_bltn (v := .ty "tuple") (by rfl) T.z_tuple (by decide +kernel) rfl) pa_nil))))) (pw_or1 (pt_cmpR op_ne (pe_callB (id := "len") (kLenQ K) (by rfl) T.z_len (by decide +kernel) (pa_cons (pv 0) pa_nil)) (pv 1) (nomark _))))) (pss_one (ps_ret pe_bl))
    pss_nil)
    (pss_one (ps_ret (pe_callB (id := "all") (kAll K rfl) (by rfl) T.z_all (by decide +kernel) (pa_cons (pe_lc (own := [("item", 3)]) rfl sc__is_row.nd (kPiT K (pv 0)) (blkOk_by (own := [("item", 3)]) (N := N__is_row) (sc := defScope s__is_row) (by decide +kernel)) (fun _ _ _ _ _ => (pg_name (i := 3) sc__is_row.nd rfl (Or.inl rfl))) (fun _ _ _ _ _ => pts_nil) (fun _ _ _ _ _ => (pe_or (pe_cmpR op_isN (pv 3) pe_non (nomark _)) (pe_one (pe_call G_is_number (hr.mono (by first | decide | omega)) rfl T.m_is_number T.k_is_number T.b_is_number .nil pass0 (pa_cons (pv 3) (pa_cons pe_int (pa_cons (pe_op op_sub (pv 2) pe_int) pa_nil)))))))) pa_nil))))), ?_⟩
  refine ⟨_, rfl, _, _, _, _, _, rfl, .ty _, ht.ty, kit_ty (kit_tup d), _, rfl, ?_⟩
  cases d with
  | tuple ds =>
    cases ht with
    | @tup a xs _ na ha t =>
      have lx := t.len
      have hl : ds.length ≤ 100000 := Nat.le_trans (weight_len ds) hw
      refine iteF ⟨_, rfl, _, _, rfl, .inr (SqT.of ha), _, rfl, rfl, _, rfl, ?_⟩
      refine ndec (fun e => ?_) (fun e => ?_)
      · refine ⟨_, rfl, a, rfl, ⟨_, SqT.of ha⟩, fun D hD => ?_⟩
        refine lcT (M := []) (N := []) (fun _ _ => True) (fun _ => true) (fun d e => e = .bool (isNone d || num 0 (S - 1) d)) ha (by simp) (t.off (by simp)) hl (by simp) (by simp) hD trivial (fun _ _ _ _ => trivial) ?_ ?_
        · intro i x d H' hd td e' _ Ky Kn _ ky
          refine ⟨rfl, yes_ ?_⟩
          refine ⟨_, rfl, rfl, _, rfl, idec (fun en => ?_) (fun en => ?_)⟩
          · subst en
            cases td
            exact ky rfl H' _ _ (Ext.refl _ _) trivial (.bl true) rfl
          · have nn : isNone d = false := by
              cases d with
              | none =>
                cases td
                exact absurd rfl en
              | _ => rfl
            refine ⟨_, rfl, _, rfl, _, _, rfl, rfl, x, _, d, 0, S - 1, rfl, td, ?_⟩
            exact ky rfl H' _ _ (Ext.refl _ _) trivial (.bl _) (by rw [nn, Bool.false_or])
        · intro H' ys es e' _ hy ty pr
          refine ⟨D, ds.map fun d => isNone d || num 0 (S - 1) d, rfl, by rw [← bools_of pr ty]; exact SqL.of hy, ?_⟩
          have ev : rowOk L S (.tuple ds) = (ds.map fun d => isNone d || num 0 (S - 1) d).all id := by
            rw [all_map]
            show (decide ((ds.length : Int) = L) && _) = _
            have : (ds.length : Int) = L := by
              have := V.int.inj e
              omega
            rw [decide_eq_true this, Bool.true_and]
          rw [ev] at k
          exact k _ (same_ext e')
      · have ev : rowOk L S (.tuple ds) = false := by
          show (decide ((ds.length : Int) = L) && _) = _
          have : ¬ (ds.length : Int) = L := fun z => e (by rw [lx, z])
          rw [decide_eq_false this, Bool.false_and]
        rw [ev] at k
        exact k _ (Same.refl _)
  | _ => exact k _ (Same.refl _)
theorem ok_ends (T : Txt K mg A) : FnOk P w K mg base CX0 1 A.f__are_ends A.d__are_ends ["value", "states"] (spEnds K) := by
  refine T.F__are_ends.ok sc__are_ends (fun vs H Q E h => ?_) (fun cdv Ar outer s H vs Q E hr h => ?_)
  · obtain ⟨_, _, _, _, rfl, _⟩ := h
    rfl
  obtain ⟨v, M, d, n, rfl, ht, hw, k⟩ := h
  refine ⟨_, (pss_cons (ps_if (PW.pt (pw_or (pt_not (pt_val (pe_callB (id := "isinstance") (kIsi K) (by rfl) T.z_isinstance (by decide +kernel) (pa_cons (pv 0) (pa_cons (pe_bltn (v := .ty "tuple") (by rfl) T.z_tuple (by decide +kernel) rfl) pa_nil))))) (pw_or1 (pt_cmpR op_ne (pe_callB (id := "len") (kLenQ K) (by rfl) T.z_len (by decide +kernel) (pa_cons (pv 0) pa_nil)) (pv 1) (nomark _))))) (pss_one (ps_ret pe_bl))
    pss_nil)
    (pss_one (ps_ret (pe_callB (id := "all") (kAll K rfl) (by rfl) T.z_all (by decide +kernel) (pa_cons (pe_lc (own := [("end", 2)]) rfl sc__are_ends.nd (kPiT K (pv 0)) (blkOk_by (own := [("end", 2)]) (N := N__are_ends) (sc := defScope s__are_ends) (by decide +kernel)) (fun _ _ _ _ _ => (pg_name (i := 2) sc__are_ends.nd rfl (Or.inl rfl))) (fun _ _ _ _ _ => pts_nil) (fun _ _ _ _ _ => (pe_callB (id := "isinstance") (kIsi K) (by rfl) T.z_isinstance (by decide +kernel) (pa_cons (pv 2) (pa_cons (pe_bltn (v := .ty "bool") (by rfl) T.z_bool (by decide +kernel) rfl) pa_nil))))) pa_nil))))), ?_⟩
  refine ⟨_, rfl, _, _, _, _, _, rfl, .ty _, ht.ty, kit_ty (kit_tup d), _, rfl, ?_⟩
  cases d with
  | tuple ds =>
    cases ht with
    | @tup a xs _ na ha t =>
      have lx := t.len
      have hl : ds.length ≤ 100000 := Nat.le_trans (weight_len ds) hw
      refine iteF ⟨_, rfl, _, _, rfl, .inr (SqT.of ha), _, rfl, rfl, _, rfl, ?_⟩
      refine ndec (fun e => ?_) (fun e => ?_)
      · refine ⟨_, rfl, a, rfl, ⟨_, SqT.of ha⟩, fun D hD => ?_⟩
        refine lcT (M := []) (N := []) (fun _ _ => True) (fun _ => true) (fun d e => e = .bool (isBool d)) ha (by simp) (t.off (by simp)) hl (by simp) (by simp) hD trivial (fun _ _ _ _ => trivial) ?_ ?_
        · intro i x d H' hd td e' _ Ky Kn _ ky
          refine ⟨rfl, yes_ ?_⟩
          exact ⟨_, rfl, _, _, _, _, _, rfl, .ty _, td.ty, kit_ty (kit_bool d), ky rfl H' _ _ (Ext.refl _ _) trivial (.bl _) rfl⟩
        · intro H' ys es e' _ hy ty pr
          refine ⟨D, ds.map isBool, rfl, by rw [← bools_of pr ty]; exact SqL.of hy, ?_⟩
          have ev : endsOk n (.tuple ds) = (ds.map isBool).all id := by
            rw [all_map]
            show (decide ((ds.length : Int) = n) && _) = _
            have : (ds.length : Int) = n := by
              have := V.int.inj e
              omega
            rw [decide_eq_true this, Bool.true_and]
          rw [ev] at k
          exact k _ (same_ext e')
      · have ev : endsOk n (.tuple ds) = false := by
          show (decide ((ds.length : Int) = n) && _) = _
          have : ¬ (ds.length : Int) = n := fun z => e (by rw [lx, z])
          rw [decide_eq_false this, Bool.false_and]
        rw [ev] at k
        exact k _ (Same.refl _)
  | _ => exact k _ (Same.refl _)
theorem ok_rows (T : Txt K mg A) : FnOk P w K mg base CX0 4 A.f__are_rows A.d__are_rows ["value", "letters"] (spRows K) := by
  have G__is_row : FnOk P w K mg base CX0 3 A.f__is_row A.d__is_row ["value", "letters", "states"] (spRow K) := ok_row T
  refine T.F__are_rows.ok sc__are_rows (fun vs H Q E h => ?_) (fun cdv Ar outer s H vs Q E hr h => ?_)
  · obtain ⟨_, _, _, _, rfl, _⟩ := h
    rfl
  obtain ⟨v, M, d, L, rfl, ht, hw, k⟩ := h
  refine ⟨_, (pss_cons (ps_if (PW.pt (pw_or (pt_not (pt_val (pe_callB (id := "isinstance") (kIsi K) (by rfl) T.z_isinstance (by decide +kernel) (pa_cons (pv 0) (pa_cons (pe_bltn (v := .ty "tuple") (by rfl) T.z_tuple (by decide +kernel) rfl) pa_nil))))) (pw_or1 (pt_not (pt_chain op_le op_le pe_int (pe_callB (id := "len") (kLenQ K) (by rfl) T.z_len (by decide +kernel) (pa_cons (pv 0) pa_nil)) (pe_gi rfl T.c_MAX_STATES)))))) (pss_one (ps_ret pe_bl))
    pss_nil)
    (pss_one (ps_ret (pe_callB (id := "all") (kAll K rfl) (by rfl) T.z_all (by decide +kernel) (pa_cons (pe_lc (own := [("row", 2)]) rfl sc__are_rows.nd (kPiT K (pv 0)) (blkOk_by (own := [("row", 2)]) (N := N__are_rows) (sc := defScope s__are_rows) (by decide +kernel)) (fun _ _ _ _ _ => (pg_name (i := 2) sc__are_rows.nd rfl (Or.inl rfl))) (fun _ _ _ _ _ => pts_nil) (fun _ _ _ _ _ => (pe_call G__is_row (hr.mono (by first | decide | omega)) rfl T.m__is_row T.k__is_row T.b__is_row .nil pass0 (pa_cons (pv 2) (pa_cons (pv 1) (pa_cons (pe_callB (id := "len") (kLenQ K) (by rfl) T.z_len (by decide +kernel) (pa_cons (pv 0) pa_nil)) pa_nil)))))) pa_nil))))), ?_⟩
  refine ⟨_, rfl, _, _, _, _, _, rfl, .ty _, ht.ty, kit_ty (kit_tup d), _, rfl, ?_⟩
  cases d with
  | tuple ds =>
    cases ht with
    | @tup a xs _ na ha t =>
      have lx := t.len
      have hl : ds.length ≤ 100000 := Nat.le_trans (weight_len ds) hw
      have off : ∀ H', Same H H' → ¬ (1 ≤ ds.length ∧ ds.length ≤ 8) → Q (.bl false) H' := fun H' s' z => by
        have ev : rowsOk L (.tuple ds) = false := by
          show (decide (1 ≤ ds.length) && decide (ds.length ≤ 8) && _) = false
          by_cases h1 : 1 ≤ ds.length
          · rw [decide_eq_false (fun h2 => z ⟨h1, h2⟩), Bool.and_false, Bool.false_and]
          · rw [decide_eq_false h1, Bool.false_and, Bool.false_and]
        have := k H' s'
        rw [ev] at this
        exact this
      refine iteF ⟨_, rfl, _, _, rfl, .inr (SqT.of ha), _, _, rfl, rfl, _, rfl, idec (fun h1 => ?_) (fun h1 => ?_)⟩
      · refine ⟨_, _, rfl, rfl, _, rfl, ?_⟩
        refine ndec (fun h2 => ?_) (fun h2 => ?_)
        · refine ⟨_, rfl, a, rfl, ⟨_, SqT.of ha⟩, fun D hD => ?_⟩
          refine lcT (M := []) (N := []) (fun _ _ => True) (fun _ => true) (fun d e => e = .bool (rowOk L ds.length d)) ha (by simp) (t.off (by simp)) hl (by simp) (by simp) hD trivial (fun _ _ _ _ => trivial) ?_ ?_
          · intro i x d H' hd td e' _ Ky Kn _ ky
            refine ⟨rfl, yes_ ?_⟩
            refine ⟨_, rfl, _, rfl, _, rfl, _, _, rfl, .inr (SqT.of (e' _ _ (by simp) ha)), x, _, d, L, (xs.length : Int), rfl, td, ?_, fun H'' s'' => ?_⟩
            · have := weight_item (List.mem_of_getElem? hd)
              have hw' : PyData.weightAll ds ≤ 100000 := hw
              omega
            · exact ky rfl H'' _ _ (Ext.same s'') trivial (.bl _) (by rw [lx])
          · intro H' ys es e' _ hy ty pr
            refine ⟨D, ds.map (rowOk L ds.length), rfl, by rw [← bools_of pr ty]; exact SqL.of hy, ?_⟩
            have ev : rowsOk L (.tuple ds) = (ds.map (rowOk L ds.length)).all id := by
              rw [all_map]
              show (decide (1 ≤ ds.length) && decide (ds.length ≤ 8) && _) = _
              rw [decide_eq_true (show 1 ≤ ds.length by omega), decide_eq_true (show ds.length ≤ 8 by omega), Bool.true_and, Bool.true_and]
            rw [ev] at k
            exact k _ (same_ext e')
        · exact off _ (Same.refl _) (by omega)
      · exact ⟨_, rfl, off _ (Same.refl _) (by omega)⟩
  | _ => exact k _ (Same.refl _)
theorem ok_error (T : Txt K mg A) : FnOk P w K mg base CX0 5 A.f_kind_error A.d_kind_error ["value"] (spErr K) := by
  have G_is_number : FnOk P w K mg base CX0 2 A.f_is_number A.d_is_number ["value", "least", "most"] (spNum K) := ok_num T
  have G__are_rows : FnOk P w K mg base CX0 4 A.f__are_rows A.d__are_rows ["value", "letters"] (spRows K) := ok_rows T
  have G__are_ends : FnOk P w K mg base CX0 1 A.f__are_ends A.d__are_ends ["value", "states"] (spEnds K) := ok_ends T
  refine T.F_kind_error.ok sc_kind_error (fun vs H Q E h => ?_) (fun cdv Ar outer s H vs Q E hr h => ?_)
  · obtain ⟨_, _, _, rfl, _⟩ := h
    rfl
  obtain ⟨v, M, d, rfl, ht, hw, k⟩ := h
  refine ⟨_, (pss_cons (ps_if (PW.pt (pw_or (pt_not (pt_val (pe_callB (id := "isinstance") (kIsi K) (by rfl) T.z_isinstance (by decide +kernel) (pa_cons (pv 0) (pa_cons (pe_bltn (v := .ty "tuple") (by rfl) T.z_tuple (by decide +kernel) rfl) pa_nil))))) (pw_or1 (pt_cmpR op_ne (pe_callB (id := "len") (kLenQ K) (by rfl) T.z_len (by decide +kernel) (pa_cons (pv 0) pa_nil)) pe_int (nomark _))))) (pss_one (ps_ret pe_str))
    pss_nil)
    (pss_cons (ps_asg (pv 0) (kTgT K (n := 3) (by rfl) (pgs_cons (pg_name (i := 1) sc_kind_error.nd rfl (Or.inl rfl)) (pgs_cons (pg_name (i := 2) sc_kind_error.nd rfl (Or.inl rfl)) (pgs_cons (pg_name (i := 3) sc_kind_error.nd rfl (Or.inl rfl)) pgs_nil)))))
    (pss_cons (ps_if (pt_not (pt_val (pe_call G_is_number (hr.mono (by first | decide | omega)) rfl T.m_is_number T.k_is_number T.b_is_number .nil pass0 (pa_cons (pv 1) (pa_cons pe_int (pa_cons (pe_gi rfl T.c_MAX_LETTERS) pa_nil)))))) (pss_one (ps_ret pe_str))
    pss_nil)
    (pss_cons (ps_if (pt_not (pt_val (pe_call G__are_rows (hr.mono (by first | decide | omega)) rfl T.m__are_rows T.k__are_rows T.b__are_rows .nil pass0 (pa_cons (pv 2) (pa_cons (pv 1) pa_nil))))) (pss_one (ps_ret pe_str))
    pss_nil)
    (pss_cons (ps_if (pt_not (pt_val (pe_call G__are_ends (hr.mono (by first | decide | omega)) rfl T.m__are_ends T.k__are_ends T.b__are_ends .nil pass0 (pa_cons (pv 3) (pa_cons (pe_callB (id := "len") (kLenQ K) (by rfl) T.z_len (by decide +kernel) (pa_cons (pv 2) pa_nil)) pa_nil))))) (pss_one (ps_ret pe_str))
    pss_nil)
    (pss_one (ps_ret pe_non))))))), ?_⟩
  refine ⟨_, rfl, _, _, _, _, _, rfl, .ty _, ht.ty, kit_ty (kit_tup d), _, rfl, ?_⟩
  cases d with
  | tuple ds =>
    cases ht with
    | @tup a xs _ na ha t =>
      have lx := t.len
      refine iteF ⟨_, rfl, _, _, rfl, .inr (SqT.of ha), rfl, _, rfl, ?_⟩
      refine ndec (fun e3 => ?_) (fun e3 => ?_)
      · have l3 : ds.length = 3 := by
          have := V.int.inj e3
          omega
        match ds, l3, t, hw, k with
        | [l, r, e], _, t, hw, k =>
          cases t with
          | @cons vl _ _ _ tl t =>
            cases t with
            | @cons vr _ _ _ tr t =>
              cases t with
              | @cons ve _ _ _ te t =>
                cases t
                have hw3 : l.weight + 1 + (r.weight + 1 + (e.weight + 1 + 0)) ≤ 100000 := hw
                refine ⟨_, rfl, a, _, rfl, SqT.of ha, rfl, _, _, rfl, _, _, rfl, _, _, rfl, rfl, ?_⟩
                refine ⟨_, rfl, vl, M, l, 1, 4, rfl, tl, _, rfl, ?_⟩
                refine if_ (fun c1 => ?_) (fun c1 => ?_)
                · have z : num 1 4 l = false := by simpa using c1
                  have ev : kerr (.tuple [l, r, e]) = .str "letters" := if_pos z
                  rw [ev] at k
                  exact k _ (Same.refl _)
                · have z : num 1 4 l = true := by simpa using c1
                  obtain ⟨L, rfl, _, _⟩ := num_int z
                  cases tl
                  have k1 : ∀ H', Same H H' → Q (if rowsOk L r = false then .str "rows" else if endsOk (many r) e = false then .str "ends" else .non) H' := by
                    have ev : kerr (.tuple [.int L, r, e]) = _ := if_neg (by rw [z]; exact Bool.noConfusion)
                    rw [ev] at k
                    exact k
                  refine ⟨_, rfl, _, rfl, vr, M, r, L, rfl, tr, by omega, fun H1 s1 => ⟨_, rfl, if_ (fun c2 => ?_) (fun c2 => ?_)⟩⟩
                  · have z2 : rowsOk L r = false := by simpa using c2
                    rw [if_pos z2] at k1
                    exact k1 _ s1
                  · have z2 : rowsOk L r = true := by simpa using c2
                    rw [if_neg (by rw [z2]; exact Bool.noConfusion)] at k1
                    cases r with
                    | tuple rs =>
                      cases tr with
                      | @tup b ys _ nb hb tb =>
                        have ly := tb.len
                        refine ⟨_, rfl, _, rfl, _, _, rfl, .inr (SqT.of (s1 _ _ hb)), ve, M, e, (ys.length : Int), rfl, te.same s1, by omega, fun H2 s2 => ⟨_, rfl, if_ (fun c3 => ?_) (fun c3 => ?_)⟩⟩
                        · have z3 : endsOk (many (.tuple rs)) e = false := by
                            rw [show many (.tuple rs) = (ys.length : Int) from by rw [ly]; rfl]
                            simpa using c3
                          rw [if_pos z3] at k1
                          exact k1 _ (s1.trans s2)
                        · have z3 : endsOk (many (.tuple rs)) e = true := by
                            rw [show many (.tuple rs) = (ys.length : Int) from by rw [ly]; rfl]
                            simpa using c3
                          rw [if_neg (by rw [z3]; exact Bool.noConfusion)] at k1
                          exact k1 _ (s1.trans s2)
                    | _ => cases z2
      · have ev : kerr (.tuple ds) = .str "kind" := by
          match ds, lx, e3 with
          | [], _, _ => rfl
          | [_], _, _ => rfl
          | [_, _], _, _ => rfl
          | [_, _, _], lx, e3 => exact absurd (by rw [lx]; rfl) e3
          | _ :: _ :: _ :: _ :: _, _, _ => rfl
        rw [ev] at k
        exact k _ (Same.refl _)
  | _ => exact k _ (Same.refl _)
/-! ### the law's own look -/
theorem ok_whole (T : Txt K mg A) : FnOk P w K mg base CX0 1 A.f__law_whole A.d__law_whole ["_law_value", "_law_least", "_law_most"] (spNum K) := by
  refine T.F__law_whole.ok sc__law_whole (fun vs H Q E h => ?_) (fun cdv Ar outer s H vs Q E hr h => ?_)
  · obtain ⟨_, _, _, _, _, rfl, _⟩ := h
    rfl
  obtain ⟨v, M, d, lo, hi0, rfl, ht, k⟩ := h
  refine ⟨_, (pss_one (ps_ret (pe_and (pe_callB (id := "isinstance") (kIsi K) (by rfl) T.z_isinstance (by decide +kernel) (pa_cons (pv 0) (pa_cons (pe_bltn (v := .ty "int") (by rfl) T.z_int (by decide +kernel) rfl) pa_nil))) (pe_and (pe_not (pe_callB (id := "isinstance") (kIsi K) (by rfl) T.z_isinstance (by decide +kernel) (pa_cons (pv 0) (pa_cons (pe_bltn (v := .ty "bool") (by rfl) T.z_bool (by decide +kernel) rfl) pa_nil)))) (pe_one (pe_chain op_le op_le (pv 1) (pv 0) (pv 2))))))), ?_⟩
  refine ⟨_, rfl, _, _, _, _, _, rfl, .ty _, ht.ty, kit_ty (kit_int d), _, rfl, if_ (fun hi => ?_) (fun hi => ?_)⟩
  · refine ⟨_, rfl, _, _, _, _, _, rfl, .ty _, ht.ty, kit_ty (kit_bool d), _, rfl, _, rfl, if_ (fun hb => ?_) (fun hb => ?_)⟩
    · cases d with
      | int i =>
        cases ht
        refine ⟨_, rfl, _, rfl, _, _, rfl, rfl, _, rfl, ?_⟩
        by_cases hl : lo ≤ i
        · rw [decide_eq_true hl]
          refine iteT ⟨_, rfl, _, _, rfl, rfl, ?_⟩
          have e : num lo hi0 (.int i) = decide (i ≤ hi0) := by
            show (decide (lo ≤ i) && decide (i ≤ hi0)) = _
            rw [decide_eq_true hl, Bool.true_and]
          show Q (.bl (decide (i ≤ hi0))) H
          rw [← e]
          exact k
        · rw [decide_eq_false hl]
          refine iteF ?_
          have e : num lo hi0 (.int i) = false := by
            show (decide (lo ≤ i) && decide (i ≤ hi0)) = _
            rw [decide_eq_false hl, Bool.false_and]
          show Q (.bl false) H
          rw [← e]
          exact k
      | bool b => cases hb
      | _ => cases hi
    · cases d with
      | bool b => exact k
      | int i => cases hb
      | _ => cases hi
  · cases d with
    | int i => cases hi
    | bool b => cases hi
    | _ => exact k
/-- the empty list of items that a row is spoilt by -/
theorem row_items {L S : Int} {ds : List PyData} (h : (ds.length : Int) = L) : rowOk L S (.tuple ds) = (ds.filter fun d => !isNone d && !num 0 (S - 1) d).isEmpty := by
  show (decide ((ds.length : Int) = L) && _) = _
  rw [decide_eq_true h, Bool.true_and]
  clear h
  induction ds with
  | nil => rfl
  | cons d ds ih =>
    rw [List.all_cons, ih, List.filter_cons]
    cases isNone d <;> cases num 0 (S - 1) d <;> rfl
theorem ok_lawRows (T : Txt K mg A) : FnOk P w K mg base CX0 2 A.f__law_are_rows A.d__law_are_rows ["_law_value", "_law_letters"] (spRows K) := by
  have G__law_whole : FnOk P w K mg base CX0 1 A.f__law_whole A.d__law_whole ["_law_value", "_law_least", "_law_most"] (spNum K) := ok_whole T
  refine T.F__law_are_rows.ok sc__law_are_rows (fun vs H Q E h => ?_) (fun cdv Ar outer s H vs Q E hr h => ?_)
  · obtain ⟨_, _, _, _, rfl, _⟩ := h
    rfl
  obtain ⟨v, M, d, L, rfl, ht, hw, k⟩ := h
  refine ⟨_, (pss_cons (ps_if (PW.pt (pw_or (pt_not (pt_val (pe_callB (id := "isinstance") (kIsi K) (by rfl) T.z_isinstance (by decide +kernel) (pa_cons (pv 0) (pa_cons (pe_bltn (v := .ty "tuple") (by rfl) T.z_tuple (by decide +kernel) rfl) pa_nil))))) (pw_or1 (pt_not (pt_chain op_le op_le pe_int (pe_callB (id := "len") (kLenQ K) (by rfl) T.z_len (by decide +kernel) (pa_cons (pv 0) pa_nil)) pe_int))))) (pss_one (ps_ret pe_bl))
    pss_nil)
    (pss_cons (ps_for PassesOwn.never rfl (kPiT K (pv 0)) (pg_name (i := 2) sc__law_are_rows.nd rfl (Or.inl rfl))
    (pss_cons (ps_if (PW.pt (pw_or (pt_not (pt_val (pe_callB (id := "isinstance") (kIsi K) (by rfl) T.z_isinstance (by decide +kernel) (pa_cons (pv 2) (pa_cons (pe_bltn (v := .ty "tuple") (by rfl) T.z_tuple (by decide +kernel) rfl) pa_nil))))) (pw_or1 (pt_cmpR op_ne (pe_callB (id := "len") (kLenQ K) (by rfl) T.z_len (by decide +kernel) (pa_cons (pv 2) pa_nil)) (pv 1) (nomark _))))) (pss_one (ps_ret pe_bl))
    pss_nil)
    (pss_one (ps_if (pt_cmpR (kNeNil K hr) (pe_lc (own := [("_law_item", 3)]) rfl sc__law_are_rows.nd (kPiT K (pv 2)) (blkOk_by (own := [("_law_item", 3)]) (N := N__law_are_rows) (sc := defScope s__law_are_rows) (by decide +kernel)) (fun _ _ _ _ _ => (pg_name (i := 3) sc__law_are_rows.nd rfl (Or.inl rfl))) (fun _ _ _ _ _ => (pts_one (PW.pt (pw_and (pt_cmpR op_notN (pv 3) pe_non (nomark _)) (pw_and1 (pt_not (pt_val (pe_call G__law_whole (hr.mono (by first | decide | omega)) rfl T.m__law_whole T.k__law_whole T.b__law_whole .nil pass0 (pa_cons (pv 3) (pa_cons pe_int (pa_cons (pe_op op_sub (pe_callB (id := "len") (kLenQ K) (by rfl) T.z_len (by decide +kernel) (pa_cons (pv 0) pa_nil)) pe_int) pa_nil))))))))))) (fun _ _ _ _ _ => (pv 3))) (pe_lst pa_nil) (nomark _)) (pss_one (ps_ret pe_bl))
    pss_nil))))
    (pss_one (ps_ret pe_bl)))), ?_⟩
  refine ⟨_, rfl, _, _, _, _, _, rfl, .ty _, ht.ty, kit_ty (kit_tup d), _, rfl, ?_⟩
  cases d with
  | tuple ds =>
    cases ht with
    | @tup a xs _ na ha t =>
      have lx := t.len
      have hl : ds.length ≤ 100000 := Nat.le_trans (weight_len ds) hw
      have off : ∀ H', Same H H' → ¬ (1 ≤ ds.length ∧ ds.length ≤ 8) → Q (.bl false) H' := fun H' s' z => by
        have ev : rowsOk L (.tuple ds) = false := by
          show (decide (1 ≤ ds.length) && decide (ds.length ≤ 8) && _) = false
          by_cases h1 : 1 ≤ ds.length
          · rw [decide_eq_false (fun h2 => z ⟨h1, h2⟩), Bool.and_false, Bool.false_and]
          · rw [decide_eq_false h1, Bool.false_and, Bool.false_and]
        have := k H' s'
        rw [ev] at this
        exact this
      have bad : ∀ H' d, Same H H' → d ∈ ds → rowOk L ds.length d = false → Q (.bl false) H' := fun H' d s' hm hd => by
        have ev : rowsOk L (.tuple ds) = false := by
          show (_ && ds.all (rowOk L ds.length)) = false
          have : ds.all (rowOk L ds.length) = false := by
            rw [List.all_eq_false]
            exact ⟨d, hm, by rw [hd]; exact Bool.noConfusion⟩
          rw [this, Bool.and_false]
        have := k H' s'
        rw [ev] at this
        exact this
      refine iteF ⟨_, rfl, _, _, rfl, .inr (SqT.of ha), _, _, rfl, rfl, _, rfl, idec (fun h1 => ?_) (fun h1 => ?_)⟩
      · refine ⟨_, _, rfl, rfl, _, rfl, ?_⟩
        refine ndec (fun h2 => ?_) (fun h2 => ?_)
        · refine ⟨_, rfl, a, rfl, ⟨_, SqT.of ha⟩, ?_⟩
          refine for_tup (K := K) (a := a) (xs := xs) (fun i σ H' => Same H H' ∧ (∃ o, σ = [some (.ref a), some (.int L), o, none]) ∧ (ds.take i).all (rowOk L ds.length) = true)
            ⟨Same.refl _, ⟨_, rfl⟩, by simp⟩ (fun i σ H' _ p => SqT.of (p.1 _ _ ha)) ?_ ?_
          · rintro i x σ H' hx ⟨s', ⟨o, rfl⟩, hall⟩
            obtain ⟨d, hd, td⟩ := (t.same s').get hx
            have dm : d ∈ ds := List.mem_of_getElem? hd
            have dw : d.weight ≤ 100000 := by
              have := weight_item dm
              have hw' : PyData.weightAll ds ≤ 100000 := hw
              omega
            refine sq (fun σ2 H2 => σ2 = [some (.ref a), some (.int L), some x, none] ∧ H2 = H' ∧ ∃ es, d = .tuple es ∧ (es.length : Int) = L) (fun N hN => ?_) ?_
            · refine ⟨_, rfl, _, _, _, _, _, rfl, .ty _, td.ty, kit_ty (kit_tup d), _, rfl, ?_⟩
              cases d with
              | tuple es =>
                cases td with
                | @tup b ys _ nb hb tb =>
                  have ly := tb.len
                  refine iteF ⟨_, rfl, _, _, rfl, .inr (SqT.of hb), _, rfl, rfl, _, rfl, ?_⟩
                  refine ndec (fun e => ?_) (fun e => ?_)
                  · have e' := V.int.inj e
                    exact hN _ _ ⟨rfl, rfl, es, rfl, by rw [← ly]; exact e'⟩
                  · refine bad H' _ s' dm ?_
                    show (decide ((es.length : Int) = L) && _) = _
                    rw [decide_eq_false (fun z => e (by rw [ly, z])), Bool.false_and]
              | _ => exact bad H' _ s' dm rfl
            · rintro σ2 H2 ⟨rfl, rfl, es, rfl, el⟩
              cases td with
              | @tup b ys _ nb hb tb =>
                have el' : es.length ≤ 100000 := Nat.le_trans (weight_len es) dw
                refine ⟨_, rfl, b, rfl, ⟨_, SqT.of hb⟩, fun D hD => ?_⟩
                refine lcT (M := []) (N := []) (fun _ _ => True) (fun d => !isNone d && !num 0 ((ds.length : Int) - 1) d) (fun _ _ => True) hb (by simp) (tb.off (by simp)) el' (by simp) (by simp) hD trivial (fun _ _ _ _ => trivial) ?_ ?_
                · intro j y e H3 he te e' _ Ky Kn kn ky
                  refine ⟨rfl, ?_⟩
                  refine ⟨_, rfl, rfl, _, rfl, ndec (fun en => ?_) (fun en => ?_)⟩
                  · subst en
                    cases te
                    exact kn rfl H3 (Ext.refl _ _) trivial
                  · have nn : isNone e = false := by
                      cases e with
                      | none =>
                        cases te
                        exact absurd rfl en
                      | _ => rfl
                    refine ⟨_, rfl, _, rfl, _, _, rfl, .inr (SqT.of (e' _ _ (by simp) (s' _ _ ha))), _, _, rfl, rfl, y, _, e, 0, (xs.length : Int) - 1, rfl, te, _, rfl, if_ (fun c => ?_) (fun c => ?_)⟩
                    · rw [lx] at c
                      exact ⟨_, rfl, ky (by rw [nn, c]; rfl) H3 _ e (Ext.refl _ _) trivial te trivial⟩
                    · rw [lx] at c
                      exact kn (by rw [nn, c]; rfl) H3 (Ext.refl _ _) trivial
                · intro H3 zs ws e' _ hz tz pr
                  have s3 := same_ext e'
                  have ez : zs.isEmpty = rowOk L ds.length (.tuple es) := by
                    rw [row_items el]
                    have l1 := tz.len
                    have l2 := U.Paired.len pr
                    rw [← l1] at l2
                    generalize (es.filter fun d => !isNone d && !num 0 ((ds.length : Int) - 1) d) = fs at l2
                    cases zs <;> cases fs <;> first | rfl | cases l2
                  refine ⟨Nat.zero_le _, fun p hp => ⟨D, p, zs, rfl, rfl, .inl ⟨SqL.of (ne_new hz hp), SqL.of upd_same⟩, _, rfl, if_ (fun c => ?_) (fun c => ?_)⟩⟩
                  · refine bad _ _ (s'.trans (Same.newer s3 (Same.free s3 hp))) dm ?_
                    rw [← ez]
                    simpa using c
                  · refine ⟨s'.trans (Same.newer s3 (Same.free s3 hp)), ⟨_, rfl⟩, ?_⟩
                    rw [List.take_add_one, hd, List.all_append, hall]
                    show (true && (rowOk L ds.length (.tuple es) && true)) = true
                    rw [← ez]
                    simpa using c
          · rintro σ H' ⟨s', ⟨o, rfl⟩, hall⟩
            rw [lx, List.take_length] at hall
            have ev : rowsOk L (.tuple ds) = true := by
              show (decide (1 ≤ ds.length) && decide (ds.length ≤ 8) && _) = _
              rw [decide_eq_true (show 1 ≤ ds.length by omega), decide_eq_true (show ds.length ≤ 8 by omega), hall]
              rfl
            have := k H' s'
            rw [ev] at this
            exact this
        · exact off _ (Same.refl _) (by omega)
      · exact ⟨_, rfl, off _ (Same.refl _) (by omega)⟩
  | _ => exact k _ (Same.refl _)
theorem ends_items {n : Int} {ds : List PyData} (h : (ds.length : Int) = n) : endsOk n (.tuple ds) = (ds.filter fun d => !isBool d).isEmpty := by
  show (decide ((ds.length : Int) = n) && _) = _
  rw [decide_eq_true h, Bool.true_and]
  clear h
  induction ds with
  | nil => rfl
  | cons d ds ih =>
    rw [List.all_cons, ih, List.filter_cons]
    cases isBool d <;> rfl
theorem ok_lawError (T : Txt K mg A) : FnOk P w K mg base CX0 3 A.f__law_error A.d__law_error ["_law_value"] (spErr K) := by
  have G__law_whole : FnOk P w K mg base CX0 1 A.f__law_whole A.d__law_whole ["_law_value", "_law_least", "_law_most"] (spNum K) := ok_whole T
  have G__law_are_rows : FnOk P w K mg base CX0 2 A.f__law_are_rows A.d__law_are_rows ["_law_value", "_law_letters"] (spRows K) := ok_lawRows T
  refine T.F__law_error.ok sc__law_error (fun vs H Q E h => ?_) (fun cdv Ar outer s H vs Q E hr h => ?_)
  · obtain ⟨_, _, _, rfl, _⟩ := h
    rfl
  obtain ⟨v, M, d, rfl, ht, hw, k⟩ := h
  refine ⟨_, (pss_cons (ps_if (PW.pt (pw_or (pt_not (pt_val (pe_callB (id := "isinstance") (kIsi K) (by rfl) T.z_isinstance (by decide +kernel) (pa_cons (pv 0) (pa_cons (pe_bltn (v := .ty "tuple") (by rfl) T.z_tuple (by decide +kernel) rfl) pa_nil))))) (pw_or1 (pt_cmpR op_ne (pe_callB (id := "len") (kLenQ K) (by rfl) T.z_len (by decide +kernel) (pa_cons (pv 0) pa_nil)) pe_int (nomark _))))) (pss_one (ps_ret pe_str))
    pss_nil)
    (pss_cons (ps_if (pt_not (pt_val (pe_call G__law_whole (hr.mono (by first | decide | omega)) rfl T.m__law_whole T.k__law_whole T.b__law_whole .nil pass0 (pa_cons (pe_ix (kIxT K) (pv 0) pe_int (fun _ _ => rfl)) (pa_cons pe_int (pa_cons pe_int pa_nil)))))) (pss_one (ps_ret pe_str))
    pss_nil)
    (pss_cons (ps_if (pt_not (pt_val (pe_call G__law_are_rows (hr.mono (by first | decide | omega)) rfl T.m__law_are_rows T.k__law_are_rows T.b__law_are_rows .nil pass0 (pa_cons (pe_ix (kIxT K) (pv 0) pe_int (fun _ _ => rfl)) (pa_cons (pe_ix (kIxT K) (pv 0) pe_int (fun _ _ => rfl)) pa_nil))))) (pss_one (ps_ret pe_str))
    pss_nil)
    (pss_cons (ps_if (PW.pt (pw_or (pt_not (pt_val (pe_callB (id := "isinstance") (kIsi K) (by rfl) T.z_isinstance (by decide +kernel) (pa_cons (pe_ix (kIxT K) (pv 0) pe_int (fun _ _ => rfl)) (pa_cons (pe_bltn (v := .ty "tuple") (by rfl) T.z_tuple (by decide +kernel) rfl) pa_nil))))) (pw_or1 (pt_cmpR op_ne (pe_callB (id := "len") (kLenQ K) (by rfl) T.z_len (by decide +kernel) (pa_cons (pe_ix (kIxT K) (pv 0) pe_int (fun _ _ => rfl)) pa_nil)) (pe_callB (id := "len") (kLenQ K) (by rfl) T.z_len (by decide +kernel) (pa_cons (pe_ix (kIxT K) (pv 0) pe_int (fun _ _ => rfl)) pa_nil)) (nomark _))))) (pss_one (ps_ret pe_str))
    pss_nil)
    (pss_one (ps_ret (pe_ifExp (pt_cmpR (kNeNil K hr) (pe_lc (own := [("_law_end", 1)]) rfl sc__law_error.nd (kPiT K (pe_ix (kIxT K) (pv 0) pe_int (fun _ _ => rfl))) (blkOk_by (own := [("_law_end", 1)]) (N := N__law_error) (sc := defScope s__law_error) (by decide +kernel)) (fun _ _ _ _ _ => (pg_name (i := 1) sc__law_error.nd rfl (Or.inl rfl))) (fun _ _ _ _ _ => (pts_one (pt_not (pt_val (pe_callB (id := "isinstance") (kIsi K) (by rfl) T.z_isinstance (by decide +kernel) (pa_cons (pv 1) (pa_cons (pe_bltn (v := .ty "bool") (by rfl) T.z_bool (by decide +kernel) rfl) pa_nil))))))) (fun _ _ _ _ _ => (pv 1))) (pe_lst pa_nil) (nomark _)) pe_str pe_non))))))), ?_⟩
  refine ⟨_, rfl, _, _, _, _, _, rfl, .ty _, ht.ty, kit_ty (kit_tup d), _, rfl, ?_⟩
  cases d with
  | tuple ds =>
    cases ht with
    | @tup a xs _ na ha t =>
      have lx := t.len
      refine iteF ⟨_, rfl, _, _, rfl, .inr (SqT.of ha), rfl, _, rfl, ?_⟩
      refine ndec (fun e3 => ?_) (fun e3 => ?_)
      · have l3 : ds.length = 3 := by
          have := V.int.inj e3
          omega
        match ds, l3, t, hw, k with
        | [l, r, e], _, t, hw, k =>
          cases t with
          | @cons vl _ _ _ tl t =>
            cases t with
            | @cons vr _ _ _ tr t =>
              cases t with
              | @cons ve _ _ _ te t =>
                cases t
                have hw3 : l.weight + 1 + (r.weight + 1 + (e.weight + 1 + 0)) ≤ 100000 := hw
                refine ⟨_, rfl, a, _, 0, vl, rfl, rfl, SqT.of ha, rfl, vl, M, l, 1, 4, rfl, tl, _, rfl, ?_⟩
                refine if_ (fun c1 => ?_) (fun c1 => ?_)
                · have z : num 1 4 l = false := by simpa using c1
                  have ev : kerr (.tuple [l, r, e]) = .str "letters" := if_pos z
                  rw [ev] at k
                  exact k _ (Same.refl _)
                · have z : num 1 4 l = true := by simpa using c1
                  obtain ⟨L, rfl, _, _⟩ := num_int z
                  cases tl
                  have k1 : ∀ H', Same H H' → Q (if rowsOk L r = false then .str "rows" else if endsOk (many r) e = false then .str "ends" else .non) H' := by
                    have ev : kerr (.tuple [.int L, r, e]) = _ := if_neg (by rw [z]; exact Bool.noConfusion)
                    rw [ev] at k
                    exact k
                  refine ⟨_, rfl, a, _, 1, vr, rfl, rfl, SqT.of ha, rfl, _, rfl, a, _, 0, _, rfl, rfl, SqT.of ha, rfl, vr, M, r, L, rfl, tr, by omega, fun H1 s1 => ⟨_, rfl, if_ (fun c2 => ?_) (fun c2 => ?_)⟩⟩
                  · have z2 : rowsOk L r = false := by simpa using c2
                    rw [if_pos z2] at k1
                    exact k1 _ s1
                  · have z2 : rowsOk L r = true := by simpa using c2
                    rw [if_neg (by rw [z2]; exact Bool.noConfusion)] at k1
                    have te1 := te.same s1
                    refine ⟨_, rfl, a, _, 2, ve, rfl, rfl, SqT.of (s1 _ _ ha), rfl, _, _, _, _, _, rfl, .ty _, te1.ty, kit_ty (kit_tup e), _, rfl, ?_⟩
                    cases r with
                    | tuple rs =>
                      cases tr with
                      | @tup b ys _ nb hb tb =>
                        have ly := tb.len
                        cases e with
                        | tuple es =>
                          cases te with
                          | @tup c zs _ nc hc tc =>
                            have lz := tc.len
                            have el : es.length ≤ 100000 := by
                              have := weight_len es
                              have : (PyData.tuple es).weight = PyData.weightAll es := rfl
                              omega
                            refine iteF ⟨_, rfl, a, _, 2, _, rfl, rfl, SqT.of (s1 _ _ ha), rfl, _, _, rfl, .inr (SqT.of (s1 _ _ hc)), _, rfl, a, _, 1, _, rfl, rfl, SqT.of (s1 _ _ ha), rfl, _, _, rfl, .inr (SqT.of (s1 _ _ hb)), rfl, _, rfl, ?_⟩
                            refine ndec (fun en => ?_) (fun en => ?_)
                            · have en' : (es.length : Int) = many (.tuple rs) := by
                                rw [← lz, show many (.tuple rs) = (ys.length : Int) from by rw [ly]; rfl]
                                exact V.int.inj en
                              refine ⟨_, rfl, a, _, 2, _, rfl, rfl, SqT.of (s1 _ _ ha), rfl, c, rfl, ⟨_, SqT.of (s1 _ _ hc)⟩, fun D hD => ?_⟩
                              refine lcT (M := []) (N := []) (fun _ _ => True) (fun d => !isBool d) (fun _ _ => True) (s1 _ _ hc) (by simp) ((tc.same s1).off (by simp)) el (by simp) (by simp) hD trivial (fun _ _ _ _ => trivial) ?_ ?_
                              · intro j y x H3 he tx e' _ Ky Kn kn ky
                                refine ⟨rfl, ?_⟩
                                refine ⟨_, rfl, _, _, _, _, _, rfl, .ty _, tx.ty, kit_ty (kit_bool x), _, rfl, if_ (fun c => ?_) (fun c => ?_)⟩
                                · exact ⟨_, rfl, ky c H3 _ x (Ext.refl _ _) trivial tx trivial⟩
                                · exact kn c H3 (Ext.refl _ _) trivial
                              · intro H3 us ws e' _ hz tz pr
                                have s3 := same_ext e'
                                have ez : us.isEmpty = endsOk (many (.tuple rs)) (.tuple es) := by
                                  rw [ends_items en']
                                  have l1 := tz.len
                                  have l2 := U.Paired.len pr
                                  rw [← l1] at l2
                                  generalize (es.filter fun d => !isBool d) = fs at l2
                                  cases us <;> cases fs <;> first | rfl | cases l2
                                refine ⟨Nat.zero_le _, fun p hp => ⟨D, p, us, rfl, rfl, .inl ⟨SqL.of (ne_new hz hp), SqL.of upd_same⟩, _, rfl, ?_⟩⟩
                                have s4 : Same H (upd H3 p (.lst [])) := s1.trans (Same.newer s3 (Same.free s3 hp))
                                have k2 := k1 _ s4
                                rw [← ez] at k2
                                cases us with
                                | nil => exact k2
                                | cons u us => exact k2
                            · have z3 : endsOk (many (.tuple rs)) (.tuple es) = false := by
                                show (decide ((es.length : Int) = many (.tuple rs)) && _) = false
                                rw [decide_eq_false (fun z => en (by rw [lz, z, show many (.tuple rs) = (ys.length : Int) from by rw [ly]; rfl])), Bool.false_and]
                              rw [if_pos z3] at k1
                              exact k1 _ s1
                        | _ =>
                          have k2 := k1 _ s1
                          exact k2
                    | _ => cases z2
      · have ev : kerr (.tuple ds) = .str "kind" := by
          match ds, lx, e3 with
          | [], _, _ => rfl
          | [_], _, _ => rfl
          | [_, _], _, _ => rfl
          | [_, _, _], lx, e3 => exact absurd (by rw [lx]; rfl) e3
          | _ :: _ :: _ :: _ :: _, _, _ => rfl
        rw [ev] at k
        exact k _ (Same.refl _)
  | _ => exact k _ (Same.refl _)
end

/-! ### the law's own values -/
theorem Deck.trk {H : Hp} {p q : Addr} {n : Nat} (d : Deck H p q n) : Trk [p, q] H := by
  intro b hb
  obtain ⟨cs, h, _⟩ := d.cells
  rcases List.mem_cons.mp hb with rfl | hb
  · rw [d.top]
    exact fun z => nomatch z
  · rcases List.mem_cons.mp hb with rfl | hb
    · rw [h]
      exact fun z => nomatch z
    · cases hb
def spOdd (K : PySem.W.Frag) : Sp := fun vs H Q _ => ∃ (p q : Addr) (n : Nat) (m : Int), vs = [.ref p, .int m] ∧ Deck H p q n ∧ n ≤ 1000000000 ∧ 0 ≤ m ∧ m ≤ 9 ∧
  ∀ (H' : Hp) (r : V) (d : PyData), Deck H' p q (n + 1) → Ext [p, q] H H' → T K [p, q] H' r d → Fine 200 2 d → Q r H'
section
variable {P : Program} {w : World} {K : PySem.W.Frag} {mg : Str → Option Value} {base : Heap} {A : Adrs}
theorem ok_odd (T : Txt K mg A) : FnOk P w K mg base CX0 3 A.f__law_odd A.d__law_odd ["_law_deck_here", "_law_many"] (spOdd K) := by
  have G__law_one : FnOk P w K mg base CX0 2 A.f__law_one A.d__law_one ["_law_deck_here", "_law_items"] (spOne K) := ok_one T
  refine T.F__law_odd.ok sc__law_odd (fun vs H Q E h => ?_) (fun cdv Ar outer s H vs Q E hr h => ?_)
  · obtain ⟨_, _, _, _, rfl, _⟩ := h
    rfl
  obtain ⟨p, q, n, m, rfl, hD, hn, m0, m9, k⟩ := h
  have tr : Trk [p, q] H := hD.trk
  refine ⟨_, (pss_cons (ps_set (i := 2) sc__law_odd.nd rfl (Or.inl rfl) (pe_lst (pa_cons pe_non (pa_cons pe_bl (pa_cons pe_bl (pa_cons pe_int (pa_cons pe_int (pa_cons pe_int (pa_cons pe_int (pa_cons (pe_un un_neg pe_int) (pa_cons (pv 1) (pa_cons (pe_op op_sub (pv 1) pe_int) (pa_cons (pe_op op_pow pe_int pe_int) (pa_cons pe_str (pa_cons pe_str (pa_cons pe_str (pa_cons (pe_tup pa_nil) (pa_cons (pe_lst pa_nil) (pa_cons pe_dnewK (pa_cons (pe_tup (pa_cons pe_int pa_nil)) (pa_cons (pe_lst (pa_cons pe_int pa_nil)) (pa_cons (pe_tup (pa_cons pe_non pa_nil)) pa_nil))))))))))))))))))))))
    (pss_one (ps_ret (pe_call G__law_one (hr.mono (by first | decide | omega)) rfl T.m__law_one T.k__law_one T.b__law_one .nil pass0 (pa_cons (pv 0) (pa_cons (pe_op op_cat (pv 2) (pe_lst (pa_cons (pe_tup (pa_cons pe_bl pa_nil)) (pa_cons (pe_tup (pa_cons (pe_tup pa_nil) pa_nil)) (pa_cons (pe_tup (pa_cons pe_int (pa_cons pe_int pa_nil))) (pa_cons (pe_tup (pa_cons pe_int (pa_cons pe_non pa_nil))) (pa_cons pe_str (pa_cons (pe_tup (pa_cons pe_bl (pa_cons pe_bl pa_nil))) (pa_cons pe_int (pa_cons pe_int (pa_cons pe_int (pa_cons pe_int pa_nil)))))))))))) pa_nil)))))), ?_⟩
  refine ⟨_, rfl, _, rfl, _, rfl, _, _, rfl, rfl, (10 : Int), (40 : Int), rfl, rfl, ⟨by decide, by decide, by decide⟩, Nat.zero_le _, fun p1 h1 => ?_⟩
  obtain ⟨s1, tr1, t1, _⟩ := atT (K := K) tr .nil h1
  generalize upd H p1 (HO.tup []) = H1 at s1 tr1 t1 ⊢
  refine ⟨Nat.zero_le _, fun p2 h2 => ?_⟩
  obtain ⟨s2, tr2, t2, _⟩ := atL (K := K) tr1 .nil h2
  generalize upd H1 p2 (HO.lst []) = H2 at s2 tr2 t2 ⊢
  intro p3 h3
  obtain ⟨s3, tr3, t3, _⟩ := atD (K := K) tr2 h3
  generalize upd H2 p3 (HO.dK []) = H3 at s3 tr3 t3 ⊢
  refine ⟨(show 1 ≤ sizeLine by decide), fun p4 h4 => ?_⟩
  obtain ⟨s4, tr4, t4, _⟩ := atT (K := K) tr3 (.one (.int 0)) h4
  generalize upd H3 p4 (HO.tup [V.int 0]) = H4 at s4 tr4 t4 ⊢
  refine ⟨(show 1 ≤ sizeLine by decide), fun p5 h5 => ?_⟩
  obtain ⟨s5, tr5, t5, _⟩ := atL (K := K) tr4 (.one (.int 0)) h5
  generalize upd H4 p5 (HO.lst [V.int 0]) = H5 at s5 tr5 t5 ⊢
  refine ⟨(show 1 ≤ sizeLine by decide), fun p6 h6 => ?_⟩
  obtain ⟨s6, tr6, t6, _⟩ := atT (K := K) tr5 (.one .non) h6
  generalize upd H5 p6 (HO.tup [V.non]) = H6 at s6 tr6 t6 ⊢
  refine ⟨(show 20 ≤ sizeLine by decide), fun l hl => ?_⟩
  have ta : TA K [p, q] H6 [.non, .bl true, .bl false, .int 0, .int 1, .int 4, .int 5, .int (-1), .int m, .int (m - 1), .int (10 ^ Int.toNat 40), .str "", .str "a", .str "0", .ref p1, .ref p2, .ref p3, .ref p4, .ref p5, .ref p6]
      [.none, .bool true, .bool false, .int 0, .int 1, .int 4, .int 5, .int (-1), .int m, .int (m - 1), .int (10 ^ Int.toNat 40), .str "", .str "a", .str "0", .tuple [], .list [], .dict [], .tuple [.int 0], .list [.int 0], .tuple [.none]] :=
    .cons .non <| .cons (.bl _) <| .cons (.bl _) <| .cons (.int _) <| .cons (.int _) <| .cons (.int _) <| .cons (.int _) <| .cons (.int _) <| .cons (.int _) <| .cons (.int _) <| .cons (.int _) <| .cons (.str _) <| .cons (.str _) <| .cons (.str _) <|
    .cons (((((t1.same s2).same s3).same s4).same s5).same s6) <| .cons ((((t2.same s3).same s4).same s5).same s6) <| .cons (((t3.same s4).same s5).same s6) <| .cons ((t4.same s5).same s6) <| .cons (t5.same s6) <| .cons t6 .nil
  have sH : Same H H6 := ((((s1.trans s2).trans s3).trans s4).trans s5).trans s6
  clear t1 t2 t3 t4 t5 t6
  obtain ⟨s7, tr7, _, hl7⟩ := atL (K := K) tr6 ta hl
  have na7 : l ∉ [p, q] := tr6.new hl
  have ta7 := ta.same s7
  clear ta
  generalize upd H6 l (HO.lst [V.non, .bl true, .bl false, .int 0, .int 1, .int 4, .int 5, .int (-1), .int m, .int (m - 1), .int (10 ^ Int.toNat 40), .str "", .str "a", .str "0", .ref p1, .ref p2, .ref p3, .ref p4, .ref p5, .ref p6]) = H7 at s7 tr7 hl7 ta7
  dsimp only [gName]
  refine ⟨_, rfl, _, rfl, (show 1 ≤ sizeLine by decide), fun r1 g1 => ?_⟩
  obtain ⟨u1, tr1, t1, _⟩ := atT (K := K) tr7 (.one (.bl true)) g1
  generalize upd H7 r1 (HO.tup [V.bl true]) = G1 at u1 tr1 t1 ⊢
  refine ⟨Nat.zero_le _, fun r2 g2 => ?_⟩
  obtain ⟨u2, tr2, t2, _⟩ := atT (K := K) tr1 .nil g2
  generalize upd G1 r2 (HO.tup []) = G2 at u2 tr2 t2 ⊢
  refine ⟨(show 1 ≤ sizeLine by decide), fun r3 g3 => ?_⟩
  obtain ⟨u3, tr3, t3, _⟩ := atT (K := K) tr2 (.one t2) g3
  generalize upd G2 r3 (HO.tup [V.ref r2]) = G3 at u3 tr3 t3 ⊢
  refine ⟨(show 2 ≤ sizeLine by decide), fun r4 g4 => ?_⟩
  obtain ⟨u4, tr4, t4, _⟩ := atT (K := K) tr3 (.cons (.int 0) (.one (.int 0))) g4
  generalize upd G3 r4 (HO.tup [V.int 0, V.int 0]) = G4 at u4 tr4 t4 ⊢
  refine ⟨(show 2 ≤ sizeLine by decide), fun r5 g5 => ?_⟩
  obtain ⟨u5, tr5, t5, _⟩ := atT (K := K) tr4 (.cons (.int 0) (.one .non)) g5
  generalize upd G4 r5 (HO.tup [V.int 0, V.non]) = G5 at u5 tr5 t5 ⊢
  refine ⟨(show 2 ≤ sizeLine by decide), fun r6 g6 => ?_⟩
  obtain ⟨u6, tr6, t6, _⟩ := atT (K := K) tr5 (.cons (.bl false) (.one (.bl true))) g6
  generalize upd G5 r6 (HO.tup [V.bl false, V.bl true]) = G6 at u6 tr6 t6 ⊢
  refine ⟨(show 10 ≤ sizeLine by decide), fun r7 g7 => ?_⟩
  have tb : TA K [p, q] G6 [.ref r1, .ref r3, .ref r4, .ref r5, .str "ends", .ref r6, .int 2, .int 3, .int 8, .int 9]
      [.tuple [.bool true], .tuple [.tuple []], .tuple [.int 0, .int 0], .tuple [.int 0, .none], .str "ends", .tuple [.bool false, .bool true], .int 2, .int 3, .int 8, .int 9] :=
    .cons (((((t1.same u2).same u3).same u4).same u5).same u6) <| .cons (((t3.same u4).same u5).same u6) <| .cons ((t4.same u5).same u6) <| .cons (t5.same u6) <| .cons (.str _) <| .cons t6 <| .cons (.int _) <| .cons (.int _) <| .cons (.int _) <| .cons (.int _) .nil
  clear t1 t2 t3 t4 t5 t6
  have sG : Same H7 G6 := ((((u1.trans u2).trans u3).trans u4).trans u5).trans u6
  obtain ⟨u7, tr7', _, hb⟩ := atL (K := K) tr6 tb g7
  have tb7 := tb.same u7
  have ta8 := (ta7.same sG).same u7
  have hl8 := u7 _ _ (sG _ _ hl7)
  clear tb ta7
  generalize upd G6 r7 (HO.lst [V.ref r1, .ref r3, .ref r4, .ref r5, .str "ends", .ref r6, .int 2, .int 3, .int 8, .int 9]) = G7 at u7 tr7' hb tb7 ta8 hl8 ⊢
  refine ⟨l, r7, _, _, rfl, rfl, hl8, hb, (show 30 ≤ sizeLine by decide), fun c hc => ?_⟩
  obtain ⟨u8, tr8, t8, _⟩ := atL (K := K) tr7' (ta8.app tb7) hc
  have all : Same H G7 := ((sH.trans s7).trans sG).trans u7
  refine ⟨p, q, n, (hD.same all).same u8, hn, .inl ⟨.ref c, [p, q], _, rfl, .inl t8, by simp, by simp, by simp, by simp, fun H' r d hD' e' td hd => ?_⟩⟩
  refine k H' r d hD' ((Ext.same (all.trans u8)).trans e') td ?_
  have hm : m.natAbs < 10 ^ 12 := by omega
  have hm1 : (m - 1).natAbs < 10 ^ 12 := by omega
  simp only [List.cons_append, List.nil_append, List.mem_cons, List.not_mem_nil, or_false] at hd
  rcases hd with rfl | rfl | rfl | rfl | rfl | rfl | rfl | rfl | rfl | rfl | rfl | rfl | rfl | rfl | rfl | rfl | rfl | rfl | rfl | rfl | rfl | rfl | rfl | rfl | rfl | rfl | rfl | rfl | rfl | rfl
  case inr.inr.inr.inr.inr.inr.inr.inr.inl => exact (fine_int hm).more (by decide) (by decide)
  case inr.inr.inr.inr.inr.inr.inr.inr.inr.inl => exact (fine_int hm1).more (by decide) (by decide)
  all_goals exact fine_of (by decide +kernel)
end

/-! ### the law's kinds -/
def RowD (L N : Int) (d : PyData) : Prop := ∃ its : List PyData, d = .tuple its ∧ (its.length : Int) = L ∧ ∀ x ∈ its, x = .none ∨ ∃ i : Int, x = .int i ∧ 0 ≤ i ∧ i < N
structure KindD (L N : Int) (d : PyData) : Prop where
  is : ∃ rows ends : List PyData, d = .tuple [.int L, .tuple rows, .tuple ends] ∧ (rows.length : Int) = N ∧ (∀ r ∈ rows, RowD L N r) ∧ (ends.length : Int) = N ∧ ∀ e ∈ ends, ∃ b, e = .bool b
def spKind (K : PySem.W.Frag) : Sp := fun vs H Q _ => ∃ (p q : Addr) (n : Nat) (L N : Int), vs = [.ref p, .int L, .int N] ∧ Deck H p q n ∧ n + 100 ≤ 1000000000 ∧ 1 ≤ L ∧ L ≤ 4 ∧ 1 ≤ N ∧ N ≤ 9 ∧
  ∀ (H' : Hp) (n' : Nat) (r : V) (d : PyData), Deck H' p q n' → n' ≤ n + 100 → Ext [p, q] H H' → T K [p, q] H' r d → KindD L N d → Q r H'
theorem paired_all {F : PyData → PyData → Prop} {G : PyData → Prop} (h : ∀ a b, F a b → G b) : ∀ {l m : List PyData}, Paired F l m → ∀ b ∈ m, G b
  | _, _, .nil, b, hb => by cases hb
  | _, _, .cons r t, b, hb => by
    rcases List.mem_cons.mp hb with rfl | hb
    · exact h _ _ r
    · exact paired_all h t b hb
section
variable {P : Program} {w : World} {K : PySem.W.Frag} {mg : Str → Option Value} {base : Heap} {A : Adrs}
theorem ok_lawKind (T : Txt K mg A) : FnOk P w K mg base CX0 3 A.f__law_kind A.d__law_kind ["_law_deck_here", "_law_letters", "_law_many"] (spKind K) := by
  have G__law_one : FnOk P w K mg base CX0 2 A.f__law_one A.d__law_one ["_law_deck_here", "_law_items"] (spOne K) := ok_one T
  have G__law_draw : FnOk P w K mg base CX0 1 A.f__law_draw A.d__law_draw ["_law_deck_here", "_law_many"] spDraw := ok_draw T
  refine T.F__law_kind.ok sc__law_kind (fun vs H Q E h => ?_) (fun cdv Ar outer s H vs Q E hr h => ?_)
  · obtain ⟨_, _, _, _, _, rfl, _⟩ := h
    rfl
  obtain ⟨p, q, n, L, N, rfl, hD, hn, L1, L4, N1, N9, k⟩ := h
  have tr : Trk [p, q] H := hD.trk
  -- a deck stands off what is new
  have deckOff : ∀ {H1 D : Hp}, True := fun {_ _} => trivial
  have stay : ∀ (D : Addr) (H1 H' : Hp) (m : Nat) (o : HO), Trk [p, q] H1 → H1 D = none → Deck H' p q m → Deck (upd H' D o) p q m := fun D H1 H' m o t1 d0 dk => by
    have n1 := t1.new d0
    refine dk.ext (M := [D]) (Ext.put (by simp)) ?_ ?_
    · intro z
      have e : p = D := by simpa using z
      exact n1 (by simp [e])
    · intro z
      have e : q = D := by simpa using z
      exact n1 (by simp [e])
  refine ⟨_, (pss_cons (ps_set (i := 3) sc__law_kind.nd rfl (Or.inr rfl) (pe_call G__law_one (hr.mono (by first | decide | omega)) rfl T.m__law_one T.k__law_one T.b__law_one .nil pass0 (pa_cons (pv 0) (pa_cons (pe_lst (pa_cons pe_int (pa_cons pe_int (pa_cons pe_int pa_nil)))) pa_nil))))
    (pss_cons (ps_set (i := 4) sc__law_kind.nd rfl (Or.inl rfl) (pe_lst pa_nil))
    (pss_cons (ps_for PassesOwn.never rfl (pi_range1 (by rfl) T.z_range (pa_cons (pv 2) pa_nil)) (pg_name (i := 5) sc__law_kind.nd rfl (Or.inl rfl))
    (pss_cons (ps_setLc (i := 6) (own := [("_law_j", 7)]) (by rfl) sc__law_kind.nd rfl rfl (sw_true rfl rfl rfl (by decide +kernel)) (pi_range1 (by rfl) T.z_range (pa_cons (pv 1) pa_nil)) (blkOk_by (own := [("_law_j", 7)]) (N := N__law_kind) (sc := defScope s__law_kind) (by decide +kernel)) (fun _ _ _ _ _ => (pg_name (i := 7) sc__law_kind.nd rfl (Or.inl rfl))) (fun _ _ _ _ _ => pts_nil) (fun _ _ _ _ _ => (pe_ifExp (pt_cmpR op_gt (pe_call G__law_draw (hr.mono (by first | decide | omega)) rfl T.m__law_draw T.k__law_draw T.b__law_draw .nil pass0 (pa_cons (pv 0) (pa_cons (pv 3) pa_nil))) pe_int (nomark _)) (pe_call G__law_draw (hr.mono (by first | decide | omega)) rfl T.m__law_draw T.k__law_draw T.b__law_draw .nil pass0 (pa_cons (pv 0) (pa_cons (pv 2) pa_nil))) pe_non)))
    (pss_one (ps_expr (kBm K (pe_bm PySem.F.plainAttrs_list PySem.F.slot_list_append PySem.F.type_list_append mt_append (pv 4) (pa_cons (pe_callTy (T := "tuple") (kTupOf K) (by rfl) T.z_tuple (by decide +kernel) (pa_cons (pv 6) pa_nil)) pa_nil)))))))
    (pss_one (ps_ret (pe_tup (pa_cons (pv 1) (pa_cons (pe_callTy (T := "tuple") (kTupOf K) (by rfl) T.z_tuple (by decide +kernel) (pa_cons (pv 4) pa_nil)) (pa_cons (pe_callTy (T := "tuple") (kTupOf K) (by rfl) T.z_tuple (by decide +kernel) (pa_cons (pe_lc (own := [("_law_k", 5)]) rfl sc__law_kind.nd (pi_range1 (by rfl) T.z_range (pa_cons (pv 2) pa_nil)) (blkOk_by (own := [("_law_k", 5)]) (N := N__law_kind) (sc := defScope s__law_kind) (by decide +kernel)) (fun _ _ _ _ _ => (pg_name (i := 5) sc__law_kind.nd rfl (Or.inl rfl))) (fun _ _ _ _ _ => pts_nil) (fun _ _ _ _ _ => (pe_cmpR op_gt (pe_call G__law_draw (hr.mono (by first | decide | omega)) rfl T.m__law_draw T.k__law_draw T.b__law_draw .nil pass0 (pa_cons (pv 0) (pa_cons pe_int pa_nil))) pe_int (nomark _)))) pa_nil)) pa_nil))))))))), ?_⟩
  refine ⟨_, rfl, (show 3 ≤ sizeLine by decide), fun p1 h1 => ?_⟩
  obtain ⟨s1, tr1, t1, _⟩ := atL (K := K) tr (.cons (.int 2) (.cons (.int 4) (.one (.int 9)))) h1
  generalize upd H p1 (HO.lst [V.int 2, .int 4, .int 9]) = H1 at s1 tr1 t1 ⊢
  refine ⟨p, q, n, hD.same s1, by omega, .inl ⟨.ref p1, [p, q], _, rfl, .inl t1, by simp, by simp, by simp, by simp, fun H2 r d hD2 e2 td hd => ?_⟩⟩
  obtain ⟨c, rfl, c2, c9⟩ : ∃ c : Int, r = .int c ∧ 2 ≤ c ∧ c ≤ 9 := by
    simp only [List.mem_cons, List.not_mem_nil, or_false] at hd
    rcases hd with rfl | rfl | rfl <;> cases td <;> exact ⟨_, rfl, by decide, by decide⟩
  have eH2 : Ext [p, q] H H2 := (Ext.same s1).trans e2
  clear t1 td hd
  dsimp only [gName]
  refine ⟨Nat.zero_le _, fun l hl => ?_⟩
  have tr2 : Trk [p, q] H2 := hD2.trk
  have nl := tr2.new hl
  dsimp only [gName]
  refine sq (fun σ' H' => ∃ (ys : List V) (ds : List PyData) (n' : Nat) (o5 o6 : Option V), σ' = [some (.ref p), some (.int L), some (.int N), some (.int c), some (.ref l), o5, o6, none] ∧ H' l = some (.lst ys) ∧ TA K [l, p, q] H' ys ds ∧
      (ds.length : Int) = N ∧ (∀ r ∈ ds, RowD L N r) ∧ Deck H' p q n' ∧ n' ≤ n + 1 + 72 ∧ Ext [p, q] H H') (fun W hW => ?_) ?_
  · refine ⟨_, rfl, N, rfl, by omega, by omega, ?_⟩
    refine for_range (lo := 0) (n := N.toNat) (fun i σ' H' => ∃ (ys : List V) (ds : List PyData) (n' : Nat) (o5 o6 : Option V), σ' = [some (.ref p), some (.int L), some (.int N), some (.int c), some (.ref l), o5, o6, none] ∧ H' l = some (.lst ys) ∧ TA K [l, p, q] H' ys ds ∧
      ds.length = i ∧ (∀ r ∈ ds, RowD L N r) ∧ Deck H' p q n' ∧ n' ≤ n + 1 + 8 * i ∧ Ext [p, q] H H') ⟨[], [], n + 1, none, none, rfl, upd_same, .nil, rfl, (fun r hr => by cases hr), stay l H2 H2 _ _ tr2 hl hD2, Nat.le_refl _, eH2.trans (Ext.new hl)⟩ ?_ ?_
    · rintro i σ' H' hi ⟨ys, ds, n', o5, o6, rfl, hl', ta, dl, dr, dk, dn, eH⟩
      have tr3 : Trk [l, p, q] H' := by
        intro b hb
        rcases List.mem_cons.mp hb with rfl | hb
        · rw [hl']
          exact fun z => nomatch z
        · exact dk.trk b hb
      refine ⟨_, rfl, L, rfl, by omega, by omega, fun D hD' => ?_⟩
      have tr4 : Trk [p, q] H' := dk.trk
      refine lcR (K := K) (M := [l, p, q]) (N := [p, q]) (n := L.toNat) (fun j H3 => ∃ m, Deck H3 p q m ∧ m ≤ n' + 2 * j) (fun _ => true) (fun _ e => e = .none ∨ ∃ z : Int, e = .int z ∧ 0 ≤ z ∧ z < N) (by omega) (by intro b hb; exact List.mem_cons_of_mem _ hb) tr3 hD' ⟨n', dk, Nat.le_refl _⟩
        (fun j H3 o ⟨m, dm, hm⟩ => ⟨m, stay D H' H3 m o tr4 hD' dm, hm⟩) ?_ ?_
      · rintro j H3 hj e3 ⟨m, dm, hm⟩ Ky Kn _ ky
        refine ⟨rfl, yes_ ?_⟩
        refine ⟨_, rfl, _, rfl, p, q, m, c, rfl, dm, by omega, by omega, by omega, fun H4 r1 dm4 e4 r10 r11 => ⟨_, _, rfl, rfl, _, rfl, idec (fun _ => ?_) (fun _ => ?_)⟩⟩
        · refine ⟨_, rfl, _, rfl, p, q, m + 1, N, rfl, dm4, by omega, by omega, by omega, fun H5 r2 dm5 e5 r20 r21 => ?_⟩
          exact ky rfl H5 _ _ (e4.trans e5) ⟨m + 1 + 1, dm5, by omega⟩ (.int r2) (.inr ⟨r2, rfl, r20, r21⟩)
        · exact ky rfl H4 _ _ e4 ⟨m + 1, dm4, by omega⟩ .non (.inl rfl)
      · rintro H3 zs es e3 ⟨m, dm, hm⟩ hz tz pr
        have lz := tz.len
        have lp := U.Paired.len pr
        rw [U.filter_all, List.length_map, List.length_range] at lp
        have hl3 : H3 l = some (.lst ys) := e3 _ _ nl hl'
        have ta3 : TA K [l, p, q] H3 ys ds := ta.ext (e3.sub (by intro b hb; exact List.mem_cons_of_mem _ hb))
        have tr5 : Trk [l, p, q] H3 := by
          intro b hb
          rcases List.mem_cons.mp hb with rfl | hb
          · rw [hl3]
            exact fun z => nomatch z
          · exact dm.trk b hb
        refine ⟨_, rfl, .inl ⟨rfl, _, SqL.of hl3⟩, _, rfl, D, zs, rfl, .inl ⟨SqL.of hz, fun t ht => ?_⟩⟩
        obtain ⟨s4, tr6, tt, _⟩ := atT (K := K) tr5 tz ht
        have hl4 := s4 _ _ hl3
        have ta4 := ta3.same s4
        have dm4 := dm.same s4
        have e4 : Ext [p, q] H3 (upd H3 t (.tup zs)) := Ext.same s4
        generalize upd H3 t (HO.tup zs) = H4 at s4 tr6 tt hl4 ta4 dm4 e4 ⊢
        refine ⟨l, ys, .ref t, rfl, rfl, hl4, ?_, ys ++ [.ref t], ds ++ [.tuple es], m, _, _, rfl, upd_same, (ta4.app (.one tt)).ext (Ext.put (by simp)), ?_, ?_, ?_, ?_, ?_⟩
        · have := ta4.len
          exact Nat.lt_of_le_of_lt (show ys.length ≤ 100 by omega) (by decide)
        · rw [List.length_append, dl]
          rfl
        · intro r hr
          rcases List.mem_append.mp hr with hr | hr
          · exact dr r hr
          · have er : r = .tuple es := by simpa using hr
            refine ⟨es, er, by omega, paired_all (G := fun x => x = .none ∨ ∃ i : Int, x = .int i ∧ 0 ≤ i ∧ i < N) (fun _ _ h => h) pr⟩
        · refine dm4.ext (M := [l]) (Ext.put (by simp)) ?_ ?_
          · intro z
            have e : p = l := by simpa using z
            exact nl (by simp [e])
          · intro z
            have e : q = l := by simpa using z
            exact nl (by simp [e])
        · omega
        · intro b o nb hb
          have nbl : b ≠ l := by
            rintro rfl
            have := eH _ _ nb hb
            have z : H b = none := Same.free s1 (Ext.fresh e2 nl hl)
            rw [z] at hb
            cases hb
          rw [upd_ne nbl]
          exact e4 _ _ nb (e3 _ _ nb (eH _ _ nb hb))
    · rintro σ' H' ⟨ys, ds, n', o5, o6, rfl, hl', ta, dl, dr, dk, dn, eH⟩
      exact hW _ _ ⟨ys, ds, n', o5, o6, rfl, hl', ta, by omega, dr, dk, by omega, eH⟩
  rintro σ' H' ⟨ys, ds, n', o5, o6, rfl, hl', ta, dl, dr, dk, dn, eH⟩
  have tr3 : Trk [p, q] H' := dk.trk
  have ta3 : TA K [p, q] H' ys ds := ta.off (by intro b hb; exact List.mem_cons_of_mem _ hb)
  refine ⟨_, rfl, _, rfl, l, ys, rfl, .inl ⟨SqL.of hl', fun t ht => ?_⟩⟩
  obtain ⟨s4, tr4, tt, _⟩ := atT (K := K) tr3 ta3 ht
  have dk4 := dk.same s4
  have e4 : Ext [p, q] H (upd H' t (.tup ys)) := eH.trans (Ext.same s4)
  generalize upd H' t (HO.tup ys) = H4 at s4 tr4 tt dk4 e4 ⊢
  refine ⟨_, rfl, N, rfl, by omega, by omega, fun D hD' => ?_⟩
  refine lcR (K := K) (M := [p, q]) (N := [p, q]) (n := N.toNat) (fun j H3 => ∃ m, Deck H3 p q m ∧ m ≤ n' + j) (fun _ => true) (fun _ e => ∃ b, e = .bool b) (by omega) (by intro b hb; exact hb) tr4 hD' ⟨n', dk4, Nat.le_refl _⟩
    (fun j H3 o ⟨m, dm, hm⟩ => ⟨m, stay D H4 H3 m o tr4 hD' dm, hm⟩) ?_ ?_
  · rintro j H3 hj e3 ⟨m, dm, hm⟩ Ky Kn _ ky
    refine ⟨rfl, yes_ ?_⟩
    refine ⟨_, rfl, p, q, m, 3, rfl, dm, by omega, by decide, by decide, fun H5 r1 dm5 e5 r10 r11 => ⟨_, _, rfl, rfl, ?_⟩⟩
    exact ky rfl H5 _ _ e5 ⟨m + 1, dm5, by omega⟩ (.bl _) ⟨_, rfl⟩
  · rintro H3 zs es e3 ⟨m, dm, hm⟩ hz tz pr
    have lp := U.Paired.len pr
    rw [U.filter_all, List.length_map, List.length_range] at lp
    have tr5 : Trk [p, q] H3 := dm.trk
    refine ⟨D, zs, rfl, .inl ⟨SqL.of hz, fun u hu => ?_⟩⟩
    obtain ⟨s6, tr6, tu, _⟩ := atT (K := K) tr5 tz hu
    have dm6 := dm.same s6
    have e6 : Ext [p, q] H (upd H3 u (.tup zs)) := (e4.trans e3).trans (Ext.same s6)
    have tt6 : U.T K [p, q] (upd H3 u (.tup zs)) (.ref t) (.tuple ds) := (tt.ext e3).same s6
    generalize upd H3 u (HO.tup zs) = H6 at s6 tr6 tu dm6 e6 tt6 ⊢
    refine ⟨(show 3 ≤ sizeLine by decide), fun v hv => ?_⟩
    obtain ⟨s7, tr7, tv, _⟩ := atT (K := K) tr6 (.cons (.int L) (.cons tt6 (.one tu))) hv
    refine k _ m _ _ (dm6.same s7) (by omega) (e6.trans (Ext.same s7)) tv ⟨ds, es, rfl, dl, dr, by omega, paired_all (G := fun e => ∃ b, e = .bool b) (fun _ _ h => h) pr⟩
end

/-! ### values that are bent -/
def spBent (K : PySem.W.Frag) (dp : Nat) : Sp := fun vs H Q _ => ∃ (p q : Addr) (n : Nat) (v : V) (d : PyData) (m : Int) (w e : Nat), vs = [.ref p, v, .int m, .int (dp : Int)] ∧ Deck H p q n ∧ n + 20 * (dp + 1) ≤ 1000000000 ∧ 0 ≤ m ∧ m ≤ 9 ∧ T K [p, q] H v d ∧ Fine w e d ∧ w ≤ 20000 ∧
  ∀ (H' : Hp) (n' : Nat) (r : V) (d' : PyData), Deck H' p q n' → n' ≤ n + 20 * (dp + 1) → Ext [p, q] H H' → T K [p, q] H' r d' → Fine (2 * w + 300) (e + 3) d' → Q r H'
def spLess (K : PySem.W.Frag) (dp : Nat) : Sp := fun vs H Q E => ∃ j, dp = j + 1 ∧ spBent K j vs H Q E
section
variable {P : Program} {w : World} {K : PySem.W.Frag} {mg : Str → Option Value} {base : Heap} {A : Adrs}
theorem bent_step (T : Txt K mg A) (dp : Nat) (G__law_bent : FnOk P w K mg base CX0 (3 + dp) A.f__law_bent A.d__law_bent ["_law_deck_here", "_law_value", "_law_many", "_law_deep"] (spLess K dp)) :
    FnOk P w K mg base CX0 (3 + dp + 1) A.f__law_bent A.d__law_bent ["_law_deck_here", "_law_value", "_law_many", "_law_deep"] (spBent K dp) := by
  have G__law_odd : FnOk P w K mg base CX0 3 A.f__law_odd A.d__law_odd ["_law_deck_here", "_law_many"] (spOdd K) := ok_odd T
  have G__law_draw : FnOk P w K mg base CX0 1 A.f__law_draw A.d__law_draw ["_law_deck_here", "_law_many"] spDraw := ok_draw T
  refine T.F__law_bent.ok sc__law_bent (fun vs H Q E h => ?_) (fun cdv Ar outer s H vs Q E hr h => ?_)
  · obtain ⟨_, _, _, _, _, _, _, _, rfl, _⟩ := h
    rfl
  obtain ⟨p, q, n, v, d, m, wt, e, rfl, hD, hn, m0, m9, ht, fd, hw, k⟩ := h
  have tr : Trk [p, q] H := hD.trk
  refine ⟨_, (pss_cons (ps_if (PW.pt (pw_or (pt_cmpR op_eq (pv 3) pe_int (nomark _)) (pw_or (pt_not (pt_val (pe_callB (id := "isinstance") (kIsi K) (by rfl) T.z_isinstance (by decide +kernel) (pa_cons (pv 1) (pa_cons (pe_bltn (v := .ty "tuple") (by rfl) T.z_tuple (by decide +kernel) rfl) pa_nil))))) (pw_or1 (pt_cmpR (kEqNil K hr) (pv 1) (pe_tup pa_nil) (nomark _)))))) (pss_one (ps_ret (pe_call G__law_odd (hr.mono (by first | decide | omega)) rfl T.m__law_odd T.k__law_odd T.b__law_odd .nil pass0 (pa_cons (pv 0) (pa_cons (pv 2) pa_nil)))))
    pss_nil)
    (pss_cons (ps_par (i := 4) (j := 5) (by rfl) sc__law_bent.nd rfl rfl (by decide) rfl rfl (pa_cons (pe_call G__law_draw (hr.mono (by first | decide | omega)) rfl T.m__law_draw T.k__law_draw T.b__law_draw .nil pass0 (pa_cons (pv 0) (pa_cons (pe_callB (id := "len") (kLenQ K) (by rfl) T.z_len (by decide +kernel) (pa_cons (pv 1) pa_nil)) pa_nil))) (pa_cons (pe_call G__law_draw (hr.mono (by first | decide | omega)) rfl T.m__law_draw T.k__law_draw T.b__law_draw .nil pass0 (pa_cons (pv 0) (pa_cons pe_int pa_nil))) pa_nil)) (by rfl))
    (pss_cons (ps_if (pt_cmpR op_eq (pv 5) pe_int (nomark _)) (pss_one (ps_ret (pe_op (kCatT K) (pe_slice (kSlT K) (pv 1) po_none (po_some (pv 4))) (pe_slice (kSlT K) (pv 1) (po_some (pe_op op_add (pv 4) pe_int)) po_none))))
    pss_nil)
    (pss_cons (ps_if (pt_cmpR op_eq (pv 5) pe_int (nomark _)) (pss_one (ps_ret (pe_op (kCatT K) (pe_op (kCatT K) (pe_slice (kSlT K) (pv 1) po_none (po_some (pv 4))) (pe_slice (kSlT K) (pv 1) (po_some (pv 4)) (po_some (pe_op op_add (pv 4) pe_int)))) (pe_slice (kSlT K) (pv 1) (po_some (pv 4)) po_none))))
    pss_nil)
    (pss_cons (ps_if (pt_cmpR op_eq (pv 5) pe_int (nomark _)) (pss_one (ps_ret (pe_callTy (T := "list") (kListOf K) (by rfl) T.z_list (by decide +kernel) (pa_cons (pv 1) pa_nil))))
    pss_nil)
    (pss_cons (ps_if (pt_cmpR op_eq (pv 5) pe_int (nomark _)) (pss_one (ps_ret (pe_op (kCatT K) (pe_op (kCatT K) (pe_slice (kSlT K) (pv 1) po_none (po_some (pv 4))) (pe_tup (pa_cons (pe_call G__law_odd (hr.mono (by first | decide | omega)) rfl T.m__law_odd T.k__law_odd T.b__law_odd .nil pass0 (pa_cons (pv 0) (pa_cons (pv 2) pa_nil))) pa_nil))) (pe_slice (kSlT K) (pv 1) (po_some (pe_op op_add (pv 4) pe_int)) po_none))))
    pss_nil)
    (pss_one (ps_ret (pe_op (kCatT K) (pe_op (kCatT K) (pe_slice (kSlT K) (pv 1) po_none (po_some (pv 4))) (pe_tup (pa_cons (pe_call G__law_bent (hr.mono (by first | decide | omega)) rfl T.m__law_bent T.k__law_bent T.b__law_bent .nil pass0 (pa_cons (pv 0) (pa_cons (pe_ix (kIxT K) (pv 1) (pv 4) (fun _ _ => rfl)) (pa_cons (pv 2) (pa_cons (pe_op op_sub (pv 3) pe_int) pa_nil))))) pa_nil))) (pe_slice (kSlT K) (pv 1) (po_some (pe_op op_add (pv 4) pe_int)) po_none)))))))))), ?_⟩
  refine ⟨_, rfl, rfl, _, rfl, ?_⟩
  have odd : ∀ H1, Same H H1 → tRet (tCall (spOdd K) [] E0 (tCons (tVar 0) (tCons (tVar 2) tNil))) { nx := fun _ H' => Q .non H', rt := Q } [some (.ref p), some v, some (.int m), some (.int (dp : Int)), none, none] H1 := by
    intro H1 s1
    refine ⟨_, rfl, _, rfl, p, q, n, m, rfl, hD.same s1, by omega, m0, m9, fun H' r d' hD' e' td' f' => ?_⟩
    exact k H' (n + 1) r d' hD' (by omega) ((Ext.same s1).trans e') td' (f'.more (by omega) (by omega))
  by_cases e0 : V.int (dp : Int) = V.int 0
  · rw [decide_eq_true e0]
    exact odd H (Same.refl _)
  rw [decide_eq_false e0]
  refine iteF ⟨_, rfl, _, _, _, _, _, rfl, .ty _, ht.ty, kit_ty (kit_tup d), _, rfl, ?_⟩
  cases d with
  | tuple ds =>
    refine iteF ⟨_, rfl, Nat.zero_le _, fun t ht0 => ?_⟩
    obtain ⟨fl, e1⟩ := fd.row
    have ll := fl.len
    have lw : PyData.weightAll ds ≤ wt := fl.weight
    obtain ⟨s1, tr1, t1, ht1⟩ := atT (K := K) tr (.nil : U.TA K [p, q] H [] []) ht0
    cases ht with
    | @tup a xs _ na ha ta =>
    have lx := ta.len
    have hv : U.T K [p, q] H (.ref a) (.tuple ds) := .tup na ha ta
    have hv1 := hv.same s1
    have ha1 := s1 _ _ ha
    have hD1 := hD.same s1
    have odd1 := odd _ s1
    clear t1
    generalize upd H t (HO.tup []) = H1 at s1 tr1 ht1 hv1 ha1 hD1 odd1 ⊢
    refine ⟨a, t, xs, rfl, rfl, .inr ⟨SqT.of ha1, SqT.of ht1⟩, _, rfl, if_ (fun _ => odd1) (fun c => ?_)⟩
    have lpos : 0 < ds.length := by
      rw [← lx]
      cases xs with
      | nil => cases c
      | cons x xs => exact Nat.succ_pos _
    refine ⟨_, rfl, _, rfl, a, xs, rfl, .inr (SqT.of ha1), p, q, n, _, rfl, hD1, by omega, by omega, by omega, fun H2 r1 hD2 e2 r10 r11 => ⟨_, rfl, p, q, n + 1, 10, rfl, hD2, by omega, by decide, by decide, fun H3 r2 hD3 e3 r20 r21 => ⟨_, _, rfl, ?_⟩⟩⟩
    have tr3 : Trk [p, q] H3 := hD3.trk
    have e13 := e2.trans e3
    have hv3 : U.T K [p, q] H3 (.ref a) (.tuple ds) := hv1.ext e13
    have eH3 : Ext [p, q] H H3 := (Ext.same s1).trans e13
    obtain ⟨j, rfl⟩ : ∃ j : Nat, r1 = (j : Int) := ⟨r1.toNat, (Int.toNat_of_nonneg r10).symm⟩
    have hj : j < ds.length := by omega
    have fe : ∀ {u : Nat} {es : List PyData}, FineL u (e - 1) es → u ≤ 2 * wt + 300 → Fine (2 * wt + 300) (e + 3) (.tuple es) := fun f hu => f.tup.more hu (by omega)
    show tSeq _ _ _ [some (.ref p), some (.ref a), some (.int m), some (.int (dp : Int)), some (.int (j : Int)), some (.int r2)] H3
    refine ⟨_, rfl, rfl, _, rfl, idec (fun _ => ?_) (fun _ => ?_)⟩
    · -- an item left out
      refine ⟨_, rfl, _, rfl, _, rfl, ?_⟩
      show rSlA K _ _ _ _ _
      refine slA tr3 hv3 fun u1 H4 s4 tr4 f1 => ⟨_, rfl, _, rfl, _, _, rfl, rfl, _, rfl, ?_⟩
      dsimp only [tNoPart]
      refine slA tr4 (hv3.same s4) fun u2 H5 s5 tr5 f2 => ?_
      show rCatA K _ _ _ _
      have c1 := fl.cut none (some (j : Int))
      have c2 := fl.cut (some ((j : Int) + 1)) none
      refine catA tr5 (f1.same s5) f2 (by have := c1.len; have := c2.len; omega) fun u3 H6 s6 tr6 f3 => ?_
      exact k _ (n + 2) _ _ (((hD3.same s4).same s5).same s6) (by omega) (eH3.trans (Ext.same ((s4.trans s5).trans s6))) f3 (fe (c1.app c2) (by omega))
    refine ⟨_, rfl, rfl, _, rfl, idec (fun _ => ?_) (fun _ => ?_)⟩
    · -- an item twice
      refine ⟨_, rfl, _, rfl, _, rfl, ?_⟩
      show rSlA K _ _ _ _ _
      refine slA tr3 hv3 fun u1 H4 s4 tr4 f1 => ⟨_, rfl, _, rfl, _, rfl, _, rfl, _, _, rfl, rfl, _, rfl, ?_⟩
      show rSlA K _ _ _ _ _
      refine slA tr4 (hv3.same s4) fun u2 H5 s5 tr5 f2 => ?_
      show rCatA K _ _ _ _
      have c1 := fl.cut none (some (j : Int))
      have c2 := fl.cut (some (j : Int)) (some ((j : Int) + 1))
      have c3 := fl.cut (some (j : Int)) none
      have l1 := c1.len
      have l2 := c2.len
      have l3 := c3.len
      refine catA tr5 (f1.same s5) f2 (by omega) fun u3 H6 s6 tr6 f3 => ⟨_, rfl, _, rfl, _, rfl, ?_⟩
      dsimp only [tNoPart]
      refine slA tr6 (((hv3.same s4).same s5).same s6) fun u4 H7 s7 tr7 f4 => ?_
      show rCatA K _ _ _ _
      refine catA tr7 (f3.same s7) f4 (by rw [List.length_append]; omega) fun u5 H8 s8 tr8 f5 => ?_
      refine k _ (n + 2) _ _ (((((hD3.same s4).same s5).same s6).same s7).same s8) (by omega) (eH3.trans (Ext.same ((((s4.trans s5).trans s6).trans s7).trans s8))) f5 ?_
      rw [cut_take (by omega), show ((j : Int) + 1) = ((j + 1 : Nat) : Int) by omega, cut_drop (by omega)]
      have q1 : FineL (PyData.weightAll (ds.take j)) (e - 1) (ds.take j) := ⟨(fl.take j).show_, (fl.take j).short, Nat.le_refl _, (fl.take j).depth⟩
      have q3 := fl.drop j
      have q2 := fl.cut (some (j : Int)) (some ((j + 1 : Nat) : Int))
      have ws := weight_split hj
      have e2 : U.cutD ds (some (j : Int)) (some ((j + 1 : Nat) : Int)) = [ds[j]] := by
        unfold U.cutD
        rw [HT.sIx_nat, HT.sIx_nat, Nat.min_eq_left (by omega), Nat.min_eq_left (by omega), Nat.add_sub_cancel_left, List.drop_eq_getElem_cons hj]
        rfl
      rw [e2] at q2 ⊢
      have fj : Fine ds[j].weight (e - 1) ds[j] := ⟨q2.head.1.show_, q2.head.1.short, Nat.le_refl _, q2.head.1.depth⟩
      have q2' : FineL (ds[j].weight + 1 + 0) (e - 1) [ds[j]] := FineL.cons fj FineL.nil
      exact fe ((q1.app q2').app q3) (by omega)
    refine ⟨_, rfl, rfl, _, rfl, idec (fun _ => ?_) (fun _ => ?_)⟩
    · -- a list
      refine ⟨_, rfl, a, xs, rfl, .inr (SqT.of (e13 _ _ na ha1)), fun l hl => ?_⟩
      obtain ⟨s4, tr4, f4, _⟩ := atL (K := K) tr3 ((ta.same s1).ext e13) hl
      exact k _ (n + 2) _ _ (hD3.same s4) (by omega) (eH3.trans (Ext.same s4)) f4 (fl.list.more (by omega) (by omega))
    refine ⟨_, rfl, rfl, _, rfl, idec (fun _ => ?_) (fun _ => ?_)⟩
    · -- something else in the place of an item
      refine ⟨_, rfl, _, rfl, _, rfl, ?_⟩
      show rSlA K _ _ _ _ _
      refine slA tr3 hv3 fun u1 H4 s4 tr4 f1 => ⟨_, rfl, _, rfl, p, q, n + 2, m, rfl, hD3.same s4, by omega, m0, m9, fun H5 r d' hD5 e5 td f5 => ⟨(show 1 ≤ sizeLine by decide), fun u hu => ?_⟩⟩
      obtain ⟨s6, tr6, f6, _⟩ := atT (K := K) hD5.trk (.one td) hu
      have e16 : Ext [p, q] H4 (upd H5 u (.tup [r])) := e5.trans (Ext.same s6)
      have hD6 := hD5.same s6
      generalize upd H5 u (HO.tup [r]) = H6 at s6 tr6 f6 e16 hD6 ⊢
      show rCatA K _ _ _ _
      have c1 := fl.take j
      have c3 := fl.drop (j + 1)
      have l1 := c1.len
      have l3 := c3.len
      rw [cut_take (by omega)] at f1
      refine catA tr6 (f1.ext e16) f6 (by simp only [List.length_cons, List.length_nil]; omega) fun u3 H7 s7 tr7 f7 => ⟨_, rfl, _, rfl, _, _, rfl, rfl, _, rfl, ?_⟩
      dsimp only [tNoPart]
      have hv7 : U.T K [p, q] H7 (.ref a) (.tuple ds) := ((hv3.same s4).ext e16).same s7
      refine slA tr7 hv7 fun u4 H8 s8 tr8 f8 => ?_
      show rCatA K _ _ _ _
      rw [show ((j : Int) + 1) = ((j + 1 : Nat) : Int) by omega, cut_drop (by omega)] at f8
      refine catA tr8 (f7.same s8) f8 (by rw [List.length_append]; simp only [List.length_cons, List.length_nil]; omega) fun u5 H9 s9 tr9 f9 => ?_
      refine k _ (n + 3) _ _ (((hD6.same s7).same s8).same s9) (by omega) ((eH3.trans (Ext.same s4)).trans (e16.trans (Ext.same ((s7.trans s8).trans s9)))) f9 ?_
      have q2 : FineL (200 + 1 + 0) (e - 1 + 2) [d'] := FineL.cons (f5.more (Nat.le_refl _) (by omega)) FineL.nil
      have ws := weight_split hj
      have q1 : FineL (PyData.weightAll (ds.take j)) (e - 1 + 2) (ds.take j) := ⟨c1.show_, c1.short, Nat.le_refl _, Nat.le_trans c1.depth (by omega)⟩
      have q3 : FineL (PyData.weightAll (ds.drop (j + 1))) (e - 1 + 2) (ds.drop (j + 1)) := ⟨c3.show_, c3.short, Nat.le_refl _, Nat.le_trans c3.depth (by omega)⟩
      exact ((q1.app q2).app q3).tup.more (by omega) (by omega)
    · -- an item bent itself
      refine ⟨_, rfl, _, rfl, _, rfl, ?_⟩
      show rSlA K _ _ _ _ _
      refine slA tr3 hv3 fun u1 H4 s4 tr4 f1 => ?_
      have ha4 := s4 _ _ (e13 _ _ na ha1)
      obtain ⟨a', xs', x, ea, hx1, hx2, tx⟩ := (hv3.same s4).get hj
      cases ea
      rw [ha4] at hx1
      cases hx1
      obtain ⟨dp', rfl⟩ : ∃ z, dp = z + 1 := by
        cases dp with
        | zero => exact absurd rfl e0
        | succ z => exact ⟨z, rfl⟩
      have c1 := fl.take j
      have c3 := fl.drop (j + 1)
      have l1 := c1.len
      have l3 := c3.len
      have ws := weight_split hj
      have fj0 : Fine wt (e - 1) ds[j] := fl.get (List.getElem_mem hj)
      have fj : Fine ds[j].weight (e - 1) ds[j] := ⟨fj0.show_, fj0.short, Nat.le_refl _, fj0.depth⟩
      refine ⟨_, rfl, _, rfl, _, rfl, a, xs, (j : Int), x, rfl, rfl, SqT.of ha4, atI_nat hx2, _, rfl, _, rfl, _, _, rfl, rfl, dp', rfl, p, q, n + 2, x, ds[j], m, ds[j].weight, e - 1, ?_, hD3.same s4, by omega, m0, m9, tx, fj, by omega, fun H5 n5 r d' hD5 n5' e5 td f5 => ⟨(show 1 ≤ sizeLine by decide), fun u hu => ?_⟩⟩
      · show [V.ref p, x, V.int m, V.int (((dp' + 1 : Nat) : Int) - 1)] = _
        rw [show (((dp' + 1 : Nat) : Int) - 1) = (dp' : Int) by omega]
      obtain ⟨s6, tr6, f6, _⟩ := atT (K := K) hD5.trk (.one td) hu
      have e16 : Ext [p, q] H4 (upd H5 u (.tup [r])) := e5.trans (Ext.same s6)
      have hD6 := hD5.same s6
      generalize upd H5 u (HO.tup [r]) = H6 at s6 tr6 f6 e16 hD6 ⊢
      show rCatA K _ _ _ _
      rw [cut_take (by omega)] at f1
      refine catA tr6 (f1.ext e16) f6 (by simp only [List.length_cons, List.length_nil]; omega) fun u3 H7 s7 tr7 f7 => ⟨_, rfl, _, rfl, _, _, rfl, rfl, _, rfl, ?_⟩
      dsimp only [tNoPart]
      have hv7 : U.T K [p, q] H7 (.ref a) (.tuple ds) := ((hv3.same s4).ext e16).same s7
      refine slA tr7 hv7 fun u4 H8 s8 tr8 f8 => ?_
      show rCatA K _ _ _ _
      rw [show ((j : Int) + 1) = ((j + 1 : Nat) : Int) by omega, cut_drop (by omega)] at f8
      refine catA tr8 (f7.same s8) f8 (by rw [List.length_append]; simp only [List.length_cons, List.length_nil]; omega) fun u5 H9 s9 tr9 f9 => ?_
      refine k _ n5 _ _ (((hD6.same s7).same s8).same s9) (by omega) ((eH3.trans (Ext.same s4)).trans (e16.trans (Ext.same ((s7.trans s8).trans s9)))) f9 ?_
      have q2 : FineL (2 * ds[j].weight + 300 + 1 + 0) (e - 1 + 3) [d'] := FineL.cons (f5.more (Nat.le_refl _) (Nat.le_refl _)) FineL.nil
      have q1 : FineL (PyData.weightAll (ds.take j)) (e - 1 + 3) (ds.take j) := ⟨c1.show_, c1.short, Nat.le_refl _, Nat.le_trans c1.depth (by omega)⟩
      have q3 : FineL (PyData.weightAll (ds.drop (j + 1))) (e - 1 + 3) (ds.drop (j + 1)) := ⟨c3.show_, c3.short, Nat.le_refl _, Nat.le_trans c3.depth (by omega)⟩
      exact ((q1.app q2).app q3).tup.more (by omega) (by omega)
  | _ => exact odd H (Same.refl _)
theorem ok_bent (T : Txt K mg A) : ∀ dp : Nat, FnOk P w K mg base CX0 (3 + dp + 1) A.f__law_bent A.d__law_bent ["_law_deck_here", "_law_value", "_law_many", "_law_deep"] (spBent K dp)
  | 0 => bent_step T 0 ⟨fun vs H Q E h => (by obtain ⟨j, h, _⟩ := h; cases h), fun A outer s H args us vs Q E hr he hb hv hs => (by obtain ⟨j, h, _⟩ := hs; cases h)⟩
  | dp + 1 => bent_step T (dp + 1) ((ok_bent T dp).imp fun vs H Q E h => by
      obtain ⟨j, e, h⟩ := h
      have : dp = j := by omega
      subst this
      exact h)
end

/-! ### the law -/
theorem kerr_data (d : PyData) : ∃ e : PyData, (∀ (K : PySem.W.Frag) (M : List Addr) (H : Hp), T K M H (kerr d) e) ∧ Shown e := by
  have st : ∀ x : Str, x = "kind" ∨ x = "letters" ∨ x = "rows" ∨ x = "ends" → Shown (.str x) := by
    rintro x (rfl | rfl | rfl | rfl) <;> exact (fine_of (w := 20) (dp := 0) (by decide +kernel)).shown (by decide) (by decide)
  unfold kerr
  split
  · split
    · exact ⟨_, fun _ _ _ => .str _, st _ (by simp)⟩
    · split
      · exact ⟨_, fun _ _ _ => .str _, st _ (by simp)⟩
      · split
        · exact ⟨_, fun _ _ _ => .str _, st _ (by simp)⟩
        · exact ⟨_, fun _ _ _ => .non, fine_none.shown (by decide) (by decide)⟩
  · exact ⟨_, fun _ _ _ => .str _, st _ (by simp)⟩
theorem kind_fine {L N : Int} {d : PyData} (h : KindD L N d) (l0 : 1 ≤ L) (l4 : L ≤ 4) (n0 : 1 ≤ N) (n9 : N ≤ 9) : Fine 1700 3 d := by
  obtain ⟨rows, ends, rfl, h1, h2, h3, h4⟩ := h.is
  have f1 : Fine 40 2 (.int L) := (fine_int (by omega)).more (Nat.le_refl _) (by decide)
  have f2 : Fine 1485 2 (.tuple rows) := by
    refine fine_tup (w := 164) (dp := 1) (n := 9) (fun r hr => ?_) (by omega)
    obtain ⟨its, rfl, h5, h6⟩ := h2 r hr
    refine fine_tup (w := 40) (dp := 0) (n := 4) (fun x hx => ?_) (by omega)
    rcases h6 x hx with rfl | ⟨i, rfl, i0, i1⟩
    · exact fine_none.more (by decide) (Nat.le_refl _)
    · exact fine_int (by omega)
  have f3 : Fine 9 2 (.tuple ends) := by
    refine (fine_tup (w := 0) (dp := 0) (n := 9) (fun e he => ?_) (by omega)).more (Nat.le_refl _) (by decide)
    obtain ⟨b, rfl⟩ := h4 e he
    exact fine_bool b
  exact (FineL.cons f1 (FineL.cons f2 (FineL.cons f3 FineL.nil))).tup.more (by decide) (by decide)
abbrev Okd (d : PyData) : Prop := Fine 20000 20 d
/-- between the statements that add to the values -/
def Held (K : PySem.W.Frag) (p q a ka : Addr) (n m : Nat) (o2 vb o8 : Option V) (L N : Int) (rows ends : List PyData) : L2.St → Hp → Prop := fun σ H => ∃ (l : Addr) (ys : List V) (ds : List PyData),
  σ = [some (.ref a), some (.ref p), o2, some (.int L), some (.int N), some (.ref ka), vb, some (.ref l), o8, none, none, none] ∧ Deck H p q n ∧ T K [p, q] H (.ref ka) (.tuple [.int L, .tuple rows, .tuple ends]) ∧
  H l = some (.lst ys) ∧ l ∉ [p, q] ∧ TA K [p, q] H ys ds ∧ (∀ d ∈ ds, Okd d) ∧ ds.length ≤ m
theorem held_cat {K : PySem.W.Frag} {p q a ka l b : Addr} {n m c : Nat} {o2 vb o8 : Option V} {L N : Int} {rows ends : List PyData} {H : Hp} {ys zs : List V} {ds es : List PyData} {W : V → Hp → Prop}
    (dk : Deck H p q n) (tk : T K [p, q] H (.ref ka) (.tuple [.int L, .tuple rows, .tuple ends])) (hl : H l = some (.lst ys)) (ta : TA K [p, q] H ys ds) (ok : ∀ d ∈ ds, Okd d) (len : ds.length ≤ m)
    (hb : H b = some (.lst zs)) (tb : TA K [p, q] H zs es) (ok2 : ∀ d ∈ es, Okd d) (len2 : es.length ≤ c) (hm : m + c ≤ 100)
    (hW : ∀ r H', Held K p q a ka n (m + c) o2 vb o8 L N rows ends [some (.ref a), some (.ref p), o2, some (.int L), some (.int N), some (.ref ka), vb, some (.ref r), o8, none, none, none] H' → W (.ref r) H') : rCat (.ref l) (.ref b) H W := by
  have l1 := ta.len
  have l2 := tb.len
  refine ⟨l, b, ys, zs, rfl, rfl, hl, hb, Nat.le_trans (show ys.length + zs.length ≤ 100 by omega) (by decide), fun r hr => ?_⟩
  obtain ⟨s, tr, _, hr'⟩ := atL (K := K) dk.trk (ta.app tb) hr
  refine hW _ _ ⟨r, _, _, rfl, dk.same s, tk.same s, hr', dk.trk.new hr, (ta.app tb).same s, ?_, ?_⟩
  · intro d hd
    rcases List.mem_append.mp hd with h | h
    · exact ok d h
    · exact ok2 d h
  · rw [List.length_append]
    omega
theorem paired_all2 {F : PyData → PyData → Prop} {G : PyData → Prop} (h : ∀ a b, F a b → G b) {l m : List PyData} (p : Paired F l m) : ∀ b ∈ m, G b := paired_all h p
section
variable {K : PySem.W.Frag} {M N : List Addr} {g : TG} {tt : TT} {te : TE} {vs : List Nat} {σ : L2.St} {H1 : Hp} {D : Addr} {Qd : Hp → Prop}
/-- the same, and the new list is known to be there -/
theorem lcL2 {a : Addr} {xs : List V} {ds : List PyData} (J : Nat → Hp → Prop) (keep : PyData → Bool) (f : PyData → PyData → Prop) (ha : H1 a = some (.lst xs)) (na : a ∉ M) (ht : TA K M H1 xs ds) (hl : ds.length ≤ 100000)
    (hNM : ∀ b ∈ N, b ∈ M) (hN : ∀ b ∈ M, H1 b ≠ none) (hD : H1 D = none) (j0 : J 0 H1) (hJ : ∀ i H o, J i H → J i (upd H D o))
    (turn : ∀ i x d H, ds[i]? = some d → T K (D :: M) H x d → Ext N H1 H → J i H → H D ≠ none → ∀ (Ky : V → Hp → Prop) (Kn : Hp → Prop), (keep d = false → ∀ H', Ext N H H' → J (i + 1) H' → Kn H') →
      (keep d = true → ∀ H' y e, Ext N H H' → J (i + 1) H' → T K (D :: M) H' y e → f d e → Ky y H') → Turn g tt te vs σ x H Ky Kn)
    (hd : ∀ H ys es, Ext N H1 H → J ds.length H → H D = some (.lst ys) → TA K M H ys es → Paired f (ds.filter keep) es → Qd H) :
    ∃ W : Nat → Nat → Hp → Prop, (∃ m, W 0 m (upd H1 D (.lst []))) ∧ ∀ i m H, W i m H →
      ((Itl K a).stop i H ∧ Qd H) ∨ ((Itl K a).go i H ∧ ∃ Nx : Hp → Prop, (∀ H', Nx H' → ∃ m', m' < m ∧ W (i + 1) m' H') ∧ ∀ x H', (Itl K a).yld i H x H' → g x (wipe σ vs) H' fun σ2 H2 => wipe σ2 vs = wipe σ vs ∧ tt σ2 H2 fun b H3 =>
        if b = true then te σ2 H3 fun y H4 => ∃ acc, H4 D = some (.lst acc) ∧ acc.length < sizeLine ∧ Nx (upd H4 D (.lst (acc ++ [y]))) else Nx H3) := by
  have hDM : D ∉ M := fun z => hN D z hD
  have hDN : D ∉ N := fun z => hDM (hNM D z)
  have naN : a ∉ N := fun z => na (hNM a z)
  have hT : TA K (D :: M) H1 xs ds := ht.plus hD
  refine lc_list (K := K) (a := a) (xs := xs) (fun i H => Sofar K (D :: M) N H1 D J keep f ds i H) ⟨[], [], Ext.new hD, hJ _ _ _ j0, upd_same, .nil, by simpa using Paired.nil⟩ (fun i H _ p => ?_) (fun i x H hx p => ?_) (fun H p => ?_)
  · obtain ⟨_, _, e, _⟩ := p
    exact SqL.of (e _ _ naN ha)
  · obtain ⟨d, hdi, td⟩ := hT.get hx
    have e := let ⟨_, _, e, _⟩ := p; e
    have j := let ⟨_, _, _, j, _⟩ := p; j
    have hy : H D ≠ none := let ⟨_, _, _, _, h, _⟩ := p; fun z => by rw [z] at h; cases h
    exact sofar_turn hl hNM hDN hDM hD hJ hdi p (turn i x d H hdi (td.ext (e.sub fun b hb => List.mem_cons_of_mem _ (hNM b hb))) e j hy)
  · obtain ⟨ys, es, e, j, h1, h2, h3⟩ := p
    rw [ht.len, List.take_length] at h3
    rw [ht.len] at j
    exact hd H ys es e j h1 (h2.off fun b hb => List.mem_cons_of_mem _ hb) h3
end
def nineD (n : Nat) : PyData := .tuple [.int 1, .tuple (List.replicate n (.tuple [.int 0])), .tuple (List.replicate n (.bool true))]
theorem nine_ne : nineD 8 ≠ nineD 9 := fun h => by
  unfold nineD at h
  injection h with h
  injection h with _ h
  injection h with h _
  injection h with h
  exact absurd (congrArg List.length h) (by simp)
theorem ta_rep {K : PySem.W.Frag} {M : List Addr} {H : Hp} {v : V} {d : PyData} (t : T K M H v d) : ∀ n : Nat, TA K M H (List.replicate n [v]).flatten (List.replicate n d)
  | 0 => .nil
  | n + 1 => .cons t (ta_rep t n)
def spRight (K : PySem.W.Frag) : Sp := fun vs H Q _ => ∃ (v : V) (M : List Addr) (d : PyData), vs = [v] ∧ T K M H v d ∧ Fine 100000 50 d ∧ ∀ H', Same H H' → Q (.bl true) H'
def spLaw (K : PySem.W.Frag) : Sp := fun vs H Q _ => ∃ (a : Addr) (ns : List Int), vs = [.ref a] ∧ SqL K H a (ns.map V.int) ∧ ns.length ≤ 63 ∧ ∀ H', Q (.bl true) H'
section
variable {P : Program} {w : World} {K : PySem.W.Frag} {mg : Str → Option Value} {base : Heap} {A : Adrs}
theorem ok_right (T : Txt K mg A) : FnG P w K mg base 6 A.f__law_right A.d__law_right ["_law_value"] (spRight K) := by
  have G_kind_error : FnOk P w K mg base CX0 5 A.f_kind_error A.d_kind_error ["value"] (spErr K) := ok_error T
  have G__law_error : FnOk P w K mg base CX0 3 A.f__law_error A.d__law_error ["_law_value"] (spErr K) := ok_lawError T
  refine okG T.F__law_right sc__law_right (fun vs H Q E h => ?_) (fun cdv Ar outer s H vs Q E hG hr h => ?_)
  · obtain ⟨_, _, _, rfl, _⟩ := h
    rfl
  obtain ⟨v, M, d, rfl, ht, fd, k⟩ := h
  have sd := fd.shown (by decide) (by decide)
  obtain ⟨e, te, se⟩ := kerr_data d
  refine ⟨_, (pss_cons (ps_set (i := 1) sc__law_right.nd rfl (Or.inl rfl) (pe_callB (id := "repr") (kRepr K hG hr) (by rfl) T.z_repr (by decide +kernel) (pa_cons (pv 0) pa_nil)))
    (pss_one (ps_ret (pe_and (pe_cmpR op_eq (pe_callB (id := "repr") (kRepr K hG hr) (by rfl) T.z_repr (by decide +kernel) (pa_cons (pe_call G_kind_error (hr.mono (by first | decide | omega)) rfl T.m_kind_error T.k_kind_error T.b_kind_error .nil pass0 (pa_cons (pv 0) pa_nil)) pa_nil)) (pe_callB (id := "repr") (kRepr K hG hr) (by rfl) T.z_repr (by decide +kernel) (pa_cons (pe_call G__law_error (hr.mono (by first | decide | omega)) rfl T.m__law_error T.k__law_error T.b__law_error .nil pass0 (pa_cons (pv 0) pa_nil)) pa_nil)) (nomark _)) (pe_one (pe_cmpR op_eq (pe_callB (id := "repr") (kRepr K hG hr) (by rfl) T.z_repr (by decide +kernel) (pa_cons (pv 0) pa_nil)) (pv 1) (nomark _))))))), ?_⟩
  refine ⟨_, rfl, v, M, d, rfl, ht, sd, ?_⟩
  dsimp only [gName]
  refine ⟨_, rfl, v, M, d, rfl, ht, fd.weight, fun H1 s1 => ⟨kerr d, M, e, rfl, te _ _ _, se, _, rfl, v, M, d, rfl, ht.same s1, fd.weight, fun H2 s2 => ⟨kerr d, M, e, rfl, te _ _ _, se, rfl, _, rfl, idec (fun _ => ?_) (fun h => absurd rfl h)⟩⟩⟩
  refine ⟨_, rfl, v, M, d, rfl, (ht.same s1).same s2, sd, _, rfl, rfl, ?_⟩
  have z : decide (V.str d.shown = V.str d.shown) = true := decide_eq_true rfl
  show Q (.bl (decide (V.str d.shown = V.str d.shown))) H2
  rw [z]
  exact k _ (s1.trans s2)
theorem ok_law (T : Txt K mg A) : FnG P w K mg base 8 A.f_law A.d_law ["_law_script"] (spLaw K) := by
  have G__law_deck : FnOk P w K mg base CX0 1 A.f__law_deck A.d__law_deck ["_law_script"] (spDeck K) := ok_deck T
  have G__law_draw : FnOk P w K mg base CX0 1 A.f__law_draw A.d__law_draw ["_law_deck_here", "_law_many"] spDraw := ok_draw T
  have G__law_kind : FnOk P w K mg base CX0 3 A.f__law_kind A.d__law_kind ["_law_deck_here", "_law_letters", "_law_many"] (spKind K) := ok_lawKind T
  have G__law_bent : FnOk P w K mg base CX0 7 A.f__law_bent A.d__law_bent ["_law_deck_here", "_law_value", "_law_many", "_law_deep"] (spBent K 3) := ok_bent T 3
  have G__law_odd : FnOk P w K mg base CX0 3 A.f__law_odd A.d__law_odd ["_law_deck_here", "_law_many"] (spOdd K) := ok_odd T
  have G__law_right : FnG P w K mg base 6 A.f__law_right A.d__law_right ["_law_value"] (spRight K) := ok_right T
  have G_kind_error : FnOk P w K mg base CX0 5 A.f_kind_error A.d_kind_error ["value"] (spErr K) := ok_error T
  refine okG T.F_law sc_law (fun vs H Q E h => ?_) (fun cdv Ar outer s H vs Q E hG hr h => ?_)
  · obtain ⟨_, _, rfl, _⟩ := h
    rfl
  obtain ⟨a, ns, rfl, hS, hl, k⟩ := h
  refine ⟨_, (pss_cons (ps_set (i := 1) sc_law.nd rfl (Or.inl rfl) (pe_call G__law_deck (hr.mono (by first | decide | omega)) rfl T.m__law_deck T.k__law_deck T.b__law_deck .nil pass0 (pa_cons (pv 0) pa_nil)))
    (pss_cons (ps_for PassesOwn.never rfl (pi_range1 (by rfl) T.z_range (pa_cons pe_int pa_nil)) (pg_name (i := 2) sc_law.nd rfl (Or.inl rfl))
    (pss_cons (ps_par (i := 3) (j := 4) (by rfl) sc_law.nd rfl rfl (by decide) rfl rfl (pa_cons (pe_op op_add pe_int (pe_call G__law_draw (hr.mono (by first | decide | omega)) rfl T.m__law_draw T.k__law_draw T.b__law_draw .nil pass0 (pa_cons (pv 1) (pa_cons pe_int pa_nil)))) (pa_cons (pe_op op_add pe_int (pe_call G__law_draw (hr.mono (by first | decide | omega)) rfl T.m__law_draw T.k__law_draw T.b__law_draw .nil pass0 (pa_cons (pv 1) (pa_cons pe_int pa_nil)))) pa_nil)) (by rfl))
    (pss_cons (ps_set (i := 5) sc_law.nd rfl (Or.inr rfl) (pe_call G__law_kind (hr.mono (by first | decide | omega)) rfl T.m__law_kind T.k__law_kind T.b__law_kind .nil pass0 (pa_cons (pv 1) (pa_cons (pv 3) (pa_cons (pv 4) pa_nil)))))
    (pss_cons (ps_set (i := 6) sc_law.nd rfl (Or.inl rfl) (pe_call G__law_bent (hr.mono (by first | decide | omega)) rfl T.m__law_bent T.k__law_bent T.b__law_bent .nil pass0 (pa_cons (pv 1) (pa_cons (pv 5) (pa_cons (pv 4) (pa_cons pe_int pa_nil))))))
    (pss_cons (ps_set (i := 7) sc_law.nd rfl (Or.inl rfl) (pe_lst (pa_cons (pv 5) (pa_cons (pv 6) (pa_cons (pe_call G__law_bent (hr.mono (by first | decide | omega)) rfl T.m__law_bent T.k__law_bent T.b__law_bent .nil pass0 (pa_cons (pv 1) (pa_cons (pv 6) (pa_cons (pv 4) (pa_cons pe_int pa_nil))))) (pa_cons (pe_call G__law_odd (hr.mono (by first | decide | omega)) rfl T.m__law_odd T.k__law_odd T.b__law_odd .nil pass0 (pa_cons (pv 1) (pa_cons (pv 4) pa_nil))) (pa_cons (pe_callTy (T := "list") (kListOf K) (by rfl) T.z_list (by decide +kernel) (pa_cons (pv 5) pa_nil)) (pa_cons (pe_op (kCatT K) (pv 5) (pe_tup (pa_cons pe_int pa_nil))) pa_nil))))))))
    (pss_cons (ps_set (i := 7) sc_law.nd rfl (Or.inl rfl) (pe_op op_cat (pv 7) (pe_lst (pa_cons (pe_op (kCatT K) (pe_op (kCatT K) (pe_tup (pa_cons (pv 3) pa_nil)) (pe_slice (kSlT K) (pv 5) (po_some pe_int) (po_some pe_int))) (pe_tup (pa_cons (pe_callTy (T := "tuple") (kTupOf K) (by rfl) T.z_tuple (by decide +kernel) (pa_cons (pe_lc (own := [("_law_end", 11)]) rfl sc_law.nd (kPiT K (pe_ix (kIxT K) (pv 5) pe_int (fun _ _ => rfl))) (blkOk_by (own := [("_law_end", 11)]) (N := N_law) (sc := defScope s_law) (by decide +kernel)) (fun _ _ _ _ _ => (pg_name (i := 11) sc_law.nd rfl (Or.inl rfl))) (fun _ _ _ _ _ => pts_nil) (fun _ _ _ _ _ => (pe_callTy (T := "int") call_int1 (by rfl) T.z_int (by decide +kernel) (pa_cons (pv 11) pa_nil)))) pa_nil)) pa_nil))) (pa_cons (pe_slice (kSlT K) (pv 5) po_none (po_some pe_int)) pa_nil)))))
    (pss_cons (ps_set (i := 7) sc_law.nd rfl (Or.inl rfl) (pe_op op_cat (pv 7) (pe_lc (own := [("_law_letter", 10)]) rfl sc_law.nd (kPiL K (pe_lst (pa_cons pe_int (pa_cons pe_int (pa_cons pe_bl (pa_cons pe_non (pa_cons pe_str (pa_cons pe_int (pa_cons (pe_un un_neg pe_int) pa_nil))))))))) (blkOk_by (own := [("_law_letter", 10)]) (N := N_law) (sc := defScope s_law) (by decide +kernel)) (fun _ _ _ _ _ => (pg_name (i := 10) sc_law.nd rfl (Or.inl rfl))) (fun _ _ _ _ _ => pts_nil) (fun _ _ _ _ _ => (pe_op (kCatT K) (pe_tup (pa_cons (pv 10) pa_nil)) (pe_slice (kSlT K) (pv 5) (po_some pe_int) po_none))))))
    (pss_cons (ps_set (i := 7) sc_law.nd rfl (Or.inl rfl) (pe_op op_cat (pv 7) (pe_lst (pa_cons (pe_op (kCatT K) (pe_tup (pa_cons (pe_op op_add pe_int (pe_op op_mod (pv 3) pe_int)) pa_nil)) (pe_slice (kSlT K) (pv 5) (po_some pe_int) po_none)) (pa_cons (pe_op (kCatT K) (pe_op (kCatT K) (pe_slice (kSlT K) (pv 5) po_none (po_some pe_int)) (pe_tup (pa_cons (pe_tup pa_nil) pa_nil))) (pe_slice (kSlT K) (pv 5) (po_some pe_int) po_none)) (pa_cons (pe_tup (pa_cons (pv 3) (pa_cons (pe_tup pa_nil) (pa_cons (pe_tup pa_nil) pa_nil)))) pa_nil))))))
    (pss_one (ps_for PassesOwn.never rfl (kPiL K (pv 7)) (pg_name (i := 8) sc_law.nd rfl (Or.inl rfl))
    (pss_one (ps_if (pt_not (pt_val (pe_callG hG G__law_right (hr.mono (by first | decide | omega)) rfl T.m__law_right T.k__law_right T.b__law_right (pa_cons (pv 8) pa_nil)))) (pss_one (ps_ret pe_bl))
    pss_nil))))))))))))
    (pss_cons (ps_setLc (i := 9) (own := [("_law_many", 4)]) (by rfl) sc_law.nd rfl rfl (sw_true rfl rfl rfl (by decide +kernel)) (kPiL K (pe_lst (pa_cons pe_int (pa_cons pe_int pa_nil)))) (blkOk_by (own := [("_law_many", 4)]) (N := N_law) (sc := defScope s_law) (by decide +kernel)) (fun _ _ _ _ _ => (pg_name (i := 4) sc_law.nd rfl (Or.inl rfl))) (fun _ _ _ _ _ => pts_nil) (fun _ _ _ _ _ => (pe_tup (pa_cons pe_int (pa_cons (pe_op (kRepT K) (pe_tup (pa_cons (pe_tup (pa_cons pe_int pa_nil)) pa_nil)) (pv 4)) (pa_cons (pe_op (kRepT K) (pe_tup (pa_cons pe_bl pa_nil)) (pv 4)) pa_nil))))))
    (pss_one (ps_ret (pe_cmpR op_eq (pe_callB (id := "repr") (kRepr K hG hr) (by rfl) T.z_repr (by decide +kernel) (pa_cons (pe_lc (own := [("_law_value", 8)]) rfl sc_law.nd (kPiL K (pv 9)) (blkOk_by (own := [("_law_value", 8)]) (N := N_law) (sc := defScope s_law) (by decide +kernel)) (fun _ _ _ _ _ => (pg_name (i := 8) sc_law.nd rfl (Or.inl rfl))) (fun _ _ _ _ _ => pts_nil) (fun _ _ _ _ _ => (pe_call G_kind_error (hr.mono (by first | decide | omega)) rfl T.m_kind_error T.k_kind_error T.b_kind_error .nil pass0 (pa_cons (pv 8) pa_nil)))) pa_nil)) (pe_callB (id := "repr") (kRepr K hG hr) (by rfl) T.z_repr (by decide +kernel) (pa_cons (pe_lst (pa_cons pe_non (pa_cons pe_str pa_nil))) pa_nil)) (nomark _))))))), ?_⟩
  refine ⟨_, rfl, a, ns, rfl, hS, hl, fun H1 p q _ _ hD s1 => ?_⟩
  dsimp only [gName]
  refine sq (fun σ' H' => ∃ o2 o3 o4 o5 o6 o7 o8 : Option V, σ' = [some (.ref a), some (.ref p), o2, o3, o4, o5, o6, o7, o8, none, none, none]) (fun W hW => ?_) ?_
  · refine ⟨12, rfl, by decide, by decide, ?_⟩
    refine for_range (lo := 0) (n := 12) (fun i σ' H' => ∃ (n : Nat) (o2 o3 o4 o5 o6 o7 o8 : Option V), σ' = [some (.ref a), some (.ref p), o2, o3, o4, o5, o6, o7, o8, none, none, none] ∧ Deck H' p q n ∧ n ≤ 400 * i) ⟨0, none, none, none, none, none, none, none, rfl, hD, Nat.zero_le _⟩ ?_
      (fun σ' H' ⟨_, o2, o3, o4, o5, o6, o7, o8, e, _⟩ => hW _ _ ⟨o2, o3, o4, o5, o6, o7, o8, e⟩)
    rintro i σ' H2 hi ⟨n, o2, o3, o4, o5, o6, o7, o8, rfl, dk, dn⟩
    dsimp only [gName]
    refine ⟨_, rfl, p, q, n, 4, rfl, dk, by omega, by decide, by decide, fun H3 r1 dk3 e3 r10 r11 => ⟨_, _, rfl, rfl, _, rfl, p, q, n + 1, 9, rfl, dk3, by omega, by decide, by decide, fun H4 r2 dk4 e4 r20 r21 => ⟨_, _, rfl, rfl, _, _, rfl, ?_⟩⟩⟩
    obtain ⟨L, hL⟩ : ∃ L, L = 1 + r1 := ⟨_, rfl⟩
    obtain ⟨N, hN⟩ : ∃ N, N = 1 + r2 := ⟨_, rfl⟩
    dsimp only
    rw [← hL, ← hN]
    refine ⟨_, rfl, _, rfl, _, rfl, p, q, n + 2, L, N, rfl, dk4, by omega, by omega, by omega, by omega, by omega, fun H5 n5 vk dkd dk5 n5' e5 tk kd => ?_⟩
    dsimp only [gName]
    have fk := kind_fine kd (by omega) (by omega) (by omega) (by omega)
    refine ⟨_, rfl, _, rfl, _, rfl, p, q, n5, vk, dkd, N, 1700, 3, rfl, dk5, by omega, by omega, by omega, tk, fk, by decide, fun H6 n6 vb db dk6 n6' e6 tb fb => ?_⟩
    dsimp only [gName]
    have tk6 := tk.ext e6
    refine ⟨_, rfl, _, rfl, _, rfl, _, rfl, _, rfl, p, q, n6, vb, db, N, 3700, 6, rfl, dk6, by omega, by omega, by omega, tb, fb, by decide, fun H7 n7 vc dc dk7 n7' e7 tc fc => ?_⟩
    refine ⟨_, rfl, _, rfl, p, q, n7, N, rfl, dk7, by omega, by omega, by omega, fun H8 vo od dk8 e8 to fo => ?_⟩
    have tk8 := (tk6.ext e7).ext e8
    have tb8 := (tb.ext e7).ext e8
    have tc8 := tc.ext e8
    have tr8 : Trk [p, q] H8 := dk8.trk
    obtain ⟨rows, ends, rfl, _, _, _, hends⟩ := kd.is
    have okK : Okd (.tuple [.int L, .tuple rows, .tuple ends]) := fk.more (by decide) (by decide)
    have rowK := fk.row.1
    -- list(kind)
    have lk : ∃ a xs, vk = .ref a ∧ H8 a = some (.tup xs) ∧ TA K [p, q] H8 xs [.int L, .tuple rows, .tuple ends] := by
      cases tk8 with
      | @tup a xs _ na ha t => exact ⟨a, xs, rfl, ha, t⟩
    obtain ⟨ka, kxs, rfl, hka, tkx⟩ := lk
    refine ⟨_, rfl, ka, kxs, rfl, .inr (SqT.of hka), fun l1 hl1 => ?_⟩
    obtain ⟨s9, tr9, tl9, _⟩ := atL (K := K) tr8 tkx hl1
    have dk9 := dk8.same s9
    have tk9 := tk8.same s9
    have tb9 := tb8.same s9
    have tc9 := tc8.same s9
    have to9 := to.same s9
    generalize upd H8 l1 (HO.lst kxs) = H9 at s9 tr9 tl9 dk9 tk9 tb9 tc9 to9 ⊢
    refine ⟨_, rfl, (show 1 ≤ sizeLine by decide), fun t1 ht1 => ?_⟩
    obtain ⟨s10, tr10, tt10, _⟩ := atT (K := K) tr9 (.one (.int 1)) ht1
    generalize upd H9 t1 (HO.tup [V.int 1]) = H10 at s10 tr10 tt10 ⊢
    show rCatA K _ _ _ _
    refine catA tr10 (tk9.same s10) tt10 (show 4 ≤ 100000 by decide) fun u1 H11 s11 tr11 tu1 => ⟨(show 6 ≤ sizeLine by decide), fun v1 hv1 => ?_⟩
    have s911 := s10.trans s11
    obtain ⟨s12, tr12, _, hv12⟩ := atL (K := K) tr11 (.cons (tk9.same s911) (.cons (tb9.same s911) (.cons (tc9.same s911) (.cons (to9.same s911) (.cons (tl9.same s911) (.one tu1)))))) hv1
    have ta12 : TA K [p, q] H11 [.ref ka, vb, vc, vo, .ref l1, u1] _ := .cons (tk9.same s911) (.cons (tb9.same s911) (.cons (tc9.same s911) (.cons (to9.same s911) (.cons (tl9.same s911) (.one tu1)))))
    have ok12 : ∀ d ∈ [PyData.tuple [.int L, .tuple rows, .tuple ends], db, dc, od, .list [.int L, .tuple rows, .tuple ends], .tuple ([.int L, .tuple rows, .tuple ends] ++ [.int 1])], Okd d := by
      intro d hd
      simp only [List.mem_cons, List.not_mem_nil, or_false] at hd
      rcases hd with rfl | rfl | rfl | rfl | rfl | rfl
      · exact okK
      · exact fb.more (by decide) (by decide)
      · exact fc.more (by decide) (by decide)
      · exact fo.more (by decide) (by decide)
      · exact rowK.list.more (by decide) (by decide)
      · exact (rowK.app (FineL.cons ((fine_int (i := 1) (by decide)).more (Nat.le_refl _) (by decide)) FineL.nil)).tup.more (by decide) (by decide)
    have ta13 := ta12.same s12
    have tk12 := (tk9.same s911).same s12
    have dk12 := (dk9.same s911).same s12
    clear ta12 tb9 tc9 to9 tl9 tu1 tk9
    generalize upd H11 v1 (HO.lst [V.ref ka, vb, vc, vo, .ref l1, u1]) = H12 at s12 tr12 hv12 ta13 tk12 dk12 ⊢
    dsimp only [gName]
    have dk12' := dk12
    have hn12 : n7 + 1 ≤ 400 * (i + 1) := by omega
    generalize n7 + 1 = n12 at dk12 hn12
    have held12 : Held K p q a ka n12 6 (some (.int (0 + (i : Int)))) (some vb) o8 L N rows ends [some (.ref a), some (.ref p), some (.int (0 + (i : Int))), some (.int L), some (.int N), some (.ref ka), some vb, some (.ref v1), o8, none, none, none] H12 :=
      ⟨v1, _, _, rfl, dk12, tk12, hv12, tr11.new hv1, ta13, ok12, Nat.le_refl _⟩
    show tSeq _ _ _ [some (.ref a), some (.ref p), some (.int (0 + (i : Int))), some (.int L), some (.int N), some (.ref ka), some vb, some (.ref v1), o8, none, none, none] H12
    revert held12
    generalize ([some (.ref a), some (.ref p), some (.int (0 + (i : Int))), some (.int L), some (.int N), some (.ref ka), some vb, some (.ref v1), o8, none, none, none] : L2.St) = σ12
    intro held12
    refine sq (Held K p q a ka n12 8 (some (.int (0 + (i : Int)))) (some vb) o8 L N rows ends) (fun W1 hW1 => ?_) ?_
    · obtain ⟨l, ys, ds, rfl, dk1, tk1, hl1, nl1, ta1, ok1, len1⟩ := held12
      obtain ⟨ea, exs, ev, re, ha', hx', te⟩ := U.T.get (j := 2) tk1 (show 2 < 3 by decide)
      cases re
      obtain ⟨ia, ixs, rfl, hia, nia, tia⟩ : ∃ ia ixs, ev = .ref ia ∧ H12 ia = some (.tup ixs) ∧ ia ∉ [p, q] ∧ TA K [p, q] H12 ixs ends := by
        cases te with
        | @tup a xs _ na ha t => exact ⟨a, xs, rfl, ha, na, t⟩
      have tr1 := dk1.trk
      refine ⟨_, rfl, _, rfl, (show 1 ≤ sizeLine by decide), fun t1 ht1 => ?_⟩
      obtain ⟨s1, tr2, tt1, _⟩ := atT (K := K) tr1 (.one (.int L)) ht1
      generalize upd H12 t1 (HO.tup [V.int L]) = F1 at s1 tr2 tt1 ⊢
      refine ⟨_, rfl, _, rfl, _, rfl, ?_⟩
      show rSlA K _ _ _ _ _
      refine slA tr2 (tk1.same s1) fun r2 F2 s2 tr3 t2 => ?_
      show rCatA K _ _ _ _
      refine catA tr3 (tt1.same s2) t2 (show 2 ≤ 100000 by decide) fun r3 F3 s3 tr4 t3 => ?_
      have s13 := (s1.trans s2).trans s3
      have hk3 := s13 _ _ ha'
      have hi3 := s13 _ _ hia
      have ti3 := tia.same s13
      have hat : atI exs 2 = some (V.ref ia) := atI_nat (j := 2) hx'
      refine ⟨_, rfl, ka, exs, 2, .ref ia, rfl, rfl, SqT.of hk3, hat, ia, rfl, ⟨_, SqT.of hi3⟩, fun D hD => ?_⟩
      refine lcT (K := K) (M := [p, q]) (N := []) (fun _ _ => True) (fun _ => true) (fun d e => ∃ z : Int, e = .int z ∧ (z = 0 ∨ z = 1)) hi3 nia ti3 (by omega) (by simp) tr4 hD trivial (fun _ _ _ _ => trivial) ?_ ?_
      · intro j x d H' hd td e' _ Ky Kn _ ky
        obtain ⟨b, rfl⟩ := hends d (List.mem_of_getElem? hd)
        cases td
        refine ⟨rfl, yes_ ?_⟩
        refine ⟨_, rfl, .inr ⟨b, rfl, ky rfl H' _ _ (Ext.refl _ _) trivial (.int _) ⟨_, rfl, ?_⟩⟩⟩
        cases b
        · exact .inl rfl
        · exact .inr rfl
      · intro F4 zs es e4 _ hz tz pr
        have s4 := same_ext e4
        have tr5 := tr4.same s4
        have lz := tz.len
        have lp := U.Paired.len pr
        rw [U.filter_all] at lp
        refine ⟨D, zs, rfl, .inl ⟨SqL.of hz, fun r5 h5 => ?_⟩⟩
        obtain ⟨s5, tr6, tr5', _⟩ := atT (K := K) tr5 tz h5
        generalize upd F4 r5 (HO.tup zs) = F5 at s5 tr6 tr5' ⊢
        refine ⟨(show 1 ≤ sizeLine by decide), fun r6 h6 => ?_⟩
        obtain ⟨s6, tr7, t6, _⟩ := atT (K := K) tr6 (.one tr5') h6
        generalize upd F5 r6 (HO.tup [V.ref r5]) = F6 at s6 tr7 t6 ⊢
        have s36 := (s4.trans s5).trans s6
        show rCatA K _ _ _ _
        refine catA tr7 (t3.same s36) t6 (show 3 ≤ 100000 by decide) fun r7 F7 s7 tr8 t7 => ⟨_, rfl, _, rfl, ?_⟩
        have s37 := s36.trans s7
        have s17 := s13.trans s37
        dsimp only [tNoPart]
        refine slA tr8 (tk1.same s17) fun r8 F8 s8 tr9 t8 => ?_
        refine ⟨(show 2 ≤ sizeLine by decide), fun r9 h9 => ?_⟩
        have s18 := s17.trans s8
        obtain ⟨s9, tr10, _, hr9⟩ := atL (K := K) tr9 (.cons (t7.same s8) (.one t8)) h9
        have t9 := TA.cons (t7.same s8) (.one t8)
        have t9' := t9.same s9
        have s19 := s18.trans s9
        generalize upd F8 r9 (HO.lst [r7, r8]) = F9 at s9 tr10 hr9 t9' s19 ⊢
        refine held_cat (c := 2) (dk1.same s19) (tk1.same s19) (s19 _ _ hl1) (ta1.same s19) ok1 len1 hr9 t9' ?_ (Nat.le_refl _) (by omega) fun r10 F10 hh => hW1 _ _ hh
        intro d hd
        have fz : FineL 369 0 es := by
          have h9 : es.length ≤ 9 := by omega
          have hall : ∀ x ∈ es, Fine 40 0 x := paired_all2 (fun a b h => by obtain ⟨z, rfl, hz⟩ := h; exact fine_int (by omega)) pr
          obtain ⟨f1, f2, f3, f4⟩ := fine_all hall
          exact ⟨f1, f2, by omega, f4⟩
        have fL : FineL 41 2 [PyData.int L] := FineL.cons ((fine_int (i := L) (by omega)).more (Nat.le_refl _) (by decide)) FineL.nil
        simp only [List.mem_cons, List.not_mem_nil, or_false] at hd
        rcases hd with rfl | rfl
        · exact ((fL.app (rowK.cut _ _)).app (FineL.cons (fz.tup.more (Nat.le_refl _) (by decide)) FineL.nil)).tup.more (by decide) (by decide)
        · exact (rowK.cut _ _).tup.more (by decide) (by decide)
    clear held12
    rintro σ1 G1 held1
    refine sq (Held K p q a ka n12 15 (some (.int (0 + (i : Int)))) (some vb) o8 L N rows ends) (fun W1 hW1 => ?_) ?_
    · obtain ⟨l, ys, ds, rfl, dk1, tk1, hl1, nl1, ta1, ok1, len1⟩ := held1
      have tr1 := dk1.trk
      refine ⟨_, rfl, 1, rfl, (show 7 ≤ sizeLine by decide), fun t1 ht1 => ?_⟩
      obtain ⟨s1, tr2, _, ht1'⟩ := atL (K := K) tr1 (.cons (.int 0) (.cons (.int 5) (.cons (.bl true) (.cons .non (.cons (.str (Str.ofString "2")) (.cons (.int 4) (.one (.int (-1))))))))) ht1
      have tl1 : TA K [p, q] G1 _ _ := .cons (.int 0) (.cons (.int 5) (.cons (.bl true) (.cons .non (.cons (.str (Str.ofString "2")) (.cons (.int 4) (.one (.int (-1))))))))
      have tl2 := tl1.same s1
      have nt1 := tr1.new ht1
      clear tl1
      generalize upd G1 t1 (HO.lst [V.int 0, .int 5, .bl true, .non, .str (Str.ofString "2"), .int 4, .int (-1)]) = F1 at s1 tr2 ht1' tl2 ⊢
      refine ⟨t1, rfl, ⟨_, SqL.of ht1'⟩, fun D hD => ?_⟩
      refine lcL2 (K := K) (M := [p, q]) (N := []) (fun _ _ => True) (fun _ => true) (fun d e => Okd e) ht1' nt1 tl2 (show 7 ≤ 100000 by decide) (by simp) tr2 hD trivial (fun _ _ _ _ => trivial) ?_ ?_
      · intro j x d F2 hd td e2 _ nD Ky Kn _ ky
        have s2 := same_ext e2
        have tr3 : Trk [D, p, q] F2 := by
          intro b hb
          rcases List.mem_cons.mp hb with rfl | hb
          · exact nD
          · exact tr2.same s2 b hb
        have tk2 := ((tk1.same s1).plus hD).same s2
        have fd : Fine 40 0 d := by
          have hm := List.mem_of_getElem? hd
          simp only [List.mem_cons, List.not_mem_nil, or_false] at hm
          rcases hm with rfl | rfl | rfl | rfl | rfl | rfl | rfl <;> exact fine_of (by decide +kernel)
        refine ⟨rfl, yes_ ?_⟩
        refine ⟨_, rfl, (show 1 ≤ sizeLine by decide), fun t2 ht2 => ?_⟩
        obtain ⟨s3, tr4, tt2, _⟩ := atT (K := K) tr3 (.one td) ht2
        generalize upd F2 t2 (HO.tup [x]) = F3 at s3 tr4 tt2 ⊢
        refine ⟨_, rfl, _, rfl, ?_⟩
        dsimp only [tNoPart]
        refine slA tr4 (tk2.same s3) fun r3 F4 s4 tr5 t3 => ?_
        show rCatA K _ _ _ _
        refine catA tr5 (tt2.same s4) t3 (show 3 ≤ 100000 by decide) fun r4 F5 s5 tr6 t4 => ?_
        refine ky rfl F5 _ _ (Ext.same ((s3.trans s4).trans s5)) trivial t4 ?_
        exact ((FineL.cons (fd.more (Nat.le_refl _) (by decide)) FineL.nil).app (rowK.cut _ _)).tup.more (by decide) (by decide)
      · intro F4 zs es e4 _ hz tz pr
        have s4 := same_ext e4
        have lp := U.Paired.len pr
        rw [U.filter_all] at lp
        have s14 := s1.trans s4
        refine held_cat (c := 7) (dk1.same s14) (tk1.same s14) (s14 _ _ hl1) (ta1.same s14) ok1 len1 hz tz (paired_all2 (G := Okd) (fun a b h => h) pr) (Nat.le_of_eq lp.symm) (by omega) fun r10 F10 hh => hW1 _ _ hh
    clear held1
    rintro σ2 G2 held2
    refine sq (Held K p q a ka n12 18 (some (.int (0 + (i : Int)))) (some vb) o8 L N rows ends) (fun W1 hW1 => ?_) ?_
    · obtain ⟨l, ys, ds, rfl, dk1, tk1, hl1, nl1, ta1, ok1, len1⟩ := held2
      have tr1 := dk1.trk
      refine ⟨_, rfl, _, rfl, L, 4, rfl, rfl, (show (0 : Int) < 4 by decide), 1, _, rfl, rfl, (show 1 ≤ sizeLine by decide), fun t1 ht1 => ?_⟩
      obtain ⟨s1, tr2, tt1, _⟩ := atT (K := K) tr1 (.one (.int (1 + L % 4))) ht1
      generalize upd G2 t1 (HO.tup [V.int (1 + L % 4)]) = F1 at s1 tr2 tt1 ⊢
      refine ⟨_, rfl, _, rfl, ?_⟩
      dsimp only [tNoPart]
      refine slA tr2 (tk1.same s1) fun r2 F2 s2 tr3 t2 => ?_
      show rCatA K _ _ _ _
      refine catA tr3 (tt1.same s2) t2 (show 3 ≤ 100000 by decide) fun r3 F3 s3 tr4 t3 => ⟨_, rfl, _, rfl, ?_⟩
      have s13 := (s1.trans s2).trans s3
      dsimp only [tNoPart]
      refine slA tr4 (tk1.same s13) fun r4 F4 s4 tr5 t4 => ?_
      have s14 := s13.trans s4
      have t3' := t3.same s4
      refine ⟨Nat.zero_le _, fun r5 h5 => ⟨(show 1 ≤ sizeLine by decide), fun r6 h6 => ?_⟩⟩
      obtain ⟨s5, tr6, t5, _⟩ := atT (K := K) (xs := []) (ds := []) tr5 .nil h5
      obtain ⟨s6, tr7, t6, _⟩ := atT (K := K) tr6 (.one t5) h6
      have s46 := s5.trans s6
      generalize upd (upd F4 r5 (HO.tup [])) r6 (HO.tup [V.ref r5]) = F6 at s6 tr7 t6 s46 ⊢
      show rCatA K _ _ _ _
      refine catA tr7 (t4.same s46) t6 (show 2 ≤ 100000 by decide) fun r7 F7 s7 tr8 t7 => ⟨_, rfl, _, rfl, ?_⟩
      have s17 := (s14.trans s46).trans s7
      have t3'' := t3'.same (s46.trans s7)
      dsimp only [tNoPart]
      refine slA tr8 (tk1.same s17) fun r8 F8 s8 tr9 t8 => ?_
      show rCatA K _ _ _ _
      refine catA tr9 (t7.same s8) t8 (show 3 ≤ 100000 by decide) fun r9 F9 s9 tr10 t9 => ⟨_, rfl, Nat.zero_le _, fun r10 h10 => ⟨Nat.zero_le _, fun r11 h11 => ⟨(show 3 ≤ sizeLine by decide), fun r12 h12 => ⟨(show 3 ≤ sizeLine by decide), fun r13 h13 => ?_⟩⟩⟩⟩
      have s19 := (s17.trans s8).trans s9
      have t3x := t3''.same (s8.trans s9)
      obtain ⟨s10, tr11, t10, _⟩ := atT (K := K) (xs := []) (ds := []) tr10 .nil h10
      obtain ⟨s11, tr12, t11, _⟩ := atT (K := K) (xs := []) (ds := []) tr11 .nil h11
      obtain ⟨s12, tr13, t12, _⟩ := atT (K := K) tr12 (.cons (.int L) (.cons (t10.same s11) (.one t11))) h12
      have s912 := (s10.trans s11).trans s12
      have t13 := TA.cons (t3x.same s912) (.cons (t9.same s912) (.one t12))
      obtain ⟨s13', tr14, _, hr13⟩ := atL (K := K) tr13 t13 h13
      have t13' := t13.same s13'
      have s1z := (s19.trans s912).trans s13'
      refine held_cat (c := 3) (dk1.same s1z) (tk1.same s1z) (s1z _ _ hl1) (ta1.same s1z) ok1 len1 hr13 t13' ?_ (Nat.le_refl _) (by omega) fun r14 F14 hh => hW1 _ _ hh
      intro d hd
      have fn : Fine 0 2 (.tuple []) := (FineL.nil (dp := 0)).tup.more (Nat.le_refl _) (by decide)
      simp only [List.mem_cons, List.not_mem_nil, or_false] at hd
      rcases hd with rfl | rfl | rfl
      · exact ((FineL.cons ((fine_int (i := 1 + L % 4) (by omega)).more (Nat.le_refl _) (by decide)) FineL.nil).app (rowK.cut _ _)).tup.more (by decide) (by decide)
      · exact (((rowK.cut _ _).app (FineL.cons fn FineL.nil)).app (rowK.cut _ _)).tup.more (by decide) (by decide)
      · exact (FineL.cons ((fine_int (i := L) (by omega)).more (Nat.le_refl _) (by decide)) (FineL.cons fn (FineL.cons fn FineL.nil))).tup.more (by decide) (by decide)
    clear held2
    rintro σ3 G3 ⟨l, ys, ds, rfl, dk1, tk1, hl1, nl1, ta1, ok1, len1⟩
    have l1' := ta1.len
    refine ⟨_, rfl, l, rfl, ⟨_, SqL.of hl1⟩, ?_⟩
    refine for_list (K := K) (a := l) (xs := ys) (fun j σ' H' => ∃ o8' : Option V, σ' = [some (.ref a), some (.ref p), some (.int (0 + (i : Int))), some (.int L), some (.int N), some (.ref ka), some vb, some (.ref l), o8', none, none, none] ∧ Same G3 H') ⟨o8, rfl, Same.refl _⟩ ?_ ?_ ?_
    · rintro j σ' H' _ ⟨_, _, s⟩
      exact SqL.of (s _ _ hl1)
    · rintro j x σ' H' hx ⟨o8', rfl, s⟩
      obtain ⟨d, hd, td⟩ := ta1.get hx
      dsimp only [gName]
      refine ⟨_, rfl, x, _, d, rfl, td.same s, (ok1 d (List.mem_of_getElem? hd)).more (by decide) (by decide), fun H' s' => ?_⟩
      exact ⟨true, rfl, if_f rfl ⟨some x, rfl, s.trans s'⟩⟩
    · rintro σ' H' ⟨o8', rfl, s⟩
      exact ⟨n12, _, _, _, _, _, _, _, rfl, dk1.same s, hn12⟩
  rintro σ' H' ⟨o2, o3, o4, o5, o6, o7, o8, rfl⟩
  refine ⟨(show 2 ≤ sizeLine by decide), fun t1 ht1 => ?_⟩
  obtain ⟨_, _, _, hl1⟩ := atL (K := K) (M := []) (H := H') (by intro b hb; cases hb) (.cons (.int 8) (.one (.int 9))) ht1
  have tl1 : TA K [] (upd H' t1 (HO.lst [V.int 8, .int 9])) [V.int 8, .int 9] _ := .cons (.int 8) (.one (.int 9))
  generalize upd H' t1 (HO.lst [V.int 8, .int 9]) = F1 at hl1 tl1 ⊢
  refine ⟨t1, rfl, ⟨_, SqL.of hl1⟩, fun D hD => ?_⟩
  refine lcL2 (K := K) (M := []) (N := []) (fun _ _ => True) (fun _ => true) (fun d e => (d = .int 8 ∧ e = nineD 8) ∨ (d = .int 9 ∧ e = nineD 9)) hl1 (by simp) tl1 (show 2 ≤ 100000 by decide) (by simp) (by intro b hb; cases hb) hD trivial (fun _ _ _ _ => trivial) ?_ ?_
  · intro j x d F2 hd td e2 _ nD Ky Kn _ ky
    have tr3 : Trk [D] F2 := by
      intro b hb
      rcases List.mem_cons.mp hb with rfl | hb
      · exact nD
      · cases hb
    obtain ⟨m, rfl, hm⟩ : ∃ m : Nat, d = .int (m : Int) ∧ (m = 8 ∨ m = 9) := by
      have h := List.mem_of_getElem? hd
      simp only [List.mem_cons, List.not_mem_nil, or_false] at h
      rcases h with rfl | rfl
      · exact ⟨8, rfl, .inl rfl⟩
      · exact ⟨9, rfl, .inr rfl⟩
    cases td
    refine ⟨rfl, yes_ ?_⟩
    refine ⟨(show 1 ≤ sizeLine by decide), fun a1 h1 => ⟨(show 1 ≤ sizeLine by decide), fun a2 h2 => ?_⟩⟩
    obtain ⟨s1, tr4, q1, _⟩ := atT (K := K) tr3 (.one (.int 0)) h1
    obtain ⟨s2, tr5, _, g2⟩ := atT (K := K) tr4 (.one q1) h2
    have q2 := q1.same s2
    generalize upd (upd F2 a1 (HO.tup [V.int 0])) a2 (HO.tup [V.ref a1]) = F3 at s2 tr5 g2 q2 ⊢
    have s12 := s1.trans s2
    refine ⟨_, rfl, a2, (m : Int), _, rfl, rfl, SqT.of g2, (by simp), by omega, by omega, (show 1 ≤ 1000 by decide), fun a3 h3 => ?_⟩
    obtain ⟨s3, tr6, q3, _⟩ := atT (K := K) tr5 (ta_rep q2 m) h3
    have em : (m : Int).toNat = m := Int.toNat_natCast m
    rw [em]
    generalize upd F3 a3 _ = F4 at s3 tr6 q3 ⊢
    refine ⟨(show 1 ≤ sizeLine by decide), fun a4 h4 => ?_⟩
    obtain ⟨s4, tr7, _, g4⟩ := atT (K := K) tr6 (.one (.bl true)) h4
    have q4 := q3.same s4
    generalize upd F4 a4 _ = F5 at s4 tr7 q4 g4 ⊢
    refine ⟨_, rfl, a4, (m : Int), _, rfl, rfl, SqT.of g4, (by simp), by omega, by omega, (show 1 ≤ 1000 by decide), fun a5 h5 => ⟨(show 3 ≤ sizeLine by decide), fun a6 h6 => ?_⟩⟩
    rw [em] at h6 ⊢
    obtain ⟨s5, tr8, q5, _⟩ := atT (K := K) tr7 (ta_rep (.bl true) m) h5
    obtain ⟨s6, tr9, q6, _⟩ := atT (K := K) tr8 (.cons (.int 1) (.cons (q4.same s5) (.one q5))) h6
    refine ky rfl _ _ _ (Ext.same ((((s12.trans s3).trans s4).trans s5).trans s6)) trivial q6 ?_
    rcases hm with rfl | rfl
    · exact .inl ⟨rfl, rfl⟩
    · exact .inr ⟨rfl, rfl⟩
  · intro F2 zs es e2 _ hz tz pr
    rw [U.filter_all] at pr
    have ee : es = [nineD 8, nineD 9] := by
      cases pr with
      | cons a b =>
        cases b with
        | cons c d =>
          cases d
          rcases a with ⟨_, rfl⟩ | ⟨h, _⟩
          · rcases c with ⟨h, _⟩ | ⟨_, rfl⟩
            · cases h
            · rfl
          · cases h
    subst ee
    clear pr
    dsimp only [gName]
    refine ⟨_, rfl, D, rfl, ⟨_, SqL.of hz⟩, fun D2 hD2 => ?_⟩
    refine lcL2 (K := K) (M := []) (N := []) (fun _ _ => True) (fun _ => true) (fun d e => (d = nineD 8 ∧ e = .none) ∨ (d = nineD 9 ∧ e = .str (Str.ofString "rows"))) hz (by simp) tz (show 2 ≤ 100000 by decide) (by simp) (by intro b hb; cases hb) hD2 trivial (fun _ _ _ _ => trivial) ?_ ?_
    · intro j x d F3 hd td e3 _ nD Ky Kn _ ky
      refine ⟨rfl, yes_ ?_⟩
      have h := List.mem_of_getElem? hd
      simp only [List.mem_cons, List.not_mem_nil, or_false] at h
      rcases h with rfl | rfl
      · refine ⟨_, rfl, x, _, nineD 8, rfl, td, (by decide +kernel), fun F4 s4 => ?_⟩
        rw [show kerr (nineD 8) = V.non by rfl]
        exact ky rfl F4 _ _ (Ext.same s4) trivial .non (.inl ⟨rfl, rfl⟩)
      · refine ⟨_, rfl, x, _, nineD 9, rfl, td, (by decide +kernel), fun F4 s4 => ?_⟩
        rw [show kerr (nineD 9) = V.str (Str.ofString "rows") by rfl]
        exact ky rfl F4 _ _ (Ext.same s4) trivial (.str _) (.inr ⟨rfl, rfl⟩)
    · intro F3 ys2 es2 e3 _ hy2 ty2 pr2
      rw [U.filter_all] at pr2
      have ee : es2 = [.none, .str (Str.ofString "rows")] := by
        cases pr2 with
        | cons a b =>
          cases b with
          | cons c d =>
            cases d
            rcases a with ⟨_, rfl⟩ | ⟨h, _⟩
            · rcases c with ⟨h, _⟩ | ⟨_, rfl⟩
              · exact absurd h nine_ne.symm
              · rfl
            · exact absurd h nine_ne
      subst ee
      clear pr2
      have sh : Shown (.list [.none, .str (Str.ofString "rows")]) := (fine_of (w := 100) (dp := 2) (by decide +kernel)).shown (by decide) (by decide)
      refine ⟨.ref D2, [], _, rfl, .lst (by simp) hy2 ty2, sh, (show 2 ≤ sizeLine by decide), fun u hu => ?_⟩
      obtain ⟨_, _, q3, _⟩ := atL (K := K) (M := []) (H := F3) (by intro b hb; cases hb) (.cons .non (.one (.str (Str.ofString "rows")))) hu
      refine ⟨.ref u, [], _, rfl, q3, sh, ?_⟩
      generalize (PyData.list [PyData.none, PyData.str (Str.ofString "rows")]).shown = sx
      have z : decide (V.str sx = V.str sx) = true := decide_eq_true rfl
      refine ⟨rfl, ?_⟩
      show Q (.bl (decide (V.str sx = V.str sx))) _
      rw [z]
      exact k _
end
abbrev sp_law (K : PySem.W.Frag) : Sp := spLaw K
theorem sp_law_end {K : PySem.W.Frag} {H : Hp} {a : Addr} {ns : List Int} (hl : ns.length ≤ 63) (hS : SqL K H a (ns.map V.int)) : sp_law K [.ref a] H (fun v _ => v = .bl true) E0 := ⟨a, ns, rfl, hS, hl, fun _ => rfl⟩

theorem all_mk {l : PySem.W.OpenLaw} {w : World} {K : PySem.W.Frag} {h : Heap} {mg : Str → Option Value} {fa : Addr} (X : K.In h) (G : h.Ns mainGlobals mg) (hfa : mg "law" = some (.ref fa))
    {f__law_deck : Addr} {od__law_deck an__law_deck : Option Addr} {sl__law_deck : Array (Option Value)} {oc__law_deck kV__law_deck dc__law_deck pm__law_deck cd__law_deck ct__law_deck : Value}
    {f__law_draw : Addr} {od__law_draw an__law_draw : Option Addr} {sl__law_draw : Array (Option Value)} {oc__law_draw kV__law_draw dc__law_draw pm__law_draw cd__law_draw ct__law_draw : Value}
    {f__law_one : Addr} {od__law_one an__law_one : Option Addr} {sl__law_one : Array (Option Value)} {oc__law_one kV__law_one dc__law_one pm__law_one cd__law_one ct__law_one : Value}
    {f_is_integer : Addr} {od_is_integer an_is_integer : Option Addr} {sl_is_integer : Array (Option Value)} {oc_is_integer kV_is_integer dc_is_integer pm_is_integer cd_is_integer ct_is_integer : Value}
    {f_is_number : Addr} {od_is_number an_is_number : Option Addr} {sl_is_number : Array (Option Value)} {oc_is_number kV_is_number dc_is_number pm_is_number cd_is_number ct_is_number : Value}
    {f_kind_error : Addr} {od_kind_error an_kind_error : Option Addr} {sl_kind_error : Array (Option Value)} {oc_kind_error kV_kind_error dc_kind_error pm_kind_error cd_kind_error ct_kind_error : Value}
    {f__are_rows : Addr} {od__are_rows an__are_rows : Option Addr} {sl__are_rows : Array (Option Value)} {oc__are_rows kV__are_rows dc__are_rows pm__are_rows cd__are_rows ct__are_rows : Value}
    {f__is_row : Addr} {od__is_row an__is_row : Option Addr} {sl__is_row : Array (Option Value)} {oc__is_row kV__is_row dc__is_row pm__is_row cd__is_row ct__is_row : Value}
    {f__are_ends : Addr} {od__are_ends an__are_ends : Option Addr} {sl__are_ends : Array (Option Value)} {oc__are_ends kV__are_ends dc__are_ends pm__are_ends cd__are_ends ct__are_ends : Value}
    {f__law_kind : Addr} {od__law_kind an__law_kind : Option Addr} {sl__law_kind : Array (Option Value)} {oc__law_kind kV__law_kind dc__law_kind pm__law_kind cd__law_kind ct__law_kind : Value}
    {f__law_whole : Addr} {od__law_whole an__law_whole : Option Addr} {sl__law_whole : Array (Option Value)} {oc__law_whole kV__law_whole dc__law_whole pm__law_whole cd__law_whole ct__law_whole : Value}
    {f__law_are_rows : Addr} {od__law_are_rows an__law_are_rows : Option Addr} {sl__law_are_rows : Array (Option Value)} {oc__law_are_rows kV__law_are_rows dc__law_are_rows pm__law_are_rows cd__law_are_rows ct__law_are_rows : Value}
    {f__law_error : Addr} {od__law_error an__law_error : Option Addr} {sl__law_error : Array (Option Value)} {oc__law_error kV__law_error dc__law_error pm__law_error cd__law_error ct__law_error : Value}
    {f__law_odd : Addr} {od__law_odd an__law_odd : Option Addr} {sl__law_odd : Array (Option Value)} {oc__law_odd kV__law_odd dc__law_odd pm__law_odd cd__law_odd ct__law_odd : Value}
    {f__law_bent : Addr} {od__law_bent an__law_bent : Option Addr} {sl__law_bent : Array (Option Value)} {oc__law_bent kV__law_bent dc__law_bent pm__law_bent cd__law_bent ct__law_bent : Value}
    {f__law_right : Addr} {od__law_right an__law_right : Option Addr} {sl__law_right : Array (Option Value)} {oc__law_right kV__law_right dc__law_right pm__law_right cd__law_right ct__law_right : Value}
    {f_law : Addr} {od_law an_law : Option Addr} {sl_law : Array (Option Value)} {oc_law kV_law dc_law pm_law cd_law ct_law : Value}
    (a__law_deck : PySem.W.nsIn K mainGlobals "_law_deck" = some (some (.ref f__law_deck))) (l__law_deck : K.lookup f__law_deck = some ⟨oc__law_deck, od__law_deck, .func (PySem.W.fnOf "_law_deck" "_law_deck" (defArgs s__law_deck) (defBody s__law_deck) (defScope s__law_deck) .none kV__law_deck dc__law_deck pm__law_deck an__law_deck cd__law_deck ct__law_deck), sl__law_deck⟩) (e__law_deck : PySem.W.codeIn K cd__law_deck "_law_deck" = true) (k__law_deck : PySem.W.keepIn K (.ref f__law_deck) = true)
    (a__law_draw : PySem.W.nsIn K mainGlobals "_law_draw" = some (some (.ref f__law_draw))) (l__law_draw : K.lookup f__law_draw = some ⟨oc__law_draw, od__law_draw, .func (PySem.W.fnOf "_law_draw" "_law_draw" (defArgs s__law_draw) (defBody s__law_draw) (defScope s__law_draw) .none kV__law_draw dc__law_draw pm__law_draw an__law_draw cd__law_draw ct__law_draw), sl__law_draw⟩) (e__law_draw : PySem.W.codeIn K cd__law_draw "_law_draw" = true) (k__law_draw : PySem.W.keepIn K (.ref f__law_draw) = true)
    (a__law_one : PySem.W.nsIn K mainGlobals "_law_one" = some (some (.ref f__law_one))) (l__law_one : K.lookup f__law_one = some ⟨oc__law_one, od__law_one, .func (PySem.W.fnOf "_law_one" "_law_one" (defArgs s__law_one) (defBody s__law_one) (defScope s__law_one) .none kV__law_one dc__law_one pm__law_one an__law_one cd__law_one ct__law_one), sl__law_one⟩) (e__law_one : PySem.W.codeIn K cd__law_one "_law_one" = true) (k__law_one : PySem.W.keepIn K (.ref f__law_one) = true)
    (a_is_integer : PySem.W.nsIn K mainGlobals "is_integer" = some (some (.ref f_is_integer))) (l_is_integer : K.lookup f_is_integer = some ⟨oc_is_integer, od_is_integer, .func (PySem.W.fnOf "is_integer" "is_integer" (defArgs s_is_integer) (defBody s_is_integer) (defScope s_is_integer) .none kV_is_integer dc_is_integer pm_is_integer an_is_integer cd_is_integer ct_is_integer), sl_is_integer⟩) (e_is_integer : PySem.W.codeIn K cd_is_integer "is_integer" = true) (k_is_integer : PySem.W.keepIn K (.ref f_is_integer) = true)
    (a_is_number : PySem.W.nsIn K mainGlobals "is_number" = some (some (.ref f_is_number))) (l_is_number : K.lookup f_is_number = some ⟨oc_is_number, od_is_number, .func (PySem.W.fnOf "is_number" "is_number" (defArgs s_is_number) (defBody s_is_number) (defScope s_is_number) .none kV_is_number dc_is_number pm_is_number an_is_number cd_is_number ct_is_number), sl_is_number⟩) (e_is_number : PySem.W.codeIn K cd_is_number "is_number" = true) (k_is_number : PySem.W.keepIn K (.ref f_is_number) = true)
    (a_kind_error : PySem.W.nsIn K mainGlobals "kind_error" = some (some (.ref f_kind_error))) (l_kind_error : K.lookup f_kind_error = some ⟨oc_kind_error, od_kind_error, .func (PySem.W.fnOf "kind_error" "kind_error" (defArgs s_kind_error) (defBody s_kind_error) (defScope s_kind_error) .none kV_kind_error dc_kind_error pm_kind_error an_kind_error cd_kind_error ct_kind_error), sl_kind_error⟩) (e_kind_error : PySem.W.codeIn K cd_kind_error "kind_error" = true) (k_kind_error : PySem.W.keepIn K (.ref f_kind_error) = true)
    (a__are_rows : PySem.W.nsIn K mainGlobals "_are_rows" = some (some (.ref f__are_rows))) (l__are_rows : K.lookup f__are_rows = some ⟨oc__are_rows, od__are_rows, .func (PySem.W.fnOf "_are_rows" "_are_rows" (defArgs s__are_rows) (defBody s__are_rows) (defScope s__are_rows) .none kV__are_rows dc__are_rows pm__are_rows an__are_rows cd__are_rows ct__are_rows), sl__are_rows⟩) (e__are_rows : PySem.W.codeIn K cd__are_rows "_are_rows" = true) (k__are_rows : PySem.W.keepIn K (.ref f__are_rows) = true)
    (a__is_row : PySem.W.nsIn K mainGlobals "_is_row" = some (some (.ref f__is_row))) (l__is_row : K.lookup f__is_row = some ⟨oc__is_row, od__is_row, .func (PySem.W.fnOf "_is_row" "_is_row" (defArgs s__is_row) (defBody s__is_row) (defScope s__is_row) .none kV__is_row dc__is_row pm__is_row an__is_row cd__is_row ct__is_row), sl__is_row⟩) (e__is_row : PySem.W.codeIn K cd__is_row "_is_row" = true) (k__is_row : PySem.W.keepIn K (.ref f__is_row) = true)
    (a__are_ends : PySem.W.nsIn K mainGlobals "_are_ends" = some (some (.ref f__are_ends))) (l__are_ends : K.lookup f__are_ends = some ⟨oc__are_ends, od__are_ends, .func (PySem.W.fnOf "_are_ends" "_are_ends" (defArgs s__are_ends) (defBody s__are_ends) (defScope s__are_ends) .none kV__are_ends dc__are_ends pm__are_ends an__are_ends cd__are_ends ct__are_ends), sl__are_ends⟩) (e__are_ends : PySem.W.codeIn K cd__are_ends "_are_ends" = true) (k__are_ends : PySem.W.keepIn K (.ref f__are_ends) = true)
    (a__law_kind : PySem.W.nsIn K mainGlobals "_law_kind" = some (some (.ref f__law_kind))) (l__law_kind : K.lookup f__law_kind = some ⟨oc__law_kind, od__law_kind, .func (PySem.W.fnOf "_law_kind" "_law_kind" (defArgs s__law_kind) (defBody s__law_kind) (defScope s__law_kind) .none kV__law_kind dc__law_kind pm__law_kind an__law_kind cd__law_kind ct__law_kind), sl__law_kind⟩) (e__law_kind : PySem.W.codeIn K cd__law_kind "_law_kind" = true) (k__law_kind : PySem.W.keepIn K (.ref f__law_kind) = true)
    (a__law_whole : PySem.W.nsIn K mainGlobals "_law_whole" = some (some (.ref f__law_whole))) (l__law_whole : K.lookup f__law_whole = some ⟨oc__law_whole, od__law_whole, .func (PySem.W.fnOf "_law_whole" "_law_whole" (defArgs s__law_whole) (defBody s__law_whole) (defScope s__law_whole) .none kV__law_whole dc__law_whole pm__law_whole an__law_whole cd__law_whole ct__law_whole), sl__law_whole⟩) (e__law_whole : PySem.W.codeIn K cd__law_whole "_law_whole" = true) (k__law_whole : PySem.W.keepIn K (.ref f__law_whole) = true)
    (a__law_are_rows : PySem.W.nsIn K mainGlobals "_law_are_rows" = some (some (.ref f__law_are_rows))) (l__law_are_rows : K.lookup f__law_are_rows = some ⟨oc__law_are_rows, od__law_are_rows, .func (PySem.W.fnOf "_law_are_rows" "_law_are_rows" (defArgs s__law_are_rows) (defBody s__law_are_rows) (defScope s__law_are_rows) .none kV__law_are_rows dc__law_are_rows pm__law_are_rows an__law_are_rows cd__law_are_rows ct__law_are_rows), sl__law_are_rows⟩) (e__law_are_rows : PySem.W.codeIn K cd__law_are_rows "_law_are_rows" = true) (k__law_are_rows : PySem.W.keepIn K (.ref f__law_are_rows) = true)
    (a__law_error : PySem.W.nsIn K mainGlobals "_law_error" = some (some (.ref f__law_error))) (l__law_error : K.lookup f__law_error = some ⟨oc__law_error, od__law_error, .func (PySem.W.fnOf "_law_error" "_law_error" (defArgs s__law_error) (defBody s__law_error) (defScope s__law_error) .none kV__law_error dc__law_error pm__law_error an__law_error cd__law_error ct__law_error), sl__law_error⟩) (e__law_error : PySem.W.codeIn K cd__law_error "_law_error" = true) (k__law_error : PySem.W.keepIn K (.ref f__law_error) = true)
    (a__law_odd : PySem.W.nsIn K mainGlobals "_law_odd" = some (some (.ref f__law_odd))) (l__law_odd : K.lookup f__law_odd = some ⟨oc__law_odd, od__law_odd, .func (PySem.W.fnOf "_law_odd" "_law_odd" (defArgs s__law_odd) (defBody s__law_odd) (defScope s__law_odd) .none kV__law_odd dc__law_odd pm__law_odd an__law_odd cd__law_odd ct__law_odd), sl__law_odd⟩) (e__law_odd : PySem.W.codeIn K cd__law_odd "_law_odd" = true) (k__law_odd : PySem.W.keepIn K (.ref f__law_odd) = true)
    (a__law_bent : PySem.W.nsIn K mainGlobals "_law_bent" = some (some (.ref f__law_bent))) (l__law_bent : K.lookup f__law_bent = some ⟨oc__law_bent, od__law_bent, .func (PySem.W.fnOf "_law_bent" "_law_bent" (defArgs s__law_bent) (defBody s__law_bent) (defScope s__law_bent) .none kV__law_bent dc__law_bent pm__law_bent an__law_bent cd__law_bent ct__law_bent), sl__law_bent⟩) (e__law_bent : PySem.W.codeIn K cd__law_bent "_law_bent" = true) (k__law_bent : PySem.W.keepIn K (.ref f__law_bent) = true)
    (a__law_right : PySem.W.nsIn K mainGlobals "_law_right" = some (some (.ref f__law_right))) (l__law_right : K.lookup f__law_right = some ⟨oc__law_right, od__law_right, .func (PySem.W.fnOf "_law_right" "_law_right" (defArgs s__law_right) (defBody s__law_right) (defScope s__law_right) .none kV__law_right dc__law_right pm__law_right an__law_right cd__law_right ct__law_right), sl__law_right⟩) (e__law_right : PySem.W.codeIn K cd__law_right "_law_right" = true) (k__law_right : PySem.W.keepIn K (.ref f__law_right) = true)
    (a_law : PySem.W.nsIn K mainGlobals "law" = some (some (.ref f_law))) (l_law : K.lookup f_law = some ⟨oc_law, od_law, .func (PySem.W.fnOf "law" "law" (defArgs s_law) (defBody s_law) (defScope s_law) .none kV_law dc_law pm_law an_law cd_law ct_law), sl_law⟩) (e_law : PySem.W.codeIn K cd_law "law" = true) (k_law : PySem.W.keepIn K (.ref f_law) = true)
    (z_abs : PySem.W.nsIn K mainGlobals "abs" = some none)
    (z_all : PySem.W.nsIn K mainGlobals "all" = some none)
    (z_bool : PySem.W.nsIn K mainGlobals "bool" = some none)
    (z_int : PySem.W.nsIn K mainGlobals "int" = some none)
    (z_isinstance : PySem.W.nsIn K mainGlobals "isinstance" = some none)
    (z_len : PySem.W.nsIn K mainGlobals "len" = some none)
    (z_list : PySem.W.nsIn K mainGlobals "list" = some none)
    (z_range : PySem.W.nsIn K mainGlobals "range" = some none)
    (z_repr : PySem.W.nsIn K mainGlobals "repr" = some none)
    (z_tuple : PySem.W.nsIn K mainGlobals "tuple" = some none)
    {t_MAX_LETTERS : Tok} (c_MAX_LETTERS : PySem.W.nsIn K mainGlobals "MAX_LETTERS" = some (some (.int 4 t_MAX_LETTERS)))
    {t_MAX_STATES : Tok} (c_MAX_STATES : PySem.W.nsIn K mainGlobals "MAX_STATES" = some (some (.int 8 t_MAX_STATES)))
    : ∃ fd : FuncData, (∀ (s : Shared) (v : Value), BindsTo s fd ⟨[v], []⟩ [("_law_script", v)]) ∧ ∀ base : Heap, K.In base → base.Ns mainGlobals mg → FnG l.prog w K mg base 8 fa fd ["_law_script"] (sp_law K) := by
  have e := (PySem.W.mg_of X G a_law).symm.trans hfa
  have e2 : f_law = fa := by injection e with e; injection e
  subst e2
  have F__law_deck := fun_mk (st := s__law_deck) l__law_deck e__law_deck k__law_deck
  have b__law_deck := F__law_deck.binds (ps := ["_law_script"]) fun _ _ _ _ _ _ us hl => match us, hl with | [_], _ => rfl
  have F__law_draw := fun_mk (st := s__law_draw) l__law_draw e__law_draw k__law_draw
  have b__law_draw := F__law_draw.binds (ps := ["_law_deck_here", "_law_many"]) fun _ _ _ _ _ _ us hl => match us, hl with | [_, _], _ => rfl
  have F__law_one := fun_mk (st := s__law_one) l__law_one e__law_one k__law_one
  have b__law_one := F__law_one.binds (ps := ["_law_deck_here", "_law_items"]) fun _ _ _ _ _ _ us hl => match us, hl with | [_, _], _ => rfl
  have F_is_integer := fun_mk (st := s_is_integer) l_is_integer e_is_integer k_is_integer
  have b_is_integer := F_is_integer.binds (ps := ["value"]) fun _ _ _ _ _ _ us hl => match us, hl with | [_], _ => rfl
  have F_is_number := fun_mk (st := s_is_number) l_is_number e_is_number k_is_number
  have b_is_number := F_is_number.binds (ps := ["value", "least", "most"]) fun _ _ _ _ _ _ us hl => match us, hl with | [_, _, _], _ => rfl
  have F_kind_error := fun_mk (st := s_kind_error) l_kind_error e_kind_error k_kind_error
  have b_kind_error := F_kind_error.binds (ps := ["value"]) fun _ _ _ _ _ _ us hl => match us, hl with | [_], _ => rfl
  have F__are_rows := fun_mk (st := s__are_rows) l__are_rows e__are_rows k__are_rows
  have b__are_rows := F__are_rows.binds (ps := ["value", "letters"]) fun _ _ _ _ _ _ us hl => match us, hl with | [_, _], _ => rfl
  have F__is_row := fun_mk (st := s__is_row) l__is_row e__is_row k__is_row
  have b__is_row := F__is_row.binds (ps := ["value", "letters", "states"]) fun _ _ _ _ _ _ us hl => match us, hl with | [_, _, _], _ => rfl
  have F__are_ends := fun_mk (st := s__are_ends) l__are_ends e__are_ends k__are_ends
  have b__are_ends := F__are_ends.binds (ps := ["value", "states"]) fun _ _ _ _ _ _ us hl => match us, hl with | [_, _], _ => rfl
  have F__law_kind := fun_mk (st := s__law_kind) l__law_kind e__law_kind k__law_kind
  have b__law_kind := F__law_kind.binds (ps := ["_law_deck_here", "_law_letters", "_law_many"]) fun _ _ _ _ _ _ us hl => match us, hl with | [_, _, _], _ => rfl
  have F__law_whole := fun_mk (st := s__law_whole) l__law_whole e__law_whole k__law_whole
  have b__law_whole := F__law_whole.binds (ps := ["_law_value", "_law_least", "_law_most"]) fun _ _ _ _ _ _ us hl => match us, hl with | [_, _, _], _ => rfl
  have F__law_are_rows := fun_mk (st := s__law_are_rows) l__law_are_rows e__law_are_rows k__law_are_rows
  have b__law_are_rows := F__law_are_rows.binds (ps := ["_law_value", "_law_letters"]) fun _ _ _ _ _ _ us hl => match us, hl with | [_, _], _ => rfl
  have F__law_error := fun_mk (st := s__law_error) l__law_error e__law_error k__law_error
  have b__law_error := F__law_error.binds (ps := ["_law_value"]) fun _ _ _ _ _ _ us hl => match us, hl with | [_], _ => rfl
  have F__law_odd := fun_mk (st := s__law_odd) l__law_odd e__law_odd k__law_odd
  have b__law_odd := F__law_odd.binds (ps := ["_law_deck_here", "_law_many"]) fun _ _ _ _ _ _ us hl => match us, hl with | [_, _], _ => rfl
  have F__law_bent := fun_mk (st := s__law_bent) l__law_bent e__law_bent k__law_bent
  have b__law_bent := F__law_bent.binds (ps := ["_law_deck_here", "_law_value", "_law_many", "_law_deep"]) fun _ _ _ _ _ _ us hl => match us, hl with | [_, _, _, _], _ => rfl
  have F__law_right := fun_mk (st := s__law_right) l__law_right e__law_right k__law_right
  have b__law_right := F__law_right.binds (ps := ["_law_value"]) fun _ _ _ _ _ _ us hl => match us, hl with | [_], _ => rfl
  have F_law := fun_mk (st := s_law) l_law e_law k_law
  have b_law := F_law.binds (ps := ["_law_script"]) fun _ _ _ _ _ _ us hl => match us, hl with | [_], _ => rfl
  have T : Txt K mg ⟨f__law_deck, PySem.W.fnOf "_law_deck" "_law_deck" (defArgs s__law_deck) (defBody s__law_deck) (defScope s__law_deck) .none kV__law_deck dc__law_deck pm__law_deck an__law_deck cd__law_deck ct__law_deck, f__law_draw, PySem.W.fnOf "_law_draw" "_law_draw" (defArgs s__law_draw) (defBody s__law_draw) (defScope s__law_draw) .none kV__law_draw dc__law_draw pm__law_draw an__law_draw cd__law_draw ct__law_draw, f__law_one, PySem.W.fnOf "_law_one" "_law_one" (defArgs s__law_one) (defBody s__law_one) (defScope s__law_one) .none kV__law_one dc__law_one pm__law_one an__law_one cd__law_one ct__law_one, f_is_integer, PySem.W.fnOf "is_integer" "is_integer" (defArgs s_is_integer) (defBody s_is_integer) (defScope s_is_integer) .none kV_is_integer dc_is_integer pm_is_integer an_is_integer cd_is_integer ct_is_integer, f_is_number, PySem.W.fnOf "is_number" "is_number" (defArgs s_is_number) (defBody s_is_number) (defScope s_is_number) .none kV_is_number dc_is_number pm_is_number an_is_number cd_is_number ct_is_number, f_kind_error, PySem.W.fnOf "kind_error" "kind_error" (defArgs s_kind_error) (defBody s_kind_error) (defScope s_kind_error) .none kV_kind_error dc_kind_error pm_kind_error an_kind_error cd_kind_error ct_kind_error, f__are_rows, PySem.W.fnOf "_are_rows" "_are_rows" (defArgs s__are_rows) (defBody s__are_rows) (defScope s__are_rows) .none kV__are_rows dc__are_rows pm__are_rows an__are_rows cd__are_rows ct__are_rows, f__is_row, PySem.W.fnOf "_is_row" "_is_row" (defArgs s__is_row) (defBody s__is_row) (defScope s__is_row) .none kV__is_row dc__is_row pm__is_row an__is_row cd__is_row ct__is_row, f__are_ends, PySem.W.fnOf "_are_ends" "_are_ends" (defArgs s__are_ends) (defBody s__are_ends) (defScope s__are_ends) .none kV__are_ends dc__are_ends pm__are_ends an__are_ends cd__are_ends ct__are_ends, f__law_kind, PySem.W.fnOf "_law_kind" "_law_kind" (defArgs s__law_kind) (defBody s__law_kind) (defScope s__law_kind) .none kV__law_kind dc__law_kind pm__law_kind an__law_kind cd__law_kind ct__law_kind, f__law_whole, PySem.W.fnOf "_law_whole" "_law_whole" (defArgs s__law_whole) (defBody s__law_whole) (defScope s__law_whole) .none kV__law_whole dc__law_whole pm__law_whole an__law_whole cd__law_whole ct__law_whole, f__law_are_rows, PySem.W.fnOf "_law_are_rows" "_law_are_rows" (defArgs s__law_are_rows) (defBody s__law_are_rows) (defScope s__law_are_rows) .none kV__law_are_rows dc__law_are_rows pm__law_are_rows an__law_are_rows cd__law_are_rows ct__law_are_rows, f__law_error, PySem.W.fnOf "_law_error" "_law_error" (defArgs s__law_error) (defBody s__law_error) (defScope s__law_error) .none kV__law_error dc__law_error pm__law_error an__law_error cd__law_error ct__law_error, f__law_odd, PySem.W.fnOf "_law_odd" "_law_odd" (defArgs s__law_odd) (defBody s__law_odd) (defScope s__law_odd) .none kV__law_odd dc__law_odd pm__law_odd an__law_odd cd__law_odd ct__law_odd, f__law_bent, PySem.W.fnOf "_law_bent" "_law_bent" (defArgs s__law_bent) (defBody s__law_bent) (defScope s__law_bent) .none kV__law_bent dc__law_bent pm__law_bent an__law_bent cd__law_bent ct__law_bent, f__law_right, PySem.W.fnOf "_law_right" "_law_right" (defArgs s__law_right) (defBody s__law_right) (defScope s__law_right) .none kV__law_right dc__law_right pm__law_right an__law_right cd__law_right ct__law_right, f_law, PySem.W.fnOf "law" "law" (defArgs s_law) (defBody s_law) (defScope s_law) .none kV_law dc_law pm_law an_law cd_law ct_law⟩ := ⟨F__law_deck, PySem.W.mg_of X G a__law_deck, k__law_deck, b__law_deck, F__law_draw, PySem.W.mg_of X G a__law_draw, k__law_draw, b__law_draw, F__law_one, PySem.W.mg_of X G a__law_one, k__law_one, b__law_one, F_is_integer, PySem.W.mg_of X G a_is_integer, k_is_integer, b_is_integer, F_is_number, PySem.W.mg_of X G a_is_number, k_is_number, b_is_number, F_kind_error, PySem.W.mg_of X G a_kind_error, k_kind_error, b_kind_error, F__are_rows, PySem.W.mg_of X G a__are_rows, k__are_rows, b__are_rows, F__is_row, PySem.W.mg_of X G a__is_row, k__is_row, b__is_row, F__are_ends, PySem.W.mg_of X G a__are_ends, k__are_ends, b__are_ends, F__law_kind, PySem.W.mg_of X G a__law_kind, k__law_kind, b__law_kind, F__law_whole, PySem.W.mg_of X G a__law_whole, k__law_whole, b__law_whole, F__law_are_rows, PySem.W.mg_of X G a__law_are_rows, k__law_are_rows, b__law_are_rows, F__law_error, PySem.W.mg_of X G a__law_error, k__law_error, b__law_error, F__law_odd, PySem.W.mg_of X G a__law_odd, k__law_odd, b__law_odd, F__law_bent, PySem.W.mg_of X G a__law_bent, k__law_bent, b__law_bent, F__law_right, PySem.W.mg_of X G a__law_right, k__law_right, b__law_right, F_law, PySem.W.mg_of X G a_law, k_law, b_law, PySem.W.mg_none_of X G z_abs, PySem.W.mg_none_of X G z_all, PySem.W.mg_none_of X G z_bool, PySem.W.mg_none_of X G z_int, PySem.W.mg_none_of X G z_isinstance, PySem.W.mg_none_of X G z_len, PySem.W.mg_none_of X G z_list, PySem.W.mg_none_of X G z_range, PySem.W.mg_none_of X G z_repr, PySem.W.mg_none_of X G z_tuple, ⟨_, PySem.W.mg_of X G c_MAX_LETTERS⟩, ⟨_, PySem.W.mg_of X G c_MAX_STATES⟩⟩
  exact ⟨_, fun s v => .of_eq rfl, fun base _ _ => ok_law T⟩
theorem walk {l : PySem.W.OpenLaw} {q : Program} {loose : List Str} {XP : (Str → Option Value) → Heap → Prop} {YP : World → Heap → Prop} {d : DefRec} {K : Params → PySem.W.Frag} (hn : l.most = some 63) (hdf : d.params.defaults = [])
    (hY : ∀ (w : World) (h : Heap), YP w h → (K w.params).In h)
    (F : ∀ (w : World) (mg : Str → Option Value) (fa : Addr) (h : Heap), (K w.params).In h → h.Ns mainGlobals mg → mg d.name = some (.ref fa) →
      ∃ fd : FuncData, (∀ (s : Shared) (u : Value), BindsTo s fd ⟨[u], []⟩ [("_law_script", u)]) ∧ ∀ base : Heap, (K w.params).In base → base.Ns mainGlobals mg → FnG l.prog w (K w.params) mg base 8 fa fd ["_law_script"] (sp_law (K w.params))) :
    PySem.W.WalkO q loose XP YP l.row.toRowW d [] (fun f vs => PySem.call f vs) :=
  U.walkG (n := 63) (k := 8) (x := "_law_script") (sp := sp_law) hn (by decide) hdf ⟨rfl, by decide, by decide⟩ hY F fun K H a ns hl _ hS => sp_law_end hl hS
end Law

open PySem PySem.W PyProof.Rows in
set_option maxRecDepth 100000 in
set_option maxHeartbeats 0 in
theorem PySem.Challenge.cw_unitlimits_k21_kinds_with_errors_holds : PySem.Challenge.rw_unitlimits_k21_kinds_with_errors.Holds := by
  w_on; o_law; k_head; (case hw => w_witness2)
  k_fill
  refine Law.walk (l := PySem.Challenge.rw_unitlimits_k21_kinds_with_errors) rfl rfl (fun w h Y => PySem.W.kIn_of Y) ?F
  case F =>
    intro w mg fa h KX G hmg
    refine' Law.all_mk KX G hmg ?a__law_deck ?l__law_deck ?e__law_deck ?k__law_deck ?a__law_draw ?l__law_draw ?e__law_draw ?k__law_draw ?a__law_one ?l__law_one ?e__law_one ?k__law_one ?a_is_integer ?l_is_integer ?e_is_integer ?k_is_integer ?a_is_number ?l_is_number ?e_is_number ?k_is_number ?a_kind_error ?l_kind_error ?e_kind_error ?k_kind_error ?a__are_rows ?l__are_rows ?e__are_rows ?k__are_rows ?a__is_row ?l__is_row ?e__is_row ?k__is_row ?a__are_ends ?l__are_ends ?e__are_ends ?k__are_ends ?a__law_kind ?l__law_kind ?e__law_kind ?k__law_kind ?a__law_whole ?l__law_whole ?e__law_whole ?k__law_whole ?a__law_are_rows ?l__law_are_rows ?e__law_are_rows ?k__law_are_rows ?a__law_error ?l__law_error ?e__law_error ?k__law_error ?a__law_odd ?l__law_odd ?e__law_odd ?k__law_odd ?a__law_bent ?l__law_bent ?e__law_bent ?k__law_bent ?a__law_right ?l__law_right ?e__law_right ?k__law_right ?a_law ?l_law ?e_law ?k_law ?z_abs ?z_all ?z_bool ?z_int ?z_isinstance ?z_len ?z_list ?z_range ?z_repr ?z_tuple ?c_MAX_LETTERS ?c_MAX_STATES
    (case a__law_deck => k_is)
    (case l__law_deck => k_is)
    (case e__law_deck => k_is)
    (case k__law_deck => k_is)
    (case a__law_draw => k_is)
    (case l__law_draw => k_is)
    (case e__law_draw => k_is)
    (case k__law_draw => k_is)
    (case a__law_one => k_is)
    (case l__law_one => k_is)
    (case e__law_one => k_is)
    (case k__law_one => k_is)
    (case a_is_integer => k_is)
    (case l_is_integer => k_is)
    (case e_is_integer => k_is)
    (case k_is_integer => k_is)
    (case a_is_number => k_is)
    (case l_is_number => k_is)
    (case e_is_number => k_is)
    (case k_is_number => k_is)
    (case a_kind_error => k_is)
    (case l_kind_error => k_is)
    (case e_kind_error => k_is)
    (case k_kind_error => k_is)
    (case a__are_rows => k_is)
    (case l__are_rows => k_is)
    (case e__are_rows => k_is)
    (case k__are_rows => k_is)
    (case a__is_row => k_is)
    (case l__is_row => k_is)
    (case e__is_row => k_is)
    (case k__is_row => k_is)
    (case a__are_ends => k_is)
    (case l__are_ends => k_is)
    (case e__are_ends => k_is)
    (case k__are_ends => k_is)
    (case a__law_kind => k_is)
    (case l__law_kind => k_is)
    (case e__law_kind => k_is)
    (case k__law_kind => k_is)
    (case a__law_whole => k_is)
    (case l__law_whole => k_is)
    (case e__law_whole => k_is)
    (case k__law_whole => k_is)
    (case a__law_are_rows => k_is)
    (case l__law_are_rows => k_is)
    (case e__law_are_rows => k_is)
    (case k__law_are_rows => k_is)
    (case a__law_error => k_is)
    (case l__law_error => k_is)
    (case e__law_error => k_is)
    (case k__law_error => k_is)
    (case a__law_odd => k_is)
    (case l__law_odd => k_is)
    (case e__law_odd => k_is)
    (case k__law_odd => k_is)
    (case a__law_bent => k_is)
    (case l__law_bent => k_is)
    (case e__law_bent => k_is)
    (case k__law_bent => k_is)
    (case a__law_right => k_is)
    (case l__law_right => k_is)
    (case e__law_right => k_is)
    (case k__law_right => k_is)
    (case a_law => k_is)
    (case l_law => k_is)
    (case e_law => k_is)
    (case k_law => k_is)
    (case z_abs => k_is)
    (case z_all => k_is)
    (case z_bool => k_is)
    (case z_int => k_is)
    (case z_isinstance => k_is)
    (case z_len => k_is)
    (case z_list => k_is)
    (case z_range => k_is)
    (case z_repr => k_is)
    (case z_tuple => k_is)
    (case c_MAX_LETTERS => k_is)
    (case c_MAX_STATES => k_is)
