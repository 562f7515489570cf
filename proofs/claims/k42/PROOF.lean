import PyProof.Rows.All
import Wide.All
import OpenK.AllK
import Wide.FinOn
import HandS.ForMost
import HandS.IsInst
import HandS.Conv
import HandS.TupAny
import HandS.TupMul
import HandS.Codes
import HandS.Replace
import KE.GoesEnum
import HandS.Walk
import HandS.Steps
import HandS.NestedK
import KE.KDictKeyed
import PySem.Challenge.RW_unitlimits_k42_whole_fewest_parts
set_option Elab.async false
set_option linter.all false
set_option maxRecDepth 100000
set_option maxHeartbeats 2000000
namespace U
open PySem PySem.Spec PyProof.Rows L2

/-! ### defs that are run where no guard is on the stack (for repr of lists and tuples) -/
/-- as FnOk, but asked only where no guard runs -/
structure FnG (P : Program) (w : World) (K : PySem.W.Frag) (mg : Str → Option Value) (base : Heap) (k : Nat) (f : Addr) (fd : FuncData) (ps : List Str) (sp : Sp) : Prop where
  arity : ∀ vs H Q E, sp vs H Q E → vs.length = ps.length
  runs : ∀ (A : Around) (outer : List Env) (s : Shared) (H : Hp) (args : Args) (us : List Value) (vs : List V) (Q : VK) (E : XK), A.guards = some [] → Room k A → Env0 P w K mg base A outer s H →
    BindsTo s fd args (ps.zip us) → Vals vs us → sp vs H Q E → codeAny (model P w) A (.call (.ref f) args) (CR CX0 outer P w H s Q E) s

section
variable {P : Program} {w : World} {K : PySem.W.Frag} {mg : Str → Option Value} {base : Heap}
theorem FnG.of {k : Nat} {f : Addr} {fd : FuncData} {ps : List Str} {sp : Sp} (F : FnOk P w K mg base CX0 k f fd ps sp) : FnG P w K mg base k f fd ps sp :=
  ⟨F.len, fun A o s H a us vs Q E _ => F.run A o s H a us vs Q E⟩
theorem FnG.more {j k : Nat} {f : Addr} {fd : FuncData} {ps : List Str} {sp : Sp} (F : FnG P w K mg base j f fd ps sp) (h : j ≤ k) : FnG P w K mg base k f fd ps sp :=
  ⟨F.arity, fun A o s H a us vs Q E g hr => F.runs A o s H a us vs Q E g (hr.mono h)⟩

/-- the body's rule, as Fun.ok, with the guards told -/
theorem okG {x qual : Str} {st : Stmt} {f : Addr} {fd : FuncData} {N ps : List Str} {k : Nat} {sp : Sp} (F : Fun K x qual st f fd) (S : FnScope N ps (defScope st)) (len : ∀ vs H Q E, sp vs H Q E → vs.length = ps.length)
    (hbody : ∀ (cdv : Value) (A : Around) (outer : List Env) (s : Shared) (H : Hp) (vs : List V) (Q : VK) (E : XK), A.guards = some [] → Room k (A.deeper (envOfC qual (defScope st) s.heap.objs.size f cdv)) → sp vs H Q E →
      ∃ t, PSs (cxOf CX0 P w K mg base N qual (defScope st) f cdv A outer s H E).nox (defBody st) t ∧ t { nx := fun _ H' => Q .non H', rt := Q } (start N vs) H) : FnG P w K mg base (k + 1) f fd ps sp := by
  obtain ⟨oc, od, kV, doc, pm, an, cdv, ct, osl, rfl, lk, hcd⟩ := F.ex
  refine ⟨len, fun A outer s H args us vs Q E hg hr e0 hb rel hsp => ?_⟩
  have nargs := len _ _ _ _ hsp
  have inH : K.In s.heap := e0.mod.kin.keeps (fun b o e => And.left (e0.bs b o e))
  have noLim : s.heap.NoLimit := e0.mod.nolimit.keeps (fun b o e => And.left (e0.bs b o e))
  have kinds : ∀ y ∈ ps.zip us, (defScope st).names.lookup y.1 = some .local ∨ ((defScope st).names.lookup y.1 = some .cell ∧ ((cellsFrom (s.heap.objs.size + 1) (defScope st).names []).lookup y.1).isSome = true) := by
    rintro ⟨n, v⟩ hy
    cases S.par n (List.of_mem_zip hy).1 with
    | inl q => exact Or.inl q
    | inr q => exact Or.inr ⟨q, PySem.W.cellsFrom_some _ _ _ (Or.inl q)⟩
  apply codeAny_call_function hr.depth (inH _ _ lk) rfl S.co S.gen rfl (PySem.W.codeRec_of inH hcd)
  refine hb _ _ _ _ (wpAny_newFunctionEnv_cells S.kind kinds fun env he s1 inC => ?_)
  cases he
  obtain ⟨t, ht, start_ok⟩ := hbody cdv A outer s H vs Q E hg (hr.deeper _) hsp
  have I0 : Inv (cxOf CX0 P w K mg base N qual (defScope st) f cdv A outer s H E) [] (start N vs) H s1 := inv_start S hr.hd e0 nargs rel inC
  have done : ∀ {σ' : L2.St} {H' : Hp} {v : V} {u : Value} {s' : Shared}, Inv (cxOf CX0 P w K mg base N qual (defScope st) f cdv A outer s H E) [] σ' H' s' → RelV v u → Q v H' → CE outer P w H s Q u s' :=
    fun {σ' H' v u s'} J rv q => ⟨v, H', J.os, J.bare, J.base, J.hok, rv, q⟩
  refine ⟨noLim.keeps inC.toInCall.keep, codeAny_func (wpAny_mono (ht.nox.run [] s1 (start N vs) H _ I0 start_ok) (fun fl s' hs => ?_) (fun _ _ z => z))⟩
  cases fl with
  | next =>
    obtain ⟨σ', H', J, q⟩ := hs
    exact done (v := V.non) (u := Value.none) J rfl q
  | ret u =>
    obtain ⟨v, σ', H', J, rv, q⟩ := hs
    exact done J rv q
  | brk => exact False.elim (let ⟨_, _, _, q⟩ := hs; q)
  | cont => exact False.elim (let ⟨_, _, _, q⟩ := hs; q)
end

section
variable {X : Cx} {k : Nat} {f : Addr} {fd : FuncData} {ps : List Str} {sp : Sp} {E : XK} {x : Str} {p pos : Pos} {e : Expr} {es : List Expr} {t : TA}
theorem pe_callG (hG : X.A.guards = some []) (F : FnG X.prog X.w X.K X.mg X.base k f fd ps sp) (hr : Room k X.A) (hg : Gl X x) (hm : X.mg x = some (.ref f)) (hk : PySem.W.keepIn X.K (.ref f) = true) (hb : Binds X.K fd ps [])
    (ha : PA X (e :: es) t) (hdb : (x == ("__debug__" : Str)) = false := by decide) (he : starEach (e :: es) X.env = (false, eval e X.env) :: starEach es X.env := by rfl) (hpl : (backTo pos (starEach es X.env)).any (·.1) = false := by rfl) :
    PE X (.Call (.Name x p) (e :: es) [] pos) (tCall sp [] E0 t) := by
  constructor
  intro pins s σ H Q I h
  apply wpAny_Call_Name_kw
  apply ld_glob I hg hm _ hdb
  apply PySem.W.callWith_K (h₀ := X.base) I.ok.mod.kin hk _ he hpl
  refine thn (ha.run pos pins s σ H _ I h) ?_
  rintro us s1 ⟨vs, H1, I1, r, q⟩
  refine ⟨I1.kIn, ?_⟩
  have q' : sp vs H1 Q E0 := by
    have z : sp (vs ++ []) H1 Q E0 := q
    rwa [List.append_nil] at z
  have nargs : (us ++ []).length = ps.length := by rw [List.append_nil, ← r.length]; exact F.arity _ _ _ _ q'
  have bd := hb s1 us I1.kIn nargs
  rw [List.append_nil] at bd
  apply wpAny_call
  refine codeAny_mono (F.runs X.A X.stack s1 H1 ⟨us, []⟩ us vs Q E0 hG hr I1.env0 bd r q') ?_
  intro res s' hres
  match res, hres with
  | .ok (.ret u), hres => exact I1.after hres
  | .ok .next, hres => exact False.elim hres
  | .ok .brk, hres => exact False.elim hres
  | .ok .cont, hres => exact False.elim hres
  | .error _, hres => exact False.elim hres
end

/-! ### the end of a law over such a def -/
theorem lawG {P : Program} {w : World} {K : PySem.W.Frag} {mg mb : Str → Option Value} {k : Nat} {fa a : Addr} {fd : FuncData} {x : Str} {sp : Sp} {s₁ : Shared} {vs : List Value} {ns : List Int}
    (inK : K.In s₁.heap) (glo : s₁.heap.Ns mainGlobals mg) (blt : s₁.heap.Ns builtinsNs mb) (boot : ∀ x : Str, x ≠ "__name__" → mb x = bootBuiltins x) (noLim : s₁.heap.NoLimit) (noGen : s₁.gens = #[])
    (scr : s₁.heap.get? a = some { cls := .type "list", data := .seq vs.toArray }) (nums : IntsAre vs ns) (small : ns.length ≤ sizeLine) (room : Room k callerA)
    (F : ∀ base : Heap, K.In base → base.Ns mainGlobals mg → FnG P w K mg base k fa fd [x] sp) (bind : ∀ (s : Shared) (u : Value), BindsTo s fd ⟨[u], []⟩ [(x, u)])
    (hsp : ∀ H : Hp, Only H → SqL K H a (ns.map V.int) → sp [.ref a] H (fun v _ => v = .bl true) E0) :
    codeAny (model P w) callerA (.call (.ref fa) ⟨[.ref a], []⟩) (fun r s' => r = .ok (.ret (.bool true)) ∧ OldK s₁.heap s'.heap ∧ s'.os = s₁.os ∧ AllBare s'.gens) s₁ := by
  have rel : Vals (ns.map V.int) vs := vals_ints nums
  have many : vs.length = ns.length := nums.length
  -- what is tracked: the script, where it is no object of the module's own
  obtain ⟨H, hOnly, hScr, hOk, hAt, hOwn⟩ : ∃ H : Hp, Only H ∧ SqL K H a (ns.map V.int) ∧ HOk P w H s₁.heap ∧ (∀ b u, H b = some u → b = a) ∧ (∀ u, H a = some u → K.lookup a = none) := by
    cases own : K.lookup a with
    | some o =>
      have e := inK a o own
      rw [scr] at e
      cases e
      exact ⟨fun _ => none, fun _ => Or.inl rfl, Or.inr ⟨_, vs.toArray, _, own, rfl, rfl, rfl, by rw [List.size_toArray, many]; exact small, by simpa using rel⟩,
        (fun b u z => absurd (show (none : Option HO) = some u from z) (by simp)), (fun b u z => absurd (show (none : Option HO) = some u from z) (by simp)), fun u z => absurd (show (none : Option HO) = some u from z) (by simp)⟩
    | none =>
      have at_ : ∀ b u, (fun b => if b = a then some (HO.frz { cls := .type "list", data := .seq vs.toArray } (.lst (ns.map V.int))) else none : Hp) b = some u → b = a ∧ u = HO.frz { cls := .type "list", data := .seq vs.toArray } (.lst (ns.map V.int)) := by
        intro b u z
        by_cases hb : b = a
        · exact ⟨hb, (Option.some.inj ((if_pos hb).symm.trans z)).symm⟩
        · exact nomatch (if_neg hb).symm.trans z
      refine ⟨fun b => if b = a then some (.frz { cls := .type "list", data := .seq vs.toArray } (.lst (ns.map V.int))) else none, fun b => ?_, Or.inl (Or.inr ⟨_, if_pos rfl⟩), fun b u z => ?_, fun b u z => (at_ b u z).1, fun _ _ => rfl⟩
      · by_cases hb : b = a
        · exact Or.inr ⟨_, _, if_pos hb⟩
        · exact Or.inl (if_neg hb)
      · obtain ⟨rfl, rfl⟩ := at_ b u z
        exact ⟨scr, by rw [List.length_map]; exact small, vs, _, rel, scr⟩
  have dictFree : ∀ {b : Addr} {o : Obj} {es : Array DictEntry} {ep : Nat}, s₁.heap.get? b = some o → o.data = .dict es ep → H b = none := by
    intro b o es ep e d
    cases q : H b with
    | none => rfl
    | some u =>
      cases hAt b u q
      rw [scr] at e
      cases e
      exact nomatch (show Data.seq vs.toArray _ = Data.dict es ep from d)
  have nsKeep : ∀ {b : Addr} {m : Str → Option Value}, s₁.heap.Ns b m → (hidT s₁.heap H).Ns b m := by
    rintro b m ⟨o, es, ep, e, d, r⟩
    exact ⟨o, es, ep, hidT_get e (dictFree e d), d, r⟩
  have inB : K.In (hidT s₁.heap H) := by
    intro b o e
    refine hidT_get (inK b o e) ?_
    cases q : H b with
    | none => rfl
    | some u =>
      cases hAt b u q
      rw [hOwn u q] at e
      cases e
  have M : Mod K mg (hidT s₁.heap H) := by
    obtain ⟨mc, h1, h2⟩ := noLim
    exact ⟨inB, nsKeep glo, ⟨mb, nsKeep blt, boot⟩, ⟨mc, nsKeep h1, h2⟩⟩
  have env : Env0 P w K mg (hidT s₁.heap H) callerA [] s₁ H := by
    refine ⟨rfl, M, fun b o e => of_hidT e, Nat.le_of_eq (hidT_size _ _), trivial, fun b hb => ?_, hOk, .of_eq noGen⟩
    exact nomatch (show b ∈ ([] : List Addr) from hb)
  refine codeAny_mono ((F _ inB (nsKeep glo)).runs callerA [] s₁ H ⟨[.ref a], []⟩ [.ref a] [.ref a] _ _ rfl room env (bind s₁ (.ref a)) (.cons rfl .nil) (hsp H hOnly hScr)) ?_
  intro res s' hres
  match res, hres with
  | .error _, hres => exact False.elim hres
  | .ok .next, hres => exact False.elim hres
  | .ok .brk, hres => exact False.elim hres
  | .ok .cont, hres => exact False.elim hres
  | .ok (.ret u), hres =>
    obtain ⟨v, H', os, bare, un, ok', rv, q⟩ := hres
    cases (show v = .bl true from q)
    cases (show u = Value.bool true from rv)
    refine ⟨rfl, OldK.of_keep (fun b o e => ?_), os, bare⟩
    cases q : H b with
    | none => exact un.keep b o e q (fun z => nomatch (show b ∈ ([] : List Addr) from z)) (by simp)
    | some u =>
      rcases hOnly b with z | ⟨ob, xs, z⟩
      · rw [q] at z
        cases z
      · have before := (hOk b _ z).1
        have after := (ok' b _ (un.frzs b ob _ z)).1
        rw [e] at before
        cases before
        exact after

theorem walkG {l : PySem.W.OpenLaw} {n k : Nat} {q : Program} {loose : List Str} {XP : (Str → Option Value) → Heap → Prop} {YP : World → Heap → Prop} {d : DefRec} {K : Params → PySem.W.Frag} {sp : PySem.W.Frag → Sp} {x : Str}
    (many : l.most = some n) (small : n ≤ sizeLine) (noDef : d.params.defaults = []) (room : Room k callerA)
    (inK : ∀ (w : World) (h : Heap), YP w h → (K w.params).In h)
    (F : ∀ (w : World) (mg : Str → Option Value) (fa : Addr) (h : Heap), (K w.params).In h → h.Ns mainGlobals mg → mg d.name = some (.ref fa) →
      ∃ fd : FuncData, (∀ (s : Shared) (u : Value), BindsTo s fd ⟨[u], []⟩ [(x, u)]) ∧
        ∀ base : Heap, (K w.params).In base → base.Ns mainGlobals mg → FnG l.prog w (K w.params) mg base k fa fd [x] (sp (K w.params)))
    (hsp : ∀ (K : PySem.W.Frag) (H : Hp) (a : Addr) (ns : List Int), ns.length ≤ n → Only H → SqL K H a (ns.map V.int) → sp K [.ref a] H (fun v _ => v = .bl true) E0) :
    PySem.W.WalkO q loose XP YP l.row.toRowW d [] (fun f vs => PySem.call f vs) := by
  apply Att.attach_call many noDef
  intro w s₀ s₁ mg mb fa o pm cd doc a vs ns G Y ho hd hcd hmg hobj hints hlen hg
  obtain ⟨fd, hb, hF⟩ := F w mg fa _ (inK w _ Y) G.T.g hmg
  exact lawG (inK w _ Y) G.T.g G.T.b G.T.builtins G.T.nolimit hg hobj hints (Nat.le_trans hlen small) room hF hb fun H hO hS => hsp (K w.params) H a ns hlen hO hS
end U

set_option Elab.async false
set_option linter.all false
set_option maxRecDepth 100000
set_option maxHeartbeats 2000000
namespace U
open PySem PySem.Spec PyProof.Rows L2

/-! ### data in the heap, off the places that are written (M) -/
mutual
inductive T (K : PySem.W.Frag) (M : List Addr) (H : Hp) : V → PyData → Prop
  | non : T K M H .non .none
  | bl (b : Bool) : T K M H (.bl b) (.bool b)
  | int (i : Int) : T K M H (.int i) (.int i)
  | str (x : Str) : T K M H (.str x) (.str x)
  | lst {a : Addr} {xs : List V} {ds : List PyData} : a ∉ M → H a = some (.lst xs) → TA K M H xs ds → T K M H (.ref a) (.list ds)
  | tup {a : Addr} {xs : List V} {ds : List PyData} : a ∉ M → H a = some (.tup xs) → TA K M H xs ds → T K M H (.ref a) (.tuple ds)
  | dct {a : Addr} {kvs : List (Key × V)} {es : List (PyData × PyData)} : a ∉ M → H a = some (.dK kvs) → TK K M H kvs es → T K M H (.ref a) (.dict es)
inductive TA (K : PySem.W.Frag) (M : List Addr) (H : Hp) : List V → List PyData → Prop
  | nil : TA K M H [] []
  | cons {v : V} {vs : List V} {d : PyData} {ds : List PyData} : T K M H v d → TA K M H vs ds → TA K M H (v :: vs) (d :: ds)
inductive TK (K : PySem.W.Frag) (M : List Addr) (H : Hp) : List (Key × V) → List (PyData × PyData) → Prop
  | nil : TK K M H [] []
  | cons {k : Key} {v : V} {e d : PyData} {kvs : List (Key × V)} {es : List (PyData × PyData)} : T K M H (kV k) e → T K M H v d → TK K M H kvs es → TK K M H ((k, v) :: kvs) ((e, d) :: es)
end

/-- what was tracked off M stands as before -/
def Ext (M : List Addr) (H H' : Hp) : Prop := ∀ b o, b ∉ M → H b = some o → H' b = some o
theorem Ext.refl (M : List Addr) (H : Hp) : Ext M H H := fun _ _ _ h => h
theorem Ext.trans {M : List Addr} {H H1 H2 : Hp} (a : Ext M H H1) (b : Ext M H1 H2) : Ext M H H2 := fun c o h e => b c o h (a c o h e)
theorem Ext.same {M : List Addr} {H H' : Hp} (a : Same H H') : Ext M H H' := fun b o _ e => a b o e
theorem Ext.sub {M N : List Addr} {H H' : Hp} (a : Ext M H H') (h : ∀ b ∈ M, b ∈ N) : Ext N H H' := fun b o n e => a b o (fun z => n (h b z)) e
theorem Ext.new {M : List Addr} {H : Hp} {p : Addr} {o : HO} (h : H p = none) : Ext M H (upd H p o) := fun b u _ e => by
  rw [upd_ne (ne_of_none e h)]
  exact e
theorem Ext.put {M : List Addr} {H : Hp} {p : Addr} {o : HO} (h : p ∈ M) : Ext M H (upd H p o) := fun b u n e => by
  have q : b ≠ p := by
    rintro rfl
    exact n h
  rw [upd_ne q]
  exact e
theorem Same.new {H : Hp} {p : Addr} {o : HO} (h : H p = none) : Same H (upd H p o) := fun b u e => by
  rw [upd_ne (ne_of_none e h)]
  exact e
theorem Same.newer {H H' : Hp} {p : Addr} {o : HO} (s : Same H H') (h : H p = none) : Same H (upd H' p o) := fun b u e => by
  rw [upd_ne (ne_of_none e h)]
  exact s b u e

section
variable {K : PySem.W.Frag} {M N : List Addr} {H H' : Hp}
theorem SqT.ext {a : Addr} {xs : List V} (e : Ext M H H') (n : a ∉ M) (h : SqT K H a xs) : SqT K H' a xs := by
  rcases h with (h | ⟨o, h⟩) | h
  · exact Or.inl (Or.inl (e _ _ n h))
  · exact Or.inl (Or.inr ⟨o, e _ _ n h⟩)
  · exact Or.inr h
mutual
theorem T.ext (e : Ext M H H') : ∀ {v : V} {d : PyData}, T K M H v d → T K M H' v d
  | _, _, .non => .non
  | _, _, .bl b => .bl b
  | _, _, .int i => .int i
  | _, _, .str x => .str x
  | _, _, .lst n h t => .lst n (e _ _ n h) (TA.ext e t)
  | _, _, .tup n h t => .tup n (e _ _ n h) (TA.ext e t)
  | _, _, .dct n h t => .dct n (e _ _ n h) (TK.ext e t)
theorem TA.ext (e : Ext M H H') : ∀ {vs : List V} {ds : List PyData}, TA K M H vs ds → TA K M H' vs ds
  | _, _, .nil => .nil
  | _, _, .cons h t => .cons (T.ext e h) (TA.ext e t)
theorem TK.ext (e : Ext M H H') : ∀ {kvs : List (Key × V)} {es : List (PyData × PyData)}, TK K M H kvs es → TK K M H' kvs es
  | _, _, .nil => .nil
  | _, _, .cons h g t => .cons (T.ext e h) (T.ext e g) (TK.ext e t)
end
mutual
/-- off fewer places -/
theorem T.off (s : ∀ b ∈ N, b ∈ M) : ∀ {v : V} {d : PyData}, T K M H v d → T K N H v d
  | _, _, .non => .non
  | _, _, .bl b => .bl b
  | _, _, .int i => .int i
  | _, _, .str x => .str x
  | _, _, .lst n h t => .lst (fun z => n (s _ z)) h (TA.off s t)
  | _, _, .tup n h t => .tup (fun z => n (s _ z)) h (TA.off s t)
  | _, _, .dct n h t => .dct (fun z => n (s _ z)) h (TK.off s t)
theorem TA.off (s : ∀ b ∈ N, b ∈ M) : ∀ {vs : List V} {ds : List PyData}, TA K M H vs ds → TA K N H vs ds
  | _, _, .nil => .nil
  | _, _, .cons h t => .cons (T.off s h) (TA.off s t)
theorem TK.off (s : ∀ b ∈ N, b ∈ M) : ∀ {kvs : List (Key × V)} {es : List (PyData × PyData)}, TK K M H kvs es → TK K N H kvs es
  | _, _, .nil => .nil
  | _, _, .cons h g t => .cons (T.off s h) (T.off s g) (TK.off s t)
end
mutual
/-- off one more place, which is free -/
theorem T.plus {p : Addr} (hp : H p = none) : ∀ {v : V} {d : PyData}, T K M H v d → T K (p :: M) H v d
  | _, _, .non => .non
  | _, _, .bl b => .bl b
  | _, _, .int i => .int i
  | _, _, .str x => .str x
  | _, _, .lst n h t => .lst (fun z => (List.mem_cons.mp z).elim (ne_of_none h hp) n) h (TA.plus hp t)
  | _, _, .tup n h t => .tup (fun z => (List.mem_cons.mp z).elim (ne_of_none h hp) n) h (TA.plus hp t)
  | _, _, .dct n h t => .dct (fun z => (List.mem_cons.mp z).elim (ne_of_none h hp) n) h (TK.plus hp t)
theorem TA.plus {p : Addr} (hp : H p = none) : ∀ {vs : List V} {ds : List PyData}, TA K M H vs ds → TA K (p :: M) H vs ds
  | _, _, .nil => .nil
  | _, _, .cons h t => .cons (T.plus hp h) (TA.plus hp t)
theorem TK.plus {p : Addr} (hp : H p = none) : ∀ {kvs : List (Key × V)} {es : List (PyData × PyData)}, TK K M H kvs es → TK K (p :: M) H kvs es
  | _, _, .nil => .nil
  | _, _, .cons h g t => .cons (T.plus hp h) (T.plus hp g) (TK.plus hp t)
end
theorem T.same (s : Same H H') {v : V} {d : PyData} (h : T K M H v d) : T K M H' v d := T.ext (Ext.same s) h
theorem TA.same (s : Same H H') {v : List V} {d : List PyData} (h : TA K M H v d) : TA K M H' v d := TA.ext (Ext.same s) h
theorem TA.len : ∀ {vs : List V} {ds : List PyData}, TA K M H vs ds → vs.length = ds.length
  | _, _, .nil => rfl
  | _, _, .cons _ t => by rw [List.length_cons, List.length_cons, TA.len t]
theorem TA.get : ∀ {vs : List V} {ds : List PyData} {i : Nat} {v : V}, TA K M H vs ds → vs[i]? = some v → ∃ d, ds[i]? = some d ∧ T K M H v d
  | _, _, _, _, .nil, e => by simp at e
  | _, _, 0, _, .cons h _, e => by simp at e; subst e; exact ⟨_, rfl, h⟩
  | _, _, i + 1, _, .cons _ t, e => by
    obtain ⟨d, h1, h2⟩ := TA.get (i := i) t (by simpa using e)
    exact ⟨d, by simpa using h1, h2⟩
theorem TA.app : ∀ {vs us : List V} {ds es : List PyData}, TA K M H vs ds → TA K M H us es → TA K M H (vs ++ us) (ds ++ es)
  | _, _, _, _, .nil, s => s
  | _, _, _, _, .cons h t, s => .cons h (TA.app t s)
theorem TA.take : ∀ {vs : List V} {ds : List PyData} (n : Nat), TA K M H vs ds → TA K M H (vs.take n) (ds.take n)
  | _, _, 0, _ => .nil
  | _, _, _ + 1, .nil => .nil
  | _, _, n + 1, .cons h t => .cons h (TA.take n t)
theorem TA.drop : ∀ {vs : List V} {ds : List PyData} (n : Nat), TA K M H vs ds → TA K M H (vs.drop n) (ds.drop n)
  | _, _, 0, h => h
  | _, _, _ + 1, .nil => .nil
  | _, _, n + 1, .cons _ t => TA.drop n t
theorem TA.one {v : V} {d : PyData} (h : T K M H v d) : TA K M H [v] [d] := .cons h .nil
theorem TA.ints : ∀ (is : List Int), TA K M H (is.map V.int) (is.map PyData.int)
  | [] => .nil
  | i :: is => .cons (.int i) (TA.ints is)
theorem TA.bls : ∀ (is : List Bool), TA K M H (is.map V.bl) (is.map PyData.bool)
  | [] => .nil
  | i :: is => .cons (.bl i) (TA.bls is)
end

/-! ### such data is read off the concrete heap -/
section
variable {X : Cx} {pins : List (Addr × Obj)} {σ : L2.St} {H : Hp} {s : Shared} {M : List Addr}
theorem pairs_two {P : Program} {w : World} : ∀ {es : List DictEntry} {kvs : List (Key × V)} {us : List (Key × Value)}, Pairs (mixKind P w) es us → KV kvs us →
    Vals (kvs.map fun p => kV p.1) (es.map (·.key)) ∧ Vals (kvs.map (·.2)) (es.map (·.val))
  | _, _, _, .nil, .nil => ⟨.nil, .nil⟩
  | _, _, _, .cons (e := e) h1 h2 t, .cons r rs => by
    obtain ⟨a, b⟩ := pairs_two t rs
    refine ⟨.cons ?_ a, .cons ?_ b⟩
    · show L2.RelV (kV _) _
      rw [r.1]
      rcases keyIs_shape h1 with ⟨i, t, e1, e2⟩ | ⟨x, t, e1, e2⟩
      · rw [e1]
        exact ⟨t, e2⟩
      · rw [e1]
        exact ⟨t, e2⟩
    · show L2.RelV _ (DictEntry.val _)
      rw [h2]
      exact r.2
mutual
theorem T.reads (I : Inv X pins σ H s) : ∀ (d : PyData) (v : V) (u : Value), T X.K M H v d → RelV v u → ∃ as, Reads s.heap u d as
  | .none, _, _, h, r => by
    cases h
    cases r
    exact ⟨_, .none⟩
  | .bool b, _, _, h, r => by
    cases h
    cases r
    exact ⟨_, .bool b⟩
  | .int i, _, _, h, r => by
    cases h
    obtain ⟨t, rfl⟩ := r
    exact ⟨_, .int i t⟩
  | .str x, _, _, h, r => by
    cases h
    obtain ⟨t, rfl⟩ := r
    exact ⟨_, .str x t⟩
  | .list ds, _, _, h, r => by
    cases h with
    | lst n ha t =>
      cases r
      obtain ⟨its, rv, ⟨o, k, ho, hc, _, hd⟩, _⟩ := I.list (SqL.of ha)
      obtain ⟨as, q⟩ := TA.reads I ds _ its t rv
      exact ⟨_, .list ho hc hd q⟩
  | .tuple ds, _, _, h, r => by
    cases h with
    | tup n ha t =>
      cases r
      obtain ⟨its, rv, ⟨o, ho, hc, k, hd⟩, _⟩ := I.tuple (SqT.of ha)
      obtain ⟨as, q⟩ := TA.reads I ds _ its t rv
      exact ⟨_, .tuple ho hc hd q⟩
  | .dict es, _, _, h, r => by
    cases h with
    | dct n ha t =>
      cases r
      obtain ⟨_, _, us, kv, o, es', ep, ho, hx, hd, _, hp, _⟩ := I.hok _ _ ha
      obtain ⟨r1, r2⟩ := pairs_two hp kv
      obtain ⟨⟨as, q1⟩, ⟨bs, q2⟩⟩ := TK.reads I es _ _ _ t r1 r2
      exact ⟨_, .dict ho hx.1 hd q1 q2⟩
theorem TA.reads (I : Inv X pins σ H s) : ∀ (ds : List PyData) (vs : List V) (us : List Value), TA X.K M H vs ds → Vals vs us → ∃ as, ReadsAll s.heap us ds as
  | [], _, _, h, r => by
    cases h
    cases r
    exact ⟨_, .nil⟩
  | d :: ds, _, _, h, r => by
    cases h with
    | cons h1 h2 =>
      cases r with
      | cons r1 r2 =>
        obtain ⟨as, q1⟩ := T.reads I d _ _ h1 r1
        obtain ⟨bs, q2⟩ := TA.reads I ds _ _ h2 r2
        exact ⟨_, .cons q1 q2⟩
theorem TK.reads (I : Inv X pins σ H s) : ∀ (es : List (PyData × PyData)) (kvs : List (Key × V)) (ks us : List Value), TK X.K M H kvs es → Vals (kvs.map fun p => kV p.1) ks → Vals (kvs.map (·.2)) us →
    (∃ as, ReadsAll s.heap ks (es.map (·.1)) as) ∧ ∃ bs, ReadsAll s.heap us (es.map (·.2)) bs
  | [], _, _, _, h, r1, r2 => by
    cases h
    cases r1
    cases r2
    exact ⟨⟨_, .nil⟩, ⟨_, .nil⟩⟩
  | (e, d) :: es, _, _, _, h, r1, r2 => by
    cases h with
    | cons h1 h2 h3 =>
      cases r1 with
      | cons a1 b1 =>
        cases r2 with
        | cons a2 b2 =>
          obtain ⟨as, q1⟩ := T.reads I e _ _ h1 a1
          obtain ⟨bs, q2⟩ := T.reads I d _ _ h2 a2
          obtain ⟨⟨cs, q3⟩, ⟨fs, q4⟩⟩ := TK.reads I es _ _ _ h3 b1 b2
          exact ⟨⟨_, .cons q1 q3⟩, ⟨_, .cons q2 q4⟩⟩
end
mutual
/-- .. and shown -/
theorem T.shows (I : Inv X pins σ H s) : ∀ (d : PyData) (v : V) (u : Value), T X.K M H v d → RelV v u → d.showable = true → d.shown.length ≤ sizeLine →
    ∃ bs, ReadAtMost s.heap d.depth bs ∧ ReprK X.prog X.w bs s.heap d.depth u d.shown
  | .none, _, _, h, r, _, _ => by
    cases h
    cases r
    exact ⟨[], (fun _ z => nomatch z), by simpa only [PyData.shown] using ReprK.of_is ReprIs.none [] s.heap _⟩
  | .bool b, _, _, h, r, _, _ => by
    cases h
    cases r
    exact ⟨[], (fun _ z => nomatch z), by simpa only [PyData.shown] using ReprK.of_is (ReprIs.bool b) [] s.heap _⟩
  | .int i, _, _, h, r, hs, _ => by
    cases h
    obtain ⟨t, rfl⟩ := r
    exact ⟨[], (fun _ z => nomatch z), by simpa only [PyData.shown] using ReprK.of_is (ReprIs.int t (by simpa [PyData.showable] using hs)) [] s.heap _⟩
  | .str x, _, _, h, r, _, hz => by
    cases h
    obtain ⟨t, rfl⟩ := r
    exact ⟨[], (fun _ z => nomatch z), by simpa only [PyData.shown] using ReprK.of_is (ReprIs.str x t (by simpa only [PyData.shown] using hz)) [] s.heap _⟩
  | .list ds, v, u, h, r, hs, hz => by
    obtain ⟨as0, rd⟩ := T.reads I _ v u h r
    cases h with
    | lst n ha t =>
      cases r
      obtain ⟨its, rv, ⟨o, k, ho, hc, _, hd⟩, _⟩ := I.list (SqL.of ha)
      have z' : (listText (PyData.shownAll ds)).length ≤ sizeLine := by simpa only [PyData.shown] using hz
      obtain ⟨bs, low, all⟩ := TA.shows I ds _ its t rv (by simpa [PyData.showable] using hs) fun x hx => Nat.le_trans (listText_mem_le hx) z'
      have out := not_mem_of_deeper rd (by simp only [PyData.depth]; omega) low
      refine ⟨_ :: bs, ReadAtMost.cons rd (by simp only [PyData.depth]; omega) low, ?_⟩
      simp only [PyData.depth, PyData.shown]
      cases its with
      | nil =>
        cases rv
        cases t
        simp only [PyData.shownAll, listText_nil]
        exact ReprK.listEmpty ho hc hd
      | cons x l => exact ReprK.list ho hc hd out (by simpa using all.length_eq) fun i y e => all.item i y (by simpa using e)
  | .tuple ds, v, u, h, r, hs, hz => by
    obtain ⟨as0, rd⟩ := T.reads I _ v u h r
    cases h with
    | tup n ha t =>
      cases r
      obtain ⟨its, rv, ⟨o, ho, hc, k, hd⟩, _⟩ := I.tuple (SqT.of ha)
      have z' : (tupleText (PyData.shownAll ds)).length ≤ sizeLine := by simpa only [PyData.shown] using hz
      obtain ⟨bs, low, all⟩ := TA.shows I ds _ its t rv (by simpa [PyData.showable] using hs) fun x hx => Nat.le_trans (tupleText_mem_le hx) z'
      have out := not_mem_of_deeper rd (by simp only [PyData.depth]; omega) low
      refine ⟨_ :: bs, ReadAtMost.cons rd (by simp only [PyData.depth]; omega) low, ?_⟩
      simp only [PyData.depth, PyData.shown]
      exact ReprK.tuple ho hc hd out (by simpa using all)
  | .dict es, v, u, h, r, hs, hz => by
    obtain ⟨as0, rd⟩ := T.reads I _ v u h r
    cases h with
    | dct n ha t =>
      cases r
      obtain ⟨_, sys, us, kv, o, es', ep, ho, hx, hd, _, hp, _⟩ := I.hok _ _ ha
      obtain ⟨r1, r2⟩ := pairs_two hp kv
      have z' : (dictText (PyData.shownKv es)).length ≤ sizeLine := by simpa only [PyData.shown] using hz
      obtain ⟨s1, s2⟩ := PyData.showableKv_split es (by simpa [PyData.showable] using hs)
      obtain ⟨⟨b1, l1, k1⟩, ⟨b2, l2, k2⟩⟩ := TK.shows I es _ _ _ t r1 r2 s1 s2
        (fun x hx => let ⟨p, hp, hl⟩ := PyData.shownKv_key_le es x hx; Nat.le_trans hl (Nat.le_trans (dictText_mem_le hp) z'))
        (fun x hx => let ⟨p, hp, hl⟩ := PyData.shownKv_val_le es x hx; Nat.le_trans hl (Nat.le_trans (dictText_mem_le hp) z'))
      have low : ReadAtMost s.heap (PyData.depthKv es) (b1 ++ b2) := (l1.mono (PyData.depthAll_keys_le es)).append (l2.mono (PyData.depthAll_vals_le es))
      have out := not_mem_of_deeper rd (by simp only [PyData.depth]; omega) low
      refine ⟨_ :: (b1 ++ b2), ReadAtMost.cons rd (by simp only [PyData.depth]; omega) low, ?_⟩
      simp only [PyData.depth, PyData.shown, PyData.shownKv_eq]
      exact ReprK.dict ho hx.1 hd sys out (ReprEntriesK.of_two es'.toList _ _ (k1.more_le (fun b hb => List.mem_append_left _ hb) (PyData.depthAll_keys_le es))
        (k2.more_le (fun b hb => List.mem_append_right _ hb) (PyData.depthAll_vals_le es)))
theorem TA.shows (I : Inv X pins σ H s) : ∀ (ds : List PyData) (vs : List V) (us : List Value), TA X.K M H vs ds → Vals vs us → PyData.showableAll ds = true → (∀ t ∈ PyData.shownAll ds, t.length ≤ sizeLine) →
    ∃ bs, ReadAtMost s.heap (PyData.depthAll ds) bs ∧ ReprAllK X.prog X.w bs s.heap (PyData.depthAll ds) us (PyData.shownAll ds)
  | [], _, _, h, r, _, _ => by
    cases h
    cases r
    exact ⟨[], (fun _ z => nomatch z), by simpa only [PyData.shownAll] using ReprAllK.nil⟩
  | d :: ds, _, _, h, r, hs, hz => by
    cases h with
    | cons h1 h2 =>
      cases r with
      | cons r1 r2 =>
        have hs' : d.showable = true ∧ PyData.showableAll ds = true := by simpa [PyData.showableAll] using hs
        obtain ⟨b1, l1, k1⟩ := T.shows I d _ _ h1 r1 hs'.1 (hz _ (by simp only [PyData.shownAll]; exact List.mem_cons_self ..))
        obtain ⟨b2, l2, k2⟩ := TA.shows I ds _ _ h2 r2 hs'.2 fun t ht => hz t (by simp only [PyData.shownAll]; exact List.mem_cons_of_mem _ ht)
        refine ⟨b1 ++ b2, ?_, ?_⟩
        · simp only [PyData.depthAll]
          exact (l1.mono (Nat.le_max_left _ _)).append (l2.mono (Nat.le_max_right _ _))
        · simp only [PyData.depthAll, PyData.shownAll]
          exact .cons ((k1.more fun b hb => List.mem_append_left _ hb).level_le (Nat.le_max_left _ _)) (k2.more_le (fun b hb => List.mem_append_right _ hb) (Nat.le_max_right _ _))
theorem TK.shows (I : Inv X pins σ H s) : ∀ (es : List (PyData × PyData)) (kvs : List (Key × V)) (ks us : List Value), TK X.K M H kvs es → Vals (kvs.map fun p => kV p.1) ks → Vals (kvs.map (·.2)) us →
    PyData.showableAll (es.map (·.1)) = true → PyData.showableAll (es.map (·.2)) = true → (∀ t ∈ PyData.shownAll (es.map (·.1)), t.length ≤ sizeLine) → (∀ t ∈ PyData.shownAll (es.map (·.2)), t.length ≤ sizeLine) →
    (∃ bs, ReadAtMost s.heap (PyData.depthAll (es.map (·.1))) bs ∧ ReprAllK X.prog X.w bs s.heap (PyData.depthAll (es.map (·.1))) ks (PyData.shownAll (es.map (·.1)))) ∧
    (∃ bs, ReadAtMost s.heap (PyData.depthAll (es.map (·.2))) bs ∧ ReprAllK X.prog X.w bs s.heap (PyData.depthAll (es.map (·.2))) us (PyData.shownAll (es.map (·.2))))
  | [], _, _, _, h, r1, r2, _, _, _, _ => by
    cases h
    cases r1
    cases r2
    exact ⟨⟨[], (fun _ z => nomatch z), by simpa only [List.map_nil, PyData.shownAll] using ReprAllK.nil⟩, ⟨[], (fun _ z => nomatch z), by simpa only [List.map_nil, PyData.shownAll] using ReprAllK.nil⟩⟩
  | (e, d) :: es, _, _, _, h, r1, r2, s1, s2, z1, z2 => by
    cases h with
    | cons h1 h2 h3 =>
      cases r1 with
      | cons a1 c1 =>
        cases r2 with
        | cons a2 c2 =>
          simp only [List.map_cons] at s1 s2 z1 z2 ⊢
          have t1 : e.showable = true ∧ PyData.showableAll (es.map (·.1)) = true := by simpa [PyData.showableAll] using s1
          have t2 : d.showable = true ∧ PyData.showableAll (es.map (·.2)) = true := by simpa [PyData.showableAll] using s2
          obtain ⟨b1, l1, k1⟩ := T.shows I e _ _ h1 a1 t1.1 (z1 _ (by simp only [PyData.shownAll]; exact List.mem_cons_self ..))
          obtain ⟨b2, l2, k2⟩ := T.shows I d _ _ h2 a2 t2.1 (z2 _ (by simp only [PyData.shownAll]; exact List.mem_cons_self ..))
          obtain ⟨⟨b3, l3, k3⟩, ⟨b4, l4, k4⟩⟩ := TK.shows I es _ _ _ h3 c1 c2 t1.2 t2.2 (fun t ht => z1 t (by simp only [PyData.shownAll]; exact List.mem_cons_of_mem _ ht)) (fun t ht => z2 t (by simp only [PyData.shownAll]; exact List.mem_cons_of_mem _ ht))
          refine ⟨⟨b1 ++ b3, ?_, ?_⟩, ⟨b2 ++ b4, ?_, ?_⟩⟩
          · simp only [PyData.depthAll]
            exact (l1.mono (Nat.le_max_left _ _)).append (l3.mono (Nat.le_max_right _ _))
          · simp only [PyData.depthAll, PyData.shownAll]
            exact .cons ((k1.more fun b hb => List.mem_append_left _ hb).level_le (Nat.le_max_left _ _)) (k3.more_le (fun b hb => List.mem_append_right _ hb) (Nat.le_max_right _ _))
          · simp only [PyData.depthAll]
            exact (l2.mono (Nat.le_max_left _ _)).append (l4.mono (Nat.le_max_right _ _))
          · simp only [PyData.depthAll, PyData.shownAll]
            exact .cons ((k2.more fun b hb => List.mem_append_left _ hb).level_le (Nat.le_max_left _ _)) (k4.more_le (fun b hb => List.mem_append_right _ hb) (Nat.le_max_right _ _))
end
end

/-! ### repr -/
/-- what repr asks of data: ints of a size that is written out, a text that fits -/
def Shown (d : PyData) : Prop := d.showable = true ∧ d.shown.length ≤ sizeLine ∧ d.depth ≤ 100
def rRepr (K : PySem.W.Frag) : List V → Hp → VK → Prop := fun xs H Q => ∃ (v : V) (M : List Addr) (d : PyData), xs = [v] ∧ T K M H v d ∧ Shown d ∧ Q (.str d.shown) H
section
variable {X : Cx}
theorem call_repr {k : Nat} (hG : X.A.guards = some []) (hr : Room k X.A) : CallR X (.builtin "repr") (rRepr X.K) := by
  intro pins s σ H xs us Q I r h
  obtain ⟨v, M, d, rfl, ht, ⟨hs, hz, hd⟩, q⟩ := h
  obtain ⟨u, rfl, ru⟩ := vals1 r
  have room := hr.un
  have back : ∀ h' tok tk, (∀ b o, s.heap.get? b = some o → h'.get? b = some o) → EP X pins σ Q (.str d.shown tok) { s with heap := h', toks := tk } := fun h' tok tk kp => ⟨.str d.shown, H, I.kept kp, ⟨tok, rfl⟩, q⟩
  have ofCall : ∀ h' tok tk, (∀ b o, s.heap.get? b = some o → h'.get? b = some o) → ∃ y t, Value.str d.shown tok = Value.str y t ∧ EP X pins σ Q (.str d.shown tok) { s with heap := h', toks := tk } := fun h' tok tk kp => ⟨_, _, rfl, back h' tok tk kp⟩
  cases ht with
  | non =>
    cases ru
    exact PySem.P.repr_of_none (by simpa only [PyData.shown] using back s.heap _ _ fun _ _ e => e)
  | bl b =>
    cases ru
    exact PySem.P.repr_of_bool (by simpa only [PyData.shown] using back s.heap _ _ fun _ _ e => e)
  | int i =>
    obtain ⟨t, rfl⟩ := ru
    exact PySem.P.repr_of_int (by simpa [PyData.showable] using hs) (by simpa only [PyData.shown] using back s.heap _ _ fun _ _ e => e)
  | str x =>
    obtain ⟨t, rfl⟩ := ru
    exact PySem.P.repr_of_str (by simpa only [PyData.shown] using back s.heap _ _ fun _ _ e => e) (by simpa only [PyData.shown] using hz)
  | @lst a xs ds n ha t =>
    obtain ⟨as0, rd⟩ := T.reads I _ _ _ (T.lst n ha t) ru
    cases ru
    obtain ⟨its, rv, ⟨o, k', ho, hc, _, hdat⟩, _⟩ := I.list (SqL.of ha)
    have z' : (listText (PyData.shownAll ds)).length ≤ sizeLine := by simpa only [PyData.shown] using hz
    obtain ⟨bs, low, all⟩ := TA.shows I ds _ its t rv (by simpa [PyData.showable] using hs) fun x hx => Nat.le_trans (listText_mem_le hx) z'
    have out := not_mem_of_deeper rd (by simp only [PyData.depth]; omega) low
    simp only [PyData.depth] at hd
    simp only [PyData.shown] at ofCall
    refine call_repr_slot (T := "list") (idr := "list.__repr__") (by omega) ⟨o, ho, hc⟩ F.slot_list_repr.toG ?_
    cases its with
    | nil =>
      cases rv
      cases t
      simp only [PyData.shownAll, listText_nil] at ofCall
      exact call_list_repr_empty ⟨o, ho, hc⟩ ho hdat (ofCall s.heap _ _ fun _ _ e => e)
    | cons x l =>
      exact call_list_reprK ho hc hdat out (by simpa using all.length_eq) (fun i y e => all.item i y (by simpa using e)) hG (fun b _ => Clear.nil b) (by show X.A.units + 1 + (_ + 1) < cLine; omega) (fun _ _ e => e) ofCall z'
  | @tup a xs ds n ha t =>
    obtain ⟨as0, rd⟩ := T.reads I _ _ _ (T.tup n ha t) ru
    cases ru
    obtain ⟨its, rv, ⟨o, ho, hc, k', hdat⟩, _⟩ := I.tuple (SqT.of ha)
    have z' : (tupleText (PyData.shownAll ds)).length ≤ sizeLine := by simpa only [PyData.shown] using hz
    obtain ⟨bs, low, all⟩ := TA.shows I ds _ its t rv (by simpa [PyData.showable] using hs) fun x hx => Nat.le_trans (tupleText_mem_le hx) z'
    have out := not_mem_of_deeper rd (by simp only [PyData.depth]; omega) low
    simp only [PyData.depth] at hd
    simp only [PyData.shown] at ofCall
    refine call_repr_slot (T := "tuple") (idr := "tuple.__repr__") (by omega) ⟨o, ho, hc⟩ F.slot_tuple_repr ?_
    exact call_tuple_reprK ho hc hdat out (by simpa using all) hG (fun b _ => Clear.nil b) (by show X.A.units + 1 + (_ + 1) < cLine; omega) (fun _ _ e => e) ofCall z'
  | @dct a kvs es n ha t =>
    obtain ⟨as0, rd⟩ := T.reads I _ _ _ (T.dct n ha t) ru
    cases ru
    obtain ⟨_, sys, us, kv, o, es', ep, ho, hx, hdat, _, hp, _⟩ := I.hok _ _ ha
    obtain ⟨r1, r2⟩ := pairs_two hp kv
    have z' : (dictText (PyData.shownKv es)).length ≤ sizeLine := by simpa only [PyData.shown] using hz
    obtain ⟨s1, s2⟩ := PyData.showableKv_split es (by simpa [PyData.showable] using hs)
    obtain ⟨⟨b1, l1, k1⟩, ⟨b2, l2, k2⟩⟩ := TK.shows I es _ _ _ t r1 r2 s1 s2
      (fun x hx => let ⟨p, hp, hl⟩ := PyData.shownKv_key_le es x hx; Nat.le_trans hl (Nat.le_trans (dictText_mem_le hp) z'))
      (fun x hx => let ⟨p, hp, hl⟩ := PyData.shownKv_val_le es x hx; Nat.le_trans hl (Nat.le_trans (dictText_mem_le hp) z'))
    have low : ReadAtMost s.heap (PyData.depthKv es) (b1 ++ b2) := (l1.mono (PyData.depthAll_keys_le es)).append (l2.mono (PyData.depthAll_vals_le es))
    have out := not_mem_of_deeper rd (by simp only [PyData.depth]; omega) low
    simp only [PyData.depth] at hd
    simp only [PyData.shown, PyData.shownKv_eq] at ofCall
    refine call_repr_slot (T := "dict") (idr := "dict.__repr__") (by omega) ⟨o, ho, hx.1⟩ F.slot_dict_repr ?_
    exact call_dict_reprK ho hx.1 hdat sys out (ReprEntriesK.of_two es'.toList _ _ (k1.more_le (fun b hb => List.mem_append_left _ hb) (PyData.depthAll_keys_le es))
        (k2.more_le (fun b hb => List.mem_append_right _ hb) (PyData.depthAll_vals_le es))) hG (fun b _ => Clear.nil b) (by show X.A.units + 1 + (PyData.depthKv es + 1) < cLine; omega) (fun _ _ e => e) ofCall (by rw [← PyData.shownKv_eq]; exact z')
end
end U

set_option Elab.async false
set_option linter.all false
set_option maxRecDepth 100000
set_option maxHeartbeats 2000000
namespace U
open PySem PySem.Spec PyProof.Rows L2

/-! ### short steps of a reading -/
section
variable {a b : TS} {D : Ends} {σ : L2.St} {H : Hp}
/-- two statements, what holds between them -/
theorem sq (J : L2.St → Hp → Prop) (h1 : ∀ N : L2.St → Hp → Prop, (∀ σ' H', J σ' H' → N σ' H') → a { D with nx := N } σ H) (h2 : ∀ σ' H', J σ' H' → b D σ' H') : tSeq a b D σ H := h1 _ h2
theorem nx_ {N : L2.St → Hp → Prop} (h : N σ H) : tNext { D with nx := N } σ H := h
theorem two_ {i j : Nat} {x y : V} {Q : L2.St → Hp → Prop} (h : Q ((σ.set i (some x)).set j (some y)) H) : gCons (gName i) (gCons (gName j) gNil) [x, y] σ H Q := ⟨_, _, rfl, _, _, rfl, rfl, h⟩
theorem if_ {P Q : Prop} {c : Bool} (h1 : c = true → P) (h2 : c = false → Q) : if c = true then P else Q := by
  cases c with
  | true => exact iteT (h1 rfl)
  | false => exact iteF (h2 rfl)
theorem idec {P Q c : Prop} [Decidable c] (h1 : c → P) (h2 : ¬ c → Q) : if (decide c) = true then P else Q := by
  by_cases h : c
  · rw [decide_eq_true h]
    exact iteT (h1 h)
  · rw [decide_eq_false h]
    exact iteF (h2 h)
theorem ndec {P Q c : Prop} [Decidable c] (h1 : c → Q) (h2 : ¬ c → P) : if (!decide c) = true then P else Q := by
  by_cases h : c
  · rw [decide_eq_true h]
    exact iteF (h1 h)
  · rw [decide_eq_false h]
    exact iteT (h2 h)
theorem if_t {P Q : Prop} {c : Bool} (e : c = true) (h : P) : if c = true then P else Q := by rw [e]; exact iteT h
theorem if_f {P Q : Prop} {c : Bool} (e : c = false) (h : Q) : if c = true then P else Q := by rw [e]; exact iteF h
end
/-- a comprehension's turn without a test -/
theorem yes_ {te : TE} {σ : L2.St} {H : Hp} {Q : VK} {R : Hp → Prop} (h : te σ H Q) : tYes σ H fun b H' => if b = true then te σ H' Q else R H' := by
  show if true = true then te σ H Q else R H
  rw [if_pos rfl]
  exact h
/-- a module's number -/
theorem pe_gi {X : Cx} {x : Str} {i : Int} {pos : Pos} (hg : Gl X x) (h : ∃ t, X.mg x = some (.int i t)) (hd : (x == ("__debug__" : Str)) = false := by decide) : PE X (.Name x pos) (tC (.int i)) := by
  obtain ⟨t, e⟩ := h
  exact pe_glob hg e ⟨t, rfl⟩ hd
theorem ne_new {H : Hp} {a p : Addr} {o u : HO} (h : H a = some o) (hp : H p = none) : upd H p u a = some o := by
  rw [upd_ne (ne_of_none h hp)]
  exact h
end U

set_option Elab.async false
set_option linter.all false
set_option maxRecDepth 100000
set_option maxHeartbeats 2000000
namespace U
open PySem PySem.Spec PyProof.Rows L2

/-! ### a list or tuple against the empty one -/
section
variable {X : Cx}
theorem lstOf {pins : List (Addr × Obj)} {σ : L2.St} {H : Hp} {s : Shared} {a : Addr} {xs : List V} (I : Inv X pins σ H s) (h : SqL X.K H a xs) : ∃ its : List Value, its.length = xs.length ∧ s.heap.IsList a its.toArray := by
  obtain ⟨its, rv, ⟨o, n, ho, hc, _, hd⟩, _⟩ := I.list h
  exact ⟨its, rv.length.symm, o, ho, hc, n, hd⟩
theorem tupOf {pins : List (Addr × Obj)} {σ : L2.St} {H : Hp} {s : Shared} {a : Addr} {xs : List V} (I : Inv X pins σ H s) (h : SqT X.K H a xs) : ∃ its : List Value, its.length = xs.length ∧ s.heap.IsTuple a its.toArray := by
  obtain ⟨its, rv, ⟨o, ho, hc, n, hd⟩, _⟩ := I.tuple h
  exact ⟨its, rv.length.symm, o, ho, hc, n, hd⟩
def rNil (K : PySem.W.Frag) (neg : Bool) : R2 := fun x y H Q => ∃ a b xs, x = .ref a ∧ y = .ref b ∧ ((SqL K H a xs ∧ SqL K H b []) ∨ (SqT K H a xs ∧ SqT K H b [])) ∧ Q (.bl (if neg then !xs.isEmpty else xs.isEmpty)) H
theorem op_neNil {k : Nat} (hr : Room k X.A) : OpR X (compareOp .NotEq) (rNil X.K true) := by
  intro pins s σ H x y v u Q I rx ry h
  obtain ⟨a, b, xs, rfl, rfl, h, q⟩ := h
  cases (show v = Value.ref a from rx)
  cases (show u = Value.ref b from ry)
  have room := hr.un
  have q' : EP X pins σ Q (.bool (!xs.isEmpty)) s := ⟨.bl (!xs.isEmpty), H, I, rfl, q⟩
  rcases h with ⟨h1, h2⟩ | ⟨h1, h2⟩
  · obtain ⟨i1, l1, L1⟩ := lstOf I h1
    obtain ⟨i2, l2, L2⟩ := lstOf I h2
    have e2 : i2 = [] := List.length_eq_zero_iff.mp l2
    subst e2
    cases xs with
    | nil =>
      have e1 : i1 = [] := List.length_eq_zero_iff.mp l1
      subst e1
      exact PySem.SeqAt.RcNeAt.lists (e := fun _ => true) L1 L2 rfl (by omega) (fun j h1 h2 => absurd h1 (by simp)) _ _ _ _ (by simpa using q')
    | cons x xs =>
      exact PySem.SeqAt.RcNeAt.lists_lengths L1 L2 (by simp [l1]) (by omega) _ _ _ _ q'
  · obtain ⟨i1, l1, L1⟩ := tupOf I h1
    obtain ⟨i2, l2, L2⟩ := tupOf I h2
    have e2 : i2 = [] := List.length_eq_zero_iff.mp l2
    subst e2
    refine PySem.SeqAt.RcNeAt.tuples (e := fun _ => true) L1 L2 (by omega) (fun j h1 h2 => absurd h2 (by simp)) _ _ _ _ ?_
    cases xs with
    | nil => simpa [l1] using q'
    | cons x xs => simpa [l1] using q'
theorem op_eqNil {k : Nat} (hr : Room k X.A) : OpR X (compareOp .Eq) (rNil X.K false) := by
  intro pins s σ H x y v u Q I rx ry h
  obtain ⟨a, b, xs, rfl, rfl, h, q⟩ := h
  cases (show v = Value.ref a from rx)
  cases (show u = Value.ref b from ry)
  have room := hr.un
  have q' : EP X pins σ Q (.bool xs.isEmpty) s := ⟨.bl xs.isEmpty, H, I, rfl, q⟩
  rcases h with ⟨h1, h2⟩ | ⟨h1, h2⟩
  · obtain ⟨i1, l1, L1⟩ := lstOf I h1
    obtain ⟨i2, l2, L2⟩ := lstOf I h2
    have e2 : i2 = [] := List.length_eq_zero_iff.mp l2
    subst e2
    cases xs with
    | nil =>
      have e1 : i1 = [] := List.length_eq_zero_iff.mp l1
      subst e1
      exact PySem.SeqAt.RcAt.lists (e := fun _ => true) L1 L2 rfl (by omega) (fun j h1 h2 => absurd h1 (by simp)) _ _ _ _ (by simpa using q')
    | cons x xs =>
      exact PySem.SeqAt.RcAt.lists_lengths L1 L2 (by simp [l1]) (by omega) _ _ _ _ q'
  · obtain ⟨i1, l1, L1⟩ := tupOf I h1
    obtain ⟨i2, l2, L2⟩ := tupOf I h2
    have e2 : i2 = [] := List.length_eq_zero_iff.mp l2
    subst e2
    refine PySem.SeqAt.RcAt.tuples (e := fun _ => true) L1 L2 (by omega) (fun j h1 h2 => absurd h2 (by simp)) _ _ _ _ ?_
    cases xs with
    | nil => simpa [l1] using q'
    | cons x xs => simpa [l1] using q'
end

/-! ### isinstance of data -/
def tyName : PyData → String
  | .none => "NoneType" | .bool _ => "bool" | .int _ => "int" | .str _ => "str" | .list _ => "list" | .tuple _ => "tuple" | .dict _ => "dict"
theorem T.ty {K : PySem.W.Frag} {M : List Addr} {H : Hp} {v : V} {d : PyData} (h : T K M H v d) : TyX K H v (.type (tyName d)) := by
  cases h with
  | non => exact .base .non
  | bl b => exact .base (.bl b)
  | int i => exact .base (.int i)
  | str x => exact .base (.str x)
  | lst n h t => exact .base (.lst h)
  | tup n h t => exact .base (.tup h)
  | dct n h t => exact .base (.dK h)
def isInt : PyData → Bool | .bool _ => true | .int _ => true | _ => false
def isBool : PyData → Bool | .bool _ => true | _ => false
def isTup : PyData → Bool | .tuple _ => true | _ => false
def isList : PyData → Bool | .list _ => true | _ => false
def isStr : PyData → Bool | .str _ => true | _ => false
theorem kit_int (d : PyData) : kitB (tyName d) "int" = some (isInt d) := by
  cases d with
  | none => exact (by decide +kernel : kitB "NoneType" "int" = some false)
  | bool _ => exact (by decide +kernel : kitB "bool" "int" = some true)
  | int _ => exact (by decide +kernel : kitB "int" "int" = some true)
  | str _ => exact (by decide +kernel : kitB "str" "int" = some false)
  | list _ => exact (by decide +kernel : kitB "list" "int" = some false)
  | tuple _ => exact (by decide +kernel : kitB "tuple" "int" = some false)
  | dict _ => exact (by decide +kernel : kitB "dict" "int" = some false)
theorem kit_bool (d : PyData) : kitB (tyName d) "bool" = some (isBool d) := by
  cases d with
  | none => exact (by decide +kernel : kitB "NoneType" "bool" = some false)
  | bool _ => exact (by decide +kernel : kitB "bool" "bool" = some true)
  | int _ => exact (by decide +kernel : kitB "int" "bool" = some false)
  | str _ => exact (by decide +kernel : kitB "str" "bool" = some false)
  | list _ => exact (by decide +kernel : kitB "list" "bool" = some false)
  | tuple _ => exact (by decide +kernel : kitB "tuple" "bool" = some false)
  | dict _ => exact (by decide +kernel : kitB "dict" "bool" = some false)
theorem kit_tup (d : PyData) : kitB (tyName d) "tuple" = some (isTup d) := by
  cases d with
  | none => exact (by decide +kernel : kitB "NoneType" "tuple" = some false)
  | bool _ => exact (by decide +kernel : kitB "bool" "tuple" = some false)
  | int _ => exact (by decide +kernel : kitB "int" "tuple" = some false)
  | str _ => exact (by decide +kernel : kitB "str" "tuple" = some false)
  | list _ => exact (by decide +kernel : kitB "list" "tuple" = some false)
  | tuple _ => exact (by decide +kernel : kitB "tuple" "tuple" = some true)
  | dict _ => exact (by decide +kernel : kitB "dict" "tuple" = some false)
theorem kit_list (d : PyData) : kitB (tyName d) "list" = some (isList d) := by
  cases d with
  | none => exact (by decide +kernel : kitB "NoneType" "list" = some false)
  | bool _ => exact (by decide +kernel : kitB "bool" "list" = some false)
  | int _ => exact (by decide +kernel : kitB "int" "list" = some false)
  | str _ => exact (by decide +kernel : kitB "str" "list" = some false)
  | list _ => exact (by decide +kernel : kitB "list" "list" = some true)
  | tuple _ => exact (by decide +kernel : kitB "tuple" "list" = some false)
  | dict _ => exact (by decide +kernel : kitB "dict" "list" = some false)
theorem kit_str (d : PyData) : kitB (tyName d) "str" = some (isStr d) := by
  cases d with
  | none => exact (by decide +kernel : kitB "NoneType" "str" = some false)
  | bool _ => exact (by decide +kernel : kitB "bool" "str" = some false)
  | int _ => exact (by decide +kernel : kitB "int" "str" = some false)
  | str _ => exact (by decide +kernel : kitB "str" "str" = some true)
  | list _ => exact (by decide +kernel : kitB "list" "str" = some false)
  | tuple _ => exact (by decide +kernel : kitB "tuple" "str" = some false)
  | dict _ => exact (by decide +kernel : kitB "dict" "str" = some false)
/-- isinstance(x, type): the answer by the datum -/
theorem isi_ {K : PySem.W.Frag} {M : List Addr} {H : Hp} {v : V} {d : PyData} {n : String} {b : Bool} {Q : VK} (t : T K M H v d) (e : kitB (tyName d) n = some b) (q : Q (.bl b) H) : rIsi K [v, .ty n] H Q :=
  ⟨v, .ty n, _, _, b, rfl, .ty n, t.ty, kit_ty e, q⟩
end U

set_option Elab.async false
set_option linter.all false
set_option maxRecDepth 100000
set_option maxHeartbeats 2000000
namespace U
open PySem PySem.Spec PyProof.Rows L2

theorem not_mem_of_none {N : List Addr} {H : Hp} {D : Addr} (tr : ∀ b ∈ N, H b ≠ none) (h : H D = none) : D ∉ N := fun z => tr D z h
theorem Ext.tracked {N : List Addr} {H H' : Hp} {b : Addr} {o : HO} (e : Ext N H H') (n : b ∉ N) (h : H b = some o) : H' b = some o := e b o n h
theorem Ext.fresh {N : List Addr} {H H' : Hp} {p : Addr} (e : Ext N H H') (n : p ∉ N) (h : H' p = none) : H p = none := by
  cases q : H p with
  | none => rfl
  | some o =>
    rw [e p o n q] at h
    cases h
theorem TA.of_bools {K : PySem.W.Frag} {M : List Addr} {H : Hp} : ∀ {ys : List V} {bs : List Bool}, TA K M H ys (bs.map .bool) → ys = bs.map V.bl
  | _, [], h => by
    cases h
    rfl
  | _, b :: bs, h => by
    cases h with
    | cons h1 h2 =>
      cases h1
      rw [TA.of_bools h2]
      rfl
theorem T.mut {K : PySem.W.Frag} {M : List Addr} {H : Hp} {p : Addr} {o : HO} {v : V} {d : PyData} (h : T K M H v d) (hp : p ∈ M) : T K M (upd H p o) v d := h.ext (Ext.put hp)
section
variable {K : PySem.W.Frag} {M N : List Addr} {g : TG} {tt : TT} {te : TE} {vs : List Nat} {σ : L2.St} {H1 : Hp} {D : Addr} {Qd : Hp → Prop}
/-- what one turn of a comprehension is asked: the item taken, the test, the element; Ky: what is wanted of the element, Kn: where the item is not kept -/
def Turn (g : TG) (tt : TT) (te : TE) (vs : List Nat) (σ : L2.St) (x : V) (H : Hp) (Ky : V → Hp → Prop) (Kn : Hp → Prop) : Prop :=
  g x (wipe σ vs) H fun σ2 H2 => wipe σ2 vs = wipe σ vs ∧ tt σ2 H2 fun b H3 => if b = true then te σ2 H3 Ky else Kn H3

/-- the state ahead of turn i: the list so far -/
def Sofar (K : PySem.W.Frag) (M N : List Addr) (H1 : Hp) (D : Addr) (J : Nat → Hp → Prop) (keep : PyData → Bool) (f : PyData → PyData → Prop) (ds : List PyData) (i : Nat) (H : Hp) : Prop :=
  ∃ (ys : List V) (es : List PyData), Ext N H1 H ∧ J i H ∧ H D = some (.lst ys) ∧ TA K M H ys es ∧ Paired f ((ds.take i).filter keep) es
theorem Paired.snoc {α β : Type} {F : α → β → Prop} : ∀ {l : List α} {m : List β} {a : α} {b : β}, Paired F l m → F a b → Paired F (l ++ [a]) (m ++ [b])
  | _, _, _, _, .nil, h => .cons h .nil
  | _, _, _, _, .cons r t, h => .cons r (Paired.snoc t h)
theorem Paired.len {α β : Type} {F : α → β → Prop} : ∀ {l : List α} {m : List β}, Paired F l m → l.length = m.length
  | _, _, .nil => rfl
  | _, _, .cons _ t => by rw [List.length_cons, List.length_cons, Paired.len t]
theorem paired_map {α β : Type} {h : α → β} : ∀ {l : List α} {m : List β}, Paired (fun a b => b = h a) l m → m = l.map h
  | _, _, .nil => rfl
  | _, _, .cons r t => by rw [r, paired_map t]; rfl

theorem sofar_turn {J : Nat → Hp → Prop} {keep : PyData → Bool} {f : PyData → PyData → Prop} {ds : List PyData} {i : Nat} {x : V} {d : PyData} {H : Hp} (hl : ds.length ≤ 100000)
    (hNM : ∀ b ∈ N, b ∈ M) (hDN : D ∉ N) (hDM : D ∉ M) (hD : H1 D = none) (hJ : ∀ i H o, J i H → J i (upd H D o)) (hd : ds[i]? = some d)
    (p : Sofar K (D :: M) N H1 D J keep f ds i H)
    (turn : ∀ (Ky : V → Hp → Prop) (Kn : Hp → Prop), (keep d = false → ∀ H', Ext N H H' → J (i + 1) H' → Kn H') →
      (keep d = true → ∀ H' y e, Ext N H H' → J (i + 1) H' → T K (D :: M) H' y e → f d e → Ky y H') → Turn g tt te vs σ x H Ky Kn) :
    g x (wipe σ vs) H fun σ2 H2 => wipe σ2 vs = wipe σ vs ∧ tt σ2 H2 fun b H3 => if b = true then te σ2 H3 fun y H4 => ∃ acc, H4 D = some (.lst acc) ∧ acc.length < sizeLine ∧ Sofar K (D :: M) N H1 D J keep f ds (i + 1) (upd H4 D (.lst (acc ++ [y])))
      else Sofar K (D :: M) N H1 D J keep f ds (i + 1) H3 := by
  obtain ⟨ys, es, e, j, hDy, ht, pr⟩ := p
  have eM : ∀ {A B : Hp}, Ext N A B → Ext (D :: M) A B := fun x => x.sub fun b hb => List.mem_cons_of_mem _ (hNM b hb)
  refine turn _ _ (fun hk H' e' j' => ⟨ys, es, e.trans e', j', e' _ _ hDN hDy, ht.ext (eM e'), ?_⟩) (fun hk H' y ed e' j' ty fy => ⟨ys, e' _ _ hDN hDy, ?_, ys ++ [y], es ++ [ed], ?_, hJ _ _ _ j', upd_same, ?_, ?_⟩)
  · rw [List.take_add_one, hd, List.filter_append]
    simpa [hk] using pr
  · have l1 := ht.len
    have l2 := Paired.len pr
    have l3 := List.length_filter_le keep (ds.take i)
    rw [List.length_take] at l3
    exact Nat.lt_of_le_of_lt (show ys.length ≤ 100000 by omega) (by decide)
  · intro b o nb hb
    have hbD : b ≠ D := ne_of_none hb hD
    rw [upd_ne hbD]
    exact e' _ _ nb (e _ _ nb hb)
  · exact ((ht.ext (eM e')).app (.one ty)).ext (Ext.put (by simp))
  · rw [List.take_add_one, hd, List.filter_append]
    have : (some d).toList.filter keep = [d] := by simp [hk]
    rw [this]
    exact Paired.snoc pr fy

/-- a comprehension over a tuple of data -/
theorem lcT {a : Addr} {xs : List V} {ds : List PyData} (J : Nat → Hp → Prop) (keep : PyData → Bool) (f : PyData → PyData → Prop) (ha : H1 a = some (.tup xs)) (na : a ∉ M) (ht : TA K M H1 xs ds) (hl : ds.length ≤ 100000)
    (hNM : ∀ b ∈ N, b ∈ M) (hN : ∀ b ∈ M, H1 b ≠ none) (hD : H1 D = none) (j0 : J 0 H1) (hJ : ∀ i H o, J i H → J i (upd H D o))
    (turn : ∀ i x d H, ds[i]? = some d → T K (D :: M) H x d → Ext N H1 H → J i H → ∀ (Ky : V → Hp → Prop) (Kn : Hp → Prop), (keep d = false → ∀ H', Ext N H H' → J (i + 1) H' → Kn H') →
      (keep d = true → ∀ H' y e, Ext N H H' → J (i + 1) H' → T K (D :: M) H' y e → f d e → Ky y H') → Turn g tt te vs σ x H Ky Kn)
    (hd : ∀ H ys es, Ext N H1 H → J ds.length H → H D = some (.lst ys) → TA K M H ys es → Paired f (ds.filter keep) es → Qd H) :
    ∃ W : Nat → Nat → Hp → Prop, (∃ m, W 0 m (upd H1 D (.lst []))) ∧ ∀ i m H, W i m H →
      ((Itt K a).stop i H ∧ Qd H) ∨ ((Itt K a).go i H ∧ ∃ Nx : Hp → Prop, (∀ H', Nx H' → ∃ m', m' < m ∧ W (i + 1) m' H') ∧ ∀ x H', (Itt K a).yld i H x H' → g x (wipe σ vs) H' fun σ2 H2 => wipe σ2 vs = wipe σ vs ∧ tt σ2 H2 fun b H3 =>
        if b = true then te σ2 H3 fun y H4 => ∃ acc, H4 D = some (.lst acc) ∧ acc.length < sizeLine ∧ Nx (upd H4 D (.lst (acc ++ [y]))) else Nx H3) := by
  have hDM : D ∉ M := fun z => hN D z hD
  have hDN : D ∉ N := fun z => hDM (hNM D z)
  have naN : a ∉ N := fun z => na (hNM a z)
  have hT : TA K (D :: M) H1 xs ds := ht.plus hD
  refine lc_tup (K := K) (a := a) (xs := xs) (fun i H => Sofar K (D :: M) N H1 D J keep f ds i H) ⟨[], [], Ext.new hD, hJ _ _ _ j0, upd_same, .nil, by simpa using Paired.nil⟩ (fun i H _ p => ?_) (fun i x H hx p => ?_) (fun H p => ?_)
  · obtain ⟨_, _, e, _⟩ := p
    exact SqT.of (e _ _ naN ha)
  · obtain ⟨d, hdi, td⟩ := hT.get hx
    have e := let ⟨_, _, e, _⟩ := p; e
    have j := let ⟨_, _, _, j, _⟩ := p; j
    exact sofar_turn hl hNM hDN hDM hD hJ hdi p (turn i x d H hdi (td.ext (e.sub fun b hb => List.mem_cons_of_mem _ (hNM b hb))) e j)
  · obtain ⟨ys, es, e, j, h1, h2, h3⟩ := p
    rw [ht.len, List.take_length] at h3
    rw [ht.len] at j
    exact hd H ys es e j h1 (h2.off fun b hb => List.mem_cons_of_mem _ hb) h3
/-- over a list of data -/
theorem lcL {a : Addr} {xs : List V} {ds : List PyData} (J : Nat → Hp → Prop) (keep : PyData → Bool) (f : PyData → PyData → Prop) (ha : H1 a = some (.lst xs)) (na : a ∉ M) (ht : TA K M H1 xs ds) (hl : ds.length ≤ 100000)
    (hNM : ∀ b ∈ N, b ∈ M) (hN : ∀ b ∈ M, H1 b ≠ none) (hD : H1 D = none) (j0 : J 0 H1) (hJ : ∀ i H o, J i H → J i (upd H D o))
    (turn : ∀ i x d H, ds[i]? = some d → T K (D :: M) H x d → Ext N H1 H → J i H → ∀ (Ky : V → Hp → Prop) (Kn : Hp → Prop), (keep d = false → ∀ H', Ext N H H' → J (i + 1) H' → Kn H') →
      (keep d = true → ∀ H' y e, Ext N H H' → J (i + 1) H' → T K (D :: M) H' y e → f d e → Ky y H') → Turn g tt te vs σ x H Ky Kn)
    (hd : ∀ H ys es, Ext N H1 H → J ds.length H → H D = some (.lst ys) → TA K M H ys es → Paired f (ds.filter keep) es → Qd H) :
    ∃ W : Nat → Nat → Hp → Prop, (∃ m, W 0 m (upd H1 D (.lst []))) ∧ ∀ i m H, W i m H →
      ((Itl K a).stop i H ∧ Qd H) ∨ ((Itl K a).go i H ∧ ∃ Nx : Hp → Prop, (∀ H', Nx H' → ∃ m', m' < m ∧ W (i + 1) m' H') ∧ ∀ x H', (Itl K a).yld i H x H' → g x (wipe σ vs) H' fun σ2 H2 => wipe σ2 vs = wipe σ vs ∧ tt σ2 H2 fun b H3 =>
        if b = true then te σ2 H3 fun y H4 => ∃ acc, H4 D = some (.lst acc) ∧ acc.length < sizeLine ∧ Nx (upd H4 D (.lst (acc ++ [y]))) else Nx H3) := by
  have hDM : D ∉ M := fun z => hN D z hD
  have hDN : D ∉ N := fun z => hDM (hNM D z)
  have naN : a ∉ N := fun z => na (hNM a z)
  have hT : TA K (D :: M) H1 xs ds := ht.plus hD
  refine lc_list (K := K) (a := a) (xs := xs) (fun i H => Sofar K (D :: M) N H1 D J keep f ds i H) ⟨[], [], Ext.new hD, hJ _ _ _ j0, upd_same, .nil, by simpa using Paired.nil⟩ (fun i H _ p => ?_) (fun i x H hx p => ?_) (fun H p => ?_)
  · obtain ⟨_, _, e, _⟩ := p
    exact SqL.of (e _ _ naN ha)
  · obtain ⟨d, hdi, td⟩ := hT.get hx
    have e := let ⟨_, _, e, _⟩ := p; e
    have j := let ⟨_, _, _, j, _⟩ := p; j
    exact sofar_turn hl hNM hDN hDM hD hJ hdi p (turn i x d H hdi (td.ext (e.sub fun b hb => List.mem_cons_of_mem _ (hNM b hb))) e j)
  · obtain ⟨ys, es, e, j, h1, h2, h3⟩ := p
    rw [ht.len, List.take_length] at h3
    rw [ht.len] at j
    exact hd H ys es e j h1 (h2.off fun b hb => List.mem_cons_of_mem _ hb) h3
/-- over a range from 0 -/
theorem lcR {n : Nat} (J : Nat → Hp → Prop) (keep : PyData → Bool) (f : PyData → PyData → Prop) (hl : n ≤ 100000)
    (hNM : ∀ b ∈ N, b ∈ M) (hN : ∀ b ∈ M, H1 b ≠ none) (hD : H1 D = none) (j0 : J 0 H1) (hJ : ∀ i H o, J i H → J i (upd H D o))
    (turn : ∀ (i : Nat) H, i < n → Ext N H1 H → J i H → ∀ (Ky : V → Hp → Prop) (Kn : Hp → Prop), (keep (.int (i : Int)) = false → ∀ H', Ext N H H' → J (i + 1) H' → Kn H') →
      (keep (.int (i : Int)) = true → ∀ H' y e, Ext N H H' → J (i + 1) H' → T K (D :: M) H' y e → f (.int (i : Int)) e → Ky y H') → Turn g tt te vs σ (.int (i : Int)) H Ky Kn)
    (hd : ∀ H ys es, Ext N H1 H → J n H → H D = some (.lst ys) → TA K M H ys es → Paired f (((List.range n).map fun i : Nat => PyData.int (i : Int)).filter keep) es → Qd H) :
    ∃ W : Nat → Nat → Hp → Prop, (∃ m, W 0 m (upd H1 D (.lst []))) ∧ ∀ i m H, W i m H →
      ((Itr 0 n).stop i H ∧ Qd H) ∨ ((Itr 0 n).go i H ∧ ∃ Nx : Hp → Prop, (∀ H', Nx H' → ∃ m', m' < m ∧ W (i + 1) m' H') ∧ ∀ x H', (Itr 0 n).yld i H x H' → g x (wipe σ vs) H' fun σ2 H2 => wipe σ2 vs = wipe σ vs ∧ tt σ2 H2 fun b H3 =>
        if b = true then te σ2 H3 fun y H4 => ∃ acc, H4 D = some (.lst acc) ∧ acc.length < sizeLine ∧ Nx (upd H4 D (.lst (acc ++ [y]))) else Nx H3) := by
  have hDM : D ∉ M := fun z => hN D z hD
  have hDN : D ∉ N := fun z => hDM (hNM D z)
  refine lc_range (lo := 0) (n := n) (fun i H => Sofar K (D :: M) N H1 D J keep f ((List.range n).map fun i : Nat => PyData.int (i : Int)) i H) ⟨[], [], Ext.new hD, hJ _ _ _ j0, upd_same, .nil, by simpa using Paired.nil⟩ (fun i H hi p => ?_) (fun H p => ?_)
  · have e := let ⟨_, _, e, _⟩ := p; e
    have j := let ⟨_, _, _, j, _⟩ := p; j
    have z : (0 : Int) + (i : Int) = (i : Int) := Int.zero_add _
    rw [z]
    exact sofar_turn (d := .int (i : Int)) (by simpa using hl) hNM hDN hDM hD hJ (by simp [hi]) p (turn i H hi e j)
  · obtain ⟨ys, es, e, j, h1, h2, h3⟩ := p
    rw [List.take_of_length_le (by simp)] at h3
    exact hd H ys es e j h1 (h2.off fun b hb => List.mem_cons_of_mem _ hb) h3
end
section
variable {K : PySem.W.Frag} {M N : List Addr} {H : Hp}
theorem filter_all (ds : List PyData) : (ds.filter fun _ => true) = ds := List.filter_eq_self.mpr fun _ _ => rfl
theorem bools_of {h : PyData → Bool} {ds es : List PyData} {ys : List V} (pr : Paired (fun d e => e = .bool (h d)) (ds.filter fun _ => true) es) (ty : TA K M H ys es) : ys = (ds.map h).map V.bl := by
  rw [filter_all] at pr
  have e := paired_map pr
  rw [e, show (fun a => PyData.bool (h a)) = PyData.bool ∘ h from rfl, ← List.map_map] at ty
  exact TA.of_bools ty
theorem same_ext {H' : Hp} (e : Ext [] H H') : Same H H' := fun b o h => e b o (by simp) h
theorem T.non_ {d : PyData} (h : T K M H .non d) : d = .none := by
  cases h
  rfl
theorem all_id (bs : List Bool) : bs.all id = bs.all fun b => b := rfl
theorem all_map {h : PyData → Bool} (ds : List PyData) : (ds.map h).all id = ds.all h := by
  rw [List.all_map]
  rfl
end
end U

set_option Elab.async false
set_option linter.all false
set_option maxRecDepth 100000
set_option maxHeartbeats 2000000
namespace U
open PySem PySem.Spec PyProof.Rows L2

/-! ### the rules with the written part named (K), so that a comprehension's reading hangs on K alone -/
def rLenQ (K : PySem.W.Frag) : List V → Hp → VK → Prop := fun xs H Q => ∃ p ys, xs = [.ref p] ∧ (SqL K H p ys ∨ SqT K H p ys) ∧ Q (.int (ys.length : Nat)) H
def rLenA (K : PySem.W.Frag) : List V → Hp → VK → Prop := fun xs H Q => ∃ x n, xs = [x] ∧ LenV K x H n ∧ Q (.int (n : Nat)) H
def rListOf (K : PySem.W.Frag) : List V → Hp → VK → Prop := fun xs H Q => ∃ p ys, xs = [.ref p] ∧ (SqL K H p ys ∨ SqT K H p ys) ∧ ∀ l, H l = none → Q (.ref l) (upd H l (.lst ys))
def rTupOf (K : PySem.W.Frag) : List V → Hp → VK → Prop := fun xs H Q => ∃ p ys, xs = [.ref p] ∧ ((SqL K H p ys ∧ ∀ l, H l = none → Q (.ref l) (upd H l (.tup ys))) ∨ (SqT K H p ys ∧ Q (.ref p) H))
theorem room1 {k : Nat} {A : Around} (r : Room k A) : A.units + 1 < cLine := by have := r.units; omega
section
variable {X : Cx}
theorem kLenQ (K : PySem.W.Frag) (h : X.K = K := by rfl) : CallR X (.builtin "len") (rLenQ K) := by subst h; exact call_len_seq
theorem kLenA (K : PySem.W.Frag) (h : X.K = K := by rfl) : CallR X (.builtin "len") (rLenA K) := by subst h; exact call_len
theorem kListOf (K : PySem.W.Frag) (h : X.K = K := by rfl) : CallR X (.type "list") (rListOf K) := by subst h; exact call_list_of
theorem kTupOf (K : PySem.W.Frag) (h : X.K = K := by rfl) : CallR X (.type "tuple") (rTupOf K) := by subst h; exact call_tuple_of
theorem kIsi (K : PySem.W.Frag) (h : X.K = K := by rfl) : CallR X (.builtin "isinstance") (rIsi K) := by subst h; exact call_isi
theorem kAll (K : PySem.W.Frag) (hc : X.calm = true) (h : X.K = K := by rfl) : CallR X (.builtin "all") (rAll K) := by subst h; exact cr_all hc
theorem kAny (K : PySem.W.Frag) (hc : X.calm = true) (h : X.K = K := by rfl) : CallR X (.builtin "any") (rAny K) := by subst h; exact cr_any hc
theorem kSum (K : PySem.W.Frag) (hc : X.calm = true) (h : X.K = K := by rfl) : CallR X (.builtin "sum") (rSum K) := by subst h; exact cr_sum hc
theorem kMax (K : PySem.W.Frag) (hc : X.calm = true) (h : X.K = K := by rfl) : CallR X (.builtin "max") (rMax K) := by subst h; exact cr_max hc
theorem kMin (K : PySem.W.Frag) (hc : X.calm = true) (h : X.K = K := by rfl) : CallR X (.builtin "min") (rMin K) := by subst h; exact cr_min hc
theorem kRepr (K : PySem.W.Frag) {k : Nat} (hG : X.A.guards = some []) (hr : Room k X.A) (h : X.K = K := by rfl) : CallR X (.builtin "repr") (rRepr K) := by subst h; exact call_repr hG hr
theorem kIxL (K : PySem.W.Frag) (h : X.K = K := by rfl) : IxR X (rIxL K) := by subst h; exact ix_list
theorem kIxT (K : PySem.W.Frag) (h : X.K = K := by rfl) : IxR X (rIxT K) := by subst h; exact ix_tup
theorem kIxQ (K : PySem.W.Frag) (h : X.K = K := by rfl) : IxR X (rIx K) := by subst h; exact ix_seq
theorem kSlL (K : PySem.W.Frag) (h : X.K = K := by rfl) : SlR X (rSlL K) := by subst h; exact sl_list
theorem kSlT (K : PySem.W.Frag) (h : X.K = K := by rfl) : SlR X (rSlA K) := by subst h; exact sl_tupA
theorem kCatT (K : PySem.W.Frag) (h : X.K = K := by rfl) : OpR X (binaryOp .Add) (rCatA K) := by subst h; exact op_catA
theorem kRepT (K : PySem.W.Frag) (h : X.K = K := by rfl) : OpR X (binaryOp .Mult) (rRepT K) := by subst h; exact op_repT
theorem kIn (K : PySem.W.Frag) (h : X.K = K := by rfl) : OpR X (compareOp .In) (rIn K false) := by subst h; exact op_in_seq
theorem kNotIn (K : PySem.W.Frag) (h : X.K = K := by rfl) : OpR X (compareOp .NotIn) (rIn K true) := by subst h; exact op_notIn_seq
theorem kEqD (K : PySem.W.Frag) {k : Nat} (hr : Room k X.A) (h : X.K = K := by rfl) : OpR X (compareOp .Eq) (rEqD K) := by subst h; exact op_eqD hr.units
theorem kNeD (K : PySem.W.Frag) {k : Nat} (hr : Room k X.A) (h : X.K = K := by rfl) : OpR X (compareOp .NotEq) (rNeD K) := by subst h; exact op_neD hr.units
theorem kEqNil (K : PySem.W.Frag) {k : Nat} (hr : Room k X.A) (h : X.K = K := by rfl) : OpR X (compareOp .Eq) (rNil K false) := by subst h; exact op_eqNil hr
theorem kNeNil (K : PySem.W.Frag) {k : Nat} (hr : Room k X.A) (h : X.K = K := by rfl) : OpR X (compareOp .NotEq) (rNil K true) := by subst h; exact op_neNil hr
theorem kPiL (K : PySem.W.Frag) {tg l : Expr} {tl : TE} (hl : PE X l tl) (h : X.K = K := by rfl) : PI X tg l (iList K tl) := by subst h; exact pi_list hl
theorem kPiT (K : PySem.W.Frag) {tg l : Expr} {tl : TE} (hl : PE X l tl) (h : X.K = K := by rfl) : PI X tg l (iTup K tl) := by subst h; exact pi_tup hl
theorem kTgT (K : PySem.W.Frag) {es : List Expr} {k : Nat} {t : TGs} {n : Nat} {pos : Pos} (hc : X.calm = true) (g : PGs X es t) (h : X.K = K := by rfl)
    (hn : (assignEach es X.env).length = n := by rfl) (hst : (assignEach es X.env).findIdx? (·.1) = none := by rfl) : PG X (.Tuple es k pos) (gTup K n t) := by
  subst h
  exact pg_tup hc g hn hst
theorem kBm (K : PySem.W.Frag) {e : Expr} {t : String} {r : V → List V → Hp → VK → Prop} {to : TE} {ts : L2.TA} (p : PE X e (tBM X.K t r to ts)) (h : X.K = K := by rfl) : PE X e (tBM K t r to ts) := by subst h; exact p
theorem kBm0 (K : PySem.W.Frag) {e : Expr} {t : String} {r : V → List V → Hp → VK → Prop} {to : TE} (p : PE X e (tBM0 X.K t r to)) (h : X.K = K := by rfl) : PE X e (tBM0 K t r to) := by subst h; exact p
theorem kTruth (K : PySem.W.Frag) {a : Expr} {ta : TE} (ha : PE X a ta) (he : ∀ whole, isTrue a X.env whole = (do let v ← whole; standAt a.pos; holding [v] (truthy v))) (h : X.K = K := by rfl) :
    PT X a (fun σ H Q => ta σ H fun x H' => ∃ k, TruV K x H' k ∧ Q k H') := by subst h; exact pt_truth ha he
theorem kEnum (K : PySem.W.Frag) {e : Expr} {ta : L2.TA} {p pos tpos : Pos} {elts : List Expr} {kk : Nat} (hg : Gl X "enumerate") (hm : X.mg "enumerate" = none) (ha : PA X [e] ta) (h : X.K = K := by rfl) (hs : starEach [e] X.env = [(false, eval e X.env)] := by rfl) :
    PI X (.Tuple elts kk tpos) (.Call (.Name "enumerate" p) [e] [] pos) (iEnum K ta) := by subst h; exact pi_enum hg hm ha hs
end
end U

set_option Elab.async false
set_option linter.all false
set_option maxRecDepth 100000
set_option maxHeartbeats 2000000
namespace U
open PySem PySem.Spec PyProof.Rows L2
/-- the places that are written are tracked -/
def Trk (M : List Addr) (H : Hp) : Prop := ∀ b ∈ M, H b ≠ none
theorem Trk.same {M : List Addr} {H H' : Hp} (t : Trk M H) (s : Same H H') : Trk M H' := fun b hb z => t b hb (Same.free s z)
theorem Trk.new {M : List Addr} {H : Hp} {p : Addr} (t : Trk M H) (h : H p = none) : p ∉ M := fun z => t p z h
theorem Trk.upd {M : List Addr} {H : Hp} {p : Addr} {o : HO} (t : Trk M H) : Trk M (upd H p o) := fun b hb z => by
  by_cases e : b = p
  · rw [e, upd_same] at z
    cases z
  · rw [upd_ne e] at z
    exact t b hb z
section
variable {K : PySem.W.Frag} {M : List Addr} {H : Hp} {xs : List V} {ds : List PyData} {Q : VK}
theorem newT (tr : Trk M H) (t : TA K M H xs ds) (k : ∀ p H', H p = none → Same H H' → Trk M H' → H' p = some (.tup xs) → T K M H' (.ref p) (.tuple ds) → Q (.ref p) H') : ∀ p, H p = none → Q (.ref p) (upd H p (.tup xs)) := fun p hp =>
  k p _ hp (Same.new hp) (tr.same (Same.new hp)) upd_same (.tup (tr.new hp) upd_same (t.same (Same.new hp)))
theorem newL (tr : Trk M H) (t : TA K M H xs ds) (k : ∀ p H', H p = none → Same H H' → Trk M H' → H' p = some (.lst xs) → T K M H' (.ref p) (.list ds) → Q (.ref p) H') : ∀ p, H p = none → Q (.ref p) (upd H p (.lst xs)) := fun p hp =>
  k p _ hp (Same.new hp) (tr.same (Same.new hp)) upd_same (.lst (tr.new hp) upd_same (t.same (Same.new hp)))
theorem newD (tr : Trk M H) (k : ∀ p H', H p = none → Same H H' → Trk M H' → T K M H' (.ref p) (.dict []) → Q (.ref p) H') : ∀ p, H p = none → Q (.ref p) (upd H p (.dK [])) := fun p hp =>
  k p _ hp (Same.new hp) (tr.same (Same.new hp)) (.dct (tr.new hp) upd_same .nil)
end
section
variable {K : PySem.W.Frag} {M : List Addr} {H : Hp} {xs : List V} {ds : List PyData} {p : Addr}
theorem atT (tr : Trk M H) (t : TA K M H xs ds) (hp : H p = none) : Same H (upd H p (.tup xs)) ∧ Trk M (upd H p (.tup xs)) ∧ T K M (upd H p (.tup xs)) (.ref p) (.tuple ds) ∧ (upd H p (.tup xs)) p = some (.tup xs) :=
  ⟨Same.new hp, tr.upd, .tup (tr.new hp) upd_same (t.same (Same.new hp)), upd_same⟩
theorem atL (tr : Trk M H) (t : TA K M H xs ds) (hp : H p = none) : Same H (upd H p (.lst xs)) ∧ Trk M (upd H p (.lst xs)) ∧ T K M (upd H p (.lst xs)) (.ref p) (.list ds) ∧ (upd H p (.lst xs)) p = some (.lst xs) :=
  ⟨Same.new hp, tr.upd, .lst (tr.new hp) upd_same (t.same (Same.new hp)), upd_same⟩
theorem atD (tr : Trk M H) (hp : H p = none) : Same H (upd H p (.dK [])) ∧ Trk M (upd H p (.dK [])) ∧ T K M (upd H p (.dK [])) (.ref p) (.dict []) ∧ (upd H p (.dK [])) p = some (.dK []) :=
  ⟨Same.new hp, tr.upd, .dct (tr.new hp) upd_same .nil, upd_same⟩
end
/-! ### parts of tuples, tuples put together -/
def cutD (ds : List PyData) (lo hi : Option Int) : List PyData := (ds.drop (HT.sIx ds.length 0 lo)).take (HT.sIx ds.length ds.length hi - HT.sIx ds.length 0 lo)
section
variable {K : PySem.W.Frag} {M : List Addr} {H : Hp} {a b : Addr} {ds es : List PyData} {lo hi : Option Int} {Q : VK}
theorem slA {x : V} (tr : Trk M H) (t : T K M H x (.tuple ds)) (k : ∀ r H', Same H H' → Trk M H' → T K M H' r (.tuple (cutD ds lo hi)) → Q r H') : rSlA K x lo hi H Q := by
  cases t with
  | @tup a xs _ na ha t =>
    have lx := t.len
    refine ⟨a, xs, rfl, SqT.of ha, fun w => ?_, fun w p hp => ?_⟩
    · rw [lx] at w
      refine k _ _ (Same.refl _) tr ?_
      have e : cutD ds lo hi = ds := by
        unfold cutD
        rw [w.1, w.2, List.drop_zero, Nat.sub_zero, List.take_length]
      rw [e]
      exact .tup na ha t
    · have tc : TA K M H (cutV xs lo hi) (cutD ds lo hi) := by
        unfold cutV cutD
        rw [lx]
        exact (t.drop _).take _
      obtain ⟨s, tr', t', _⟩ := atT tr tc hp
      exact k _ _ s tr' t'
theorem catA {x y : V} (tr : Trk M H) (t : T K M H x (.tuple ds)) (u : T K M H y (.tuple es)) (hl : ds.length + es.length ≤ 100000) (k : ∀ r H', Same H H' → Trk M H' → T K M H' r (.tuple (ds ++ es)) → Q r H') : rCatA K x y H Q := by
  cases t with
  | @tup a xs _ na ha t =>
    cases u with
    | @tup b ys _ nb hb u =>
      have lx := t.len
      have ly := u.len
      refine ⟨a, b, xs, ys, rfl, rfl, SqT.of ha, SqT.of hb, Nat.le_trans (show xs.length + ys.length ≤ 100000 by omega) (by decide), fun e => ?_, fun e1 e2 => ?_, fun e1 e2 p hp => ?_⟩
      · subst e
        cases t
        exact k _ _ (Same.refl _) tr (.tup nb hb u)
      · subst e2
        cases u
        exact k _ _ (Same.refl _) tr (.tup na ha (by rw [List.append_nil]; exact t))
      · obtain ⟨s, tr', t', _⟩ := atT tr (t.app u) hp
        exact k _ _ s tr' t'
theorem T.get {v : V} {j : Nat} (t : T K M H v (.tuple ds)) (hj : j < ds.length) : ∃ a xs x, v = .ref a ∧ H a = some (.tup xs) ∧ xs[j]? = some x ∧ T K M H x ds[j] := by
  cases t with
  | @tup a xs _ na ha t =>
    have lx := t.len
    have hx : xs[j]? = some xs[j] := by simp [lx, hj]
    obtain ⟨d, hd, td⟩ := t.get hx
    refine ⟨a, xs, _, rfl, ha, hx, ?_⟩
    have e : d = ds[j] := by
      rw [List.getElem?_eq_getElem hj] at hd
      exact (Option.some.inj hd).symm
    rw [← e]
    exact td
end
/-! ### data that is small enough to be shown -/
structure Fine (w dp : Nat) (d : PyData) : Prop where
  show_ : d.showable = true
  short : d.leavesShort 60 = true
  weight : d.weight ≤ w
  depth : d.depth ≤ dp
theorem Fine.shown {w dp : Nat} {d : PyData} (f : Fine w dp d) (hw : w ≤ 200000) (hd : dp ≤ 100) : Shown d := by
  refine ⟨f.show_, ?_, Nat.le_trans f.depth hd⟩
  have h := PyData.shown_le 60 (by decide) d f.short
  have h2 : (60 + 2) * d.weight ≤ (60 + 2) * 200000 := Nat.mul_le_mul_left _ (Nat.le_trans f.weight hw)
  rw [sizeLine_eq]
  omega
theorem Fine.more {w dp w' dp' : Nat} {d : PyData} (f : Fine w dp d) (hw : w ≤ w') (hd : dp ≤ dp') : Fine w' dp' d := ⟨f.show_, f.short, Nat.le_trans f.weight hw, Nat.le_trans f.depth hd⟩
theorem fine_all {w dp : Nat} : ∀ {ds : List PyData}, (∀ d ∈ ds, Fine w dp d) → PyData.showableAll ds = true ∧ PyData.leavesShortAll 60 ds = true ∧ PyData.weightAll ds ≤ (w + 1) * ds.length ∧ PyData.depthAll ds ≤ dp
  | [], _ => ⟨rfl, rfl, Nat.le_refl _, Nat.zero_le _⟩
  | d :: ds, h => by
    obtain ⟨a, b, c, e⟩ := fine_all fun x hx => h x (List.mem_cons_of_mem _ hx)
    have f := h d List.mem_cons_self
    refine ⟨?_, ?_, ?_, ?_⟩
    · simp only [PyData.showableAll, f.show_, a, Bool.and_self]
    · simp only [PyData.leavesShortAll, f.short, b, Bool.and_self]
    · simp only [PyData.weightAll, List.length_cons, Nat.mul_add, Nat.mul_one]
      have := f.weight
      omega
    · simp only [PyData.depthAll]
      have := f.depth
      omega
theorem fine_tup {w dp n : Nat} {ds : List PyData} (h : ∀ d ∈ ds, Fine w dp d) (hn : ds.length ≤ n) : Fine ((w + 1) * n) (dp + 1) (.tuple ds) := by
  obtain ⟨a, b, c, e⟩ := fine_all h
  refine ⟨by simp only [PyData.showable, a], by simp only [PyData.leavesShort, b], ?_, ?_⟩
  · simp only [PyData.weight]
    exact Nat.le_trans c (Nat.mul_le_mul_left _ hn)
  · simp only [PyData.depth]
    omega
theorem fine_list {w dp n : Nat} {ds : List PyData} (h : ∀ d ∈ ds, Fine w dp d) (hn : ds.length ≤ n) : Fine ((w + 1) * n) (dp + 1) (.list ds) := by
  obtain ⟨a, b, c, e⟩ := fine_all h
  refine ⟨by simp only [PyData.showable, a], by simp only [PyData.leavesShort, b], ?_, ?_⟩
  · simp only [PyData.weight]
    exact Nat.le_trans c (Nat.mul_le_mul_left _ hn)
  · simp only [PyData.depth]
    omega
theorem fine_of {w dp : Nat} {d : PyData} (h : (d.showable && d.leavesShort 60 && decide (d.weight ≤ w) && decide (d.depth ≤ dp)) = true) : Fine w dp d := by
  simp only [Bool.and_eq_true, decide_eq_true_eq] at h
  exact ⟨h.1.1.1, h.1.1.2, h.1.2, h.2⟩
theorem fine_int {i : Int} (h : i.natAbs < 10 ^ 12) : Fine 40 0 (.int i) := by
  have h1 := PyData.shown_int_le h
  have h2 : i.natAbs.log2 < 40 := by
    by_cases z : i.natAbs = 0
    · rw [z]
      decide
    · exact (Nat.log2_lt z).mpr (Nat.lt_trans h (by decide))
  refine ⟨?_, ?_, ?_, Nat.le_refl _⟩
  · simp only [PyData.showable, decide_eq_true_eq]
    omega
  · simp only [PyData.leavesShort, decide_eq_true_eq]
    omega
  · simp only [PyData.weight]
    split <;> omega
theorem fine_bool (b : Bool) : Fine 0 0 (.bool b) := ⟨rfl, rfl, Nat.le_refl _, Nat.le_refl _⟩
theorem fine_none : Fine 0 0 .none := ⟨rfl, rfl, Nat.le_refl _, Nat.le_refl _⟩
/-- the parts of data that is fine -/
theorem Fine.items {w dp : Nat} {ds : List PyData} (f : Fine w dp (.tuple ds)) : ∀ d ∈ ds, Fine w (dp - 1) d := by
  have s : PyData.showableAll ds = true := by simpa only [PyData.showable] using f.show_
  have l : PyData.leavesShortAll 60 ds = true := by simpa only [PyData.leavesShort] using f.short
  have wt : PyData.weightAll ds ≤ w := f.weight
  have dt : PyData.depthAll ds + 1 ≤ dp := by simpa only [PyData.depth] using f.depth
  clear f
  induction ds with
  | nil => intro d hd; cases hd
  | cons x xs ih =>
    simp only [PyData.showableAll, Bool.and_eq_true] at s
    simp only [PyData.leavesShortAll, Bool.and_eq_true] at l
    simp only [PyData.weightAll] at wt
    simp only [PyData.depthAll] at dt
    intro d hd
    rcases List.mem_cons.mp hd with rfl | hd
    · exact ⟨s.1, l.1, by omega, by omega⟩
    · exact ih s.2 l.2 (by omega) (by omega) d hd
/-! ### rows of data that are fine together -/
structure FineL (w dp : Nat) (ds : List PyData) : Prop where
  show_ : PyData.showableAll ds = true
  short : PyData.leavesShortAll 60 ds = true
  weight : PyData.weightAll ds ≤ w
  depth : PyData.depthAll ds ≤ dp
theorem FineL.nil {dp : Nat} : FineL 0 dp [] := ⟨rfl, rfl, Nat.le_refl _, Nat.zero_le _⟩
theorem FineL.cons {w v dp : Nat} {d : PyData} {ds : List PyData} (f : Fine v dp d) (g : FineL w dp ds) : FineL (v + 1 + w) dp (d :: ds) := by
  refine ⟨?_, ?_, ?_, ?_⟩
  · simp only [PyData.showableAll, f.show_, g.show_, Bool.and_self]
  · simp only [PyData.leavesShortAll, f.short, g.short, Bool.and_self]
  · simp only [PyData.weightAll]
    have := f.weight
    have := g.weight
    omega
  · simp only [PyData.depthAll]
    have := f.depth
    have := g.depth
    omega
theorem FineL.head {w dp : Nat} {d : PyData} {ds : List PyData} (h : FineL w dp (d :: ds)) : Fine w dp d ∧ FineL w dp ds ∧ d.weight + 1 + PyData.weightAll ds ≤ w := by
  obtain ⟨a, b, c, e⟩ := h
  simp only [PyData.showableAll, Bool.and_eq_true] at a
  simp only [PyData.leavesShortAll, Bool.and_eq_true] at b
  simp only [PyData.weightAll] at c
  simp only [PyData.depthAll] at e
  exact ⟨⟨a.1, b.1, by omega, by omega⟩, ⟨a.2, b.2, by omega, by omega⟩, c⟩
theorem FineL.more {w dp w' dp' : Nat} {ds : List PyData} (f : FineL w dp ds) (hw : w ≤ w') (hd : dp ≤ dp') : FineL w' dp' ds := ⟨f.show_, f.short, Nat.le_trans f.weight hw, Nat.le_trans f.depth hd⟩
theorem FineL.app {v w dp : Nat} : ∀ {as bs : List PyData}, FineL v dp as → FineL w dp bs → FineL (v + w) dp (as ++ bs)
  | [], _, _, g => g.more (by omega) (Nat.le_refl _)
  | a :: as, bs, f, g => by
    obtain ⟨h1, h2, h3⟩ := f.head
    have h4 : FineL (PyData.weightAll as) dp as := ⟨h2.show_, h2.short, Nat.le_refl _, h2.depth⟩
    have h5 : Fine a.weight dp a := ⟨h1.show_, h1.short, Nat.le_refl _, h1.depth⟩
    exact (FineL.cons h5 (h4.app g)).more (by omega) (Nat.le_refl _)
theorem FineL.drop {w dp : Nat} : ∀ {ds : List PyData} (n : Nat), FineL w dp ds → FineL w dp (ds.drop n)
  | _, 0, f => f
  | [], _ + 1, f => f
  | _ :: ds, n + 1, f => f.head.2.1.drop n
theorem FineL.take {w dp : Nat} : ∀ {ds : List PyData} (n : Nat), FineL w dp ds → FineL w dp (ds.take n)
  | _, 0, f => FineL.nil.more (Nat.zero_le _) (Nat.le_refl _)
  | [], _ + 1, f => f
  | d :: ds, n + 1, f => by
    obtain ⟨h1, h2, h3⟩ := f.head
    have h4 : FineL (PyData.weightAll ds) dp ds := ⟨h2.show_, h2.short, Nat.le_refl _, h2.depth⟩
    have h5 : Fine d.weight dp d := ⟨h1.show_, h1.short, Nat.le_refl _, h1.depth⟩
    exact (FineL.cons h5 (h4.take n)).more (by omega) (Nat.le_refl _)
theorem FineL.cut {w dp : Nat} {ds : List PyData} (f : FineL w dp ds) (lo hi : Option Int) : FineL w dp (cutD ds lo hi) := (f.drop _).take _
theorem FineL.get {w dp : Nat} : ∀ {ds : List PyData} {d : PyData}, FineL w dp ds → d ∈ ds → Fine w dp d
  | _ :: _, d, f, h => by
    rcases List.mem_cons.mp h with rfl | h
    · exact f.head.1
    · exact f.head.2.1.get h
theorem FineL.len {w dp : Nat} {ds : List PyData} (f : FineL w dp ds) : ds.length ≤ w := by
  have : ds.length ≤ PyData.weightAll ds := by
    clear f
    induction ds with
    | nil => exact Nat.zero_le _
    | cons y ys ih => simp only [List.length_cons, PyData.weightAll]; omega
  exact Nat.le_trans this f.weight
theorem FineL.tup {w dp : Nat} {ds : List PyData} (f : FineL w dp ds) : Fine w (dp + 1) (.tuple ds) :=
  ⟨by simp only [PyData.showable, f.show_], by simp only [PyData.leavesShort, f.short], f.weight, by simp only [PyData.depth]; have := f.depth; omega⟩
theorem FineL.list {w dp : Nat} {ds : List PyData} (f : FineL w dp ds) : Fine w (dp + 1) (.list ds) :=
  ⟨by simp only [PyData.showable, f.show_], by simp only [PyData.leavesShort, f.short], f.weight, by simp only [PyData.depth]; have := f.depth; omega⟩
theorem Fine.row {w dp : Nat} {ds : List PyData} (f : Fine w dp (.tuple ds)) : FineL w (dp - 1) ds ∧ 1 ≤ dp := by
  have d := f.depth
  simp only [PyData.depth] at d
  exact ⟨⟨by simpa only [PyData.showable] using f.show_, by simpa only [PyData.leavesShort] using f.short, f.weight, by omega⟩, by omega⟩
theorem cut_take {ds : List PyData} {j : Nat} (h : j ≤ ds.length) : cutD ds none (some (j : Int)) = ds.take j := by
  unfold cutD
  rw [HT.sIx_nat, HT.sIx_none, List.drop_zero, Nat.sub_zero, Nat.min_eq_left h]
theorem cut_drop {ds : List PyData} {j : Nat} (h : j ≤ ds.length) : cutD ds (some (j : Int)) none = ds.drop j := by
  unfold cutD
  rw [HT.sIx_nat, HT.sIx_none, Nat.min_eq_left h]
  exact List.take_of_length_le (by rw [List.length_drop]; exact Nat.le_refl _)
theorem weight_split : ∀ {ds : List PyData} {j : Nat} (h : j < ds.length), PyData.weightAll (ds.take j) + (ds[j].weight + 1) + PyData.weightAll (ds.drop (j + 1)) = PyData.weightAll ds
  | d :: ds, 0, _ => by
    simp only [List.take_zero, PyData.weightAll, List.getElem_cons_zero, List.drop_succ_cons, List.drop_zero]
    omega
  | d :: ds, j + 1, h => by
    have := weight_split (ds := ds) (j := j) (by simpa using h)
    simp only [List.take_succ_cons, PyData.weightAll, List.getElem_cons_succ, List.drop_succ_cons]
    omega
end U

set_option Elab.async false
set_option linter.all false
set_option maxRecDepth 100000
set_option maxHeartbeats 2000000
namespace U
open PySem PySem.Spec PyProof.Rows L2

/-! ### enumerate(tuple) -/
section
open AutoSeq1 (wpAny_loadPart')
theorem enumNew {v : Value} {it0 : Obj} {C : Heap → Prop} (B : Begins v it0 C) :
    Meets (Builtin.«enumerate.__new__» ⟨[.type "enumerate", v], []⟩) (fun _ R z => C z.heap ∧
      R (.ok (.ret (.ref (z.heap.push it0).objs.size))) { z with heap := (z.heap.push it0).push { cls := .type "enumerate", data := .fields #[.none, .bool false, .ref z.heap.objs.size, rawInt 0, .none, .none] } }) :=
  .of_wp fun prog w A R z h => by
    obtain ⟨p0, g, d, k0, os⟩ := z
    obtain ⟨c0, h⟩ := h
    have isE := sub_enumerate
    have start : ∀ {A2 : Around} {E : Value → Shared → Prop} {Q : Value → Shared → Prop}, Q (.ref p0.objs.size) ⟨p0.push it0, g, d, k0, os⟩ → wpAny (model prog w) A2 (pyIter v) Q E ⟨p0, g, d, k0, os⟩ :=
      fun y => B.iter prog w _ _ ⟨p0, g, d, k0, os⟩ _ c0 y
    wp_walk using start
    refine wpAny_stack_any fun _ => wpAny_pure ?_
    split
    · rename_i c _ _ _ _ _
      by_cases hc : (c == Value.type "enumerate") = true
      · simp only [hc]
        wp_walk using start
        exact ⟨_, rfl, h⟩
      · simp only [Bool.not_eq_true] at hc
        simp only [hc]
        wp_walk using start
        exact ⟨_, rfl, h⟩
    · wp_walk using start
      exact ⟨_, rfl, h⟩
theorem enumMake {prog : Program} {w : World} {A : Around} {E : Value → Shared → Prop} {z : Shared} {v : Value} {it0 : Obj} {C : Heap → Prop} {Q : Value → Shared → Prop} (B : Begins v it0 C) (c0 : C z.heap)
    (h : ∀ h', IsEnum h' (z.heap.objs.size + 1) z.heap.objs.size 0 .none → h'.get? z.heap.objs.size = some it0 → (∀ b ob, z.heap.get? b = some ob → h'.get? b = some ob) → Q (.ref (z.heap.objs.size + 1)) { z with heap := h' }) :
    wpAny (model prog w) A (call (.type "enumerate") [v]) Q E z := by
  refine callType_new F.called_enumerate (by decide) (F.typeCall_enumerate_1 _) (F.newCall_enumerate_1 _) (fun ob => F.args_object_init_2 ob _) F.entry_enumerate_new (enumNew B) ⟨c0, ?_⟩
  have size1 : (z.heap.push it0).objs.size = z.heap.objs.size + 1 := Heap.size_push ..
  show _ ∧ _
  rw [size1]
  have made : IsEnum ((z.heap.push it0).push { cls := .type "enumerate", data := .fields #[.none, .bool false, .ref z.heap.objs.size, rawInt 0, .none, .none] }) (z.heap.objs.size + 1) z.heap.objs.size 0 .none := by
    have y := Heap.get?_push_size (z.heap.push it0) (o := { cls := .type "enumerate", data := .fields #[.none, .bool false, .ref z.heap.objs.size, rawInt 0, .none, .none] }) rfl
    rw [size1] at y
    exact y
  exact ⟨⟨_, made, rfl⟩, h _ made (Heap.get?_push_of_some _ (Heap.get?_push_size _ B.free)) fun b ob y => Heap.get?_push_of_some _ (Heap.get?_push_of_some _ y)⟩
end
/-- the tuple at a, each item in a new pair with its number -/
def ItE (K : PySem.W.Frag) (a : Addr) : It :=
  ⟨fun i H => ∃ (xs : List V) (x : V), SqT K H a xs ∧ xs[i]? = some x,
    fun i H v H' => ∃ (p : Addr) (x : V), v = .ref p ∧ H p = none ∧ H' = upd H p (.tup [.int (i : Nat), x]) ∧ ∀ xs, SqT K H a xs → xs[i]? = some x,
    fun i H => ∃ xs : List V, SqT K H a xs ∧ xs.length ≤ i⟩
theorem apart_iter {h : Heap} {a it : Addr} {i : Nat} {items : Array Value} (h1 : h.IsTupleIter it a i) (h2 : h.IsTuple a items) : a ≠ it := by
  rintro rfl
  obtain ⟨o, ho, hc, _⟩ := h1
  obtain ⟨o2, ho2, hc2, _⟩ := h2
  rw [ho] at ho2
  cases ho2
  have z : Value.type "tuple_iterator" = Value.type "tuple" := hc.symm.trans hc2
  injection z with z
  exact absurd z (by decide)
theorem turnE {P : Program} {w : World} {K : PySem.W.Frag} {elts : List Expr} {kk : Nat} {tpos : Pos} (a e it : Addr) :
    L2.Turn P w K (.Tuple elts kk tpos) (ItE K a) [e, it] e (fun i h => (∃ old, IsEnum h e it ((i : Nat) : Int) old) ∧ h.IsTupleIter it a i ∧ e ≠ it) where
  mem := List.mem_cons_self
  obj := fun i h st b hb => by
    obtain ⟨⟨old, he⟩, ⟨o, ho, _, hd⟩, _⟩ := st
    rcases List.mem_cons.mp hb with rfl | hb
    · exact ⟨_, he, fun _ q => nomatch q⟩
    · obtain rfl : b = it := by simpa using hb
      exact ⟨o, ho, fun _ q => by rw [hd] at q; cases q⟩
  keep := fun i h h' st k => ⟨st.1.imp fun _ he => k e (by simp) _ he, st.2.1.at fun o q => k it (by simp) o q, st.2.2⟩
  item := by
    rintro X rfl rfl rfl hc i pins s σ H E I hf ⟨⟨old, he⟩, hit, hne⟩ ⟨xs, x, hq, hx⟩
    obtain ⟨its, rv, p, hz⟩ := I.tuple hq
    obtain ⟨u, hu, ru⟩ := rv.get hx
    have p2 : s.heap.IsTuple a its.toArray := p
    have el : e < s.heap.objs.size := Heap.lt_size he
    have il : it < s.heap.objs.size := by obtain ⟨_, q, _⟩ := hit; exact Heap.lt_size q
    have hlt : i < its.toArray.size := by
      have := (List.getElem?_eq_some_iff.mp hu).1
      simpa using this
    have hea : e ≠ a := by
      rintro rfl
      obtain ⟨o2, ho2, hc2, _⟩ := p2
      rw [he] at ho2
      cases ho2
      have z : Value.type "enumerate" = Value.type "tuple" := hc2
      injection z with z
      exact absurd z (by decide)
    have D := Draws.tuple (prog := X.prog) (w := X.w) (A := X.A.in1) (I.ok.hd hc) it a (apart_iter hit p2) its.toArray
    refine wpAny_pyNext_enum_itemD D he ⟨hit, p2⟩ hlt hne (by simp [hne, hea]) fun y h' tk hy ho hst hT hsz hk => ?_
    have ey : y = u := by
      have h2 : its.toArray[i]? = some u := by simpa using hu
      exact Option.some.inj (hy.symm.trans h2)
    subst ey
    refine ⟨_, rfl, wpAny_letOwnedTupleGo_enum (s := { s with heap := h', toks := tk + 1 }) ho fun h'' he' sb => ?_⟩
    have hT2 := (sb.2 _ (Nat.ne_of_gt el)).trans hT
    have new : ObjOk X.prog X.w (upd H s.heap.objs.size (.tup [.int (i : Nat), x])) h'' s.heap.objs.size (.tup [.int (i : Nat), x]) :=
      ⟨(show 2 ≤ sizeLine by decide), [.int i tk, y], .cons ⟨_, rfl⟩ (.cons ru .nil), ⟨_, hT2, rfl, _, rfl⟩⟩
    have I1 : Inv X pins σ (upd H s.heap.objs.size (.tup [.int (i : Nat), x])) { s with heap := h'', toks := tk + 1 } :=
      I.turnedNew (ch := [e, it]) (fun b ob hb q => (sb.2 b (fun z => hb (by simp [z]))).trans (hk b ob (fun z => hb (by simp [z])) (fun z => hb (by simp [z])) q)) hf (Nat.le_refl _) new
    refine ⟨.ref s.heap.objs.size, _, I1, rfl, ⟨_, x, rfl, I.hok.fresh (Nat.le_refl _), rfl, fun ys hy => by rw [I.tuple_inj hy hq]; exact hx⟩, ⟨⟨y, ?_⟩, hst.1.at fun o q => (sb.2 it (Ne.symm hne)).trans q, hne⟩, fun b hb => ?_⟩
    · rw [show ((i + 1 : Nat) : Int) = (i : Int) + 1 by omega]
      exact he'
    · have lt : b < s.heap.objs.size := by
        rcases List.mem_cons.mp hb with rfl | hb
        · exact el
        · obtain rfl : b = it := by simpa using hb
          exact il
      rw [upd_ne (Nat.ne_of_lt lt)]
      exact (hf b hb).1
  done := by
    rintro X rfl rfl rfl hc i pins s σ H E I hf ⟨⟨old, he⟩, hit, hne⟩ ⟨xs, hq, hx⟩
    obtain ⟨its, rv, p, hz⟩ := I.tuple hq
    have p2 : s.heap.IsTuple a its.toArray := p
    obtain ⟨f0, f1, f2, f3, f4, f5⟩ := hf it (by simp)
    have hl := rv.length
    unfold pyNext
    have hT : s.TypeIs (.ref e) "enumerate" := ⟨_, he, rfl⟩
    have none_ : its.toArray[i]? = none := by
      rw [List.getElem?_toArray]
      exact List.getElem?_eq_none (by omega)
    refine wpAny_bind (wpAny_attempt (wpAny_callSpecial?_slot (name := Str.ofString "__next__") hT F.slot_enumerate_next (wpAny_call_entry F.slot_enumerate_next hT F.entry_enumerate_next ?_ (F.args_enumerate_next_1 _))))
    show wpAny _ _ (field (.ref e) 2 >>= _) _ _ _
    refine wpAny_bind (wpAny_field he rfl (x := .ref it) rfl (wpAny_bind (wpAny_nextOf_tuple_end (I.ok.hd hc) hit p2 none_ fun h' y eb hy => ?_)))
    obtain ⟨o, ho, hoc⟩ := hy
    refine wpAny_bind (wpAny_isInstance (T := "StopIteration") (b := true) ⟨o, ho, hoc⟩ isSubtype_stop (wpAny_pure ?_))
    exact ⟨rfl, I.turned (t' := s.toks) (fun b o hb q => eb b o hb q) f0 f1 f3 f4 f5⟩
  self := fun _ _ _ _ _ st h => by
    obtain ⟨⟨_, he⟩, _⟩ := st
    exact wpAny_pyIter_enum he h
def iEnumT (K : PySem.W.Frag) (ta : L2.TA) : TI := fun σ H R => ta σ H fun vs H1 => ∃ (a : Addr) (xs : List V), vs = [.ref a] ∧ SqT K H1 a xs ∧ R (ItE K a) H1
theorem kEnumT (K : PySem.W.Frag) {X : Cx} {e : Expr} {ta : L2.TA} {p pos tpos : Pos} {elts : List Expr} {kk : Nat} (hg : Gl X "enumerate") (hm : X.mg "enumerate" = none) (ha : PA X [e] ta) (hK : X.K = K := by rfl)
    (hs : starEach [e] X.env = [(false, eval e X.env)] := by rfl) : PI X (.Tuple elts kk tpos) (.Call (.Name "enumerate" p) [e] [] pos) (iEnumT K ta) := by
  subst hK
  refine ⟨fun pins s σ H R I h => ?_⟩
  refine Call_ (ld_blt I hg hm boot_enumerate (PyProof.Rows.callWith_type1 (thn (ha.run pos pins s σ H _ I h) fun us s1 ⟨vs, H1, I1, r1, a, xs, ev, hq, q⟩ => ?_) hs rfl))
  subst ev
  cases r1 with
  | cons r rr =>
    cases rr
    cases r
    obtain ⟨its, rv, p', hz⟩ := I1.tuple hq
    have p2 : s1.heap.IsTuple a its.toArray := p'
    refine enumMake (begins_tuple a its.toArray) p2 fun h' he hit hk => wpAny_pyIter_enum he ?_
    refine ⟨s1.heap.objs.size + 1, [s1.heap.objs.size + 1, s1.heap.objs.size], _, _, H1, rfl, I1.kept (t' := s1.toks) hk, turnE a (s1.heap.objs.size + 1) s1.heap.objs.size, ⟨⟨.none, he⟩, ⟨_, hit, rfl, rfl⟩, Nat.succ_ne_self _⟩, fun b hb => ?_, q⟩
    have le_ : s1.heap.objs.size ≤ b := by
      rcases List.mem_cons.mp hb with rfl | hb
      · exact Nat.le_add_right _ _
      · obtain rfl : b = s1.heap.objs.size := by simpa using hb
        exact Nat.le_refl _
    exact I1.fpOk le_ (I1.hok.fresh le_)
/-- a comprehension over such pairs, the tuple staying as it is -/
theorem lc_enumT {K : PySem.W.Frag} {a : Addr} {xs : List V} {g : TG} {tt : TT} {te : TE} {vs : List Nat} {σ : L2.St} {H1 : Hp} {D : Addr} {Qd : Hp → Prop} (Pv : Nat → Hp → Prop) (h0 : Pv 0 (upd H1 D (.lst []))) (hl : ∀ i H, i ≤ xs.length → Pv i H → SqT K H a xs)
    (hs : ∀ i x H p, xs[i]? = some x → Pv i H → H p = none → g (.ref p) (wipe σ vs) (upd H p (.tup [.int (i : Nat), x])) fun σ2 H2 => wipe σ2 vs = wipe σ vs ∧ tt σ2 H2 fun b H3 =>
      if b = true then te σ2 H3 fun y H4 => ∃ acc, H4 D = some (.lst acc) ∧ acc.length < sizeLine ∧ Pv (i + 1) (upd H4 D (.lst (acc ++ [y]))) else Pv (i + 1) H3) (hd : ∀ H, Pv xs.length H → Qd H) :
    ∃ W : Nat → Nat → Hp → Prop, (∃ m, W 0 m (upd H1 D (.lst []))) ∧ ∀ i m H, W i m H →
      ((ItE K a).stop i H ∧ Qd H) ∨ ((ItE K a).go i H ∧ ∃ Nx : Hp → Prop, (∀ H', Nx H' → ∃ m', m' < m ∧ W (i + 1) m' H') ∧ ∀ x H', (ItE K a).yld i H x H' → g x (wipe σ vs) H' fun σ2 H2 => wipe σ2 vs = wipe σ vs ∧ tt σ2 H2 fun b H3 =>
        if b = true then te σ2 H3 fun y H4 => ∃ acc, H4 D = some (.lst acc) ∧ acc.length < sizeLine ∧ Nx (upd H4 D (.lst (acc ++ [y]))) else Nx H3) := by
  refine ⟨fun i m H => m + i = xs.length ∧ Pv i H, ⟨xs.length, rfl, h0⟩, ?_⟩
  rintro i m H ⟨hm, pv⟩
  have q := hl i H (by omega) pv
  by_cases hlt : i < xs.length
  · refine .inr ⟨⟨xs, xs[i], q, by simp [hlt]⟩, Pv (i + 1), fun H' p' => ⟨m - 1, by omega, by omega, p'⟩, ?_⟩
    rintro v H' ⟨p, x, rfl, hp, rfl, hx⟩
    exact hs i x H p (hx xs q) pv hp
  · obtain rfl : i = xs.length := by omega
    exact .inl ⟨⟨xs, q, Nat.le_refl _⟩, hd H pv⟩
/-- the same over a list -/
theorem lc_enumL {K : PySem.W.Frag} {a : Addr} {xs : List V} {g : TG} {tt : TT} {te : TE} {vs : List Nat} {σ : L2.St} {H1 : Hp} {D : Addr} {Qd : Hp → Prop} (Pv : Nat → Hp → Prop) (h0 : Pv 0 (upd H1 D (.lst []))) (hl : ∀ i H, i ≤ xs.length → Pv i H → SqL K H a xs)
    (hs : ∀ i x H p, xs[i]? = some x → Pv i H → H p = none → g (.ref p) (wipe σ vs) (upd H p (.tup [.int (i : Nat), x])) fun σ2 H2 => wipe σ2 vs = wipe σ vs ∧ tt σ2 H2 fun b H3 =>
      if b = true then te σ2 H3 fun y H4 => ∃ acc, H4 D = some (.lst acc) ∧ acc.length < sizeLine ∧ Pv (i + 1) (upd H4 D (.lst (acc ++ [y]))) else Pv (i + 1) H3) (hd : ∀ H, Pv xs.length H → Qd H) :
    ∃ W : Nat → Nat → Hp → Prop, (∃ m, W 0 m (upd H1 D (.lst []))) ∧ ∀ i m H, W i m H →
      ((Ite K a).stop i H ∧ Qd H) ∨ ((Ite K a).go i H ∧ ∃ Nx : Hp → Prop, (∀ H', Nx H' → ∃ m', m' < m ∧ W (i + 1) m' H') ∧ ∀ x H', (Ite K a).yld i H x H' → g x (wipe σ vs) H' fun σ2 H2 => wipe σ2 vs = wipe σ vs ∧ tt σ2 H2 fun b H3 =>
        if b = true then te σ2 H3 fun y H4 => ∃ acc, H4 D = some (.lst acc) ∧ acc.length < sizeLine ∧ Nx (upd H4 D (.lst (acc ++ [y]))) else Nx H3) := by
  refine ⟨fun i m H => m + i = xs.length ∧ Pv i H, ⟨xs.length, rfl, h0⟩, ?_⟩
  rintro i m H ⟨hm, pv⟩
  have q := hl i H (by omega) pv
  by_cases hlt : i < xs.length
  · refine .inr ⟨⟨xs, xs[i], q, by simp [hlt]⟩, Pv (i + 1), fun H' p' => ⟨m - 1, by omega, by omega, p'⟩, ?_⟩
    rintro v H' ⟨p, x, rfl, hp, rfl, hx⟩
    exact hs i x H p (hx xs q) pv hp
  · obtain rfl : i = xs.length := by omega
    exact .inl ⟨⟨xs, q, Nat.le_refl _⟩, hd H pv⟩
section
variable {K : PySem.W.Frag} {M N : List Addr} {g : TG} {tt : TT} {te : TE} {vs : List Nat} {σ : L2.St} {H1 : Hp} {D : Addr} {Qd : Hp → Prop}
/-- lcT, and the new list is known to be there -/
theorem lcT2 {a : Addr} {xs : List V} {ds : List PyData} (J : Nat → Hp → Prop) (keep : PyData → Bool) (f : PyData → PyData → Prop) (ha : H1 a = some (.tup xs)) (na : a ∉ M) (ht : TA K M H1 xs ds) (hl : ds.length ≤ 100000)
    (hNM : ∀ b ∈ N, b ∈ M) (hN : ∀ b ∈ M, H1 b ≠ none) (hD : H1 D = none) (j0 : J 0 H1) (hJ : ∀ i H o, J i H → J i (upd H D o))
    (turn : ∀ i x d H, ds[i]? = some d → T K (D :: M) H x d → Ext N H1 H → J i H → H D ≠ none → ∀ (Ky : V → Hp → Prop) (Kn : Hp → Prop), (keep d = false → ∀ H', Ext N H H' → J (i + 1) H' → Kn H') →
      (keep d = true → ∀ H' y e, Ext N H H' → J (i + 1) H' → T K (D :: M) H' y e → f d e → Ky y H') → Turn g tt te vs σ x H Ky Kn)
    (hd : ∀ H ys es, Ext N H1 H → J ds.length H → H D = some (.lst ys) → TA K M H ys es → Paired f (ds.filter keep) es → Qd H) :
    ∃ W : Nat → Nat → Hp → Prop, (∃ m, W 0 m (upd H1 D (.lst []))) ∧ ∀ i m H, W i m H →
      ((Itt K a).stop i H ∧ Qd H) ∨ ((Itt K a).go i H ∧ ∃ Nx : Hp → Prop, (∀ H', Nx H' → ∃ m', m' < m ∧ W (i + 1) m' H') ∧ ∀ x H', (Itt K a).yld i H x H' → g x (wipe σ vs) H' fun σ2 H2 => wipe σ2 vs = wipe σ vs ∧ tt σ2 H2 fun b H3 =>
        if b = true then te σ2 H3 fun y H4 => ∃ acc, H4 D = some (.lst acc) ∧ acc.length < sizeLine ∧ Nx (upd H4 D (.lst (acc ++ [y]))) else Nx H3) := by
  have hDM : D ∉ M := fun z => hN D z hD
  have hDN : D ∉ N := fun z => hDM (hNM D z)
  have naN : a ∉ N := fun z => na (hNM a z)
  have hT : TA K (D :: M) H1 xs ds := ht.plus hD
  refine lc_tup (K := K) (a := a) (xs := xs) (fun i H => Sofar K (D :: M) N H1 D J keep f ds i H) ⟨[], [], Ext.new hD, hJ _ _ _ j0, upd_same, .nil, by simpa using Paired.nil⟩ (fun i H _ p => ?_) (fun i x H hx p => ?_) (fun H p => ?_)
  · obtain ⟨_, _, e, _⟩ := p
    exact SqT.of (e _ _ naN ha)
  · obtain ⟨d, hdi, td⟩ := hT.get hx
    have e := let ⟨_, _, e, _⟩ := p; e
    have j := let ⟨_, _, _, j, _⟩ := p; j
    have hy : H D ≠ none := let ⟨_, _, _, _, h, _⟩ := p; fun z => by rw [z] at h; cases h
    exact sofar_turn hl hNM hDN hDM hD hJ hdi p (turn i x d H hdi (td.ext (e.sub fun b hb => List.mem_cons_of_mem _ (hNM b hb))) e j hy)
  · obtain ⟨ys, es, e, j, h1, h2, h3⟩ := p
    rw [ht.len, List.take_length] at h3
    rw [ht.len] at j
    exact hd H ys es e j h1 (h2.off fun b hb => List.mem_cons_of_mem _ hb) h3
/-- lcL, and the new list is known to be there -/
theorem lcL2 {a : Addr} {xs : List V} {ds : List PyData} (J : Nat → Hp → Prop) (keep : PyData → Bool) (f : PyData → PyData → Prop) (ha : H1 a = some (.lst xs)) (na : a ∉ M) (ht : TA K M H1 xs ds) (hl : ds.length ≤ 100000)
    (hNM : ∀ b ∈ N, b ∈ M) (hN : ∀ b ∈ M, H1 b ≠ none) (hD : H1 D = none) (j0 : J 0 H1) (hJ : ∀ i H o, J i H → J i (upd H D o))
    (turn : ∀ i x d H, ds[i]? = some d → T K (D :: M) H x d → Ext N H1 H → J i H → H D ≠ none → ∀ (Ky : V → Hp → Prop) (Kn : Hp → Prop), (keep d = false → ∀ H', Ext N H H' → J (i + 1) H' → Kn H') →
      (keep d = true → ∀ H' y e, Ext N H H' → J (i + 1) H' → T K (D :: M) H' y e → f d e → Ky y H') → Turn g tt te vs σ x H Ky Kn)
    (hd : ∀ H ys es, Ext N H1 H → J ds.length H → H D = some (.lst ys) → TA K M H ys es → Paired f (ds.filter keep) es → Qd H) :
    ∃ W : Nat → Nat → Hp → Prop, (∃ m, W 0 m (upd H1 D (.lst []))) ∧ ∀ i m H, W i m H →
      ((Itl K a).stop i H ∧ Qd H) ∨ ((Itl K a).go i H ∧ ∃ Nx : Hp → Prop, (∀ H', Nx H' → ∃ m', m' < m ∧ W (i + 1) m' H') ∧ ∀ x H', (Itl K a).yld i H x H' → g x (wipe σ vs) H' fun σ2 H2 => wipe σ2 vs = wipe σ vs ∧ tt σ2 H2 fun b H3 =>
        if b = true then te σ2 H3 fun y H4 => ∃ acc, H4 D = some (.lst acc) ∧ acc.length < sizeLine ∧ Nx (upd H4 D (.lst (acc ++ [y]))) else Nx H3) := by
  have hDM : D ∉ M := fun z => hN D z hD
  have hDN : D ∉ N := fun z => hDM (hNM D z)
  have naN : a ∉ N := fun z => na (hNM a z)
  have hT : TA K (D :: M) H1 xs ds := ht.plus hD
  refine lc_list (K := K) (a := a) (xs := xs) (fun i H => Sofar K (D :: M) N H1 D J keep f ds i H) ⟨[], [], Ext.new hD, hJ _ _ _ j0, upd_same, .nil, by simpa using Paired.nil⟩ (fun i H _ p => ?_) (fun i x H hx p => ?_) (fun H p => ?_)
  · obtain ⟨_, _, e, _⟩ := p
    exact SqL.of (e _ _ naN ha)
  · obtain ⟨d, hdi, td⟩ := hT.get hx
    have e := let ⟨_, _, e, _⟩ := p; e
    have j := let ⟨_, _, _, j, _⟩ := p; j
    have hy : H D ≠ none := let ⟨_, _, _, _, h, _⟩ := p; fun z => by rw [z] at h; cases h
    exact sofar_turn hl hNM hDN hDM hD hJ hdi p (turn i x d H hdi (td.ext (e.sub fun b hb => List.mem_cons_of_mem _ (hNM b hb))) e j hy)
  · obtain ⟨ys, es, e, j, h1, h2, h3⟩ := p
    rw [ht.len, List.take_length] at h3
    rw [ht.len] at j
    exact hd H ys es e j h1 (h2.off fun b hb => List.mem_cons_of_mem _ hb) h3
/-- lcR, and the new list is known to be there -/
theorem lcR2 {n : Nat} (J : Nat → Hp → Prop) (keep : PyData → Bool) (f : PyData → PyData → Prop) (hl : n ≤ 100000)
    (hNM : ∀ b ∈ N, b ∈ M) (hN : ∀ b ∈ M, H1 b ≠ none) (hD : H1 D = none) (j0 : J 0 H1) (hJ : ∀ i H o, J i H → J i (upd H D o))
    (turn : ∀ (i : Nat) H, i < n → Ext N H1 H → J i H → H D ≠ none → ∀ (Ky : V → Hp → Prop) (Kn : Hp → Prop), (keep (.int (i : Int)) = false → ∀ H', Ext N H H' → J (i + 1) H' → Kn H') →
      (keep (.int (i : Int)) = true → ∀ H' y e, Ext N H H' → J (i + 1) H' → T K (D :: M) H' y e → f (.int (i : Int)) e → Ky y H') → Turn g tt te vs σ (.int (i : Int)) H Ky Kn)
    (hd : ∀ H ys es, Ext N H1 H → J n H → H D = some (.lst ys) → TA K M H ys es → Paired f (((List.range n).map fun i : Nat => PyData.int (i : Int)).filter keep) es → Qd H) :
    ∃ W : Nat → Nat → Hp → Prop, (∃ m, W 0 m (upd H1 D (.lst []))) ∧ ∀ i m H, W i m H →
      ((Itr 0 n).stop i H ∧ Qd H) ∨ ((Itr 0 n).go i H ∧ ∃ Nx : Hp → Prop, (∀ H', Nx H' → ∃ m', m' < m ∧ W (i + 1) m' H') ∧ ∀ x H', (Itr 0 n).yld i H x H' → g x (wipe σ vs) H' fun σ2 H2 => wipe σ2 vs = wipe σ vs ∧ tt σ2 H2 fun b H3 =>
        if b = true then te σ2 H3 fun y H4 => ∃ acc, H4 D = some (.lst acc) ∧ acc.length < sizeLine ∧ Nx (upd H4 D (.lst (acc ++ [y]))) else Nx H3) := by
  have hDM : D ∉ M := fun z => hN D z hD
  have hDN : D ∉ N := fun z => hDM (hNM D z)
  refine lc_range (lo := 0) (n := n) (fun i H => Sofar K (D :: M) N H1 D J keep f ((List.range n).map fun i : Nat => PyData.int (i : Int)) i H) ⟨[], [], Ext.new hD, hJ _ _ _ j0, upd_same, .nil, by simpa using Paired.nil⟩ (fun i H hi p => ?_) (fun H p => ?_)
  · have e := let ⟨_, _, e, _⟩ := p; e
    have j := let ⟨_, _, _, j, _⟩ := p; j
    have z : (0 : Int) + (i : Int) = (i : Int) := Int.zero_add _
    rw [z]
    have hy : H D ≠ none := let ⟨_, _, _, _, h, _⟩ := p; fun z => by rw [z] at h; cases h
    exact sofar_turn (d := .int (i : Int)) (by simpa using hl) hNM hDN hDM hD hJ (by simp [hi]) p (turn i H hi e j hy)
  · obtain ⟨ys, es, e, j, h1, h2, h3⟩ := p
    rw [List.take_of_length_le (by simp)] at h3
    exact hd H ys es e j h1 (h2.off fun b hb => List.mem_cons_of_mem _ hb) h3
end
end U

set_option Elab.async false
set_option linter.all false
set_option maxRecDepth 100000
set_option maxHeartbeats 4000000
namespace U
open PySem PySem.Spec PyProof.Rows L2
section
open AutoSeq1 (wpAny_loadPart')
theorem tupTimes1 (l : Addr) (its : Array Value) (n : Nat) (dd : Option Addr) (sl : Array (Option Value)) (u : Tok) :
    Meets (Builtin.«tuple.__mul__» ⟨[.ref l, .int 1 u], []⟩) (fun _ R z => z.heap.get? l = some { cls := .type "tuple", dict := dd, data := .seq its n, slots := sl } ∧ R (.ok (.ret (Value.ref l))) z) :=
  .of_wp fun prog w A R z h => by
    obtain ⟨p0, g, d, k0, os⟩ := z
    obtain ⟨hl, h⟩ := h
    have f1 := AutoSeq1.idx_int
    wp_walk using wpAny_loadPart' hl
    exact ⟨_, rfl, h⟩
end
/-- a tuple k times, k from 1 on; once is the tuple itself -/
def rTimes (K : PySem.W.Frag) : R2 := fun x y H Q => ∃ (l : Addr) (k : Int) (xs : List V), x = .ref l ∧ y = .int k ∧ SqT K H l xs ∧ xs ≠ [] ∧ 1 ≤ k ∧ k ≤ 1000 ∧ xs.length ≤ 1000 ∧ (k = 1 → Q (.ref l) H) ∧ (2 ≤ k → ∀ p, H p = none → Q (.ref p) (upd H p (.tup (List.replicate k.toNat xs).flatten)))
theorem op_times {X : Cx} : OpR X (binaryOp .Mult) (rTimes X.K) := by
  intro pins z σ H x y v u Q I rx ry h
  obtain ⟨l, k, xs, rfl, rfl, hT, hne, k1, k2, hz, q1, q2⟩ := h
  by_cases e : k = 1
  · subst e
    have q1 := q1 rfl
    have rx' : RelV (.ref l) v := rx
    cases rx
    obtain ⟨t, rfl⟩ := ry
    obtain ⟨its, r, ⟨⟨cls, dd, data, sl⟩, ho, hc, m, hd⟩, hs⟩ := I.tuple hT
    simp only at hc hd
    subst hc hd
    exact wpAny_binaryOp_repeat_ref (T := "tuple") (U := "int") (by decide) ⟨_, ho, rfl⟩ (fun z' => typeIs_int z' 1 t) noFill_tuple_mul F.fills_int_mul F.slot_int_rmul repeat_tuple F.slot_int_index.lookup
      (call_meets F.slot_int_rmul (typeIs_int z 1 t) F.entry_int_rmul (F.args_int_rmul_2 _ _) (int_rmul_tuple 1 t l its.toArray m dd sl)
        ⟨ho, rfl, ⟨_, ho, rfl⟩, call_meets F.slot_tuple_mul ⟨_, ho, rfl⟩ F.entry_tuple_mul (F.args_tuple_mul_2 _ _) (tupTimes1 l its.toArray m dd sl t) ⟨ho, ⟨.ref l, H, I, rx', q1⟩⟩⟩)
  · exact op_repT pins z σ H (.ref l) (.int k) v u Q I rx ry ⟨l, k, xs, rfl, rfl, hT, hne, by omega, k2, hz, q2 (by omega)⟩
theorem kTimes (K : PySem.W.Frag) {X : Cx} (h : X.K = K := by rfl) : OpR X (binaryOp .Mult) (rTimes K) := by subst h; exact op_times
end U

set_option Elab.async false
set_option linter.all false
set_option maxRecDepth 100000
set_option maxHeartbeats 2000000
namespace U
open PySem PySem.Spec PyProof.Rows L2

/-! ### places more -/
section
variable {K : PySem.W.Frag} {N N' : List Addr} {H : Hp}
mutual
theorem T.plusAll (s : ∀ b ∈ N', b ∈ N ∨ H b = none) : ∀ {v : V} {d : PyData}, T K N H v d → T K N' H v d
  | _, _, .non => .non
  | _, _, .bl b => .bl b
  | _, _, .int i => .int i
  | _, _, .str x => .str x
  | _, _, .lst n h t => .lst (fun z => (s _ z).elim n fun q => by rw [q] at h; cases h) h (TA.plusAll s t)
  | _, _, .tup n h t => .tup (fun z => (s _ z).elim n fun q => by rw [q] at h; cases h) h (TA.plusAll s t)
  | _, _, .dct n h t => .dct (fun z => (s _ z).elim n fun q => by rw [q] at h; cases h) h (TK.plusAll s t)
theorem TA.plusAll (s : ∀ b ∈ N', b ∈ N ∨ H b = none) : ∀ {vs : List V} {ds : List PyData}, TA K N H vs ds → TA K N' H vs ds
  | _, _, .nil => .nil
  | _, _, .cons h t => .cons (T.plusAll s h) (TA.plusAll s t)
theorem TK.plusAll (s : ∀ b ∈ N', b ∈ N ∨ H b = none) : ∀ {kvs : List (Key × V)} {es : List (PyData × PyData)}, TK K N H kvs es → TK K N' H kvs es
  | _, _, .nil => .nil
  | _, _, .cons h g t => .cons (T.plusAll s h) (T.plusAll s g) (TK.plusAll s t)
end
end

/-! ### worlds: the places that are written from outside, and what is known of them -/
structure Wd (γ : Type) where
  M : List Addr
  /-- N: the places that data keep off (the own ones and M) -/
  I : γ → List Addr → Hp → Prop
  loc : ∀ k N H H', (∀ b, b ∈ M → H' b = H b) → Ext N H H' → I k N H → I k N H'
  plus : ∀ k N N' H, (∀ b, b ∈ N' → b ∈ N ∨ H b = none) → (∀ b, b ∈ M → b ∈ N') → I k N H → I k N' H
  trk : ∀ k N H, I k N H → Trk M H
/-- nothing at M is written -/
def pureW (M : List Addr) (Hs : Hp) (t : Trk M Hs) : Wd Nat where
  M := M
  I := fun _ _ H => ∀ b, b ∈ M → H b = Hs b
  loc := fun _ _ _ _ e _ h b hb => (e b hb).trans (h b hb)
  plus := fun _ _ _ _ _ _ h => h
  trk := fun _ _ _ h b hb z => t b hb ((h b hb).symm.trans z)

inductive Slot where
  | no
  | dat (d : PyData)
  | own (ds : List PyData)
  | ownD (kvs : List (Key × PyData))
  | lck (kvs : List (Key × PyData))
  | raw (v : V)
  /-- an inner def -/
  | fn (mk : Addr → NdefX.NF)
  /-- a dict of its own whose keys are tuples: D tells its object -/
  | ownN (D : Addr → List (NestedKey × Addr × V) → HO) (kvs : List (NestedKey × PyData))
def Slot.isOwn : Slot → Bool | .own _ => true | .ownD _ => true | .lck _ => true | .ownN _ _ => true | _ => false
abbrev Rho := List Slot
inductive KD (K : PySem.W.Frag) (M : List Addr) (H : Hp) : List (Key × V) → List (Key × PyData) → Prop
  | nil : KD K M H [] []
  | cons {k : Key} {v : V} {d : PyData} {vs : List (Key × V)} {ds : List (Key × PyData)} : T K M H v d → KD K M H vs ds → KD K M H ((k, v) :: vs) ((k, d) :: ds)
theorem KD.map {K : PySem.W.Frag} {M M' : List Addr} {H H' : Hp} (f : ∀ v d, T K M H v d → T K M' H' v d) : ∀ {vs : List (Key × V)} {ds : List (Key × PyData)}, KD K M H vs ds → KD K M' H' vs ds
  | _, _, .nil => .nil
  | _, _, .cons h t => .cons (f _ _ h) (KD.map f t)
mutual
/-- a datum as a key -/
def nkey : PyData → Option NestedKey
  | .none => some .none
  | .bool b => some (.num (if b = true then 1 else 0))
  | .int i => some (.num i)
  | .str x => some (.text x)
  | .tuple ds => (nkeys ds).map .tup
  | _ => Option.none
def nkeys : List PyData → Option (List NestedKey)
  | [] => some []
  | d :: ds => match nkey d, nkeys ds with
    | some k, some ks => some (k :: ks)
    | _, _ => Option.none
end
inductive KN (K : PySem.W.Frag) (M : List Addr) (H : Hp) : List (NestedKey × Addr × V) → List (NestedKey × PyData) → Prop
  | nil : KN K M H [] []
  | cons {k : NestedKey} {a : Addr} {v : V} {e d : PyData} {xs : List (NestedKey × Addr × V)} {ds : List (NestedKey × PyData)} : nkey e = some k → k.depth ≤ 8 → T K M H (.ref a) e → T K M H v d → KN K M H xs ds → KN K M H ((k, a, v) :: xs) ((k, d) :: ds)
theorem KN.map {K : PySem.W.Frag} {M M' : List Addr} {H H' : Hp} (f : ∀ v d, T K M H v d → T K M' H' v d) : ∀ {xs : List (NestedKey × Addr × V)} {ds : List (NestedKey × PyData)}, KN K M H xs ds → KN K M' H' xs ds
  | _, _, .nil => .nil
  | _, _, .cons e dp h g t => .cons e dp (f _ _ h) (f _ _ g) (KN.map f t)
theorem TA.mapT {K : PySem.W.Frag} {M M' : List Addr} {H H' : Hp} (f : ∀ v d, T K M H v d → T K M' H' v d) : ∀ {vs : List V} {ds : List PyData}, TA K M H vs ds → TA K M' H' vs ds
  | _, _, .nil => .nil
  | _, _, .cons h t => .cons (f _ _ h) (TA.mapT f t)
def SlotOk (K : PySem.W.Frag) (N L : List Addr) (H : Hp) (o : Option (Option V)) : Slot → Prop
  | .no => True
  | .dat d => ∃ v, o = some (some v) ∧ T K N H v d
  | .own ds => ∃ l xs, o = some (some (.ref l)) ∧ l ∈ L ∧ H l = some (.lst xs) ∧ TA K N H xs ds
  | .ownD kvs => ∃ l vs, o = some (some (.ref l)) ∧ l ∈ L ∧ H l = some (.dK vs) ∧ KD K N H vs kvs
  | .lck kvs => ∃ l vs od, o = some (some (.ref l)) ∧ l ∈ L ∧ H l = some (.frz od (.dK vs)) ∧ KD K N H vs kvs
  | .raw v => o = some (some v)
  | .fn mk => ∃ f c, o = some (some (.ref f)) ∧ f ∉ N ∧ c ∉ N ∧ H f = some (NdefX.FnO f (mk c)) ∧ H c = some (LamX.CodeO c (mk c).qual)
  | .ownN D kvs => ∃ l xs, o = some (some (.ref l)) ∧ l ∈ L ∧ H l = some (D l xs) ∧ KN K N H xs kvs
/-- the slots and the heap as they are told: since H0 (whose own places are L0) -/
structure Stt (K : PySem.W.Frag) {γ : Type} (W : Wd γ) (L0 : List Addr) (H0 : Hp) (L : List Addr) (H : Hp) (σ : L2.St) (ρ : Rho) (k : γ) : Prop where
  base : Ext (L0 ++ W.M) H0 H
  fresh : ∀ l ∈ L, l ∈ L0 ∨ H0 l = none
  offM : ∀ l ∈ L, l ∉ W.M
  trk : Trk (L ++ W.M) H
  wd : W.I k (L ++ W.M) H
  len : ρ.length = σ.length
  slots : ∀ (i : Nat) (s : Slot), ρ[i]? = some s → SlotOk K (L ++ W.M) L H σ[i]? s
  dis : ∀ (i j : Nat) (s t : Slot), ρ[i]? = some s → ρ[j]? = some t → s.isOwn = true → t.isOwn = true → σ[i]? = σ[j]? → i = j

structure Later {γ : Type} (W : Wd γ) (L1 : List Addr) (H1 : Hp) (L : List Addr) (H : Hp) : Prop where
  ext : Ext (L1 ++ W.M) H1 H
  fresh : ∀ l ∈ L, l ∈ L1 ∨ H1 l = none
  trk : Trk (L ++ W.M) H
section
variable {K : PySem.W.Frag} {γ : Type} {W : Wd γ} {L0 L1 L L' : List Addr} {H0 H1 H H' : Hp} {σ σ' : L2.St} {ρ ρ' : Rho} {k k' : γ} {v : V} {d : PyData}
theorem Later.T (l : Later W L1 H1 L H) (t : T K (L1 ++ W.M) H1 v d) : T K (L ++ W.M) H v d := by
  have t1 : U.T K (L ++ (L1 ++ W.M)) H1 v d := t.plusAll fun b hb => by
    rcases List.mem_append.mp hb with hb | hb
    · rcases l.fresh b hb with h | h
      · exact .inl (List.mem_append_left _ h)
      · exact .inr h
    · exact .inl hb
  have t2 := t1.ext (l.ext.sub fun b hb => List.mem_append_right _ hb)
  exact t2.off fun b hb => by
    rcases List.mem_append.mp hb with hb | hb
    · exact List.mem_append_left _ hb
    · exact List.mem_append_right _ (List.mem_append_right _ hb)
theorem Stt.later (S : Stt K W L0 H0 L H σ ρ k) : Later W L0 H0 L H := ⟨S.base, S.fresh, S.trk⟩
theorem Stt.rebase (S : Stt K W L0 H0 L H σ ρ k) : Stt K W L H L H σ ρ k := ⟨Ext.refl _ _, fun _ h => .inl h, S.offM, S.trk, S.wd, S.len, S.slots, S.dis⟩
theorem Stt.back (S1 : Stt K W L0 H0 L1 H1 σ ρ k) (S : Stt K W L1 H1 L H σ' ρ' k') : Stt K W L0 H0 L H σ' ρ' k' := by
  have e : Ext (L0 ++ W.M) H0 H := fun b o nb hb => by
    refine S.base b o (fun z => ?_) (S1.base b o nb hb)
    rcases List.mem_append.mp z with z | z
    · rcases S1.fresh b z with q | q
      · exact nb (List.mem_append_left _ q)
      · rw [q] at hb; cases hb
    · exact nb (List.mem_append_right _ z)
  refine ⟨e, fun l hl => ?_, S.offM, S.trk, S.wd, S.len, S.slots, S.dis⟩
  rcases S.fresh l hl with q | q
  · exact S1.fresh l q
  · by_cases h0 : l ∈ L0
    · exact .inl h0
    · right
      cases h : H0 l with
      | none => rfl
      | some o =>
        have nb : l ∉ L0 ++ W.M := fun z => (List.mem_append.mp z).elim h0 (S.offM l hl)
        rw [S1.base l o nb h] at q
        cases q
theorem Stt.tM (S : Stt K W L0 H0 L H σ ρ k) (t : T K (L ++ W.M) H v d) : T K W.M H v d := t.off fun b hb => List.mem_append_right _ hb
/-- a heap in which the places of M alone have changed, or new ones have come -/
theorem Stt.ext (S : Stt K W L0 H0 L H σ ρ k) (e : Ext W.M H H') (wd : W.I k' (L ++ W.M) H') : Stt K W L0 H0 L H' σ ρ k' := by
  have e1 : Ext (L ++ W.M) H H' := e.sub fun b hb => List.mem_append_right _ hb
  refine ⟨S.base.trans (e.sub fun b hb => List.mem_append_right _ hb), S.fresh, S.offM, ?_, wd, S.len, fun i s hs => ?_, S.dis⟩
  · intro b hb
    rcases List.mem_append.mp hb with h | h
    · cases q : H b with
      | none => exact absurd q (S.trk b hb)
      | some o => rw [e b o (S.offM b h) q]; simp
    · exact W.trk _ _ _ wd b h
  · have q := S.slots i s hs
    cases s with
    | no => trivial
    | dat d =>
      obtain ⟨v, h1, h2⟩ := q
      exact ⟨v, h1, h2.ext e1⟩
    | own ds =>
      obtain ⟨l, xs, h1, h2, h3, h4⟩ := q
      exact ⟨l, xs, h1, h2, e l _ (S.offM l h2) h3, h4.ext e1⟩
    | ownD kvs =>
      obtain ⟨l, xs, h1, h2, h3, h4⟩ := q
      exact ⟨l, xs, h1, h2, e l _ (S.offM l h2) h3, h4.map fun _ _ t => t.ext e1⟩
    | lck kvs =>
      obtain ⟨l, xs, od, h1, h2, h3, h4⟩ := q
      exact ⟨l, xs, od, h1, h2, e l _ (S.offM l h2) h3, h4.map fun _ _ t => t.ext e1⟩
    | raw v => exact q
    | fn F =>
      obtain ⟨f, c, h1, h2, h3, h4, h5⟩ := q
      exact ⟨f, c, h1, h2, h3, e1 f _ h2 h4, e1 c _ h3 h5⟩
    | ownN D kvs =>
      obtain ⟨l, xs, h1, h2, h3, h4⟩ := q
      exact ⟨l, xs, h1, h2, e l _ (S.offM l h2) h3, h4.map fun _ _ t => t.ext e1⟩
theorem Stt.same (S : Stt K W L0 H0 L H σ ρ k) (e : Same H H') : Stt K W L0 H0 L H' σ ρ k := by
  refine S.ext (Ext.same e) (W.loc k _ H H' (fun b hb => ?_) (Ext.same e) S.wd)
  cases q : H b with
  | none => exact absurd q (W.trk _ _ _ S.wd b hb)
  | some o => exact e b o q
theorem Stt.new (S : Stt K W L0 H0 L H σ ρ k) {p : Addr} {o : HO} (hp : H p = none) : Stt K W L0 H0 L (upd H p o) σ ρ k := S.same (Same.new hp)
theorem Stt.nin (S : Stt K W L0 H0 L H σ ρ k) {p : Addr} (hp : H p = none) : p ∉ L ++ W.M := S.trk.new hp
/-- the world, when a new place becomes one's own -/
theorem Stt.wdNew (S : Stt K W L0 H0 L H σ ρ k) {p : Addr} {o : HO} (hp : H p = none) : W.I k (p :: L ++ W.M) (upd H p o) := by
  have npM : p ∉ W.M := fun z => S.nin hp (List.mem_append_right _ z)
  refine W.loc k _ H _ (fun b hb => ?_) (Ext.put (by simp)) (W.plus k (L ++ W.M) _ H (fun b hb => ?_) (fun b hb => List.mem_append_right _ hb) S.wd)
  · rw [upd_ne (by rintro rfl; exact npM hb)]
  · rcases List.mem_cons.mp hb with rfl | hb
    · exact .inr hp
    · exact .inl hb
/-- .. when own places are given away -/
theorem Stt.wdSub (S : Stt K W L0 H0 L H σ ρ k) {L' : List Addr} (h : ∀ b ∈ L', b ∈ L) : W.I k (L' ++ W.M) H :=
  W.plus k _ _ H (fun b hb => .inl ((List.mem_append.mp hb).elim (fun z => List.mem_append_left _ (h b z)) fun z => List.mem_append_right _ z)) (fun b hb => List.mem_append_right _ hb) S.wd
theorem Stt.wdM (S : Stt K W L0 H0 L H σ ρ k) : W.I k W.M H := S.wdSub (L' := []) fun _ h => nomatch h
/-- a slot takes a datum -/
theorem Stt.set (S : Stt K W L0 H0 L H σ ρ k) (i : Nat) (t : T K (L ++ W.M) H v d) : Stt K W L0 H0 L H (σ.set i (some v)) (ρ.set i (.dat d)) k := by
  refine ⟨S.base, S.fresh, S.offM, S.trk, S.wd, by rw [List.length_set, List.length_set]; exact S.len, fun j s hs => ?_, fun j l s t' hs ht h1 h2 h3 => ?_⟩
  · by_cases e : i = j
    · subst e
      rw [List.getElem?_set_self'] at hs
      cases q : ρ[i]? with
      | none => rw [q] at hs; cases hs
      | some u =>
        rw [q] at hs
        have hs' : Slot.dat d = s := by simpa using hs
        subst hs'
        have hl : i < σ.length := by rw [← S.len]; exact (List.getElem?_eq_some_iff.mp q).1
        exact ⟨v, by simp [hl], t⟩
    · rw [List.getElem?_set_ne e] at hs ⊢
      exact S.slots j s hs
  · have nj : i ≠ j := by
      rintro rfl
      rw [List.getElem?_set_self'] at hs
      cases q : ρ[i]? with
      | none => rw [q] at hs; cases hs
      | some u =>
        rw [q] at hs
        have hs' : Slot.dat d = s := by simpa using hs
        subst hs'
        cases h1
    have nl : i ≠ l := by
      rintro rfl
      rw [List.getElem?_set_self'] at ht
      cases q : ρ[i]? with
      | none => rw [q] at ht; cases ht
      | some u =>
        rw [q] at ht
        have hs' : Slot.dat d = t' := by simpa using ht
        subst hs'
        cases h2
    rw [List.getElem?_set_ne nj] at hs h3
    rw [List.getElem?_set_ne nl] at ht h3
    exact S.dis j l s t' hs ht h1 h2 h3
/-- a slot takes a thing as it is -/
theorem Stt.setRaw (S : Stt K W L0 H0 L H σ ρ k) (i : Nat) : Stt K W L0 H0 L H (σ.set i (some v)) (ρ.set i (.raw v)) k := by
  refine ⟨S.base, S.fresh, S.offM, S.trk, S.wd, by rw [List.length_set, List.length_set]; exact S.len, fun j s hs => ?_, fun j l s t' hs ht h1 h2 h3 => ?_⟩
  · by_cases e : i = j
    · subst e
      rw [List.getElem?_set_self'] at hs
      cases q : ρ[i]? with
      | none => rw [q] at hs; cases hs
      | some u =>
        rw [q] at hs
        have hs' : Slot.raw v = s := by simpa using hs
        subst hs'
        have hl : i < σ.length := by rw [← S.len]; exact (List.getElem?_eq_some_iff.mp q).1
        show (σ.set i (some v))[i]? = some (some v)
        simp [hl]
    · rw [List.getElem?_set_ne e] at hs ⊢
      exact S.slots j s hs
  · have nj : i ≠ j := by
      rintro rfl
      rw [List.getElem?_set_self'] at hs
      cases q : ρ[i]? with
      | none => rw [q] at hs; cases hs
      | some u =>
        rw [q] at hs
        have hs' : Slot.raw v = s := by simpa using hs
        subst hs'
        cases h1
    have nl : i ≠ l := by
      rintro rfl
      rw [List.getElem?_set_self'] at ht
      cases q : ρ[i]? with
      | none => rw [q] at ht; cases ht
      | some u =>
        rw [q] at ht
        have hs' : Slot.raw v = t' := by simpa using ht
        subst hs'
        cases h2
    rw [List.getElem?_set_ne nj] at hs h3
    rw [List.getElem?_set_ne nl] at ht h3
    exact S.dis j l s t' hs ht h1 h2 h3
/-- a slot takes a new list of its own, made at p -/
theorem Stt.setOwn (S : Stt K W L0 H0 L H σ ρ k) (i : Nat) {p : Addr} {o : HO} {s0 : Slot} (hi : s0.isOwn = true) (hp : H p = none)
    (hs0 : SlotOk K (p :: L ++ W.M) (p :: L) (upd H p o) (some (some (.ref p))) s0) : Stt K W L0 H0 (p :: L) (upd H p o) (σ.set i (some (.ref p))) (ρ.set i s0) k := by
  have np := S.nin hp
  have S1 := S.new (o := o) hp
  have npM : p ∉ W.M := fun z => np (List.mem_append_right _ z)
  have up : ∀ v d, T K (L ++ W.M) H v d → T K (p :: L ++ W.M) (upd H p o) v d := fun v d t => (t.plus hp).ext (Ext.put (by simp))
  have hf : H0 p = none ∨ p ∈ L0 := by
    by_cases h0 : p ∈ L0
    · exact .inr h0
    · left
      cases h : H0 p with
      | none => rfl
      | some o =>
        rw [S.base p o (fun z => (List.mem_append.mp z).elim h0 npM) h] at hp
        cases hp
  have old : ∀ j s, j ≠ i → (ρ.set i s0)[j]? = some s → SlotOk K (L ++ W.M) L H σ[j]? s := fun j s hj hs => by
    rw [List.getElem?_set_ne (fun e => hj e.symm)] at hs
    exact S.slots j s hs
  refine ⟨S1.base, fun l hl => ?_, fun l hl => ?_, ?_, S.wdNew hp, by rw [List.length_set, List.length_set]; exact S.len, fun j s hs => ?_, fun j l s t' hs ht h1 h2 h3 => ?_⟩
  · rcases List.mem_cons.mp hl with rfl | hl
    · exact hf.symm
    · exact S.fresh l hl
  · rcases List.mem_cons.mp hl with rfl | hl
    · exact npM
    · exact S.offM l hl
  · intro b hb z
    rcases List.mem_cons.mp hb with rfl | hb
    · rw [upd_same] at z; cases z
    · exact S1.trk b hb z
  · by_cases e : j = i
    · subst e
      rw [List.getElem?_set_self'] at hs
      cases q : ρ[j]? with
      | none => rw [q] at hs; cases hs
      | some u =>
        rw [q] at hs
        have hs' : s0 = s := by simpa using hs
        subst hs'
        have hl : j < σ.length := by rw [← S.len]; exact (List.getElem?_eq_some_iff.mp q).1
        have : (σ.set j (some (V.ref p)))[j]? = some (some (.ref p)) := by simp [hl]
        rw [this]
        exact hs0
    · have q := old j s e hs
      rw [List.getElem?_set_ne (fun z => e z.symm)]
      cases s with
      | no => trivial
      | dat d =>
        obtain ⟨v, h1, h2⟩ := q
        exact ⟨v, h1, up _ _ h2⟩
      | own ds =>
        obtain ⟨l, xs, h1, h2, h3, h4⟩ := q
        exact ⟨l, xs, h1, List.mem_cons_of_mem _ h2, by rw [upd_ne (ne_of_none h3 hp)]; exact h3, h4.mapT up⟩
      | ownD kvs =>
        obtain ⟨l, xs, h1, h2, h3, h4⟩ := q
        exact ⟨l, xs, h1, List.mem_cons_of_mem _ h2, by rw [upd_ne (ne_of_none h3 hp)]; exact h3, h4.map up⟩
      | lck kvs =>
        obtain ⟨l, xs, od, h1, h2, h3, h4⟩ := q
        exact ⟨l, xs, od, h1, List.mem_cons_of_mem _ h2, by rw [upd_ne (ne_of_none h3 hp)]; exact h3, h4.map up⟩
      | raw v => exact q
      | fn F =>
        obtain ⟨f, c, h1, h2, h3, h4, h5⟩ := q
        exact ⟨f, c, h1, fun z => (List.mem_cons.mp z).elim (ne_of_none h4 hp) h2, fun z => (List.mem_cons.mp z).elim (ne_of_none h5 hp) h3, by rw [upd_ne (ne_of_none h4 hp)]; exact h4, by rw [upd_ne (ne_of_none h5 hp)]; exact h5⟩
      | ownN D kvs =>
        obtain ⟨l, xs, h1, h2, h3, h4⟩ := q
        exact ⟨l, xs, h1, List.mem_cons_of_mem _ h2, by rw [upd_ne (ne_of_none h3 hp)]; exact h3, h4.map up⟩
  · have at_ : ∀ j s, j ≠ i → (ρ.set i s0)[j]? = some s → s.isOwn = true → (σ.set i (some (V.ref p)))[j]? ≠ some (some (V.ref p)) := fun j s hj hs ho z => by
      have q := old j s hj hs
      rw [List.getElem?_set_ne (fun z => hj z.symm)] at z
      cases s with
      | no => cases ho
      | dat d => cases ho
      | raw v => cases ho
      | fn F => cases ho
      | ownN D kvs =>
        obtain ⟨l, xs, h1, h2, h3, h4⟩ := q
        rw [z] at h1
        have e : p = l := by injection h1 with h1; injection h1 with h1; injection h1
        rw [← e, hp] at h3
        cases h3
      | own ds =>
        obtain ⟨l, xs, h1, h2, h3, h4⟩ := q
        rw [z] at h1
        have e : p = l := by injection h1 with h1; injection h1 with h1; injection h1
        rw [← e, hp] at h3
        cases h3
      | ownD kvs =>
        obtain ⟨l, xs, h1, h2, h3, h4⟩ := q
        rw [z] at h1
        have e : p = l := by injection h1 with h1; injection h1 with h1; injection h1
        rw [← e, hp] at h3
        cases h3
      | lck kvs =>
        obtain ⟨l, xs, od, h1, h2, h3, h4⟩ := q
        rw [z] at h1
        have e : p = l := by injection h1 with h1; injection h1 with h1; injection h1
        rw [← e, hp] at h3
        cases h3
    have self : ∀ s, (ρ.set i s0)[i]? = some s → (σ.set i (some (V.ref p)))[i]? = some (some (V.ref p)) := fun s hs => by
      rw [List.getElem?_set_self'] at hs
      cases q : ρ[i]? with
      | none => rw [q] at hs; cases hs
      | some u =>
        have hl : i < σ.length := by rw [← S.len]; exact (List.getElem?_eq_some_iff.mp q).1
        simp [hl]
    by_cases ej : j = i
    · by_cases el : l = i
      · rw [ej, el]
      · exfalso
        subst ej
        rw [self s hs] at h3
        exact at_ l t' el ht h2 h3.symm
    · by_cases el : l = i
      · exfalso
        subst el
        rw [self t' ht] at h3
        exact at_ j s ej hs h1 h3
      · rw [List.getElem?_set_ne (fun z => ej z.symm)] at hs h3
        rw [List.getElem?_set_ne (fun z => el z.symm)] at ht h3
        exact S.dis j l s t' hs ht h1 h2 h3
/-- a slot takes an inner def -/
theorem Stt.setFn (S : Stt K W L0 H0 L H σ ρ k) (i : Nat) {p c : Addr} {mk : Addr → NdefX.NF} (np : p ∉ L ++ W.M) (nc : c ∉ L ++ W.M) (hp : H p = some (NdefX.FnO p (mk c))) (hc : H c = some (LamX.CodeO c (mk c).qual)) : Stt K W L0 H0 L H (σ.set i (some (.ref p))) (ρ.set i (.fn mk)) k := by
  refine ⟨S.base, S.fresh, S.offM, S.trk, S.wd, by rw [List.length_set, List.length_set]; exact S.len, fun j s hs => ?_, fun j l s t' hs ht h1 h2 h3 => ?_⟩
  · by_cases e : i = j
    · subst e
      rw [List.getElem?_set_self'] at hs
      cases q : ρ[i]? with
      | none => rw [q] at hs; cases hs
      | some u =>
        rw [q] at hs
        have hs' : Slot.fn mk = s := by simpa using hs
        subst hs'
        have hl : i < σ.length := by rw [← S.len]; exact (List.getElem?_eq_some_iff.mp q).1
        exact ⟨p, c, by simp [hl], np, nc, hp, hc⟩
    · rw [List.getElem?_set_ne e] at hs ⊢
      exact S.slots j s hs
  · have nj : i ≠ j := by
      rintro rfl
      rw [List.getElem?_set_self'] at hs
      cases q : ρ[i]? with
      | none => rw [q] at hs; cases hs
      | some u =>
        rw [q] at hs
        have hs' : Slot.fn mk = s := by simpa using hs
        subst hs'
        cases h1
    have nl : i ≠ l := by
      rintro rfl
      rw [List.getElem?_set_self'] at ht
      cases q : ρ[i]? with
      | none => rw [q] at ht; cases ht
      | some u =>
        rw [q] at ht
        have hs' : Slot.fn mk = t' := by simpa using ht
        subst hs'
        cases h2
    rw [List.getElem?_set_ne nj] at hs h3
    rw [List.getElem?_set_ne nl] at ht h3
    exact S.dis j l s t' hs ht h1 h2 h3
/-- the own list (or dict) of a slot is written -/
theorem Stt.put (S : Stt K W L0 H0 L H σ ρ k) {i : Nat} {l : Addr} {o : HO} {s0 s1 : Slot} (hi : ρ[i]? = some s0) (ho : s0.isOwn = true) (h1 : s1.isOwn = true) (hσ : σ[i]? = some (some (.ref l))) (hl : l ∈ L)
    (hs1 : SlotOk K (L ++ W.M) L (upd H l o) (some (some (.ref l))) s1) : Stt K W L0 H0 L (upd H l o) σ (ρ.set i s1) k := by
  have nM := S.offM l hl
  have up : ∀ v d, T K (L ++ W.M) H v d → T K (L ++ W.M) (upd H l o) v d := fun v d t => t.ext (Ext.put (List.mem_append_left _ hl))
  have il : i < ρ.length := (List.getElem?_eq_some_iff.mp hi).1
  refine ⟨fun b u nb hb => ?_, S.fresh, S.offM, S.trk.upd, W.loc k _ H _ (fun b hb => ?_) (Ext.put (List.mem_append_left _ hl)) S.wd, by rw [List.length_set]; exact S.len, fun j s hs => ?_, fun j m s t' hs ht g1 g2 g3 => ?_⟩
  · have : b ≠ l := by
      rintro rfl
      rcases S.fresh b hl with q | q
      · exact nb (List.mem_append_left _ q)
      · rw [q] at hb; cases hb
    rw [upd_ne this]
    exact S.base b u nb hb
  · have : b ≠ l := by rintro rfl; exact nM hb
    rw [upd_ne this]
  · by_cases e : i = j
    · subst e
      rw [List.getElem?_set_self'] at hs
      rw [hi] at hs
      have hs' : s1 = s := by simpa using hs
      subst hs'
      rw [hσ]
      exact hs1
    · rw [List.getElem?_set_ne e] at hs
      have q := S.slots j s hs
      cases s with
      | no => trivial
      | dat d =>
        obtain ⟨v, h1, h2⟩ := q
        exact ⟨v, h1, up _ _ h2⟩
      | own ds =>
        obtain ⟨m, xs, q1, q2, q3, q4⟩ := q
        have : m ≠ l := by
          rintro rfl
          exact e (S.dis i j _ _ hi hs ho rfl (hσ.trans q1.symm))
        exact ⟨m, xs, q1, q2, by rw [upd_ne this]; exact q3, q4.mapT up⟩
      | ownD kvs =>
        obtain ⟨m, xs, q1, q2, q3, q4⟩ := q
        have : m ≠ l := by
          rintro rfl
          exact e (S.dis i j _ _ hi hs ho rfl (hσ.trans q1.symm))
        exact ⟨m, xs, q1, q2, by rw [upd_ne this]; exact q3, q4.map up⟩
      | lck kvs =>
        obtain ⟨m, xs, od, q1, q2, q3, q4⟩ := q
        have : m ≠ l := by
          rintro rfl
          exact e (S.dis i j _ _ hi hs ho rfl (hσ.trans q1.symm))
        exact ⟨m, xs, od, q1, q2, by rw [upd_ne this]; exact q3, q4.map up⟩
      | raw v => exact q
      | fn F =>
        obtain ⟨f, c, q1, q2, q3, q4, q5⟩ := q
        exact ⟨f, c, q1, q2, q3, by rw [upd_ne (by rintro rfl; exact q2 (List.mem_append_left _ hl))]; exact q4, by rw [upd_ne (by rintro rfl; exact q3 (List.mem_append_left _ hl))]; exact q5⟩
      | ownN D kvs =>
        obtain ⟨m, xs, q1, q2, q3, q4⟩ := q
        have : m ≠ l := by
          rintro rfl
          exact e (S.dis i j _ _ hi hs ho rfl (hσ.trans q1.symm))
        exact ⟨m, xs, q1, q2, by rw [upd_ne this]; exact q3, q4.map up⟩
  · have own_ : ∀ (j : Nat) (s : Slot), (ρ.set i s1)[j]? = some s → s.isOwn = true → ∃ s' : Slot, ρ[j]? = some s' ∧ s'.isOwn = true := fun j s hs hh => by
      by_cases e : i = j
      · subst e
        exact ⟨s0, hi, ho⟩
      · rw [List.getElem?_set_ne e] at hs
        exact ⟨s, hs, hh⟩
    obtain ⟨a, a1, a2⟩ := own_ j s hs g1
    obtain ⟨b, b1, b2⟩ := own_ m t' ht g2
    exact S.dis j m a b a1 b1 a2 b2 g3
/-- an own list becomes a datum -/
theorem Stt.freeze (S : Stt K W L0 H0 L H σ ρ k) {i : Nat} {ds : List PyData} (hi : ρ[i]? = some (.own ds)) : ∃ L' l, σ[i]? = some (some (.ref l)) ∧ T K (L' ++ W.M) H (.ref l) (.list ds) ∧ (∀ b ∈ L', b ∈ L) ∧ Stt K W L0 H0 L' H σ (ρ.set i (.dat (.list ds))) k := by
  obtain ⟨l, xs, e1, e2, e3, e4⟩ := S.slots i _ hi
  have sub : ∀ b ∈ L.filter (fun b => b ≠ l) ++ W.M, b ∈ L ++ W.M := fun b hb => by
    rcases List.mem_append.mp hb with hb | hb
    · exact List.mem_append_left _ (List.mem_filter.mp hb).1
    · exact List.mem_append_right _ hb
  have nl : l ∉ L.filter (fun b => b ≠ l) ++ W.M := fun hb => by
    rcases List.mem_append.mp hb with hb | hb
    · have := (List.mem_filter.mp hb).2
      simp at this
    · exact S.offM l e2 hb
  have tl : T K (L.filter (fun b => b ≠ l) ++ W.M) H (.ref l) (.list ds) := .lst nl e3 (e4.off sub)
  refine ⟨L.filter fun b => b ≠ l, l, e1, tl, fun b hb => (List.mem_filter.mp hb).1, S.base, fun b hb => S.fresh b (List.mem_filter.mp hb).1, fun b hb => S.offM b (List.mem_filter.mp hb).1, fun b hb => S.trk b (sub b hb), S.wdSub (fun b hb => (List.mem_filter.mp hb).1), by rw [List.length_set]; exact S.len, fun j s hs => ?_, fun j m s t' hs ht g1 g2 g3 => ?_⟩
  · by_cases e : i = j
    · subst e
      rw [List.getElem?_set_self', hi] at hs
      have hs' : Slot.dat (.list ds) = s := by simpa using hs
      subst hs'
      exact ⟨_, e1, tl⟩
    · rw [List.getElem?_set_ne e] at hs
      have q := S.slots j s hs
      cases s with
      | no => trivial
      | dat d =>
        obtain ⟨v, h1, h2⟩ := q
        exact ⟨v, h1, h2.off sub⟩
      | own ds' =>
        obtain ⟨m, xs, q1, q2, q3, q4⟩ := q
        have : m ≠ l := by
          rintro rfl
          exact e (S.dis i j _ _ hi hs rfl rfl (e1.trans q1.symm))
        exact ⟨m, xs, q1, List.mem_filter.mpr ⟨q2, by simpa using this⟩, q3, q4.off sub⟩
      | ownD kvs =>
        obtain ⟨m, xs, q1, q2, q3, q4⟩ := q
        have : m ≠ l := by
          rintro rfl
          exact e (S.dis i j _ _ hi hs rfl rfl (e1.trans q1.symm))
        exact ⟨m, xs, q1, List.mem_filter.mpr ⟨q2, by simpa using this⟩, q3, q4.map fun _ _ t => t.off sub⟩
      | lck kvs =>
        obtain ⟨m, xs, od, q1, q2, q3, q4⟩ := q
        have : m ≠ l := by
          rintro rfl
          exact e (S.dis i j _ _ hi hs rfl rfl (e1.trans q1.symm))
        exact ⟨m, xs, od, q1, List.mem_filter.mpr ⟨q2, by simpa using this⟩, q3, q4.map fun _ _ t => t.off sub⟩
      | raw v => exact q
      | fn F =>
        obtain ⟨f, c, q1, q2, q3, q4, q5⟩ := q
        exact ⟨f, c, q1, fun z => q2 (sub _ z), fun z => q3 (sub _ z), q4, q5⟩
      | ownN D kvs =>
        obtain ⟨m, xs, q1, q2, q3, q4⟩ := q
        have : m ≠ l := by
          rintro rfl
          exact e (S.dis i j _ _ hi hs rfl rfl (e1.trans q1.symm))
        exact ⟨m, xs, q1, List.mem_filter.mpr ⟨q2, by simpa using this⟩, q3, q4.map fun _ _ t => t.off sub⟩
  · have own_ : ∀ (j : Nat) (s : Slot), (ρ.set i (.dat (.list ds)))[j]? = some s → s.isOwn = true → ρ[j]? = some s := fun j s hs hh => by
      by_cases e : i = j
      · subst e
        rw [List.getElem?_set_self', hi] at hs
        have hs' : Slot.dat (.list ds) = s := by simpa using hs
        subst hs'
        cases hh
      · rw [List.getElem?_set_ne e] at hs
        exact hs
    exact S.dis j m s t' (own_ j s hs g1) (own_ m t' ht g2) g1 g2 g3
/-- slots forgotten -/
theorem Stt.weaken (S : Stt K W L0 H0 L H σ ρ k) {ρ' : Rho} (hl : ρ'.length = ρ.length) (h : ∀ (i : Nat) (s : Slot), ρ'[i]? = some s → s = .no ∨ ρ[i]? = some s) : Stt K W L0 H0 L H σ ρ' k := by
  refine ⟨S.base, S.fresh, S.offM, S.trk, S.wd, hl.trans S.len, fun i s hs => ?_, fun i j s t hs ht h1 h2 h3 => ?_⟩
  · rcases h i s hs with rfl | q
    · trivial
    · exact S.slots i s q
  · rcases h i s hs with rfl | q
    · cases h1
    · rcases h j t ht with rfl | q'
      · cases h2
      · exact S.dis i j s t q q' h1 h2 h3
end
end U

set_option Elab.async false
set_option linter.all false
set_option maxRecDepth 100000
set_option maxHeartbeats 2000000
namespace U
open PySem PySem.Spec PyProof.Rows L2

/-! ### expressions over data -/
def EvW (K : PySem.W.Frag) {γ : Type} (W : Wd γ) (te : TE) (ρ : Rho) (k : γ) (Φ : PyData → γ → Prop) : Prop :=
  ∀ (L0 : List Addr) (H0 : Hp) (L : List Addr) (H : Hp) (σ : L2.St), Stt K W L0 H0 L H σ ρ k → ∀ Q : VK, (∀ v d k' H2, Stt K W L0 H0 L H2 σ ρ k' → Ext W.M H H2 → T K (L ++ W.M) H2 v d → Φ d k' → Q v H2) → te σ H Q
def EvT (K : PySem.W.Frag) {γ : Type} (W : Wd γ) (tt : TT) (ρ : Rho) (k : γ) (Φ : Bool → γ → Prop) : Prop :=
  ∀ (L0 : List Addr) (H0 : Hp) (L : List Addr) (H : Hp) (σ : L2.St), Stt K W L0 H0 L H σ ρ k → ∀ Q : Bool → Hp → Prop, (∀ b k' H2, Stt K W L0 H0 L H2 σ ρ k' → Ext W.M H H2 → Φ b k' → Q b H2) → tt σ H Q
def EvA (K : PySem.W.Frag) {γ : Type} (W : Wd γ) (ta : L2.TA) (ρ : Rho) (k : γ) (Φ : List PyData → γ → Prop) : Prop :=
  ∀ (L0 : List Addr) (H0 : Hp) (L : List Addr) (H : Hp) (σ : L2.St), Stt K W L0 H0 L H σ ρ k → ∀ Q : List V → Hp → Prop, (∀ vs ds k' H2, Stt K W L0 H0 L H2 σ ρ k' → Ext W.M H H2 → TA K (L ++ W.M) H2 vs ds → Φ ds k' → Q vs H2) → ta σ H Q
def EvO (K : PySem.W.Frag) {γ : Type} (W : Wd γ) (to : TO) (ρ : Rho) (k : γ) (Φ : Option Int → γ → Prop) : Prop :=
  ∀ (L0 : List Addr) (H0 : Hp) (L : List Addr) (H : Hp) (σ : L2.St), Stt K W L0 H0 L H σ ρ k → ∀ Q : Option Int → Hp → Prop, (∀ o k' H2, Stt K W L0 H0 L H2 σ ρ k' → Ext W.M H H2 → Φ o k' → Q o H2) → to σ H Q
/-- operations on values -/
def RD (K : PySem.W.Frag) {γ : Type} (W : Wd γ) (r : R2) (x y : PyData) (ρ : Rho) (k : γ) (Φ : PyData → γ → Prop) : Prop :=
  ∀ (L0 : List Addr) (H0 : Hp) (L : List Addr) (H : Hp) (σ : L2.St) (vx vy : V), Stt K W L0 H0 L H σ ρ k → T K (L ++ W.M) H vx x → T K (L ++ W.M) H vy y → ∀ Q : VK, (∀ v d k' H2, Stt K W L0 H0 L H2 σ ρ k' → Ext W.M H H2 → T K (L ++ W.M) H2 v d → Φ d k' → Q v H2) → r vx vy H Q
def RU (K : PySem.W.Frag) {γ : Type} (W : Wd γ) (r : V → Hp → VK → Prop) (x : PyData) (ρ : Rho) (k : γ) (Φ : PyData → γ → Prop) : Prop :=
  ∀ (L0 : List Addr) (H0 : Hp) (L : List Addr) (H : Hp) (σ : L2.St) (vx : V), Stt K W L0 H0 L H σ ρ k → T K (L ++ W.M) H vx x → ∀ Q : VK, (∀ v d k' H2, Stt K W L0 H0 L H2 σ ρ k' → Ext W.M H H2 → T K (L ++ W.M) H2 v d → Φ d k' → Q v H2) → r vx H Q
def RCD (K : PySem.W.Frag) {γ : Type} (W : Wd γ) (r : List V → Hp → VK → Prop) (xs : List PyData) (ρ : Rho) (k : γ) (Φ : PyData → γ → Prop) : Prop :=
  ∀ (L0 : List Addr) (H0 : Hp) (L : List Addr) (H : Hp) (σ : L2.St) (vs : List V), Stt K W L0 H0 L H σ ρ k → TA K (L ++ W.M) H vs xs → ∀ Q : VK, (∀ v d k' H2, Stt K W L0 H0 L H2 σ ρ k' → Ext W.M H H2 → T K (L ++ W.M) H2 v d → Φ d k' → Q v H2) → r vs H Q
def RSl (K : PySem.W.Frag) {γ : Type} (W : Wd γ) (r : V → Option Int → Option Int → Hp → VK → Prop) (x : PyData) (lo hi : Option Int) (ρ : Rho) (k : γ) (Φ : PyData → γ → Prop) : Prop :=
  ∀ (L0 : List Addr) (H0 : Hp) (L : List Addr) (H : Hp) (σ : L2.St) (vx : V), Stt K W L0 H0 L H σ ρ k → T K (L ++ W.M) H vx x → ∀ Q : VK, (∀ v d k' H2, Stt K W L0 H0 L H2 σ ρ k' → Ext W.M H H2 → T K (L ++ W.M) H2 v d → Φ d k' → Q v H2) → r vx lo hi H Q
section
variable {K : PySem.W.Frag} {γ : Type} {W : Wd γ} {ρ : Rho} {k : γ} {Φ : PyData → γ → Prop} {ta tb tc te : TE} {tt tu : TT} {x y : PyData}
theorem eM {L M : List Addr} {H H' : Hp} (e : Ext M H H') : Ext (L ++ M) H H' := e.sub fun _ hb => List.mem_append_right _ hb

theorem ev_var {i : Nat} {d : PyData} (h : ρ[i]? = some (.dat d)) (q : Φ d k) : EvW K W (tVar i) ρ k Φ := fun _ _ _ H _ S _ c => by
  obtain ⟨v, e, t⟩ := S.slots i _ h
  exact ⟨v, e, c v d k H S (Ext.refl _ _) t q⟩
theorem ev_int {i : Int} (q : Φ (.int i) k) : EvW K W (tC (.int i)) ρ k Φ := fun _ _ _ H _ S _ c => c _ _ _ H S (Ext.refl _ _) (.int i) q
theorem ev_bl {b : Bool} (q : Φ (.bool b) k) : EvW K W (tC (.bl b)) ρ k Φ := fun _ _ _ H _ S _ c => c _ _ _ H S (Ext.refl _ _) (.bl b) q
theorem ev_non (q : Φ .none k) : EvW K W (tC .non) ρ k Φ := fun _ _ _ H _ S _ c => c _ _ _ H S (Ext.refl _ _) .non q
theorem ev_str {z : Str} (q : Φ (.str z) k) : EvW K W (tC (.str z)) ρ k Φ := fun _ _ _ H _ S _ c => c _ _ _ H S (Ext.refl _ _) (.str z) q
theorem ev_op {r : R2} (h : EvW K W ta ρ k fun x k1 => EvW K W tb ρ k1 fun y k2 => RD K W r x y ρ k2 Φ) : EvW K W (tOp r ta tb) ρ k Φ := fun L0 H0 L H σ S Q c =>
  h L0 H0 L H σ S _ fun v x k1 H1 S1 e1 t1 g => g L0 H0 L H1 σ S1 _ fun u y k2 H2 S2 e2 t2 g2 => g2 L0 H0 L H2 σ v u S2 (t1.ext (eM e2)) t2 Q fun w d k3 H3 S3 e3 t3 f => c w d k3 H3 S3 ((e1.trans e2).trans e3) t3 f
theorem ev_un {r : V → Hp → VK → Prop} (h : EvW K W ta ρ k fun x k1 => RU K W r x ρ k1 Φ) : EvW K W (tUn r ta) ρ k Φ := fun L0 H0 L H σ S Q c =>
  h L0 H0 L H σ S _ fun v x k1 H1 S1 e1 t1 g => g L0 H0 L H1 σ v S1 t1 Q fun w d k3 H3 S3 e3 t3 f => c w d k3 H3 S3 (e1.trans e3) t3 f
/-- a rule on values that leaves the heap -/
theorem rd_ {r : R2} {d : PyData} (q : Φ d k) (h : ∀ (N : List Addr) (H : Hp) (vx vy : V), T K N H vx x → T K N H vy y → ∀ Q : VK, (∀ v, T K N H v d → Q v H) → r vx vy H Q) : RD K W r x y ρ k Φ := fun L0 H0 L H σ vx vy S tx ty Q c =>
  h _ H vx vy tx ty Q fun v t => c v d k H S (Ext.refl _ _) t q
theorem ru_ {r : V → Hp → VK → Prop} {d : PyData} (q : Φ d k) (h : ∀ (N : List Addr) (H : Hp) (vx : V), T K N H vx x → ∀ Q : VK, (∀ v, T K N H v d → Q v H) → r vx H Q) : RU K W r x ρ k Φ := fun L0 H0 L H σ vx S tx Q c =>
  h _ H vx tx Q fun v t => c v d k H S (Ext.refl _ _) t q
theorem rc_ {r : List V → Hp → VK → Prop} {d : PyData} {xs : List PyData} (q : Φ d k) (h : ∀ (N : List Addr) (H : Hp) (vs : List V), TA K N H vs xs → ∀ Q : VK, (∀ v, T K N H v d → Q v H) → r vs H Q) : RCD K W r xs ρ k Φ := fun L0 H0 L H σ vs S tx Q c =>
  h _ H vs tx Q fun v t => c v d k H S (Ext.refl _ _) t q
/-- a rule on values that makes a new thing -/
theorem rdN {r : R2} {d : PyData} (q : Φ d k) (h : ∀ (N : List Addr) (H : Hp) (vx vy : V), Trk N H → T K N H vx x → T K N H vy y → ∀ Q : VK, (∀ v H2, Same H H2 → T K N H2 v d → Q v H2) → r vx vy H Q) : RD K W r x y ρ k Φ := fun L0 H0 L H σ vx vy S tx ty Q c =>
  h _ H vx vy S.trk tx ty Q fun v H2 s t => c v d k H2 (S.same s) (Ext.same s) t q
theorem rcN {r : List V → Hp → VK → Prop} {d : PyData} {xs : List PyData} (q : Φ d k) (h : ∀ (N : List Addr) (H : Hp) (vs : List V), Trk N H → TA K N H vs xs → ∀ Q : VK, (∀ v H2, Same H H2 → T K N H2 v d → Q v H2) → r vs H Q) : RCD K W r xs ρ k Φ := fun L0 H0 L H σ vs S tx Q c =>
  h _ H vs S.trk tx Q fun v H2 s t => c v d k H2 (S.same s) (Ext.same s) t q
theorem rslN {r : V → Option Int → Option Int → Hp → VK → Prop} {d : PyData} {lo hi : Option Int} (q : Φ d k) (h : ∀ (N : List Addr) (H : Hp) (vx : V), Trk N H → T K N H vx x → ∀ Q : VK, (∀ v H2, Same H H2 → T K N H2 v d → Q v H2) → r vx lo hi H Q) : RSl K W r x lo hi ρ k Φ := fun L0 H0 L H σ vx S tx Q c =>
  h _ H vx S.trk tx Q fun v H2 s t => c v d k H2 (S.same s) (Ext.same s) t q

/-! ints -/
theorem rd_I0 {g : Int → Int → Int} {i j : Int} (q : Φ (.int (g i j)) k) : RD K W (rI0 fun i j => .int (g i j)) (.int i) (.int j) ρ k Φ := rd_ q fun N H vx vy tx ty Q c => by
  cases tx
  cases ty
  exact ⟨i, j, rfl, rfl, c _ (.int _)⟩
theorem rd_add {i j : Int} (q : Φ (.int (i + j)) k) : RD K W (rI0 fun i j => .int (i + j)) (.int i) (.int j) ρ k Φ := rd_I0 (g := fun i j => i + j) q
theorem rd_sub {i j : Int} (q : Φ (.int (i - j)) k) : RD K W (rI0 fun i j => .int (i - j)) (.int i) (.int j) ρ k Φ := rd_I0 (g := fun i j => i - j) q
theorem rd_B0 {g : Int → Int → Bool} {i j : Int} (q : Φ (.bool (g i j)) k) : RD K W (rI0 fun i j => .bl (g i j)) (.int i) (.int j) ρ k Φ := rd_ q fun N H vx vy tx ty Q c => by
  cases tx
  cases ty
  exact ⟨i, j, rfl, rfl, c _ (.bl _)⟩
theorem rd_lt {i j : Int} (q : Φ (.bool (decide (i < j))) k) : RD K W (rI0 fun i j => .bl (decide (i < j))) (.int i) (.int j) ρ k Φ := rd_B0 (g := fun i j => decide (i < j)) q
theorem rd_le {i j : Int} (q : Φ (.bool (decide (i ≤ j))) k) : RD K W (rI0 fun i j => .bl (decide (i ≤ j))) (.int i) (.int j) ρ k Φ := rd_B0 (g := fun i j => decide (i ≤ j)) q
theorem rd_gt {i j : Int} (q : Φ (.bool (decide (j < i))) k) : RD K W (rI0 fun i j => .bl (decide (j < i))) (.int i) (.int j) ρ k Φ := rd_B0 (g := fun i j => decide (j < i)) q
theorem rd_ge {i j : Int} (q : Φ (.bool (decide (j ≤ i))) k) : RD K W (rI0 fun i j => .bl (decide (j ≤ i))) (.int i) (.int j) ρ k Φ := rd_B0 (g := fun i j => decide (j ≤ i)) q
theorem rd_I {C : Int → Int → Prop} {g : Int → Int → Int} {i j : Int} (hc : C i j) (q : Φ (.int (g i j)) k) : RD K W (rI C fun i j => .int (g i j)) (.int i) (.int j) ρ k Φ := rd_ q fun N H vx vy tx ty Q c => by
  cases tx
  cases ty
  exact ⟨i, j, rfl, rfl, hc, c _ (.int _)⟩
theorem rd_mul {i j : Int} (hc : CMul i j) (q : Φ (.int (i * j)) k) : RD K W (rI CMul fun i j => .int (i * j)) (.int i) (.int j) ρ k Φ := rd_I (g := fun i j => i * j) hc q
theorem rd_fdiv {i j : Int} (hc : CDiv i j) (q : Φ (.int (i / j)) k) : RD K W (rI CDiv fun i j => .int (i / j)) (.int i) (.int j) ρ k Φ := rd_I (g := fun i j => i / j) hc q
theorem rd_mod {i j : Int} (hc : 0 < j) (q : Φ (.int (i % j)) k) : RD K W (rI (fun _ j => 0 < j) fun i j => .int (i % j)) (.int i) (.int j) ρ k Φ := rd_I (C := fun _ j => 0 < j) (g := fun i j => i % j) hc q
theorem rd_pow {i j : Int} (hc : CPow i j) (q : Φ (.int (i ^ j.toNat)) k) : RD K W (rI CPow fun i j => .int (i ^ j.toNat)) (.int i) (.int j) ρ k Φ := rd_I (g := fun i j => i ^ j.toNat) hc q
theorem ru_neg {i : Int} (q : Φ (.int (-i)) k) : RU K W (rU fun i => .int (-i)) (.int i) ρ k Φ := ru_ q fun N H vx tx Q c => by
  cases tx
  exact ⟨i, rfl, c _ (.int _)⟩

/-! == of scalars -/
def eqS : PyData → PyData → Option Bool
  | .int a, .int b => some (decide (a = b))
  | .str a, .str b => some (decide (a = b))
  | .bool a, .bool b => some (decide (a = b))
  | .none, .none => some true
  | .none, .int _ => some false
  | .int _, .none => some false
  | .none, .str _ => some false
  | .str _, .none => some false
  | .str _, .int _ => some false
  | .int _, .str _ => some false
  | _, _ => none
theorem eqS_V {N : List Addr} {H : Hp} {vx vy : V} {b : Bool} (tx : T K N H vx x) (ty : T K N H vy y) (h : eqS x y = some b) : scal vx vy = true ∧ decide (vx = vy) = b := by
  cases tx <;> cases ty <;> simp only [eqS, Option.some.injEq, reduceCtorEq] at h <;> subst h <;> exact ⟨rfl, by simp⟩
theorem rd_eq {b : Bool} (h : eqS x y = some b) (q : Φ (.bool b) k) : RD K W rEq x y ρ k Φ := rd_ q fun N H vx vy tx ty Q c => by
  obtain ⟨h1, h2⟩ := eqS_V tx ty h
  exact ⟨h1, by rw [h2]; exact c _ (.bl b)⟩
theorem rd_ne {b : Bool} (h : eqS x y = some b) (q : Φ (.bool !b) k) : RD K W rNe x y ρ k Φ := rd_ q fun N H vx vy tx ty Q c => by
  obtain ⟨h1, h2⟩ := eqS_V tx ty h
  exact ⟨h1, by rw [h2]; exact c _ (.bl !b)⟩
theorem rd_eqI {i j : Int} (q : Φ (.bool (decide (i = j))) k) : RD K W rEq (.int i) (.int j) ρ k Φ := rd_eq (b := decide (i = j)) rfl q
theorem rd_neI {i j : Int} (q : Φ (.bool !(decide (i = j))) k) : RD K W rNe (.int i) (.int j) ρ k Φ := rd_ne (b := decide (i = j)) rfl q
theorem rd_eqX {i j : Str} (q : Φ (.bool (decide (i = j))) k) : RD K W rEq (.str i) (.str j) ρ k Φ := rd_eq (b := decide (i = j)) rfl q
theorem rd_neX {i j : Str} (q : Φ (.bool !(decide (i = j))) k) : RD K W rNe (.str i) (.str j) ρ k Φ := rd_ne (b := decide (i = j)) rfl q
def isNone : PyData → Bool | .none => true | _ => false
theorem isNone_V {N : List Addr} {H : Hp} {vx : V} (tx : T K N H vx x) : decide (vx = .non) = isNone x := by
  cases tx <;> simp [isNone]
theorem rd_isN (q : Φ (.bool (isNone x)) k) : RD K W (fun x y H Q => y = .non ∧ Q (.bl (decide (x = .non))) H) x .none ρ k Φ := rd_ q fun N H vx vy tx ty Q c => by
  cases ty
  exact ⟨rfl, by rw [isNone_V tx]; exact c _ (.bl _)⟩
theorem rd_notN (q : Φ (.bool !(isNone x)) k) : RD K W (fun x y H Q => y = .non ∧ Q (.bl (!decide (x = .non))) H) x .none ρ k Φ := rd_ q fun N H vx vy tx ty Q c => by
  cases ty
  exact ⟨rfl, by rw [isNone_V tx]; exact c _ (.bl _)⟩

/-! tests and logic -/
theorem et_test (h : EvW K W te ρ k fun d k1 => ∃ b, d = .bool b ∧ Ψ b k1) : EvT K W (tTest te) ρ k Ψ := fun L0 H0 L H σ S Q c =>
  h L0 H0 L H σ S _ fun v d k1 H1 S1 e1 t1 g => by
    obtain ⟨b, rfl, g⟩ := g
    cases t1
    exact ⟨b, rfl, c b k1 H1 S1 e1 g⟩
theorem et_B (h : EvW K W te ρ k fun d k1 => ∃ b, d = .bool b ∧ Ψ b k1) : EvT K W (tB te) ρ k Ψ := fun L0 H0 L H σ S Q c =>
  h L0 H0 L H σ S _ fun v d k1 H1 S1 e1 t1 g => by
    obtain ⟨b, rfl, g⟩ := g
    cases t1
    exact ⟨b, rfl, c b k1 H1 S1 e1 g⟩
variable {Ψ : Bool → γ → Prop}
theorem et_and (h : EvT K W tt ρ k fun b k1 => if b = true then EvT K W tu ρ k1 Ψ else Ψ false k1) : EvT K W (tAnd tt tu) ρ k Ψ := fun L0 H0 L H σ S Q c =>
  h L0 H0 L H σ S _ fun b k1 H1 S1 e1 g => by
    cases b with
    | true => exact (g : EvT K W tu ρ k1 Ψ) L0 H0 L H1 σ S1 Q fun b k2 H2 S2 e2 q => c b k2 H2 S2 (e1.trans e2) q
    | false => exact c false k1 H1 S1 e1 g
theorem et_or (h : EvT K W tt ρ k fun b k1 => if b = true then Ψ true k1 else EvT K W tu ρ k1 Ψ) : EvT K W (tOr tt tu) ρ k Ψ := fun L0 H0 L H σ S Q c =>
  h L0 H0 L H σ S _ fun b k1 H1 S1 e1 g => by
    cases b with
    | false => exact (g : EvT K W tu ρ k1 Ψ) L0 H0 L H1 σ S1 Q fun b k2 H2 S2 e2 q => c b k2 H2 S2 (e1.trans e2) q
    | true => exact c true k1 H1 S1 e1 g
theorem et_not (h : EvT K W tt ρ k fun b k1 => Ψ (!b) k1) : EvT K W (tNot tt) ρ k Ψ := fun L0 H0 L H σ S Q c =>
  h L0 H0 L H σ S _ fun b k1 H1 S1 e1 g => c (!b) k1 H1 S1 e1 g
theorem et_yes (q : Ψ true k) : EvT K W tYes ρ k Ψ := fun L0 H0 L H σ S Q c => c true k H S (Ext.refl _ _) q
theorem ev_andV (h : EvW K W ta ρ k fun d k1 => ∃ b, d = .bool b ∧ if b = true then EvW K W tb ρ k1 Φ else Φ (.bool false) k1) : EvW K W (tAndV ta tb) ρ k Φ := fun L0 H0 L H σ S Q c =>
  h L0 H0 L H σ S _ fun v d k1 H1 S1 e1 t1 g => by
    obtain ⟨b, rfl, g⟩ := g
    cases t1
    refine ⟨b, rfl, ?_⟩
    cases b with
    | true => exact (g : EvW K W tb ρ k1 Φ) L0 H0 L H1 σ S1 Q fun v d k2 H2 S2 e2 t q => c v d k2 H2 S2 (e1.trans e2) t q
    | false => exact c _ _ k1 H1 S1 e1 (.bl false) g
theorem ev_orV (h : EvW K W ta ρ k fun d k1 => ∃ b, d = .bool b ∧ if b = true then Φ (.bool true) k1 else EvW K W tb ρ k1 Φ) : EvW K W (tOrV ta tb) ρ k Φ := fun L0 H0 L H σ S Q c =>
  h L0 H0 L H σ S _ fun v d k1 H1 S1 e1 t1 g => by
    obtain ⟨b, rfl, g⟩ := g
    cases t1
    refine ⟨b, rfl, ?_⟩
    cases b with
    | false => exact (g : EvW K W tb ρ k1 Φ) L0 H0 L H1 σ S1 Q fun v d k2 H2 S2 e2 t q => c v d k2 H2 S2 (e1.trans e2) t q
    | true => exact c _ _ k1 H1 S1 e1 (.bl true) g
theorem ev_notV (h : EvW K W ta ρ k fun d k1 => ∃ b, d = .bool b ∧ Φ (.bool !b) k1) : EvW K W (tNotV ta) ρ k Φ := fun L0 H0 L H σ S Q c =>
  h L0 H0 L H σ S _ fun v d k1 H1 S1 e1 t1 g => by
    obtain ⟨b, rfl, g⟩ := g
    cases t1
    exact ⟨b, rfl, c _ _ k1 H1 S1 e1 (.bl !b) g⟩
theorem ev_if (h : EvT K W tt ρ k fun b k1 => if b = true then EvW K W ta ρ k1 Φ else EvW K W tb ρ k1 Φ) : EvW K W (tIf tt ta tb) ρ k Φ := fun L0 H0 L H σ S Q c =>
  h L0 H0 L H σ S _ fun b k1 H1 S1 e1 g => by
    cases b with
    | true => exact (g : EvW K W ta ρ k1 Φ) L0 H0 L H1 σ S1 Q fun v d k2 H2 S2 e2 t q => c v d k2 H2 S2 (e1.trans e2) t q
    | false => exact (g : EvW K W tb ρ k1 Φ) L0 H0 L H1 σ S1 Q fun v d k2 H2 S2 e2 t q => c v d k2 H2 S2 (e1.trans e2) t q
theorem ev_chain {r r' : R2} (h : EvW K W ta ρ k fun x k1 => EvW K W tb ρ k1 fun y k2 => RD K W r x y ρ k2 fun d k3 => ∃ b, d = .bool b ∧ if b = true then EvW K W tc ρ k3 fun z k4 => RD K W r' y z ρ k4 Φ else Φ (.bool false) k3) :
    EvW K W (tChain r r' ta tb tc) ρ k Φ := fun L0 H0 L H σ S Q c =>
  h L0 H0 L H σ S _ fun v x k1 H1 S1 e1 t1 g => g L0 H0 L H1 σ S1 _ fun u y k2 H2 S2 e2 t2 g2 => g2 L0 H0 L H2 σ v u S2 (t1.ext (eM e2)) t2 _ fun w d k3 H3 S3 e3 t3 f => by
    obtain ⟨b, rfl, f⟩ := f
    cases t3
    refine ⟨b, rfl, ?_⟩
    cases b with
    | false => exact c _ _ k3 H3 S3 ((e1.trans e2).trans e3) (.bl false) f
    | true =>
      exact (f : EvW K W tc ρ k3 _) L0 H0 L H3 σ S3 _ fun w z k4 H4 S4 e4 t4 g4 => g4 L0 H0 L H4 σ u w S4 ((t2.ext (eM e3)).ext (eM e4)) t4 Q fun v d k5 H5 S5 e5 t5 f5 => c v d k5 H5 S5 ((((e1.trans e2).trans e3).trans e4).trans e5) t5 f5

/-! arguments, displays -/
variable {Α : List PyData → γ → Prop} {tr : L2.TA}
theorem ea_nil (q : Α [] k) : EvA K W tNil ρ k Α := fun _ _ _ H _ S _ c => c [] [] k H S (Ext.refl _ _) .nil q
theorem ea_cons (h : EvW K W ta ρ k fun d k1 => EvA K W tr ρ k1 fun ds k2 => Α (d :: ds) k2) : EvA K W (tCons ta tr) ρ k Α := fun L0 H0 L H σ S Q c =>
  h L0 H0 L H σ S _ fun v d k1 H1 S1 e1 t1 g => g L0 H0 L H1 σ S1 _ fun vs ds k2 H2 S2 e2 t2 q => c _ _ k2 H2 S2 (e1.trans e2) (.cons (t1.ext (eM e2)) t2) q
theorem ev_tup (h : EvA K W tr ρ k fun ds k1 => ds.length ≤ 100000 ∧ Φ (.tuple ds) k1) : EvW K W (tTup tr) ρ k Φ := fun L0 H0 L H σ S Q c =>
  h L0 H0 L H σ S _ fun vs ds k1 H1 S1 e1 t1 g => ⟨Nat.le_trans (show vs.length ≤ 100000 by rw [t1.len]; exact g.1) (by decide), newT S1.trk t1 fun p H' hp s _ _ t => c _ _ k1 H' (S1.same s) (e1.trans (Ext.same s)) t g.2⟩
theorem ev_lst (h : EvA K W tr ρ k fun ds k1 => ds.length ≤ 100000 ∧ Φ (.list ds) k1) : EvW K W (tLst tr) ρ k Φ := fun L0 H0 L H σ S Q c =>
  h L0 H0 L H σ S _ fun vs ds k1 H1 S1 e1 t1 g => ⟨Nat.le_trans (show vs.length ≤ 100000 by rw [t1.len]; exact g.1) (by decide), newL S1.trk t1 fun p H' hp s _ _ t => c _ _ k1 H' (S1.same s) (e1.trans (Ext.same s)) t g.2⟩
theorem ev_dnew (q : Φ (.dict []) k) : EvW K W tDNewK ρ k Φ := fun L0 H0 L H σ S Q c => newD S.trk fun p H' hp s _ t => c _ _ k H' (S.same s) (Ext.same s) t q
/-! built-ins -/
theorem ev_cb {r : List V → Hp → VK → Prop} (h : EvA K W tr ρ k fun ds k1 => RCD K W r ds ρ k1 Φ) : EvW K W (tCB r tr) ρ k Φ := fun L0 H0 L H σ S Q c =>
  h L0 H0 L H σ S _ fun vs ds k1 H1 S1 e1 t1 g => g L0 H0 L H1 σ vs S1 t1 Q fun v d k2 H2 S2 e2 t2 q => c v d k2 H2 S2 (e1.trans e2) t2 q
theorem TA.one_ {N : List Addr} {H : Hp} {vs : List V} {d : PyData} (t : TA K N H vs [d]) : ∃ v, vs = [v] ∧ T K N H v d := by
  cases t with
  | cons h t => cases t; exact ⟨_, rfl, h⟩
theorem TA.two_ {N : List Addr} {H : Hp} {vs : List V} {d e : PyData} (t : TA K N H vs [d, e]) : ∃ v u, vs = [v, u] ∧ T K N H v d ∧ T K N H u e := by
  cases t with
  | cons h t => obtain ⟨u, rfl, h2⟩ := t.one_; exact ⟨_, _, rfl, h, h2⟩
theorem rc_lenS {z : Str} (hz : z.length ≤ 100000) (q : Φ (.int (z.length : Int)) k) : RCD K W (fun xs H Q => ∃ z, xs = [.str z] ∧ z.length ≤ sizeLine ∧ Q (.int z.length) H) [.str z] ρ k Φ := rc_ q fun N H vs t Q c => by
  obtain ⟨v, rfl, t1⟩ := t.one_
  cases t1
  exact ⟨z, rfl, Nat.le_trans hz (by decide), c _ (.int _)⟩
theorem rc_lenL {ds : List PyData} (q : Φ (.int (ds.length : Int)) k) : RCD K W (rLenQ K) [.list ds] ρ k Φ := rc_ q fun N H vs t Q c => by
  obtain ⟨v, rfl, t1⟩ := t.one_
  cases t1 with
  | lst n h t => exact ⟨_, _, rfl, .inl (SqL.of h), by rw [t.len]; exact c _ (.int _)⟩
theorem rc_lenT {ds : List PyData} (q : Φ (.int (ds.length : Int)) k) : RCD K W (rLenQ K) [.tuple ds] ρ k Φ := rc_ q fun N H vs t Q c => by
  obtain ⟨v, rfl, t1⟩ := t.one_
  cases t1 with
  | tup n h t => exact ⟨_, _, rfl, .inr (SqT.of h), by rw [t.len]; exact c _ (.int _)⟩
/-- len of what is known to have one -/
def lenD : PyData → Option Nat
  | .list ds => some ds.length
  | .tuple ds => some ds.length
  | .str z => some z.length
  | _ => none
theorem rc_lenA {n : Nat} (h : lenD x = some n) (hn : n ≤ 100000) (q : Φ (.int (n : Int)) k) : RCD K W (rLenA K) [x] ρ k Φ := rc_ q fun N H vs t Q c => by
  obtain ⟨v, rfl, t1⟩ := t.one_
  have hz : n ≤ sizeLine := Nat.le_trans hn (by decide)
  cases t1 with
  | lst _ ha t3 =>
    simp only [lenD, Option.some.injEq] at h
    subst h
    exact ⟨_, _, rfl, .inl ⟨_, SqL.of ha, t3.len.symm⟩, c _ (.int _)⟩
  | tup _ ha t3 =>
    simp only [lenD, Option.some.injEq] at h
    subst h
    exact ⟨_, _, rfl, .inr ⟨_, SqT.of ha, t3.len.symm⟩, c _ (.int _)⟩
  | str z =>
    simp only [lenD, Option.some.injEq] at h
    subst h
    exact ⟨_, _, rfl, ⟨hz, rfl⟩, c _ (.int _)⟩
  | _ => simp [lenD] at h
theorem rc_ord {c : Nat} (q : Φ (.int (c : Int)) k) : RCD K W (fun xs H Q => ∃ x, xs = [.str x] ∧ x.length = 1 ∧ Q (.int (x.cps.getD 0 0 : Nat)) H) [.str ⟨#[c]⟩] ρ k Φ := rc_ q fun N H vs t Q cc => by
  obtain ⟨v, rfl, t1⟩ := t.one_
  cases t1
  exact ⟨_, rfl, rfl, cc _ (.int _)⟩
theorem rc_abs {i : Int} (q : Φ (.int (if i < 0 then -i else i)) k) : RCD K W (fun xs H Q => ∃ i, xs = [.int i] ∧ Q (.int (if i < 0 then -i else i)) H) [.int i] ρ k Φ := rc_ q fun N H vs t Q c => by
  obtain ⟨v, rfl, t1⟩ := t.one_
  cases t1
  exact ⟨i, rfl, c _ (.int _)⟩
theorem rc_max2 {i j : Int} (q : Φ (.int (if j > i then j else i)) k) : RCD K W (fun xs H Q => ∃ i j, xs = [.int i, .int j] ∧ Q (.int (if j > i then j else i)) H) [.int i, .int j] ρ k Φ := rc_ q fun N H vs t Q c => by
  obtain ⟨v, u, rfl, t1, t2⟩ := t.two_
  cases t1
  cases t2
  exact ⟨i, j, rfl, c _ (.int _)⟩
theorem rc_min2 {i j : Int} (q : Φ (.int (if j < i then j else i)) k) : RCD K W (fun xs H Q => ∃ i j, xs = [.int i, .int j] ∧ Q (.int (if j < i then j else i)) H) [.int i, .int j] ρ k Φ := rc_ q fun N H vs t Q c => by
  obtain ⟨v, u, rfl, t1, t2⟩ := t.two_
  cases t1
  cases t2
  exact ⟨i, j, rfl, c _ (.int _)⟩
theorem rc_int1 {i : Int} (q : Φ (.int i) k) : RCD K W (fun xs H Q => (∃ i, xs = [.int i] ∧ Q (.int i) H) ∨ ∃ k, xs = [.bl k] ∧ Q (.int (if k then 1 else 0)) H) [.int i] ρ k Φ := rc_ q fun N H vs t Q c => by
  obtain ⟨v, rfl, t1⟩ := t.one_
  cases t1
  exact .inl ⟨i, rfl, c _ (.int _)⟩
theorem TA.ints_ {N : List Addr} {H : Hp} : ∀ {ns : List Int} {vs : List V}, TA K N H vs (ns.map .int) → vs = ns.map V.int
  | [], _, h => by cases h; rfl
  | n :: ns, _, h => by
    cases h with
    | cons h1 h2 =>
      cases h1
      rw [TA.ints_ h2]
      rfl
theorem TA.bools_ {N : List Addr} {H : Hp} : ∀ {ns : List Bool} {vs : List V}, TA K N H vs (ns.map .bool) → vs = ns.map V.bl
  | [], _, h => by cases h; rfl
  | n :: ns, _, h => by
    cases h with
    | cons h1 h2 =>
      cases h1
      rw [TA.bools_ h2]
      rfl
theorem TA.strs_ {N : List Addr} {H : Hp} : ∀ {ns : List Str} {vs : List V}, TA K N H vs (ns.map .str) → vs = ns.map V.str
  | [], _, h => by cases h; rfl
  | n :: ns, _, h => by
    cases h with
    | cons h1 h2 =>
      cases h1
      rw [TA.strs_ h2]
      rfl
theorem rc_sum {ds : List PyData} (ns : List Int) (h : ds = ns.map .int) (q : Φ (.int ns.sum) k) : RCD K W (rSum K) [.list ds] ρ k Φ := rc_ q fun N H vs t Q c => by
  subst h
  obtain ⟨v, rfl, t1⟩ := t.one_
  cases t1 with
  | lst n h t =>
    have e := t.ints_
    subst e
    exact ⟨_, ns, rfl, SqL.of h, c _ (.int _)⟩
theorem rc_all {ds : List PyData} (ns : List Bool) (h : ds = ns.map .bool) (q : Φ (.bool (ns.all id)) k) : RCD K W (rAll K) [.list ds] ρ k Φ := rc_ q fun N H vs t Q c => by
  subst h
  obtain ⟨v, rfl, t1⟩ := t.one_
  cases t1 with
  | lst n h t =>
    have e := t.bools_
    subst e
    exact ⟨_, ns, rfl, SqL.of h, c _ (.bl _)⟩
theorem rc_any {ds : List PyData} (ns : List Bool) (h : ds = ns.map .bool) (q : Φ (.bool (ns.any id)) k) : RCD K W (rAny K) [.list ds] ρ k Φ := rc_ q fun N H vs t Q c => by
  subst h
  obtain ⟨v, rfl, t1⟩ := t.one_
  cases t1 with
  | lst n h t =>
    have e := t.bools_
    subst e
    exact ⟨_, ns, rfl, SqL.of h, c _ (.bl _)⟩
theorem rc_tupL {ds : List PyData} (q : Φ (.tuple ds) k) : RCD K W (rTupOf K) [.list ds] ρ k Φ := rcN q fun N H vs tr t Q c => by
  obtain ⟨v, rfl, t1⟩ := t.one_
  cases t1 with
  | lst n h t => exact ⟨_, _, rfl, .inl ⟨SqL.of h, newT tr t fun p H' _ s _ _ t' => c _ _ s t'⟩⟩
theorem rc_tupT {ds : List PyData} (q : Φ (.tuple ds) k) : RCD K W (rTupOf K) [.tuple ds] ρ k Φ := rcN q fun N H vs tr t Q c => by
  obtain ⟨v, rfl, t1⟩ := t.one_
  cases t1 with
  | tup n h t => exact ⟨_, _, rfl, .inr ⟨SqT.of h, c _ _ (Same.refl _) (.tup n h t)⟩⟩
theorem rc_listL {ds : List PyData} (q : Φ (.list ds) k) : RCD K W (rListOf K) [.list ds] ρ k Φ := rcN q fun N H vs tr t Q c => by
  obtain ⟨v, rfl, t1⟩ := t.one_
  cases t1 with
  | lst n h t => exact ⟨_, _, rfl, .inl (SqL.of h), newL tr t fun p H' _ s _ _ t' => c _ _ s t'⟩
theorem rc_listT {ds : List PyData} (q : Φ (.list ds) k) : RCD K W (rListOf K) [.tuple ds] ρ k Φ := rcN q fun N H vs tr t Q c => by
  obtain ⟨v, rfl, t1⟩ := t.one_
  cases t1 with
  | tup n h t => exact ⟨_, _, rfl, .inr (SqT.of h), newL tr t fun p H' _ s _ _ t' => c _ _ s t'⟩
theorem rc_repr (h : Shown x) (q : Φ (.str x.shown) k) : RCD K W (rRepr K) [x] ρ k Φ := rc_ q fun N H vs t Q c => by
  obtain ⟨v, rfl, t1⟩ := t.one_
  exact ⟨v, N, x, rfl, t1, h, c _ (.str _)⟩
/-- isinstance(x, type) -/
theorem ev_isi {n : String} (h : EvW K W te ρ k fun d k1 => ∃ b, kitB (tyName d) n = some b ∧ Φ (.bool b) k1) : EvW K W (tCB (rIsi K) (tCons te (tCons (tC (.ty n)) tNil))) ρ k Φ := fun L0 H0 L H σ S Q c =>
  h L0 H0 L H σ S _ fun v d k1 H1 S1 e1 t1 g => by
    obtain ⟨b, hb, g⟩ := g
    exact isi_ t1 hb (c _ _ k1 H1 S1 e1 (.bl b) g)
/-! items, slices -/
theorem TA.at {N : List Addr} {H : Hp} {vs : List V} {ds : List PyData} (t : TA K N H vs ds) {j : Nat} {d : PyData} (h : ds[j]? = some d) : ∃ v, vs[j]? = some v ∧ T K N H v d := by
  have hj : j < vs.length := by rw [t.len]; exact (List.getElem?_eq_some_iff.mp h).1
  obtain ⟨e, h1, h2⟩ := t.get (i := j) (v := vs[j]) (by simp [hj])
  rw [h] at h1
  cases h1
  exact ⟨vs[j], by simp [hj], h2⟩
theorem rd_ixT {ds : List PyData} {i : Int} {j : Nat} {d : PyData} (hi : i = (j : Int)) (h : ds[j]? = some d) (q : Φ d k) : RD K W (rIxT K) (.tuple ds) (.int i) ρ k Φ := rd_ q fun N H vx vy tx ty Q c => by
  subst hi
  cases ty
  cases tx with
  | tup n ha t =>
    obtain ⟨v, h1, h2⟩ := t.at h
    exact ⟨_, _, _, v, rfl, rfl, SqT.of ha, atI_nat h1, c v h2⟩
theorem rd_ixL {ds : List PyData} {i : Int} {j : Nat} {d : PyData} (hi : i = (j : Int)) (h : ds[j]? = some d) (q : Φ d k) : RD K W (rIxL K) (.list ds) (.int i) ρ k Φ := rd_ q fun N H vx vy tx ty Q c => by
  subst hi
  cases ty
  cases tx with
  | lst n ha t =>
    obtain ⟨v, h1, h2⟩ := t.at h
    exact ⟨_, _, _, v, rfl, rfl, SqL.of ha, atI_nat h1, c v h2⟩
theorem rd_ixS {z : Str} {i : Int} {j c : Nat} (hz : z.length ≤ 100000) (hi : i = (j : Int)) (h : z.cps[j]? = some c) (q : Φ (.str ⟨#[c]⟩) k) : RD K W rIxS (.str z) (.int i) ρ k Φ := rd_ q fun N H vx vy tx ty Q cc => by
  subst hi
  cases ty
  cases tx
  exact ⟨z, _, c, rfl, rfl, Nat.le_trans hz (by decide), atI_nat (by simpa using h), cc _ (.str _)⟩
theorem ev_sl {r : V → Option Int → Option Int → Hp → VK → Prop} {tl th : TO} (h : EvW K W te ρ k fun x k1 => EvO K W tl ρ k1 fun lo k2 => EvO K W th ρ k2 fun hi k3 => RSl K W r x lo hi ρ k3 Φ) : EvW K W (tSl r te tl th) ρ k Φ := fun L0 H0 L H σ S Q c =>
  h L0 H0 L H σ S _ fun v x k1 H1 S1 e1 t1 g => g L0 H0 L H1 σ S1 _ fun lo k2 H2 S2 e2 g2 => g2 L0 H0 L H2 σ S2 _ fun hi k3 H3 S3 e3 g3 => g3 L0 H0 L H3 σ v S3 ((t1.ext (eM e2)).ext (eM e3)) Q fun w d k4 H4 S4 e4 t4 f => c w d k4 H4 S4 (((e1.trans e2).trans e3).trans e4) t4 f
variable {Ω : Option Int → γ → Prop}
theorem eo_none (q : Ω none k) : EvO K W tNoPart ρ k Ω := fun L0 H0 L H σ S Q c => c none k H S (Ext.refl _ _) q
theorem eo_some (h : EvW K W te ρ k fun d k1 => ∃ i, d = .int i ∧ Ω (some i) k1) : EvO K W (tPart te) ρ k Ω := fun L0 H0 L H σ S Q c =>
  h L0 H0 L H σ S _ fun v d k1 H1 S1 e1 t1 g => by
    obtain ⟨i, rfl, g⟩ := g
    cases t1
    exact ⟨i, rfl, c _ k1 H1 S1 e1 g⟩
theorem rsl_S {z : Str} {lo hi : Option Int} (hz : z.length ≤ 100000) (q : Φ (.str (cutS z lo hi)) k) : RSl K W rSlS (.str z) lo hi ρ k Φ := rslN q fun N H vx tr tx Q c => by
  cases tx
  exact ⟨z, rfl, Nat.le_trans hz (by decide), c _ _ (Same.refl _) (.str _)⟩
theorem rsl_T {ds : List PyData} {lo hi : Option Int} (q : Φ (.tuple (cutD ds lo hi)) k) : RSl K W (rSlA K) (.tuple ds) lo hi ρ k Φ := rslN q fun N H vx tr tx Q c => slA tr tx fun r H' s _ t => c r H' s t
theorem rsl_L {ds : List PyData} {lo hi : Option Int} (q : Φ (.list (cutD ds lo hi)) k) : RSl K W (rSlL K) (.list ds) lo hi ρ k Φ := rslN q fun N H vx tr tx Q c => by
  cases tx with
  | @lst a xs _ n ha t =>
    have lx := t.len
    have tc : TA K N H (cutV xs lo hi) (cutD ds lo hi) := by
      unfold cutV cutD
      rw [lx]
      exact (t.drop _).take _
    exact ⟨_, _, rfl, SqL.of ha, newL tr tc fun p H' _ s _ _ t' => c _ _ s t'⟩
/-! + of tuples, lists, texts -/
theorem rd_catT {ds es : List PyData} (hl : ds.length + es.length ≤ 100000) (q : Φ (.tuple (ds ++ es)) k) : RD K W (rCatA K) (.tuple ds) (.tuple es) ρ k Φ := rdN q fun N H vx vy tr tx ty Q c => catA tr tx ty hl fun r H' s _ t => c r H' s t
theorem rd_catL {ds es : List PyData} (hl : ds.length + es.length ≤ 100000) (q : Φ (.list (ds ++ es)) k) : RD K W rCat (.list ds) (.list es) ρ k Φ := rdN q fun N H vx vy tr tx ty Q c => by
  cases tx with
  | lst n ha t =>
    cases ty with
    | lst n2 hb t2 =>
      exact ⟨_, _, _, _, rfl, rfl, ha, hb, Nat.le_trans (show _ ≤ 100000 by rw [t.len, t2.len]; exact hl) (by decide), newL tr (t.app t2) fun p H' _ s _ _ t' => c _ _ s t'⟩
theorem rd_catS {a b : Str} (hl : a.length + b.length ≤ 100000) (q : Φ (.str (a ++ b)) k) : RD K W (fun x y H Q => ∃ i j, x = .str i ∧ y = .str j ∧ i.length + j.length ≤ sizeLine ∧ Q (.str (i ++ j)) H) (.str a) (.str b) ρ k Φ := rd_ q fun N H vx vy tx ty Q c => by
  cases tx
  cases ty
  exact ⟨a, b, rfl, rfl, Nat.le_trans hl (by decide), c _ (.str _)⟩
/-! own functions -/
theorem ev_call {sp : Sp} (h : EvA K W tr ρ k fun ds k1 => RCD K W (fun vs H Q => sp vs H Q E0) ds ρ k1 Φ) : EvW K W (tCall sp [] E0 tr) ρ k Φ := fun L0 H0 L H σ S Q c =>
  h L0 H0 L H σ S _ fun vs ds k1 H1 S1 e1 t1 g => by
    show sp (vs ++ []) H1 Q E0
    rw [List.append_nil]
    exact g L0 H0 L H1 σ vs S1 t1 Q fun v d k2 H2 S2 e2 t2 q => c v d k2 H2 S2 (e1.trans e2) t2 q
end
/-- a def that writes nothing: what its data give -/
def spP (K : PySem.W.Frag) (n : Nat) (R : List PyData → PyData → Prop) : Sp := fun vs H Q _ => ∃ (M : List Addr) (ds : List PyData) (r : PyData), TA K M H vs ds ∧ Trk M H ∧ ds.length = n ∧ R ds r ∧ ∀ v H', Same H H' → T K M H' v r → Q v H'
section
variable {K : PySem.W.Frag} {γ : Type} {W : Wd γ} {ρ : Rho} {k : γ} {Φ : PyData → γ → Prop}
theorem rc_pure {n : Nat} {R : List PyData → PyData → Prop} {ds : List PyData} {r : PyData} (hl : ds.length = n) (h : R ds r) (q : Φ r k) : RCD K W (fun vs H Q => spP K n R vs H Q E0) ds ρ k Φ := rcN q fun N H vs tr t Q c => ⟨N, ds, r, t, tr, hl, h, c⟩
end
end U

set_option Elab.async false
set_option linter.all false
set_option maxRecDepth 100000
set_option maxHeartbeats 2000000
namespace U
open PySem PySem.Spec PyProof.Rows L2

/-! ### statements over data -/
structure Ps (γ : Type) where
  nx : Rho → γ → Prop
  rt : PyData → γ → Prop
  bk : Rho → γ → Prop := fun _ _ => False
  ct : Rho → γ → Prop := fun _ _ => False
def SW (K : PySem.W.Frag) {γ : Type} (W : Wd γ) (ts : TS) (ρ : Rho) (k : γ) (P : Ps γ) : Prop :=
  ∀ (L0 : List Addr) (H0 : Hp) (L : List Addr) (H : Hp) (σ : L2.St) (D : Ends), Stt K W L0 H0 L H σ ρ k →
    (∀ L' H' σ' ρ' k', Stt K W L0 H0 L' H' σ' ρ' k' → P.nx ρ' k' → D.nx σ' H') →
    (∀ v d k' H', Ext (L0 ++ W.M) H0 H' → W.I k' W.M H' → T K W.M H' v d → P.rt d k' → D.rt v H') →
    (∀ L' H' σ' ρ' k', Stt K W L0 H0 L' H' σ' ρ' k' → P.bk ρ' k' → D.bk σ' H') →
    (∀ L' H' σ' ρ' k', Stt K W L0 H0 L' H' σ' ρ' k' → P.ct ρ' k' → D.ct σ' H') → ts D σ H
/-- targets: js the slots that they may store in -/
def TgW (K : PySem.W.Frag) {γ : Type} (W : Wd γ) (g : TG) (js : Nat → Prop) (d : PyData) (ρ : Rho) (Ψ : Rho → Prop) : Prop :=
  ∀ (L0 : List Addr) (H0 : Hp) (L : List Addr) (H : Hp) (σ : L2.St) (k : γ) (v : V), Stt K W L0 H0 L H σ ρ k → T K (L ++ W.M) H v d → ∀ Q : L2.St → Hp → Prop,
    (∀ σ' ρ', Stt K W L0 H0 L H σ' ρ' k → σ'.length = σ.length → (∀ i, ¬ js i → σ'[i]? = σ[i]?) → Ψ ρ' → Q σ' H) → g v σ H Q
def TgsW (K : PySem.W.Frag) {γ : Type} (W : Wd γ) (g : TGs) (js : Nat → Prop) (ds : List PyData) (ρ : Rho) (Ψ : Rho → Prop) : Prop :=
  ∀ (L0 : List Addr) (H0 : Hp) (L : List Addr) (H : Hp) (σ : L2.St) (k : γ) (vs : List V), Stt K W L0 H0 L H σ ρ k → TA K (L ++ W.M) H vs ds → ∀ Q : L2.St → Hp → Prop,
    (∀ σ' ρ', Stt K W L0 H0 L H σ' ρ' k → σ'.length = σ.length → (∀ i, ¬ js i → σ'[i]? = σ[i]?) → Ψ ρ' → Q σ' H) → g vs σ H Q
section
variable {K : PySem.W.Frag} {γ : Type} {W : Wd γ} {ρ : Rho} {k : γ} {js : Nat → Prop} {Ψ : Rho → Prop} {d : PyData} {ds : List PyData}
theorem tg_name {i : Nat} (hj : js i) (q : Ψ (ρ.set i (.dat d))) : TgW K W (gName i) js d ρ Ψ := fun L0 H0 L H σ k v S t Q c =>
  c _ _ (S.set i t) (by rw [List.length_set]) (fun j hn => by
    rw [List.getElem?_set_ne]
    rintro rfl
    exact hn hj) q
theorem tgs_nil (q : Ψ ρ) : TgsW K W gNil js [] ρ Ψ := fun L0 H0 L H σ k vs S t Q c => by
  cases t
  exact ⟨rfl, c _ _ S rfl (fun _ _ => rfl) q⟩
theorem tgs_cons {g : TG} {gs : TGs} (h : TgW K W g js d ρ fun ρ1 => TgsW K W gs js ds ρ1 Ψ) : TgsW K W (gCons g gs) js (d :: ds) ρ Ψ := fun L0 H0 L H σ k vs S t Q c => by
  cases t with
  | @cons v vs _ _ h1 h2 =>
    exact ⟨v, vs, rfl, h L0 H0 L H σ k v S h1 _ fun σ1 ρ1 S1 l1 a1 g1 => g1 L0 H0 L H σ1 k vs S1 h2 Q fun σ2 ρ2 S2 l2 a2 q => c σ2 ρ2 S2 (l2.trans l1) (fun i hi => (a2 i hi).trans (a1 i hi)) q⟩
theorem tg_tup {n : Nat} {gs : TGs} (hn : ds.length = n) (h : TgsW K W gs js ds ρ Ψ) : TgW K W (gTup K n gs) js (.tuple ds) ρ Ψ := fun L0 H0 L H σ k v S t Q c => by
  cases t with
  | tup nn ha t => exact ⟨_, _, rfl, SqT.of ha, by rw [t.len]; exact hn, h L0 H0 L H σ k _ S t Q c⟩
end
section
variable {K : PySem.W.Frag} {γ : Type} {W : Wd γ} {ρ : Rho} {k : γ} {P : Ps γ} {ta tb te ti : TE} {tt : TT} {a b : TS} {tr : L2.TA}
theorem sw_seq (h : SW K W a ρ k { P with nx := fun ρ1 k1 => SW K W b ρ1 k1 P }) : SW K W (tSeq a b) ρ k P := fun L0 H0 L H σ D S nx rt bk ct =>
  h L0 H0 L H σ { D with nx := b D } S (fun L' H' σ' ρ' k' S' g => by
    refine (g : SW K W b ρ' k' P) L0 H0 L' H' σ' D S' nx rt bk ct) rt bk ct
theorem sw_nx (q : P.nx ρ k) : SW K W tNext ρ k P := fun L0 H0 L H σ D S nx _ _ _ => nx _ _ _ _ _ S q
theorem sw_brk (q : P.bk ρ k) : SW K W tBreak ρ k P := fun L0 H0 L H σ D S _ _ bk _ => bk _ _ _ _ _ S q
theorem sw_ct (q : P.ct ρ k) : SW K W tCont ρ k P := fun L0 H0 L H σ D S _ _ _ ct => ct _ _ _ _ _ S q
theorem sw_ret (h : EvW K W te ρ k P.rt) : SW K W (tRet te) ρ k P := fun L0 H0 L H σ D S _ rt _ _ =>
  h L0 H0 L H σ S _ fun v d k' H2 S2 e t q => rt v d k' H2 S2.base S2.wdM (S2.tM t) q
theorem sw_retN (q : P.rt .none k) : SW K W tRetN ρ k P := fun L0 H0 L H σ D S _ rt _ _ => rt .non .none k H S.base S.wdM .non q
theorem sw_drop (h : EvW K W te ρ k fun _ k1 => P.nx ρ k1) : SW K W (tDrop te) ρ k P := fun L0 H0 L H σ D S nx _ _ _ =>
  h L0 H0 L H σ S _ fun v d k' H2 S2 e t q => nx _ _ _ _ _ S2 q
theorem sw_if (h : EvT K W tt ρ k fun b' k1 => if b' = true then SW K W a ρ k1 P else SW K W b ρ k1 P) : SW K W (tIfS tt a b) ρ k P := fun L0 H0 L H σ D S nx rt bk ct =>
  h L0 H0 L H σ S _ fun b' k1 H2 S2 e g => by
    cases b' with
    | true => exact (g : SW K W a ρ k1 P) L0 H0 L H2 σ D S2 nx rt bk ct
    | false => exact (g : SW K W b ρ k1 P) L0 H0 L H2 σ D S2 nx rt bk ct
theorem sw_asg {g : TG} (h : EvW K W te ρ k fun d k1 => TgW K W g (fun _ => True) d ρ fun ρ1 => P.nx ρ1 k1) : SW K W (tAsg te g) ρ k P := fun L0 H0 L H σ D S nx _ _ _ =>
  h L0 H0 L H σ S _ fun v d k1 H1 S1 e t g => g L0 H0 L H1 σ k1 v S1 t _ fun σ2 ρ2 S2 _ _ q => nx _ _ _ _ _ S2 q
theorem sw_set {i : Nat} (h : EvW K W te ρ k fun d k1 => P.nx (ρ.set i (.dat d)) k1) : SW K W (tAsg te (gName i)) ρ k P := sw_asg fun L0 H0 L H σ S Q c => h L0 H0 L H σ S Q fun v d k1 H1 S1 e t q => c v d k1 H1 S1 e t (tg_name trivial q)
theorem sw_par {i j : Nat} (h : EvA K W tr ρ k fun ds k1 => ∃ d e, ds = [d, e] ∧ P.nx ((ρ.set i (.dat d)).set j (.dat e)) k1) : SW K W (tPar i j tr) ρ k P := fun L0 H0 L H σ D S nx _ _ _ =>
  h L0 H0 L H σ S _ fun vs ds k1 H1 S1 e1 t g => by
    obtain ⟨d, e, rfl, q⟩ := g
    obtain ⟨v, u, rfl, t1, t2⟩ := t.two_
    exact ⟨v, u, rfl, nx _ _ _ _ _ ((S1.set i t1).set j t2) q⟩
/-- x = [..], a list of its own -/
theorem sw_own {i : Nat} (h : EvA K W tr ρ k fun ds k1 => ds.length ≤ 100000 ∧ P.nx (ρ.set i (.own ds)) k1) : SW K W (tAsg (tLst tr) (gName i)) ρ k P := fun L0 H0 L H σ D S nx _ _ _ =>
  h L0 H0 L H σ S _ fun vs ds k1 H1 S1 e1 t g => ⟨Nat.le_trans (show vs.length ≤ 100000 by rw [t.len]; exact g.1) (by decide), fun p hp => nx _ _ _ _ _ (S1.setOwn i (s0 := .own ds) rfl hp ⟨p, vs, rfl, by simp, upd_same, (t.plus hp).ext (Ext.put (by simp))⟩) g.2⟩
theorem sw_ownD {i : Nat} (q : P.nx (ρ.set i (.ownD [])) k) : SW K W (tAsg tDNewK (gName i)) ρ k P := fun L0 H0 L H σ D S nx _ _ _ =>
  fun p hp => nx _ _ _ _ _ (S.setOwn i (s0 := .ownD []) rfl hp ⟨p, [], rfl, by simp, upd_same, .nil⟩) q
theorem tyList {K : PySem.W.Frag} {H : Hp} {l : Addr} {xs : List V} (h : H l = some (.lst xs)) : tyV K "list" (.ref l) H := .inl ⟨rfl, xs, SqL.of h⟩
/-- x.append(e) -/
theorem sw_append {i : Nat} (h : EvW K W te ρ k fun d k1 => ∃ ds, ρ[i]? = some (.own ds) ∧ ds.length < 100000 ∧ P.nx (ρ.set i (.own (ds ++ [d]))) k1) (h0 : ∃ ds, ρ[i]? = some (.own ds)) :
    SW K W (tDrop (tBM K "list" rAppend (tVar i) (tCons te tNil))) ρ k P := fun L0 H0 L H σ D S nx _ _ _ => by
  obtain ⟨ds0, h0⟩ := h0
  obtain ⟨l, xs, e1, e2, e3, e4⟩ := S.slots i _ h0
  refine ⟨.ref l, e1, tyList e3, h L0 H0 L H σ S _ fun v d k1 H1 S1 _ t g => ?_⟩
  obtain ⟨ds, h1, hl, q⟩ := g
  obtain ⟨l', ys, f1, f2, f3, f4⟩ := S1.slots i _ h1
  have el : l = l' := by rw [e1] at f1; injection f1 with f1; injection f1 with f1; injection f1
  subst el
  refine ⟨l, ys, v, rfl, rfl, f3, Nat.lt_of_le_of_lt (show ys.length ≤ 99999 by rw [f4.len]; omega) (by decide), ?_⟩
  exact nx _ _ _ _ _ (S1.put (s1 := .own (ds ++ [d])) h1 rfl rfl f1 f2 ⟨l, ys ++ [v], rfl, f2, upd_same, (f4.app (.one t)).ext (Ext.put (List.mem_append_left _ f2))⟩) q
/-- x.extend(e), e a new list -/
theorem sw_extend {i : Nat} (h : EvW K W te ρ k fun d k1 => ∃ ds es, d = .list es ∧ ρ[i]? = some (.own ds) ∧ ds.length + es.length ≤ 100000 ∧ P.nx (ρ.set i (.own (ds ++ es))) k1) (h0 : ∃ ds, ρ[i]? = some (.own ds)) :
    SW K W (tDrop (tBM K "list" rExtend (tVar i) (tCons te tNil))) ρ k P := fun L0 H0 L H σ D S nx _ _ _ => by
  obtain ⟨ds0, h0⟩ := h0
  obtain ⟨l, xs, e1, e2, e3, e4⟩ := S.slots i _ h0
  refine ⟨.ref l, e1, tyList e3, h L0 H0 L H σ S _ fun v d k1 H1 S1 _ t g => ?_⟩
  obtain ⟨ds, es, rfl, h1, hl, q⟩ := g
  obtain ⟨l', ys, f1, f2, f3, f4⟩ := S1.slots i _ h1
  have el : l = l' := by rw [e1] at f1; injection f1 with f1; injection f1 with f1; injection f1
  subst el
  cases t with
  | @lst b zs _ nb hb tz =>
    refine ⟨l, b, ys, zs, rfl, rfl, f3, hb, Nat.le_trans (show ys.length + zs.length ≤ 100000 by rw [f4.len, tz.len]; exact hl) (by decide), ?_⟩
    exact nx _ _ _ _ _ (S1.put (s1 := .own (ds ++ es)) h1 rfl rfl f1 f2 ⟨l, ys ++ zs, rfl, f2, upd_same, (f4.app tz).ext (Ext.put (List.mem_append_left _ f2))⟩) q
/-- x[j] = e -/
theorem TA.set {N : List Addr} {H : Hp} : ∀ {vs : List V} {ds : List PyData} (j : Nat) {v : V} {d : PyData}, TA K N H vs ds → T K N H v d → TA K N H (vs.set j v) (ds.set j d)
  | _, _, _, _, _, .nil, _ => .nil
  | _, _, 0, _, _, .cons _ t, h => .cons h t
  | _, _, j + 1, _, _, .cons g t, h => .cons g (TA.set j t h)
theorem sw_setL {i : Nat} (h : EvW K W te ρ k fun d k1 => EvW K W ti ρ k1 fun x k2 => ∃ ds j, x = .int ((j : Nat) : Int) ∧ ρ[i]? = some (.own ds) ∧ j < ds.length ∧ P.nx (ρ.set i (.own (ds.set j d))) k2) (h0 : ∃ ds, ρ[i]? = some (.own ds)) :
    SW K W (tAsg te (gSub (tVar i) ti rSetL)) ρ k P := fun L0 H0 L H σ D S nx _ _ _ =>
  h L0 H0 L H σ S _ fun v d k1 H1 S1 _ t g => by
    obtain ⟨ds0, h0⟩ := h0
    obtain ⟨l, xs, e1, e2, e3, e4⟩ := S1.slots i _ h0
    refine ⟨.ref l, e1, g L0 H0 L H1 σ S1 _ fun vi x k2 H2 S2 ee2 t2 g2 => ?_⟩
    obtain ⟨ds, j, rfl, h1, hj, q⟩ := g2
    obtain ⟨l', ys, f1, f2, f3, f4⟩ := S2.slots i _ h1
    have el : l = l' := by rw [e1] at f1; injection f1 with f1; injection f1 with f1; injection f1
    subst el
    cases t2
    refine ⟨l, ys, (j : Int), j, rfl, rfl, f3, ?_, ?_⟩
    · have : j < ys.length := by rw [f4.len]; exact hj
      unfold ixN
      rw [if_pos (by omega), if_pos (by omega)]
      simp
    · exact nx _ _ _ _ _ (S2.put (s1 := .own (ds.set j d)) h1 rfl rfl f1 f2 ⟨l, ys.set j v, rfl, f2, upd_same, (TA.set j f4 (t.ext (eM ee2))).ext (Ext.put (List.mem_append_left _ f2))⟩) q
/-- x += e (ints) -/
theorem sw_aug {i : Nat} {f : Int → Int → Int} (h0 : ∃ x, ρ[i]? = some (.dat (.int x))) (h : EvW K W te ρ k fun d k1 => ∃ x y, ρ[i]? = some (.dat (.int x)) ∧ d = .int y ∧ P.nx (ρ.set i (.dat (.int (f x y)))) k1) : SW K W (tAug i te (ipI f)) ρ k P := fun L0 H0 L H σ D S nx _ _ _ => by
  obtain ⟨x0, h0⟩ := h0
  obtain ⟨v, e1, t1⟩ := S.slots i _ h0
  refine ⟨v, e1, h L0 H0 L H σ S _ fun u d k1 H1 S1 _ t g => ?_⟩
  obtain ⟨x, y, h1, rfl, q⟩ := g
  rw [h0] at h1
  cases h1
  cases t1
  cases t
  exact ⟨x0, y, rfl, rfl, nx _ _ _ _ _ (S1.set i (.int _)) q⟩
/-- an own list is one of the data from here on -/
theorem sw_freeze (i : Nat) {ds : List PyData} (hi : ρ[i]? = some (.own ds)) (h : SW K W a (ρ.set i (.dat (.list ds))) k P) : SW K W a ρ k P := fun L0 H0 L H σ D S nx rt bk ct => by
  obtain ⟨L', l, _, _, _, S'⟩ := S.freeze hi
  exact h L0 H0 L' H σ D S' nx rt bk ct
theorem sw_weak {ρ' : Rho} (hl : ρ'.length = ρ.length) (hw : ∀ (i : Nat) (s : Slot), ρ'[i]? = some s → s = .no ∨ ρ[i]? = some s) (h : SW K W a ρ' k P) : SW K W a ρ k P := fun L0 H0 L H σ D S nx rt bk ct =>
  h L0 H0 L H σ D (S.weaken hl hw) nx rt bk ct
theorem SW.mono {P' : Ps γ} (h : SW K W a ρ k P') (h1 : ∀ ρ k, P'.nx ρ k → P.nx ρ k) (h2 : ∀ d k, P'.rt d k → P.rt d k) (h3 : ∀ ρ k, P'.bk ρ k → P.bk ρ k) (h4 : ∀ ρ k, P'.ct ρ k → P.ct ρ k) : SW K W a ρ k P := fun L0 H0 L H σ D S nx rt bk ct =>
  h L0 H0 L H σ D S (fun _ _ _ _ _ S' q => nx _ _ _ _ _ S' (h1 _ _ q)) (fun _ _ _ _ e w t q => rt _ _ _ _ e w t (h2 _ _ q)) (fun _ _ _ _ _ S' q => bk _ _ _ _ _ S' (h3 _ _ q)) (fun _ _ _ _ _ S' q => ct _ _ _ _ _ S' (h4 _ _ q))
/-- two statements, what holds between them -/
theorem sw_mid (J : Rho → γ → Prop) (h1 : SW K W a ρ k { P with nx := J }) (h2 : ∀ ρ1 k1, J ρ1 k1 → SW K W b ρ1 k1 P) : SW K W (tSeq a b) ρ k P := sw_seq (h1.mono (P := { P with nx := fun ρ1 k1 => SW K W b ρ1 k1 P }) h2 (fun _ _ q => q) (fun _ _ q => q) (fun _ _ q => q))
/-- while -/
theorem sw_while (J : Nat → Rho → γ → Prop) (m0 : Nat) (h0 : J m0 ρ k)
    (hs : ∀ m ρ1 k1, J m ρ1 k1 → EvT K W tt ρ1 k1 fun b' k2 => if b' = true then SW K W b ρ1 k2 { P with nx := fun ρ2 k3 => ∃ m', m' < m ∧ J m' ρ2 k3, ct := fun ρ2 k3 => ∃ m', m' < m ∧ J m' ρ2 k3, bk := P.nx } else P.nx ρ1 k2) :
    SW K W (tWhile tt b) ρ k P := fun L0 H0 L H σ D S nx rt bk ct => by
  refine ⟨fun m σ' H' => ∃ L' ρ' k', Stt K W L0 H0 L' H' σ' ρ' k' ∧ J m ρ' k', ⟨m0, L, ρ, k, S, h0⟩, ?_⟩
  rintro m σ1 H1 ⟨L1, ρ1, k1, S1, j1⟩
  refine hs m ρ1 k1 j1 L0 H0 L1 H1 σ1 S1 _ fun b' k2 H2 S2 _ g => ?_
  cases b' with
  | false => exact nx _ _ _ _ _ S2 g
  | true =>
    refine ⟨fun σ' H' => ∃ m', m' < m ∧ ∃ L' ρ' k', Stt K W L0 H0 L' H' σ' ρ' k' ∧ J m' ρ' k', fun σ' H' ⟨m', hm, w⟩ => ⟨m', hm, w⟩, ?_⟩
    exact (g : SW K W b ρ1 k2 _) L0 H0 L1 H2 σ1 _ S2 (fun L' H' σ' ρ' k' S' ⟨m', hm, j'⟩ => ⟨m', hm, L', ρ', k', S', j'⟩) rt (fun L' H' σ' ρ' k' S' q => nx _ _ _ _ _ S' q) (fun L' H' σ' ρ' k' S' ⟨m', hm, j'⟩ => ⟨m', hm, L', ρ', k', S', j'⟩)
end

/-! ### walks -/
structure WalkD (K : PySem.W.Frag) {γ : Type} (W : Wd γ) (J : It) (n : Nat) (f : Nat → PyData) (L1 : List Addr) (H1 : Hp) : Prop where
  goes : ∀ i L H, i < n → Later W L1 H1 L H → J.go i H
  stops : ∀ L H, Later W L1 H1 L H → J.stop n H
  yields : ∀ i L H x H', i < n → Later W L1 H1 L H → J.yld i H x H' → Same H H' ∧ T K (L ++ W.M) H' x (f i)
def EvI (K : PySem.W.Frag) {γ : Type} (W : Wd γ) (wi : TI) (ρ : Rho) (k : γ) (Ω : Nat → (Nat → PyData) → γ → Prop) : Prop :=
  ∀ (L0 : List Addr) (H0 : Hp) (L : List Addr) (H : Hp) (σ : L2.St), Stt K W L0 H0 L H σ ρ k → ∀ R : It → Hp → Prop, (∀ J n f k' H2, Stt K W L0 H0 L H2 σ ρ k' → Ext W.M H H2 → WalkD K W J n f L H2 → Ω n f k' → R J H2) → wi σ H R
/-- the same for a comprehension: off M all stands meanwhile -/
structure WalkX (K : PySem.W.Frag) {γ : Type} (W : Wd γ) (J : It) (n : Nat) (f : Nat → PyData) (L1 : List Addr) (H1 : Hp) : Prop where
  goes : ∀ i L H, i < n → Later W L1 H1 L H → Ext W.M H1 H → J.go i H
  stops : ∀ L H, Later W L1 H1 L H → Ext W.M H1 H → J.stop n H
  yields : ∀ i L H x H', i < n → Later W L1 H1 L H → Ext W.M H1 H → J.yld i H x H' → Same H H' ∧ T K (L ++ W.M) H' x (f i)
def EvX (K : PySem.W.Frag) {γ : Type} (W : Wd γ) (wi : TI) (ρ : Rho) (k : γ) (Ω : Nat → (Nat → PyData) → γ → Prop) : Prop :=
  ∀ (L0 : List Addr) (H0 : Hp) (L : List Addr) (H : Hp) (σ : L2.St), Stt K W L0 H0 L H σ ρ k → ∀ R : It → Hp → Prop, (∀ J n f k' H2, Stt K W L0 H0 L H2 σ ρ k' → Ext W.M H H2 → WalkX K W J n f L H2 → Ω n f k' → R J H2) → wi σ H R
theorem EvI.x {K : PySem.W.Frag} {γ : Type} {W : Wd γ} {wi : TI} {ρ : Rho} {k : γ} {Ω : Nat → (Nat → PyData) → γ → Prop} (h : EvI K W wi ρ k Ω) : EvX K W wi ρ k Ω := fun L0 H0 L H σ S R c =>
  h L0 H0 L H σ S R fun J n f k' H2 S2 e wd q => c J n f k' H2 S2 e ⟨fun i L H hi l _ => wd.goes i L H hi l, fun L H l _ => wd.stops L H l, fun i L H x H' hi l _ y => wd.yields i L H x H' hi l y⟩ q
def itemD (ds : List PyData) (i : Nat) : PyData := ds[i]?.getD .none
section
variable {K : PySem.W.Frag} {γ : Type} {W : Wd γ} {ρ : Rho} {k : γ} {te : TE} {tr : L2.TA} {Ω : Nat → (Nat → PyData) → γ → Prop}
theorem Later.same {L1 L : List Addr} {H1 H H' : Hp} (l : Later W L1 H1 L H) (e : Same H H') : Later W L1 H1 L H' := ⟨l.ext.trans (Ext.same e), l.fresh, l.trk.same e⟩
theorem TA.itemD {N : List Addr} {H : Hp} {xs : List V} {ds : List PyData} {i : Nat} {x : V} (t : TA K N H xs ds) (h : xs[i]? = some x) : T K N H x (itemD ds i) := by
  obtain ⟨d, h1, h2⟩ := t.get h
  unfold U.itemD
  rw [h1]
  exact h2
/-- a list's items, when the list is one of the data -/
theorem later_seq {L1 L : List Addr} {H1 H : Hp} {a : Addr} {ds : List PyData} (l : Later W L1 H1 L H) (t : T K (L1 ++ W.M) H1 (.ref a) (.list ds)) : ∃ xs, H a = some (.lst xs) ∧ TA K (L ++ W.M) H xs ds := by
  cases l.T t with
  | lst n h t => exact ⟨_, h, t⟩
theorem later_tup {L1 L : List Addr} {H1 H : Hp} {a : Addr} {ds : List PyData} (l : Later W L1 H1 L H) (t : T K (L1 ++ W.M) H1 (.ref a) (.tuple ds)) : ∃ xs, H a = some (.tup xs) ∧ TA K (L ++ W.M) H xs ds := by
  cases l.T t with
  | tup n h t => exact ⟨_, h, t⟩
theorem walkD_list {L1 : List Addr} {H1 : Hp} {a : Addr} {ds : List PyData} (t : T K (L1 ++ W.M) H1 (.ref a) (.list ds)) : WalkD K W (Itl K a) ds.length (itemD ds) L1 H1 := by
  refine ⟨fun i L H hi l => ?_, fun L H l => ?_, fun i L H x H' hi l y => ?_⟩
  · obtain ⟨xs, h, t⟩ := later_seq l t
    exact ⟨xs, xs[i]'(by rw [t.len]; exact hi), SqL.of h, by simp [t.len, hi]⟩
  · obtain ⟨xs, h, t⟩ := later_seq l t
    exact ⟨xs, SqL.of h, Nat.le_of_eq t.len⟩
  · obtain ⟨xs, h, t⟩ := later_seq l t
    obtain ⟨rfl, y⟩ := y
    exact ⟨Same.refl _, t.itemD (y xs (SqL.of h))⟩
theorem walkD_tup {L1 : List Addr} {H1 : Hp} {a : Addr} {ds : List PyData} (t : T K (L1 ++ W.M) H1 (.ref a) (.tuple ds)) : WalkD K W (Itt K a) ds.length (itemD ds) L1 H1 := by
  refine ⟨fun i L H hi l => ?_, fun L H l => ?_, fun i L H x H' hi l y => ?_⟩
  · obtain ⟨xs, h, t⟩ := later_tup l t
    exact ⟨xs, xs[i]'(by rw [t.len]; exact hi), SqT.of h, by simp [t.len, hi]⟩
  · obtain ⟨xs, h, t⟩ := later_tup l t
    exact ⟨xs, SqT.of h, Nat.le_of_eq t.len⟩
  · obtain ⟨xs, h, t⟩ := later_tup l t
    obtain ⟨rfl, y⟩ := y
    exact ⟨Same.refl _, t.itemD (y xs (SqT.of h))⟩
theorem ei_list (h : EvW K W te ρ k fun d k1 => ∃ ds, d = .list ds ∧ Ω ds.length (itemD ds) k1) : EvI K W (iList K te) ρ k Ω := fun L0 H0 L H σ S R c =>
  h L0 H0 L H σ S _ fun v d k1 H1 S1 e t g => by
    obtain ⟨ds, rfl, q⟩ := g
    have w := fun a => walkD_list (K := K) (W := W) (L1 := L) (H1 := H1) (a := a) (ds := ds)
    cases t with
    | @lst a xs _ n ha tt => exact ⟨a, rfl, ⟨xs, SqL.of ha⟩, c _ _ _ k1 H1 S1 e (w a (.lst n ha tt)) q⟩
theorem ei_tup (h : EvW K W te ρ k fun d k1 => ∃ ds, d = .tuple ds ∧ Ω ds.length (itemD ds) k1) : EvI K W (iTup K te) ρ k Ω := fun L0 H0 L H σ S R c =>
  h L0 H0 L H σ S _ fun v d k1 H1 S1 e t g => by
    obtain ⟨ds, rfl, q⟩ := g
    have w := fun a => walkD_tup (K := K) (W := W) (L1 := L) (H1 := H1) (a := a) (ds := ds)
    cases t with
    | @tup a xs _ n ha tt => exact ⟨a, rfl, ⟨xs, SqT.of ha⟩, c _ _ _ k1 H1 S1 e (w a (.tup n ha tt)) q⟩
theorem walkD_range {lo : Int} {n : Nat} {L1 : List Addr} {H1 : Hp} : WalkD K W (Itr lo n) n (fun i => .int (lo + (i : Nat))) L1 H1 :=
  ⟨fun i L H hi _ => hi, fun L H _ => Nat.le_refl _, fun i L H x H' hi _ y => by
    obtain ⟨rfl, rfl⟩ := y
    exact ⟨Same.refl _, .int _⟩⟩
theorem ei_rng1 (h : EvA K W tr ρ k fun ds k1 => ∃ j : Int, ds = [.int j] ∧ -(2 ^ 62) ≤ j ∧ j < 2 ^ 62 ∧ Ω j.toNat (fun i => .int (i : Nat)) k1) : EvI K W (iRng1 tr) ρ k Ω := fun L0 H0 L H σ S R c =>
  h L0 H0 L H σ S _ fun vs ds k1 H1 S1 e t g => by
    obtain ⟨j, rfl, h1, h2, q⟩ := g
    obtain ⟨v, rfl, t1⟩ := t.one_
    cases t1
    refine ⟨j, rfl, h1, h2, c _ _ (fun i => .int (0 + (i : Nat))) k1 H1 S1 e walkD_range ?_⟩
    have : (fun i : Nat => PyData.int (0 + (i : Nat))) = fun i : Nat => PyData.int (i : Nat) := by funext i; rw [Int.zero_add]
    rw [this]
    exact q
theorem ei_rng2 (h : EvA K W tr ρ k fun ds k1 => ∃ a b : Int, ds = [.int a, .int b] ∧ (-(2 ^ 62) ≤ a ∧ a < 2 ^ 62 ∧ -(2 ^ 62) ≤ b ∧ b < 2 ^ 62) ∧ Ω (b - a).toNat (fun i => .int (a + (i : Nat))) k1) : EvI K W (iRng2 tr) ρ k Ω := fun L0 H0 L H σ S R c =>
  h L0 H0 L H σ S _ fun vs ds k1 H1 S1 e t g => by
    obtain ⟨a, b, rfl, h1, q⟩ := g
    obtain ⟨v, u, rfl, t1, t2⟩ := t.two_
    cases t1
    cases t2
    exact ⟨a, b, rfl, h1, c _ _ _ k1 H1 S1 e walkD_range q⟩
theorem ei_str (h : EvW K W te ρ k fun d k1 => ∃ z : Str, d = .str z ∧ Ω z.cps.size (fun i => .str ⟨#[z.cps[i]?.getD 0]⟩) k1) : EvI K W (iStr te) ρ k Ω := fun L0 H0 L H σ S R c =>
  h L0 H0 L H σ S _ fun v d k1 H1 S1 e t g => by
    obtain ⟨z, rfl, q⟩ := g
    cases t
    refine ⟨z, rfl, c _ _ _ k1 H1 S1 e ⟨fun i L H hi _ => hi, fun L H _ => Nat.le_refl _, fun i L H x H' hi _ y => ?_⟩ q⟩
    obtain ⟨rfl, cc, h1, rfl⟩ := y
    refine ⟨Same.refl _, ?_⟩
    show T K _ _ _ (.str ⟨#[z.cps[i]?.getD 0]⟩)
    rw [h1]
    exact .str _
/-- enumerate(list), enumerate(tuple) -/
theorem pair_new {L : List Addr} {H : Hp} {p : Addr} {i : Nat} {x : V} {d : PyData} (tr : Trk (L ++ W.M) H) (hp : H p = none) (t : T K (L ++ W.M) H x d) : T K (L ++ W.M) (upd H p (.tup [.int (i : Nat), x])) (.ref p) (.tuple [.int (i : Nat), d]) :=
  .tup (tr.new hp) upd_same (.cons (.int _) (.one (t.ext (Ext.new hp))))
theorem ei_enumL (h : EvA K W tr ρ k fun es k1 => ∃ ds, es = [.list ds] ∧ Ω ds.length (fun i => .tuple [.int (i : Nat), itemD ds i]) k1) : EvI K W (iEnum K tr) ρ k Ω := fun L0 H0 L H σ S R c =>
  h L0 H0 L H σ S _ fun vs es k1 H1 S1 e t g => by
    obtain ⟨ds, rfl, q⟩ := g
    obtain ⟨v, rfl, t1⟩ := t.one_
    have w : ∀ a, T K (L ++ W.M) H1 (.ref a) (.list ds) → WalkD K W (Ite K a) ds.length (fun i => .tuple [.int (i : Nat), itemD ds i]) L H1 := fun a t => by
      refine ⟨fun i L H hi l => ?_, fun L H l => ?_, fun i L H x H' hi l y => ?_⟩
      · obtain ⟨xs, h, t⟩ := later_seq l t
        exact (walk_enum (xs := xs)).goes i H (by rw [t.len]; exact hi) (SqL.of h)
      · obtain ⟨xs, h, t⟩ := later_seq l t
        have := (walk_enum (K := K) (a := a) (xs := xs)).stops H (SqL.of h)
        rw [t.len] at this
        exact this
      · obtain ⟨xs, h, t⟩ := later_seq l t
        obtain ⟨p, u, z, rfl, hp, rfl, e1, e2⟩ := (walk_enum (K := K) (a := a) (xs := xs)).yields i H x H' (by rw [t.len]; exact hi) (SqL.of h) y
        cases e1
        exact ⟨Same.new hp, pair_new l.trk hp (t.itemD e2)⟩
    cases t1 with
    | @lst a xs _ n ha tt => exact ⟨a, xs, rfl, SqL.of ha, c _ _ _ k1 H1 S1 e (w a (.lst n ha tt)) q⟩
theorem ei_enumT (h : EvA K W tr ρ k fun es k1 => ∃ ds, es = [.tuple ds] ∧ Ω ds.length (fun i => .tuple [.int (i : Nat), itemD ds i]) k1) : EvI K W (iEnumT K tr) ρ k Ω := fun L0 H0 L H σ S R c =>
  h L0 H0 L H σ S _ fun vs es k1 H1 S1 e t g => by
    obtain ⟨ds, rfl, q⟩ := g
    obtain ⟨v, rfl, t1⟩ := t.one_
    have w : ∀ a, T K (L ++ W.M) H1 (.ref a) (.tuple ds) → WalkD K W (ItE K a) ds.length (fun i => .tuple [.int (i : Nat), itemD ds i]) L H1 := fun a t => by
      refine ⟨fun i L H hi l => ?_, fun L H l => ?_, fun i L H x H' hi l y => ?_⟩
      · obtain ⟨xs, h, t⟩ := later_tup l t
        exact ⟨xs, xs[i]'(by rw [t.len]; exact hi), SqT.of h, by simp [t.len, hi]⟩
      · obtain ⟨xs, h, t⟩ := later_tup l t
        exact ⟨xs, SqT.of h, Nat.le_of_eq t.len⟩
      · obtain ⟨xs, h, t⟩ := later_tup l t
        obtain ⟨p, z, rfl, hp, rfl, e1⟩ := y
        exact ⟨Same.new hp, pair_new l.trk hp (t.itemD (e1 xs (SqT.of h)))⟩
    cases t1 with
    | @tup a xs _ n ha tt => exact ⟨a, xs, rfl, SqT.of ha, c _ _ _ k1 H1 S1 e (w a (.tup n ha tt)) q⟩
end
section
variable {K : PySem.W.Frag} {γ : Type} {W : Wd γ} {ρ : Rho} {k : γ} {P : Ps γ} {g : TG} {b : TS} {wi : TI}
theorem sw_for (h : EvI K W wi ρ k fun n f k1 => ∃ J : Nat → Rho → γ → Prop, J 0 ρ k1 ∧
      (∀ i ρ1 k2, i < n → J i ρ1 k2 → TgW K W g (fun _ => True) (f i) ρ1 fun ρ2 => SW K W b ρ2 k2 { P with nx := J (i + 1), ct := J (i + 1), bk := P.nx }) ∧ ∀ ρ1 k2, J n ρ1 k2 → P.nx ρ1 k2) : SW K W (tFor wi g b) ρ k P := fun L0 H0 L H σ D S nx rt bk ct =>
  h L0 H0 L H σ S _ fun J n f k1 H1 S1 e wd g => by
    obtain ⟨Jv, j0, turn, done⟩ := g
    refine ⟨fun i m σ' H' => m = n - i ∧ i ≤ n ∧ ∃ L' ρ' k', Stt K W L H1 L' H' σ' ρ' k' ∧ Jv i ρ' k', ⟨n, rfl, Nat.zero_le _, L, ρ, k1, S1.rebase, j0⟩, ?_⟩
    rintro i m σ2 H2 ⟨rfl, hi, L2, ρ2, k2, S2, j2⟩
    have l2 := S2.later
    by_cases hlt : i < n
    · refine .inr ⟨wd.goes i L2 H2 hlt l2, fun σ' H' => ∃ L' ρ' k', Stt K W L H1 L' H' σ' ρ' k' ∧ Jv (i + 1) ρ' k', fun σ' H' ⟨L', ρ', k', S', j'⟩ => ⟨n - (i + 1), by omega, rfl, hlt, L', ρ', k', S', j'⟩, fun x H' y => ?_⟩
      obtain ⟨sm, tx⟩ := wd.yields i L2 H2 x H' hlt l2 y
      refine turn i ρ2 k2 hlt j2 L H1 L2 H' σ2 k2 x (S2.same sm) tx _ fun σ3 ρ3 S3 _ _ body => ?_
      refine (body : SW K W b ρ3 k2 _) L H1 L2 H' σ3 _ S3 (fun L' H' σ' ρ' k' S' q => ⟨L', ρ', k', S', q⟩) (fun v d k' H' ex wi t q => ?_) (fun L' H' σ' ρ' k' S' q => nx _ _ _ _ _ (S1.back S') q) (fun L' H' σ' ρ' k' S' q => ⟨L', ρ', k', S', q⟩)
      refine rt v d k' H' (fun b o nb hb => ?_) wi t q
      refine ex b o (fun z => ?_) (S1.base b o nb hb)
      rcases List.mem_append.mp z with z | z
      · rcases S1.fresh b z with r | r
        · exact nb (List.mem_append_left _ r)
        · rw [r] at hb; cases hb
      · exact nb (List.mem_append_right _ z)
    · have ei : i = n := by omega
      subst ei
      exact .inl ⟨wd.stops L2 H2 l2, nx _ _ _ _ _ (S1.back S2) (done ρ2 k2 j2)⟩
end

/-! ### comprehensions -/
def wipeR (ρ : Rho) : List Nat → Rho
  | [] => ρ
  | v :: vs => (wipeR ρ vs).set v .no
theorem wipeR_length (ρ : Rho) : ∀ vs : List Nat, (wipeR ρ vs).length = ρ.length
  | [] => rfl
  | v :: vs => by unfold wipeR; rw [List.length_set, wipeR_length ρ vs]
theorem wipe_get (σ : L2.St) (i : Nat) : ∀ vs : List Nat, (wipe σ vs)[i]? = if i ∈ vs then σ[i]?.map fun _ => none else σ[i]?
  | [] => by simp [wipe]
  | v :: vs => by
    unfold wipe
    by_cases e : v = i
    · subst e
      rw [List.getElem?_set_self', wipe_get σ v vs]
      simp only [List.mem_cons, true_or, if_true]
      split <;> cases σ[v]? <;> rfl
    · rw [List.getElem?_set_ne e, wipe_get σ i vs]
      simp only [List.mem_cons, Ne.symm e, false_or]
theorem wipeR_get (ρ : Rho) (i : Nat) : ∀ vs : List Nat, (wipeR ρ vs)[i]? = if i ∈ vs then ρ[i]?.map fun _ => .no else ρ[i]?
  | [] => by simp [wipeR]
  | v :: vs => by
    unfold wipeR
    by_cases e : v = i
    · subst e
      rw [List.getElem?_set_self', wipeR_get ρ v vs]
      simp only [List.mem_cons, true_or, if_true]
      split <;> cases ρ[v]? <;> rfl
    · rw [List.getElem?_set_ne e, wipeR_get ρ i vs]
      simp only [List.mem_cons, Ne.symm e, false_or]
theorem wipe_of {σ σ2 : L2.St} {vs : List Nat} (hl : σ2.length = (wipe σ vs).length) (h : ∀ i, i ∉ vs → σ2[i]? = (wipe σ vs)[i]?) : wipe σ2 vs = wipe σ vs := by
  apply List.ext_getElem?
  intro i
  rw [wipe_get, wipe_get]
  by_cases hi : i ∈ vs
  · rw [if_pos hi, if_pos hi]
    rw [wipe_length] at hl
    by_cases hj : i < σ.length
    · simp [hj, hl]
    · simp [hj, hl]
  · rw [if_neg hi, if_neg hi, h i hi, wipe_get, if_neg hi]
section
variable {K : PySem.W.Frag} {γ : Type} {W : Wd γ} {L0 L : List Addr} {H0 H H' : Hp} {σ : L2.St} {ρ : Rho} {k : γ} {p : Addr} {o : HO}
theorem Stt.wipe (S : Stt K W L0 H0 L H σ ρ k) (vs : List Nat) : Stt K W L0 H0 L H (wipe σ vs) (wipeR ρ vs) k := by
  refine ⟨S.base, S.fresh, S.offM, S.trk, S.wd, by rw [wipeR_length, wipe_length]; exact S.len, fun i s hs => ?_, fun i j s t hs ht h1 h2 h3 => ?_⟩
  · rw [wipeR_get] at hs
    rw [wipe_get]
    by_cases hi : i ∈ vs
    · rw [if_pos hi] at hs
      cases q : ρ[i]? with
      | none => rw [q] at hs; cases hs
      | some u =>
        rw [q] at hs
        cases hs
        trivial
    · rw [if_neg hi] at hs ⊢
      exact S.slots i s hs
  · have off : ∀ (i : Nat) (s : Slot), (wipeR ρ vs)[i]? = some s → s.isOwn = true → i ∉ vs ∧ ρ[i]? = some s := fun i s hs ho => by
      rw [wipeR_get] at hs
      by_cases hi : i ∈ vs
      · rw [if_pos hi] at hs
        cases q : ρ[i]? with
        | none => rw [q] at hs; cases hs
        | some u =>
          rw [q] at hs
          cases hs
          cases ho
      · rw [if_neg hi] at hs
        exact ⟨hi, hs⟩
    obtain ⟨a1, a2⟩ := off i s hs h1
    obtain ⟨b1, b2⟩ := off j t ht h2
    rw [wipe_get, wipe_get, if_neg a1, if_neg b1] at h3
    exact S.dis i j s t a2 b2 h1 h2 h3
/-- no slot's own thing stands at p -/
def NoAt (ρ : Rho) (σ : L2.St) (p : Addr) : Prop := ∀ (i : Nat) (s : Slot), ρ[i]? = some s → s.isOwn = true → σ[i]? ≠ some (some (.ref p))
theorem Stt.hide (S : Stt K W L0 H0 L H σ ρ k) (hp : H p = none) : Stt K W L0 H0 (p :: L) (upd H p o) σ ρ k ∧ NoAt ρ σ p := by
  have np := S.nin hp
  have S1 := S.new (o := o) hp
  have npM : p ∉ W.M := fun z => np (List.mem_append_right _ z)
  have up : ∀ v d, T K (L ++ W.M) H v d → T K (p :: L ++ W.M) (upd H p o) v d := fun v d t => (t.plus hp).ext (Ext.put (by simp))
  refine ⟨⟨S1.base, fun l hl => ?_, fun l hl => ?_, ?_, S.wdNew hp, S.len, fun j s hs => ?_, S.dis⟩, fun i s hs ho z => ?_⟩
  · rcases List.mem_cons.mp hl with rfl | hl
    · by_cases h0 : l ∈ L0
      · exact .inl h0
      · right
        cases h : H0 l with
        | none => rfl
        | some o =>
          rw [S.base l o (fun z => (List.mem_append.mp z).elim h0 npM) h] at hp
          cases hp
    · exact S.fresh l hl
  · rcases List.mem_cons.mp hl with rfl | hl
    · exact npM
    · exact S.offM l hl
  · intro b hb z
    rcases List.mem_cons.mp hb with rfl | hb
    · rw [upd_same] at z; cases z
    · exact S1.trk b hb z
  · have q := S.slots j s hs
    cases s with
    | no => trivial
    | dat d =>
      obtain ⟨v, h1, h2⟩ := q
      exact ⟨v, h1, up _ _ h2⟩
    | own ds =>
      obtain ⟨l, xs, h1, h2, h3, h4⟩ := q
      exact ⟨l, xs, h1, List.mem_cons_of_mem _ h2, by rw [upd_ne (ne_of_none h3 hp)]; exact h3, h4.mapT up⟩
    | ownD kvs =>
      obtain ⟨l, xs, h1, h2, h3, h4⟩ := q
      exact ⟨l, xs, h1, List.mem_cons_of_mem _ h2, by rw [upd_ne (ne_of_none h3 hp)]; exact h3, h4.map up⟩
    | lck kvs =>
      obtain ⟨l, xs, od, h1, h2, h3, h4⟩ := q
      exact ⟨l, xs, od, h1, List.mem_cons_of_mem _ h2, by rw [upd_ne (ne_of_none h3 hp)]; exact h3, h4.map up⟩
    | raw v => exact q
    | fn F =>
      obtain ⟨f, c, h1, h2, h3, h4, h5⟩ := q
      exact ⟨f, c, h1, fun z => (List.mem_cons.mp z).elim (ne_of_none h4 hp) h2, fun z => (List.mem_cons.mp z).elim (ne_of_none h5 hp) h3, by rw [upd_ne (ne_of_none h4 hp)]; exact h4, by rw [upd_ne (ne_of_none h5 hp)]; exact h5⟩
    | ownN D kvs =>
      obtain ⟨l, xs, h1, h2, h3, h4⟩ := q
      exact ⟨l, xs, h1, List.mem_cons_of_mem _ h2, by rw [upd_ne (ne_of_none h3 hp)]; exact h3, h4.map up⟩
  · have q := S.slots i s hs
    cases s with
    | no => cases ho
    | dat d => cases ho
    | raw v => cases ho
    | fn F => cases ho
    | ownN D kvs =>
      obtain ⟨l, xs, h1, h2, h3, h4⟩ := q
      rw [z] at h1
      have e : p = l := by injection h1 with h1; injection h1 with h1; injection h1
      rw [← e, hp] at h3
      cases h3
    | own ds =>
      obtain ⟨l, xs, h1, h2, h3, h4⟩ := q
      rw [z] at h1
      have e : p = l := by injection h1 with h1; injection h1 with h1; injection h1
      rw [← e, hp] at h3
      cases h3
    | ownD kvs =>
      obtain ⟨l, xs, h1, h2, h3, h4⟩ := q
      rw [z] at h1
      have e : p = l := by injection h1 with h1; injection h1 with h1; injection h1
      rw [← e, hp] at h3
      cases h3
    | lck kvs =>
      obtain ⟨l, xs, od, h1, h2, h3, h4⟩ := q
      rw [z] at h1
      have e : p = l := by injection h1 with h1; injection h1 with h1; injection h1
      rw [← e, hp] at h3
      cases h3
theorem Stt.putHid (S : Stt K W L0 H0 (p :: L) H σ ρ k) (n : NoAt ρ σ p) : Stt K W L0 H0 (p :: L) (upd H p o) σ ρ k := by
  have up : ∀ v d, T K (p :: L ++ W.M) H v d → T K (p :: L ++ W.M) (upd H p o) v d := fun v d t => t.ext (Ext.put (by simp))
  have nM := S.offM p (by simp)
  refine ⟨fun b u nb hb => ?_, S.fresh, S.offM, S.trk.upd, W.loc k _ H _ (fun b hb => ?_) (Ext.put (by simp)) S.wd, S.len, fun j s hs => ?_, S.dis⟩
  · have : b ≠ p := by
      rintro rfl
      rcases S.fresh b (by simp) with q | q
      · exact nb (List.mem_append_left _ q)
      · rw [q] at hb; cases hb
    rw [upd_ne this]
    exact S.base b u nb hb
  · have : b ≠ p := by rintro rfl; exact nM hb
    rw [upd_ne this]
  · have q := S.slots j s hs
    have ns := n j s hs
    cases s with
    | no => trivial
    | dat d =>
      obtain ⟨v, h1, h2⟩ := q
      exact ⟨v, h1, up _ _ h2⟩
    | own ds =>
      obtain ⟨l, xs, h1, h2, h3, h4⟩ := q
      have : l ≠ p := by rintro rfl; exact ns rfl h1
      exact ⟨l, xs, h1, h2, by rw [upd_ne this]; exact h3, h4.mapT up⟩
    | ownD kvs =>
      obtain ⟨l, xs, h1, h2, h3, h4⟩ := q
      have : l ≠ p := by rintro rfl; exact ns rfl h1
      exact ⟨l, xs, h1, h2, by rw [upd_ne this]; exact h3, h4.map up⟩
    | lck kvs =>
      obtain ⟨l, xs, od, h1, h2, h3, h4⟩ := q
      have : l ≠ p := by rintro rfl; exact ns rfl h1
      exact ⟨l, xs, od, h1, h2, by rw [upd_ne this]; exact h3, h4.map up⟩
    | raw v => exact q
    | fn F =>
      obtain ⟨f, c, h1, h2, h3, h4, h5⟩ := q
      exact ⟨f, c, h1, h2, h3, by rw [upd_ne (by rintro rfl; exact h2 (by simp))]; exact h4, by rw [upd_ne (by rintro rfl; exact h3 (by simp))]; exact h5⟩
    | ownN D kvs =>
      obtain ⟨l, xs, h1, h2, h3, h4⟩ := q
      have : l ≠ p := by rintro rfl; exact ns rfl h1
      exact ⟨l, xs, h1, h2, by rw [upd_ne this]; exact h3, h4.map up⟩
theorem Stt.unhide (S : Stt K W L0 H0 (p :: L) H σ ρ k) (n : NoAt ρ σ p) : Stt K W L0 H0 L H σ ρ k := by
  have sub : ∀ b ∈ L ++ W.M, b ∈ p :: L ++ W.M := fun b hb => List.mem_cons_of_mem _ hb
  refine ⟨S.base, fun l hl => S.fresh l (List.mem_cons_of_mem _ hl), fun l hl => S.offM l (List.mem_cons_of_mem _ hl), fun b hb => S.trk b (sub b hb), S.wdSub (fun b hb => List.mem_cons_of_mem _ hb), S.len, fun j s hs => ?_, S.dis⟩
  have q := S.slots j s hs
  have ns := n j s hs
  cases s with
  | no => trivial
  | dat d =>
    obtain ⟨v, h1, h2⟩ := q
    exact ⟨v, h1, h2.off sub⟩
  | own ds =>
    obtain ⟨l, xs, h1, h2, h3, h4⟩ := q
    have : l ≠ p := by rintro rfl; exact ns rfl h1
    exact ⟨l, xs, h1, (List.mem_cons.mp h2).resolve_left this, h3, h4.off sub⟩
  | ownD kvs =>
    obtain ⟨l, xs, h1, h2, h3, h4⟩ := q
    have : l ≠ p := by rintro rfl; exact ns rfl h1
    exact ⟨l, xs, h1, (List.mem_cons.mp h2).resolve_left this, h3, h4.map fun _ _ t => t.off sub⟩
  | lck kvs =>
    obtain ⟨l, xs, od, h1, h2, h3, h4⟩ := q
    have : l ≠ p := by rintro rfl; exact ns rfl h1
    exact ⟨l, xs, od, h1, (List.mem_cons.mp h2).resolve_left this, h3, h4.map fun _ _ t => t.off sub⟩
  | raw v => exact q
  | fn F =>
    obtain ⟨f, c, h1, h2, h3, h4, h5⟩ := q
    exact ⟨f, c, h1, fun z => h2 (sub _ z), fun z => h3 (sub _ z), h4, h5⟩
  | ownN D kvs =>
    obtain ⟨l, xs, h1, h2, h3, h4⟩ := q
    have : l ≠ p := by rintro rfl; exact ns rfl h1
    exact ⟨l, xs, h1, (List.mem_cons.mp h2).resolve_left this, h3, h4.map fun _ _ t => t.off sub⟩
end
section
variable {K : PySem.W.Frag} {γ : Type} {W : Wd γ} {ρ : Rho} {k : γ} {Φ : PyData → γ → Prop} {g : TG} {tt : TT} {te : TE} {wi : TI} {vs : List Nat}
theorem ev_lcX (h : EvX K W wi ρ k fun n f k1 => n ≤ 100000 ∧ ∃ J : Nat → List PyData → γ → Prop, J 0 [] k1 ∧
      (∀ i acc k2, i < n → J i acc k2 → TgW K W g (fun i => i ∈ vs) (f i) (wipeR ρ vs) fun ρ2 => EvT K W tt ρ2 k2 fun b k3 => if b = true then EvW K W te ρ2 k3 fun d k4 => J (i + 1) (acc ++ [d]) k4 else J (i + 1) acc k3) ∧
      ∀ acc k2, acc.length ≤ n → J n acc k2 → Φ (.list acc) k2) : EvW K W (tLc wi g tt te vs) ρ k Φ := fun L0 H0 L H σ S Q c =>
  h L0 H0 L H σ S _ fun J n f k1 H1 S1 e wd g => by
    obtain ⟨hn, Jv, j0, turn, done⟩ := g
    intro D hD
    obtain ⟨Sd, nD⟩ := S1.hide (o := .lst []) hD
    have nin := S1.nin hD
    refine ⟨fun i m H2 => m = n - i ∧ i ≤ n ∧ ∃ acc k2 ys, Stt K W L0 H0 (D :: L) H2 σ ρ k2 ∧ Ext W.M H1 H2 ∧ H2 D = some (.lst ys) ∧ TA K (D :: L ++ W.M) H2 ys acc ∧ acc.length ≤ i ∧ Jv i acc k2,
      ⟨n, rfl, Nat.zero_le _, [], k1, [], Sd, Ext.new hD, upd_same, .nil, Nat.le_refl _, j0⟩, ?_⟩
    rintro i m H2 ⟨rfl, hi, acc, k2, ys, S2, e2, hy, ty, ha, j2⟩
    have l2 : Later W L H1 (D :: L) H2 := ⟨e2.sub fun b hb => List.mem_append_right _ hb, fun l hl => (List.mem_cons.mp hl).elim (fun q => .inr (by rw [q]; exact hD)) fun q => .inl q, S2.trk⟩
    by_cases hlt : i < n
    · refine .inr ⟨wd.goes i _ H2 hlt l2 e2, fun H' => ∃ acc k2 ys, Stt K W L0 H0 (D :: L) H' σ ρ k2 ∧ Ext W.M H1 H' ∧ H' D = some (.lst ys) ∧ TA K (D :: L ++ W.M) H' ys acc ∧ acc.length ≤ i + 1 ∧ Jv (i + 1) acc k2,
        fun H' ⟨acc, k2, ys, a1, a2, a3, a4, a5, a6⟩ => ⟨n - (i + 1), by omega, rfl, hlt, acc, k2, ys, a1, a2, a3, a4, a5, a6⟩, fun x H' y => ?_⟩
      obtain ⟨sm, tx⟩ := wd.yields i _ H2 x H' hlt l2 e2 y
      have S3 := S2.same sm
      refine turn i acc k2 hlt j2 L0 H0 (D :: L) H' _ k2 x (S3.wipe vs) tx _ fun σ3 ρ3 S4 hl4 ag tst => ⟨wipe_of hl4 ag, ?_⟩
      refine (tst : EvT K W tt ρ3 k2 _) L0 H0 (D :: L) H' σ3 S4 _ fun b k3 H3 S5 e5 g5 => ?_
      have dM : D ∉ W.M := fun z => nin (List.mem_append_right _ z)
      cases b with
      | false =>
        refine ⟨acc, k3, ys, S3.ext e5 S5.wd, (e2.trans (Ext.same sm)).trans e5, e5 _ _ dM (sm _ _ hy), (ty.same sm).ext (eM e5), by omega, g5⟩
      | true =>
        refine (g5 : EvW K W te ρ3 k3 _) L0 H0 (D :: L) H3 σ3 S5 _ fun v d k4 H4 S6 e6 t6 g6 => ?_
        have e56 := e5.trans e6
        have hy4 : H4 D = some (.lst ys) := e56 _ _ dM (sm _ _ hy)
        have lz : ys.length ≤ 99999 := by rw [ty.len]; omega
        refine ⟨ys, hy4, Nat.lt_of_le_of_lt lz (by decide), acc ++ [d], k4, ys ++ [v], (S3.ext e56 S6.wd).putHid nD, ?_, upd_same, ?_, by rw [List.length_append]; exact Nat.add_le_add_right ha 1, g6⟩
        · intro b o nb hb
          rw [upd_ne (ne_of_none hb hD)]
          exact ((e2.trans (Ext.same sm)).trans e56) b o nb hb
        · exact ((((ty.same sm).ext (eM e56)).app (.one t6))).ext (Ext.put (by simp))
    · have ei : i = n := by omega
      subst ei
      refine .inl ⟨wd.stops _ H2 l2 e2, c (.ref D) (.list acc) k2 H2 (S2.unhide nD) (e.trans e2) (.lst nin hy (ty.off fun b hb => List.mem_cons_of_mem _ hb)) (done acc k2 ha j2)⟩
theorem ev_lc (h : EvI K W wi ρ k fun n f k1 => n ≤ 100000 ∧ ∃ J : Nat → List PyData → γ → Prop, J 0 [] k1 ∧
      (∀ i acc k2, i < n → J i acc k2 → TgW K W g (fun i => i ∈ vs) (f i) (wipeR ρ vs) fun ρ2 => EvT K W tt ρ2 k2 fun b k3 => if b = true then EvW K W te ρ2 k3 fun d k4 => J (i + 1) (acc ++ [d]) k4 else J (i + 1) acc k3) ∧
      ∀ acc k2, acc.length ≤ n → J n acc k2 → Φ (.list acc) k2) : EvW K W (tLc wi g tt te vs) ρ k Φ := ev_lcX h.x
/-- a comprehension whose parts draw nothing -/
theorem lc_pure {n : Nat} {f : Nat → PyData} {k1 : γ} (keep : Nat → Bool) (el : Nat → PyData) (hn : n ≤ 100000)
    (turn : ∀ i, i < n → TgW K W g (fun i => i ∈ vs) (f i) (wipeR ρ vs) fun ρ2 => EvT K W tt ρ2 k1 fun b k3 => b = keep i ∧ k3 = k1 ∧ (keep i = true → EvW K W te ρ2 k1 fun d k4 => d = el i ∧ k4 = k1))
    (q : Φ (.list (((List.range n).filter keep).map el)) k1) :
    n ≤ 100000 ∧ ∃ J : Nat → List PyData → γ → Prop, J 0 [] k1 ∧
      (∀ i acc k2, i < n → J i acc k2 → TgW K W g (fun i => i ∈ vs) (f i) (wipeR ρ vs) fun ρ2 => EvT K W tt ρ2 k2 fun b k3 => if b = true then EvW K W te ρ2 k3 fun d k4 => J (i + 1) (acc ++ [d]) k4 else J (i + 1) acc k3) ∧
      ∀ acc k2, acc.length ≤ n → J n acc k2 → Φ (.list acc) k2 := by
  refine ⟨hn, fun i acc k2 => acc = ((List.range i).filter keep).map el ∧ k2 = k1, ⟨rfl, rfl⟩, ?_, ?_⟩
  · rintro i acc k2 hi ⟨rfl, rfl⟩ L0 H0 L H σ kk v S t Q c
    refine turn i hi L0 H0 L H σ kk v S t Q fun σ' ρ' S' hl ag ev => c σ' ρ' S' hl ag ?_
    intro L0 H0 L H σ S Q c
    refine ev L0 H0 L H σ S Q fun b k3 H2 S2 e ⟨hb, hk, he⟩ => ?_
    subst hb
    subst hk
    refine c _ _ H2 S2 e ?_
    cases hkeep : keep i with
    | false => exact ⟨by rw [List.range_succ, List.filter_append]; simp [hkeep], rfl⟩
    | true =>
      intro L0 H0 L H σ S Q c
      refine he hkeep L0 H0 L H σ S Q fun v d k4 H2 S2 e t ⟨hd, hk⟩ => c v d k4 H2 S2 e t ⟨?_, hk⟩
      rw [List.range_succ, List.filter_append, hd]
      simp [hkeep]
  · rintro acc k2 _ ⟨rfl, rfl⟩
    exact q
theorem ev_lcP (keep : Nat → Bool) (el : Nat → PyData) (h : EvI K W wi ρ k fun n f k1 => n ≤ 100000 ∧
      (∀ i, i < n → TgW K W g (fun i => i ∈ vs) (f i) (wipeR ρ vs) fun ρ2 => EvT K W tt ρ2 k1 fun b k3 => b = keep i ∧ k3 = k1 ∧ (keep i = true → EvW K W te ρ2 k1 fun d k4 => d = el i ∧ k4 = k1)) ∧
      Φ (.list (((List.range n).filter keep).map el)) k1) : EvW K W (tLc wi g tt te vs) ρ k Φ :=
  ev_lc fun L0 H0 L H σ S R c => h L0 H0 L H σ S R fun J n f k' H2 S2 e wd ⟨h1, h2, h3⟩ => c J n f k' H2 S2 e wd (lc_pure keep el h1 h2 h3)
theorem ev_lcXP (keep : Nat → Bool) (el : Nat → PyData) (h : EvX K W wi ρ k fun n f k1 => n ≤ 100000 ∧
      (∀ i, i < n → TgW K W g (fun i => i ∈ vs) (f i) (wipeR ρ vs) fun ρ2 => EvT K W tt ρ2 k1 fun b k3 => b = keep i ∧ k3 = k1 ∧ (keep i = true → EvW K W te ρ2 k1 fun d k4 => d = el i ∧ k4 = k1)) ∧
      Φ (.list (((List.range n).filter keep).map el)) k1) : EvW K W (tLc wi g tt te vs) ρ k Φ :=
  ev_lcX fun L0 H0 L H σ S R c => h L0 H0 L H σ S R fun J n f k' H2 S2 e wd ⟨h1, h2, h3⟩ => c J n f k' H2 S2 e wd (lc_pure keep el h1 h2 h3)
theorem range_itemD (ds : List PyData) : (List.range ds.length).map (itemD ds) = ds := by
  apply List.ext_getElem?
  intro i
  rw [List.getElem?_map]
  by_cases hi : i < ds.length
  · rw [List.getElem?_range hi]
    simp [itemD, hi]
  · simp [hi]
end

/-! ### defs -/
def rest0 (N : List Str) (ds : List PyData) : Rho := ds.map Slot.dat ++ List.replicate (N.length - ds.length) .no
theorem start_len {N : List Str} {vs : List V} : (start N vs).length = vs.length + (N.length - vs.length) := by
  unfold L2.start
  simp
theorem start_get {N : List Str} {vs : List V} {i : Nat} {v : V} (h : vs[i]? = some v) : (start N vs)[i]? = some (some v) := by
  unfold L2.start
  rw [List.getElem?_append_left (by simpa using (List.getElem?_eq_some_iff.mp h).1)]
  simp [h]
theorem stt_start {K : PySem.W.Frag} {γ : Type} {W : Wd γ} {N : List Str} {vs : List V} {ds : List PyData} {H : Hp} {k : γ} (t : TA K W.M H vs ds) (wd : W.I k W.M H) : Stt K W [] H [] H (start N vs) (rest0 N ds) k := by
  have get_ : ∀ (i : Nat) (s : Slot), (rest0 N ds)[i]? = some s → s = .no ∨ ∃ d, ds[i]? = some d ∧ s = .dat d := fun i s hs => by
    unfold rest0 at hs
    by_cases hi : i < ds.length
    · rw [List.getElem?_append_left (by simpa using hi)] at hs
      rw [List.getElem?_map] at hs
      obtain ⟨d, h1, h2⟩ := Option.map_eq_some_iff.mp hs
      exact .inr ⟨d, h1, h2.symm⟩
    · rw [List.getElem?_append_right (by simpa using hi)] at hs
      exact .inl (List.eq_of_mem_replicate (List.mem_of_getElem? hs))
  refine ⟨Ext.refl _ _, (fun l hl => nomatch hl), (fun l hl => nomatch hl), W.trk k _ H wd, wd, ?_, fun i s hs => ?_, fun i j s u hs hu h1 _ _ => ?_⟩
  · rw [start_len]
    unfold rest0
    have := t.len
    simp [this]
  · rcases get_ i s hs with rfl | ⟨d, hd, rfl⟩
    · trivial
    · obtain ⟨v, h1, h2⟩ := t.at hd
      exact ⟨v, start_get h1, h2⟩
  · rcases get_ i s hs with rfl | ⟨d, hd, rfl⟩ <;> cases h1
/-- the body of a def that writes nothing -/
theorem spP.ok {K : PySem.W.Frag} {R : List PyData → PyData → Prop} {n : Nat} {N : List Str} {vs : List V} {H : Hp} {Q : VK} {E : XK} {t : TS} (h : spP K n R vs H Q E)
    (hb : ∀ (W : Wd Nat) (ds : List PyData) (r : PyData), R ds r → SW K W t (rest0 N ds) 0 ⟨fun _ _ => r = .none, fun d _ => d = r, fun _ _ => False, fun _ _ => False⟩) : t { nx := fun _ H' => Q .non H', rt := Q } (start N vs) H := by
  obtain ⟨M, ds, r, ta, tr, _, hr, q⟩ := h
  have fin : ∀ k' H', Ext ([] ++ (pureW M H tr).M) H H' → (pureW M H tr).I k' M H' → Same H H' := fun k' H' e wi b o hb => by
    by_cases hm : b ∈ M
    · rw [wi b hm]; exact hb
    · exact e b o hm hb
  refine hb (pureW M H tr) ds r hr [] H [] H (start N vs) _ (stt_start ta fun b _ => rfl) (fun L' H' σ' ρ' k' S' e => ?_) (fun v d k' H' e wi t' hd => ?_) (fun _ _ _ _ _ _ z => z.elim) (fun _ _ _ _ _ _ z => z.elim)
  · subst e
    exact q .non H' (fin k' H' S'.base S'.wdM) .non
  · subst hd
    exact q v H' (fin k' H' e wi) t'
theorem spP.len {K : PySem.W.Frag} {R : List PyData → PyData → Prop} {n : Nat} {vs : List V} {H : Hp} {Q : VK} {E : XK} (h : spP K n R vs H Q E) : vs.length = n := by
  obtain ⟨M, ds, r, ta, tr, hl, hR, q⟩ := h
  rw [ta.len]
  exact hl
end U

set_option Elab.async false
set_option linter.all false
set_option maxRecDepth 100000
set_option maxHeartbeats 4000000
namespace U
open PySem PySem.Spec PyProof.Rows L2
/-! ### enumerate(text) -/
def ItES (z : Str) : It :=
  ⟨fun i _ => i < z.cps.size,
    fun i H v H' => ∃ (p : Addr) (c : Nat), v = .ref p ∧ H p = none ∧ H' = upd H p (.tup [.int (i : Nat), .str ⟨#[c]⟩]) ∧ z.cps[i]? = some c,
    fun i _ => z.cps.size ≤ i⟩
theorem turnES {P : Program} {w : World} {K : PySem.W.Frag} {elts : List Expr} {kk : Nat} {tpos : Pos} (z : Str) (tz : Tok) (e it : Addr) :
    L2.Turn P w K (.Tuple elts kk tpos) (ItES z) [e, it] e (fun i h => (∃ old, IsEnum h e it ((i : Nat) : Int) old) ∧ h.IsStrIter it (strIterType z) z tz i ∧ e ≠ it) where
  mem := List.mem_cons_self
  obj := fun i h st b hb => by
    obtain ⟨⟨old, he⟩, ⟨o, ho, _, hd⟩, _⟩ := st
    rcases List.mem_cons.mp hb with rfl | hb
    · exact ⟨_, he, fun _ q => nomatch q⟩
    · obtain rfl : b = it := by simpa using hb
      exact ⟨o, ho, fun _ q => by rw [hd] at q; cases q⟩
  keep := fun i h h' st k => ⟨st.1.imp fun _ he => k e (by simp) _ he, let ⟨o, ho, r⟩ := st.2.1; ⟨o, k it (by simp) o ho, r⟩, st.2.2⟩
  item := by
    rintro X rfl rfl rfl hc i pins s σ H E I hf ⟨⟨old, he⟩, hit, hne⟩ hlt
    have el : e < s.heap.objs.size := Heap.lt_size he
    have il : it < s.heap.objs.size := by obtain ⟨_, q, _⟩ := hit; exact Heap.lt_size q
    have D := Draws.text (prog := X.prog) (w := X.w) (A := X.A.in1) (I.ok.hd hc) it z tz
    refine wpAny_pyNext_enum_itemD D he hit hlt hne (by simpa using hne) fun y h' tk hy ho hst hT hsz hk => ?_
    obtain ⟨c, u, hcx, rfl⟩ := hy
    refine ⟨_, rfl, wpAny_letOwnedTupleGo_enum (s := { s with heap := h', toks := tk + 1 }) ho fun h'' he' sb => ?_⟩
    have hT2 := (sb.2 _ (Nat.ne_of_gt el)).trans hT
    have new : ObjOk X.prog X.w (upd H s.heap.objs.size (.tup [.int (i : Nat), .str ⟨#[c]⟩])) h'' s.heap.objs.size (.tup [.int (i : Nat), .str ⟨#[c]⟩]) :=
      ⟨(show 2 ≤ sizeLine by decide), [.int i tk, .str ⟨#[c]⟩ u], .cons ⟨_, rfl⟩ (.cons ⟨_, rfl⟩ .nil), ⟨_, hT2, rfl, _, rfl⟩⟩
    have I1 : Inv X pins σ (upd H s.heap.objs.size (.tup [.int (i : Nat), .str ⟨#[c]⟩])) { s with heap := h'', toks := tk + 1 } :=
      I.turnedNew (ch := [e, it]) (fun b ob hb q => (sb.2 b (fun z => hb (by simp [z]))).trans (hk b ob (fun z => hb (by simp [z])) (fun z => hb (by simp [z])) q)) hf (Nat.le_refl _) new
    refine ⟨.ref s.heap.objs.size, _, I1, rfl, ⟨_, c, rfl, I.hok.fresh (Nat.le_refl _), rfl, hcx⟩, ⟨⟨.str ⟨#[c]⟩ u, ?_⟩, let ⟨o, ho, r⟩ := hst; ⟨o, (sb.2 it (Ne.symm hne)).trans ho, r⟩, hne⟩, fun b hb => ?_⟩
    · rw [show ((i + 1 : Nat) : Int) = (i : Int) + 1 by omega]
      exact he'
    · have lt : b < s.heap.objs.size := by
        rcases List.mem_cons.mp hb with rfl | hb
        · exact el
        · obtain rfl : b = it := by simpa using hb
          exact il
      rw [upd_ne (Nat.ne_of_lt lt)]
      exact (hf b hb).1
  done := by
    rintro X rfl rfl rfl hc i pins s σ H E I hf ⟨⟨old, he⟩, hit, hne⟩ hx
    obtain ⟨f0, f1, f2, f3, f4, f5⟩ := hf it (by simp)
    unfold pyNext
    have hT : s.TypeIs (.ref e) "enumerate" := ⟨_, he, rfl⟩
    refine wpAny_bind (wpAny_attempt (wpAny_callSpecial?_slot (name := Str.ofString "__next__") hT F.slot_enumerate_next (wpAny_call_entry F.slot_enumerate_next hT F.entry_enumerate_next ?_ (F.args_enumerate_next_1 _))))
    show wpAny _ _ (field (.ref e) 2 >>= _) _ _ _
    have none_ : z.cps[i]? = none := Array.getElem?_eq_none hx
    cases ha : z.cps.all (· < 128)
    · simp only [strIterType, ha, Bool.false_eq_true, if_false] at hit
      refine wpAny_bind (wpAny_field he rfl (x := .ref it) rfl (wpAny_bind (wpAny_nextOf_wide_end (I.ok.hd hc) hit none_ fun h' y eb hy => ?_)))
      obtain ⟨o, ho, hoc⟩ := hy
      refine wpAny_bind (wpAny_isInstance (T := "StopIteration") (b := true) ⟨o, ho, hoc⟩ isSubtype_stop (wpAny_pure ?_))
      exact ⟨rfl, I.turned (t' := s.toks) (fun b o hb q => eb b o hb q) f0 f1 f3 f4 f5⟩
    · simp only [strIterType, ha, if_true] at hit
      refine wpAny_bind (wpAny_field he rfl (x := .ref it) rfl (wpAny_bind (wpAny_nextOf_ascii_end (I.ok.hd hc) hit none_ fun h' y eb hy => ?_)))
      obtain ⟨o, ho, hoc⟩ := hy
      refine wpAny_bind (wpAny_isInstance (T := "StopIteration") (b := true) ⟨o, ho, hoc⟩ isSubtype_stop (wpAny_pure ?_))
      exact ⟨rfl, I.turned (t' := s.toks) (fun b o hb q => eb b o hb q) f0 f1 f3 f4 f5⟩
  self := fun _ _ _ _ _ st h => by
    obtain ⟨⟨_, he⟩, _⟩ := st
    exact wpAny_pyIter_enum he h
def iEnumS (ta : L2.TA) : TI := fun σ H R => ta σ H fun vs H1 => ∃ z : Str, vs = [.str z] ∧ R (ItES z) H1
theorem pi_enumS {X : Cx} {e : Expr} {ta : L2.TA} {p pos tpos : Pos} {elts : List Expr} {kk : Nat} (hg : Gl X "enumerate") (hm : X.mg "enumerate" = none) (ha : PA X [e] ta)
    (hs : starEach [e] X.env = [(false, eval e X.env)] := by rfl) : PI X (.Tuple elts kk tpos) (.Call (.Name "enumerate" p) [e] [] pos) (iEnumS ta) := by
  refine ⟨fun pins s σ H R I h => ?_⟩
  refine Call_ (ld_blt I hg hm boot_enumerate (PyProof.Rows.callWith_type1 (thn (ha.run pos pins s σ H _ I h) fun us s1 ⟨vs, H1, I1, r1, z, ev, q⟩ => ?_) hs rfl))
  subst ev
  cases r1 with
  | cons r rr =>
    cases rr
    obtain ⟨t, rfl⟩ := r
    refine enumMake (begins_text z t) trivial fun h' he hit hk => wpAny_pyIter_enum he ?_
    refine ⟨s1.heap.objs.size + 1, [s1.heap.objs.size + 1, s1.heap.objs.size], _, _, H1, rfl, I1.kept (t' := s1.toks) hk, turnES z t (s1.heap.objs.size + 1) s1.heap.objs.size, ⟨⟨.none, he⟩, ⟨_, hit, rfl, rfl⟩, Nat.succ_ne_self _⟩, fun b hb => ?_, q⟩
    have le_ : s1.heap.objs.size ≤ b := by
      rcases List.mem_cons.mp hb with rfl | hb
      · exact Nat.le_add_right _ _
      · obtain rfl : b = s1.heap.objs.size := by simpa using hb
        exact Nat.le_refl _
    exact I1.fpOk le_ (I1.hok.fresh le_)
theorem ei_enumS {K : PySem.W.Frag} {γ : Type} {W : Wd γ} {ρ : Rho} {k : γ} {tr : L2.TA} {Ω : Nat → (Nat → PyData) → γ → Prop} (h : EvA K W tr ρ k fun es k1 => ∃ z : Str, es = [.str z] ∧ Ω z.cps.size (fun i => .tuple [.int (i : Nat), .str ⟨#[z.cps[i]?.getD 0]⟩]) k1) : EvI K W (iEnumS tr) ρ k Ω := fun L0 H0 L H σ S R c =>
  h L0 H0 L H σ S _ fun vs es k1 H1 S1 e t g => by
    obtain ⟨z, rfl, q⟩ := g
    obtain ⟨v, rfl, t1⟩ := t.one_
    cases t1
    refine ⟨z, rfl, c _ _ _ k1 H1 S1 e ⟨fun i L H hi _ => hi, fun L H _ => Nat.le_refl _, fun i L H x H' hi l y => ?_⟩ q⟩
    obtain ⟨p, cc, rfl, hp, rfl, h1⟩ := y
    refine ⟨Same.new hp, ?_⟩
    show T K _ _ _ (.tuple [_, .str ⟨#[z.cps[i]?.getD 0]⟩])
    rw [h1]
    exact .tup (l.trk.new hp) upd_same (.cons (.int _) (.one (.str _)))
end U

set_option Elab.async false
set_option linter.all false
set_option maxRecDepth 100000
set_option maxHeartbeats 2000000
namespace U
open PySem PySem.Spec PyProof.Rows L2
/-! ### words as rows of letters -/
def txt (ws : List Nat) : Str := ⟨(ws.map (97 + ·)).toArray⟩
theorem txt_size (ws : List Nat) : (txt ws).cps.size = ws.length := by simp [txt]
theorem txt_len (ws : List Nat) : (txt ws).length = ws.length := txt_size ws
theorem txt_get (ws : List Nat) (i : Nat) : (txt ws).cps[i]? = ws[i]?.map (97 + ·) := by simp [txt]
theorem txt_app (a b : List Nat) : txt a ++ txt b = txt (a ++ b) := by
  show Str.mk _ = Str.mk _
  simp [txt]
theorem txt_inj {a b : List Nat} (h : txt a = txt b) : a = b := by
  unfold txt at h
  have h2 : (a.map (97 + ·)).toArray = (b.map (97 + ·)).toArray := by injection h
  have h3 : a.map (97 + ·) = b.map (97 + ·) := by simpa using congrArg Array.toList h2
  exact (List.map_inj_right (fun x y e => by omega)).mp h3
theorem txt_dec (a b : List Nat) : decide (txt a = txt b) = decide (a = b) := by
  by_cases h : a = b
  · simp [h]
  · rw [decide_eq_false h, decide_eq_false fun e => h (txt_inj e)]
theorem txt_cut (ws : List Nat) (lo hi : Option Int) : cutS (txt ws) lo hi = txt ((ws.drop (HT.sIx ws.length 0 lo)).take (HT.sIx ws.length ws.length hi - HT.sIx ws.length 0 lo)) := by
  unfold cutS
  rw [txt_len]
  show Str.mk _ = Str.mk _
  congr 1
  simp [txt, List.map_take, List.map_drop]
theorem txt_take (ws : List Nat) {n : Nat} (h : n ≤ ws.length) : cutS (txt ws) none (some (n : Int)) = txt (ws.take n) := by
  rw [txt_cut, HT.sIx_nat, HT.sIx_none, List.drop_zero, Nat.sub_zero, Nat.min_eq_left h]
theorem txt_drop (ws : List Nat) {n : Nat} (h : n ≤ ws.length) : cutS (txt ws) (some (n : Int)) none = txt (ws.drop n) := by
  rw [txt_cut, HT.sIx_nat, HT.sIx_none, Nat.min_eq_left h, List.take_of_length_le (by rw [List.length_drop]; omega)]
theorem txt_mem (ws : List Nat) (c : Nat) : decide ((97 + c) ∈ (txt ws).cps.toList) = decide (c ∈ ws) := by
  have : (97 + c ∈ (txt ws).cps.toList) ↔ c ∈ ws := by
    unfold txt
    simp only [List.mem_map]
    exact ⟨fun ⟨d, hd, e⟩ => by rwa [show d = c by omega] at hd, fun h => ⟨c, h, rfl⟩⟩
  by_cases h : c ∈ ws
  · rw [decide_eq_true h, decide_eq_true (this.mpr h)]
  · rw [decide_eq_false h, decide_eq_false fun q => h (this.mp q)]
theorem txt_nil : Str.ofString "" = txt [] := rfl
theorem txt_abcd : Str.ofString "abcd" = txt [0, 1, 2, 3] := by decide +kernel
theorem occ_abcd {c : Nat} (h : c < 4) : Builtin.Str.occurrences (Str.ofString "abcd") ⟨#[97 + c]⟩ 0 (Str.ofString "abcd").length 1 = [c] := by
  have : c = 0 ∨ c = 1 ∨ c = 2 ∨ c = 3 := by omega
  rcases this with rfl | rfl | rfl | rfl <;> decide +kernel
theorem join_txt (l : List (List Nat)) : Txt.join (Str.ofString "") (l.map txt) = txt l.flatten := by
  have e0 : (Str.ofString "").cps = #[] := rfl
  have fold : ∀ (l : List (List Nat)) (acc : Array Nat), (l.map txt).foldl (fun acc p => acc ++ (Str.ofString "").cps ++ p.cps) acc = acc ++ (l.flatten.map (97 + ·)).toArray := by
    intro l
    induction l with
    | nil => intro acc; simp
    | cons x xs ih =>
      intro acc
      rw [List.map_cons, List.foldl_cons, ih, e0]
      simp [txt]
  cases l with
  | nil => rfl
  | cons x xs =>
    show Str.mk _ = Str.mk _
    congr 1
    show (((x :: xs).map txt).drop 1).foldl _ _ = _
    rw [List.map_cons, List.drop_succ_cons, List.drop_zero, fold]
    simp [txt]
/-- truth of data -/
def truD : PyData → Bool
  | .none => false
  | .bool b => b
  | .int i => i != 0
  | .str z => z.length != 0
  | .list ds => !ds.isEmpty
  | .tuple ds => !ds.isEmpty
  | .dict es => !es.isEmpty
section
variable {K : PySem.W.Frag} {γ : Type} {W : Wd γ} {ρ : Rho} {k : γ} {Φ : PyData → γ → Prop} {ta tb tc te : TE} {tt tu : TT} {x y : PyData} {Ψ : Bool → γ → Prop}
theorem TA.emp {N : List Addr} {H : Hp} {vs : List V} {ds : List PyData} (t : TA K N H vs ds) : ds.isEmpty = vs.isEmpty := by cases t <;> rfl
theorem TK.emp {N : List Addr} {H : Hp} {vs : List (Key × V)} {ds : List (PyData × PyData)} (t : TK K N H vs ds) : ds.isEmpty = vs.isEmpty := by cases t <;> rfl
def sizeOk : PyData → Prop | .str z => z.length ≤ 100000 | _ => True
theorem et_truth (h : EvW K W te ρ k fun d k1 => sizeOk d ∧ Ψ (truD d) k1) : EvT K W (fun σ H Q => te σ H fun x H' => ∃ k, TruV K x H' k ∧ Q k H') ρ k Ψ := fun L0 H0 L H σ S Q c =>
  h L0 H0 L H σ S _ fun v d k1 H1 S1 e1 t1 g => by
    have q : Q (truD d) H1 := c _ _ _ S1 e1 g.2
    refine ⟨truD d, ?_, q⟩
    cases t1 with
    | non => exact rfl
    | bl b => exact rfl
    | int i => exact rfl
    | str z =>
      refine ⟨Nat.le_trans g.1 (by decide), ?_⟩
      show (z.length != 0) = _
      by_cases hz : z.length = 0
      · rw [hz]; rfl
      · have h2 : (z.length : Int) ≠ 0 := by omega
        rw [bne_iff_ne.mpr hz, bne_iff_ne.mpr h2]
    | lst n h t => exact .inl ⟨_, SqL.of h, by show (!List.isEmpty _) = _; rw [t.emp]⟩
    | tup n h t => exact .inr (.inl ⟨_, SqT.of h, by show (!List.isEmpty _) = _; rw [t.emp]⟩)
    | dct n h t => exact .inr (.inr ⟨_, h, by show (!List.isEmpty _) = _; rw [t.emp]⟩)
theorem rd_inS {c : Nat} {z : Str} (q : Φ (.bool (decide (c ∈ z.cps.toList))) k) : RD K W (fun x y H Q => ∃ (c : Nat) (z : Str), x = .str ⟨#[c]⟩ ∧ y = .str z ∧ Q (.bl (decide (c ∈ z.cps.toList))) H) (.str ⟨#[c]⟩) (.str z) ρ k Φ := rd_ q fun N H vx vy tx ty Q cc => by
  cases tx
  cases ty
  exact ⟨c, z, rfl, rfl, cc _ (.bl _)⟩
theorem rd_ninS {c : Nat} {z : Str} (q : Φ (.bool (!decide (c ∈ z.cps.toList))) k) : RD K W (fun x y H Q => ∃ (c : Nat) (z : Str), x = .str ⟨#[c]⟩ ∧ y = .str z ∧ Q (.bl (!decide (c ∈ z.cps.toList))) H) (.str ⟨#[c]⟩) (.str z) ρ k Φ := rd_ q fun N H vx vy tx ty Q cc => by
  cases tx
  cases ty
  exact ⟨c, z, rfl, rfl, cc _ (.bl _)⟩
/-- sep.join(list of texts) -/
theorem sum_le {l : List Str} {a : Nat} (h : ∀ z ∈ l, z.length ≤ a) : (l.map (·.length)).sum ≤ l.length * a := by
  induction l with
  | nil => simp
  | cons x xs ih =>
    have h1 := h x List.mem_cons_self
    have h2 := ih fun z hz => h z (List.mem_cons_of_mem _ hz)
    rw [List.map_cons, List.sum_cons, List.length_cons, Nat.add_mul]
    omega
def rJoin (K : PySem.W.Frag) : V → List V → Hp → VK → Prop := fun x xs H Q => ∃ a p, ∃ ys : List Str, x = .str a ∧ xs = [.ref p] ∧ (SqL K H p (ys.map V.str) ∨ SqT K H p (ys.map V.str)) ∧ (ys.map (·.length)).sum + ys.length * a.length ≤ 16777216 ∧ Q (.str (Txt.join a ys)) H
theorem kJoin (K : PySem.W.Frag) {X : Cx} {e : Expr} {to te : TE} (p : PE X e (tM1 (fun x xs H Q => ∃ a p, ∃ ys : List Str, x = .str a ∧ xs = [.ref p] ∧ (SqL X.K H p (ys.map V.str) ∨ SqT X.K H p (ys.map V.str)) ∧ (ys.map (·.length)).sum + ys.length * a.length ≤ 16777216 ∧ Q (.str (Txt.join a ys)) H) to te)) (h : X.K = K := by rfl) : PE X e (tM1 (rJoin K) to te) := by subst h; exact p
theorem ev_join (h : EvW K W ta ρ k fun a k1 => ∃ s : Str, a = .str s ∧ EvW K W tb ρ k1 fun d k2 => ∃ ys : List Str, d = .list (ys.map .str) ∧ (ys.map (·.length)).sum + ys.length * s.length ≤ 16777216 ∧ Φ (.str (Txt.join s ys)) k2) :
    EvW K W (tM1 (rJoin K) ta tb) ρ k Φ := fun L0 H0 L H σ S Q c =>
  h L0 H0 L H σ S _ fun v a k1 H1 S1 e1 t1 g => by
    obtain ⟨s, rfl, g⟩ := g
    cases t1
    refine ⟨⟨s, rfl⟩, g L0 H0 L H1 σ S1 _ fun u d k2 H2 S2 e2 t2 g2 => ?_⟩
    obtain ⟨ys, rfl, hz, q⟩ := g2
    cases t2 with
    | lst n ha t =>
      have e := t.strs_
      subst e
      exact ⟨s, _, ys, rfl, rfl, .inl (SqL.of ha), hz, c _ _ k2 H2 S2 (e1.trans e2) (.str _) q⟩
/-- "abcd".index(letter) -/
theorem ev_index (h : EvW K W tb ρ k fun d k2 => ∃ c : Nat, d = .str ⟨#[97 + c]⟩ ∧ c < 4 ∧ Φ (.int (c : Int)) k2) :
    EvW K W (tBM K "str" (fun x xs H Q => ∃ a b i rest, x = .str a ∧ xs = [.str b] ∧ Builtin.Str.occurrences a b 0 a.length 1 = i :: rest ∧ Q (.int (i : Nat)) H) (tC (.str (Str.ofString "abcd"))) (tCons tb tNil)) ρ k Φ := fun L0 H0 L H σ S Q c => by
  refine ⟨rfl, h L0 H0 L H σ S _ fun u d k2 H2 S2 e2 t2 g2 => ?_⟩
  obtain ⟨n, rfl, hn, q⟩ := g2
  cases t2
  exact ⟨_, _, n, [], rfl, rfl, occ_abcd hn, c _ _ k2 H2 S2 e2 (.int _) q⟩
/-! ### reading a list of one's own -/
theorem Stt.own_at {L0 L : List Addr} {H0 H : Hp} {σ : L2.St} {i : Nat} {ds : List PyData} (S : Stt K W L0 H0 L H σ ρ k) (h : ρ[i]? = some (.own ds)) : ∃ l xs, σ[i]? = some (some (.ref l)) ∧ H l = some (.lst xs) ∧ TA K (L ++ W.M) H xs ds := by
  obtain ⟨l, xs, h1, _, h3, h4⟩ := S.slots i _ h
  exact ⟨l, xs, h1, h3, h4⟩
theorem ev_ownLen {i : Nat} {ds : List PyData} (h : ρ[i]? = some (.own ds)) (q : Φ (.int (ds.length : Int)) k) : EvW K W (tCB (rLenQ K) (tCons (tVar i) tNil)) ρ k Φ := fun L0 H0 L H σ S Q c => by
  obtain ⟨l, xs, h1, h3, h4⟩ := S.own_at h
  exact ⟨_, h1, _, _, rfl, .inl (SqL.of h3), by rw [h4.len]; exact c _ _ k H S (Ext.refl _ _) (.int _) q⟩
theorem ev_ownIx {i : Nat} {ds : List PyData} (h : ρ[i]? = some (.own ds)) (hb : EvW K W tb ρ k fun x k1 => ∃ j : Nat, x = .int (j : Int) ∧ ∃ d, ds[j]? = some d ∧ Φ d k1) : EvW K W (tOp (rIxL K) (tVar i) tb) ρ k Φ := fun L0 H0 L H σ S Q c => by
  obtain ⟨l, xs, h1, h3, h4⟩ := S.own_at h
  refine ⟨_, h1, hb L0 H0 L H σ S _ fun v x k1 H1 S1 e1 t1 g => ?_⟩
  obtain ⟨j, rfl, d, hd, q⟩ := g
  cases t1
  obtain ⟨l', ys, g1, g3, g4⟩ := S1.own_at h
  rw [h1] at g1
  have e : l = l' := by injection g1 with g1; injection g1 with g1; injection g1
  subst e
  obtain ⟨v, e1', t⟩ := g4.at hd
  exact ⟨_, _, _, v, rfl, rfl, SqL.of g3, atI_nat e1', c v d k1 H1 S1 e1 t q⟩
theorem et_ownTruth {i : Nat} {ds : List PyData} (h : ρ[i]? = some (.own ds)) (q : Ψ (!ds.isEmpty) k) : EvT K W (fun σ H Q => (tVar i) σ H fun x H' => ∃ k, TruV K x H' k ∧ Q k H') ρ k Ψ := fun L0 H0 L H σ S Q c => by
  obtain ⟨l, xs, h1, h3, h4⟩ := S.own_at h
  exact ⟨_, h1, !ds.isEmpty, .inl ⟨_, SqL.of h3, by rw [h4.emp]⟩, c _ _ _ S (Ext.refl _ _) q⟩
end
/-! ### the deck -/
structure Deck (H : Hp) (p q : Addr) (n : Nat) : Prop where
  top : H p = some (.lst [.ref q, .int (n : Int)])
  cells : ∃ cs : List Int, H q = some (.lst (cs.map V.int)) ∧ (∀ c ∈ cs, 0 ≤ c) ∧ cs.length ≤ 63
theorem Deck.ne {H : Hp} {p q : Addr} {n : Nat} (d : Deck H p q n) : p ≠ q := by
  obtain ⟨cs, h, _⟩ := d.cells
  refine ne_of d.top h ?_
  intro e
  have e1 : [V.ref q, V.int (n : Int)] = cs.map V.int := HO.lst.inj e
  cases cs with
  | nil => cases e1
  | cons c cs =>
    have e2 := (List.cons.inj e1).1
    cases e2
theorem Deck.of {H H' : Hp} {p q : Addr} {n : Nat} (d : Deck H p q n) (hp : H' p = H p) (hq : H' q = H q) : Deck H' p q n := by
  obtain ⟨cs, h, r⟩ := d.cells
  exact ⟨hp.trans d.top, cs, hq.trans h, r⟩
/-- a world with a deck, at most k numbers drawn -/
def deckW (M : List Addr) (p q : Addr) (Hs : Hp) (t : Trk M Hs) (hp : p ∈ M) (hq : q ∈ M) : Wd Nat where
  M := M
  I := fun k _ H => (∃ n, n ≤ k ∧ Deck H p q n) ∧ ∀ b, b ∈ M → b ≠ p → b ≠ q → H b = Hs b
  plus := fun _ _ _ _ _ _ h => h
  loc := fun k _ H H' e _ h => ⟨let ⟨n, hn, d⟩ := h.1; ⟨n, hn, d.of (e p hp) (e q hq)⟩, fun b hb h1 h2 => (e b hb).trans (h.2 b hb h1 h2)⟩
  trk := fun k _ H h b hb z => by
    obtain ⟨⟨n, _, d⟩, r⟩ := h
    by_cases h1 : b = p
    · rw [h1, d.top] at z; cases z
    · by_cases h2 : b = q
      · obtain ⟨cs, hc, _⟩ := d.cells
        rw [h2, hc] at z; cases z
      · rw [r b hb h1 h2] at z
        exact t b hb z
/-- a def whose first argument is the deck: c numbers are drawn at most, what it gives has G -/
def spD (K : PySem.W.Frag) (n0 : Nat) (R : List PyData → Nat → (PyData → Prop) → Prop) : Sp := fun vs H Q _ => ∃ (M : List Addr) (p q : Addr) (n : Nat) (us : List V) (ds : List PyData) (c : Nat) (G : PyData → Prop),
  vs = .ref p :: us ∧ Deck H p q n ∧ p ∈ M ∧ q ∈ M ∧ TA K M H us ds ∧ Trk M H ∧ ds.length + 1 = n0 ∧ R ds c G ∧ n + c ≤ 1000000000 ∧
  ∀ v d H' n', Deck H' p q n' → n' ≤ n + c → Ext [p, q] H H' → T K M H' v d → G d → Q v H'
/-- a world that has the deck -/
class HasD (W : Wd Nat) (p q : outParam Addr) : Prop where
  memp : p ∈ W.M
  memq : q ∈ W.M
  get : ∀ k N H, W.I k N H → ∃ n, n ≤ k ∧ Deck H p q n
  put : ∀ k k' N H H' n', p ∈ N → q ∈ N → W.I k N H → Ext [p, q] H H' → Deck H' p q n' → n' ≤ k' → W.I k' N H'
instance {M : List Addr} {p q : Addr} {Hs : Hp} {t : Trk M Hs} {hp : p ∈ M} {hq : q ∈ M} : HasD (deckW M p q Hs t hp hq) p q where
  memp := hp
  memq := hq
  get := fun k N H h => h.1
  put := fun k k' N H H' n' _ _ h e d hn => ⟨⟨n', hn, d⟩, fun b hb h1 h2 => by
    have hh := h.2 b hb h1 h2
    cases z : H b with
    | none => exact absurd z ((deckW M p q Hs t hp hq).trk k N H h b hb)
    | some o =>
      rw [← hh, z]
      exact e b o (by simp [h1, h2]) z⟩
section
variable {K : PySem.W.Frag} {W : Wd Nat} {p q : Addr} {ρ : Rho} {k : Nat} {Φ : PyData → Nat → Prop} {tr : L2.TA}
theorem ev_callD [hd : HasD W p q] {n0 : Nat} {R : List PyData → Nat → (PyData → Prop) → Prop} {i : Nat} (h0 : ρ[i]? = some (.raw (.ref p)))
    (h : EvA K W tr ρ k fun ds k1 => ds.length + 1 = n0 ∧ ∃ c G, R ds c G ∧ k1 + c ≤ 1000000000 ∧ ∀ d, G d → Φ d (k1 + c)) : EvW K W (tCall (spD K n0 R) [] E0 (tCons (tVar i) tr)) ρ k Φ := fun L0 H0 L H σ S Q c => by
  refine ⟨.ref p, S.slots i _ h0, h L0 H0 L H σ S _ fun vs ds k1 H1 S1 e1 ta g => ?_⟩
  obtain ⟨hl, cc, G, hR, hk, g⟩ := g
  obtain ⟨n, hn, dk⟩ := hd.get _ _ _ S1.wd
  have pN : p ∈ L ++ W.M := List.mem_append_right _ hd.memp
  have qN : q ∈ L ++ W.M := List.mem_append_right _ hd.memq
  refine ⟨L ++ W.M, p, q, n, vs, ds, cc, G, by simp, dk, pN, qN, ta, S1.trk, hl, hR, by omega, fun v d H' n' dk' hn' e t' gd => ?_⟩
  have eM' : Ext W.M H1 H' := e.sub fun b hb => by
    rcases List.mem_cons.mp hb with rfl | hb
    · exact hd.memp
    · have : b = q := by simpa using hb
      rw [this]; exact hd.memq
  exact c v d _ H' (S1.ext eM' (hd.put k1 (k1 + cc) _ _ _ n' pN qN S1.wd e dk' (by omega))) (e1.trans eM') t' (g d gd)
end
/-- the start of a def whose first argument is the deck -/
def rest1 (N : List Str) (p : Addr) (ds : List PyData) : Rho := .raw (.ref p) :: (ds.map Slot.dat ++ List.replicate (N.length - (ds.length + 1)) .no)
theorem stt_startD {K : PySem.W.Frag} {γ : Type} {W : Wd γ} {N : List Str} {vs : List V} {ds : List PyData} {H : Hp} {k : γ} {p : Addr} (t : TA K W.M H vs ds) (wd : W.I k W.M H) : Stt K W [] H [] H (L2.start N (.ref p :: vs)) (rest1 N p ds) k := by
  have get_ : ∀ (i : Nat) (s : Slot), (rest1 N p ds)[i]? = some s → s = .no ∨ (i = 0 ∧ s = .raw (.ref p)) ∨ ∃ d j, i = j + 1 ∧ ds[j]? = some d ∧ s = .dat d := fun i s hs => by
    unfold rest1 at hs
    cases i with
    | zero => right; left; exact ⟨rfl, by simpa using hs.symm⟩
    | succ i =>
      rw [List.getElem?_cons_succ] at hs
      by_cases hi : i < ds.length
      · rw [List.getElem?_append_left (by simpa using hi)] at hs
        rw [List.getElem?_map] at hs
        obtain ⟨d, h1, h2⟩ := Option.map_eq_some_iff.mp hs
        exact .inr (.inr ⟨d, i, rfl, h1, h2.symm⟩)
      · rw [List.getElem?_append_right (by simpa using hi)] at hs
        exact .inl (List.eq_of_mem_replicate (List.mem_of_getElem? hs))
  refine ⟨Ext.refl _ _, (fun l hl => nomatch hl), (fun l hl => nomatch hl), W.trk k _ H wd, wd, ?_, fun i s hs => ?_, fun i j s u hs hu h1 _ _ => ?_⟩
  · rw [start_len]
    unfold rest1
    have := t.len
    simp only [List.length_cons, List.length_append, List.length_map, List.length_replicate, this]
    omega
  · rcases get_ i s hs with rfl | ⟨rfl, rfl⟩ | ⟨d, j, rfl, hd, rfl⟩
    · trivial
    · exact start_get (by simp)
    · obtain ⟨v, h1, h2⟩ := t.at hd
      exact ⟨v, start_get (by simpa using h1), h2⟩
  · rcases get_ i s hs with rfl | ⟨rfl, rfl⟩ | ⟨d, j, rfl, hd, rfl⟩ <;> cases h1
theorem spD.ok {K : PySem.W.Frag} {n0 : Nat} {R : List PyData → Nat → (PyData → Prop) → Prop} {N : List Str} {vs : List V} {H : Hp} {Q : VK} {E : XK} {t : TS} (h : spD K n0 R vs H Q E)
    (hb : ∀ (M : List Addr) (p q : Addr) (hp : p ∈ M) (hq : q ∈ M) (Hs : Hp) (tr : Trk M Hs) (ds : List PyData) (c n : Nat) (G : PyData → Prop), R ds c G → n + c ≤ 1000000000 →
      SW K (deckW M p q Hs tr hp hq) t (rest1 N p ds) n ⟨fun _ k => G .none ∧ k ≤ n + c, fun d k => G d ∧ k ≤ n + c, fun _ _ => False, fun _ _ => False⟩) : t { nx := fun _ H' => Q .non H', rt := Q } (L2.start N vs) H := by
  obtain ⟨M, p, q, n, us, ds, c, G, rfl, dk, hp, hq, ta, tr, _, hR, hn, qq⟩ := h
  have wd0 : (deckW M p q H tr hp hq).I n M H := ⟨⟨n, Nat.le_refl _, dk⟩, fun b _ _ _ => rfl⟩
  have fin : ∀ k' H', Ext ([] ++ (deckW M p q H tr hp hq).M) H H' → (deckW M p q H tr hp hq).I k' M H' → k' ≤ n + c → ∃ n', Deck H' p q n' ∧ n' ≤ n + c ∧ Ext [p, q] H H' := fun k' H' e wi hk => by
    obtain ⟨⟨n', hn', dk'⟩, oth⟩ := wi
    refine ⟨n', dk', by omega, fun b o nb hb => ?_⟩
    have h1 : b ≠ p := fun z => nb (by simp [z])
    have h2 : b ≠ q := fun z => nb (by simp [z])
    by_cases hm : b ∈ M
    · rw [oth b hm h1 h2]; exact hb
    · exact e b o hm hb
  refine hb M p q hp hq H tr ds c n G hR hn [] H [] H _ _ (stt_startD ta wd0) (fun L' H' σ' ρ' k' S' g => ?_) (fun v d k' H' e wi t' hd => ?_) (fun _ _ _ _ _ _ z => z.elim) (fun _ _ _ _ _ _ z => z.elim)
  · obtain ⟨n', a, b, e⟩ := fin k' H' S'.base S'.wdM g.2
    exact qq .non .none H' n' a b e .non g.1
  · obtain ⟨n', a, b, e⟩ := fin k' H' e wi hd.2
    exact qq v d H' n' a b e t' hd.1
theorem spD.len {K : PySem.W.Frag} {R : List PyData → Nat → (PyData → Prop) → Prop} {n : Nat} {vs : List V} {H : Hp} {Q : VK} {E : XK} (h : spD K n R vs H Q E) : vs.length = n := by
  obtain ⟨M, p, q, n', us, ds, c, G, rfl, dk, hp, hq, ta, tr, hl, hR, hn, qq⟩ := h
  rw [List.length_cons, ta.len]
  exact hl
end U

set_option Elab.async false
set_option linter.all false
set_option maxRecDepth 100000
set_option maxHeartbeats 2000000
namespace U
open PySem PySem.Spec PyProof.Rows L2
abbrev nI (n : Nat) : PyData := .int (n : Int)
abbrev nX (ws : List Nat) : PyData := .str (txt ws)
theorem at_map {α β : Type} {f : α → β} {us : List α} {i : Nat} {u : α} (h : us[i]? = some u) : (us.map f)[i]? = some (f u) := by rw [List.getElem?_map, h]; rfl
theorem itemD_map {α : Type} {f : α → PyData} {xs : List α} {j : Nat} (h : j < xs.length) : itemD (xs.map f) j = f xs[j] := by simp [itemD, h]
theorem cut_to (ws : List Nat) (n : Nat) : cutS (txt ws) none (some (n : Int)) = txt (ws.take n) := by
  by_cases h : n ≤ ws.length
  · exact txt_take ws h
  · rw [txt_cut, HT.sIx_nat, HT.sIx_none, List.drop_zero, Nat.sub_zero, Nat.min_eq_right (by omega), List.take_length, List.take_of_length_le (by omega)]
theorem cut_from (ws : List Nat) (n : Nat) : cutS (txt ws) (some (n : Int)) none = txt (ws.drop n) := by
  by_cases h : n ≤ ws.length
  · exact txt_drop ws h
  · rw [txt_cut, HT.sIx_nat, HT.sIx_none, Nat.min_eq_right (by omega), List.drop_length, List.drop_eq_nil_of_le (by omega), List.take_nil]
theorem if_split {P Q : Prop} {c : Bool} (h1 : c = true → P) (h2 : c = false → Q) : if c = true then P else Q := by
  cases c with
  | true => exact iteT (h1 rfl)
  | false => exact iteF (h2 rfl)
section
variable {K : PySem.W.Frag} {γ : Type} {W : Wd γ} {ρ : Rho} {k : γ} {Φ : PyData → γ → Prop}
theorem rd_ixT0 {a : PyData} {ds : List PyData} (q : Φ a k) : RD K W (rIxT K) (.tuple (a :: ds)) (.int 0) ρ k Φ := rd_ixT (j := 0) rfl rfl q
theorem rd_ixT1 {a b : PyData} {ds : List PyData} (q : Φ b k) : RD K W (rIxT K) (.tuple (a :: b :: ds)) (.int 1) ρ k Φ := rd_ixT (j := 1) rfl rfl q
theorem rd_ixT2 {a b c : PyData} {ds : List PyData} (q : Φ c k) : RD K W (rIxT K) (.tuple (a :: b :: c :: ds)) (.int 2) ρ k Φ := rd_ixT (j := 2) rfl rfl q
theorem rd_ixTm {α : Type} {f : α → PyData} {xs : List α} {x : α} {j : Nat} (h : xs[j]? = some x) (q : Φ (f x) k) : RD K W (rIxT K) (.tuple (xs.map f)) (.int (j : Int)) ρ k Φ := rd_ixT (j := j) rfl (at_map h) q
theorem rd_ixX {ws : List Nat} {j : Nat} (hz : ws.length ≤ 100000) (h : j < ws.length) (q : Φ (.str ⟨#[97 + ws[j]]⟩) k) : RD K W rIxS (nX ws) (.int (j : Int)) ρ k Φ := rd_ixS (j := j) (c := 97 + ws[j]) (by rw [txt_len]; exact hz) rfl (by rw [txt_get]; simp [h]) q
theorem rc_lenX {ws : List Nat} (hz : ws.length ≤ 100000) (q : Φ (nI ws.length) k) : RCD K W (fun xs H Q => ∃ z, xs = [.str z] ∧ z.length ≤ sizeLine ∧ Q (.int z.length) H) [nX ws] ρ k Φ := rc_lenS (by rw [txt_len]; exact hz) (by rw [txt_len]; exact q)
theorem rsl_to {ws : List Nat} {n : Nat} (hz : ws.length ≤ 100000) (q : Φ (nX (ws.take n)) k) : RSl K W rSlS (nX ws) none (some (n : Int)) ρ k Φ := rsl_S (by rw [txt_len]; exact hz) (by rw [cut_to]; exact q)
theorem rsl_from {ws : List Nat} {n : Nat} (hz : ws.length ≤ 100000) (q : Φ (nX (ws.drop n)) k) : RSl K W rSlS (nX ws) (some (n : Int)) none ρ k Φ := rsl_S (by rw [txt_len]; exact hz) (by rw [cut_from]; exact q)
theorem rd_inX {c : Nat} {ws : List Nat} (q : Φ (.bool (decide (c ∈ ws))) k) : RD K W (fun x y H Q => ∃ (c : Nat) (z : Str), x = .str ⟨#[c]⟩ ∧ y = .str z ∧ Q (.bl (decide (c ∈ z.cps.toList))) H) (.str ⟨#[97 + c]⟩) (nX ws) ρ k Φ := rd_inS (by rw [txt_mem]; exact q)
theorem rd_ninX {c : Nat} {ws : List Nat} (q : Φ (.bool (!decide (c ∈ ws))) k) : RD K W (fun x y H Q => ∃ (c : Nat) (z : Str), x = .str ⟨#[c]⟩ ∧ y = .str z ∧ Q (.bl (!decide (c ∈ z.cps.toList))) H) (.str ⟨#[97 + c]⟩) (nX ws) ρ k Φ := rd_ninS (by rw [txt_mem]; exact q)
theorem rd_eqXX {a b : List Nat} (q : Φ (.bool (decide (a = b))) k) : RD K W rEq (nX a) (nX b) ρ k Φ := rd_eqX (by rw [txt_dec]; exact q)
theorem rd_neXX {a b : List Nat} (q : Φ (.bool (!decide (a = b))) k) : RD K W rNe (nX a) (nX b) ρ k Φ := rd_neX (by rw [txt_dec]; exact q)
end
/-! ### the deck's defs -/
theorem Deck.ext {H H' : Hp} {p q : Addr} {n : Nat} {M : List Addr} (d : Deck H p q n) (e : Ext M H H') (hp : p ∉ M) (hq : q ∉ M) : Deck H' p q n := by
  obtain ⟨cs, h, r⟩ := d.cells
  exact ⟨e _ _ hp d.top, cs, e _ _ hq h, r⟩
theorem Deck.same {H H' : Hp} {p q : Addr} {n : Nat} (d : Deck H p q n) (e : Same H H') : Deck H' p q n := d.ext (M := []) (Ext.same e) (by simp) (by simp)
def spDraw : Sp := fun vs H Q _ => ∃ (p q : Addr) (n : Nat) (many : Int), vs = [.ref p, .int many] ∧ Deck H p q n ∧ n ≤ 1000000000 ∧ 0 < many ∧ many ≤ 1000000000 ∧
  ∀ (H' : Hp) (r : Int), Deck H' p q (n + 1) → Ext [p, q] H H' → 0 ≤ r → r < many → Q (.int r) H'
def spDeck (K : PySem.W.Frag) : Sp := fun vs H Q _ => ∃ (a : Addr) (ns : List Int), vs = [.ref a] ∧ SqL K H a (ns.map V.int) ∧ ns.length ≤ 63 ∧
  ∀ (H' : Hp) (p q : Addr), H p = none → H q = none → Deck H' p q 0 → Same H H' → Q (.ref p) H'
def R_draw (ds : List PyData) (c : Nat) (G : PyData → Prop) : Prop := ∃ many : Int, ds = [.int many] ∧ 0 < many ∧ many ≤ 1000000000 ∧ c = 1 ∧ G = fun d => ∃ r : Nat, (r : Int) < many ∧ d = nI r
theorem FnOk.less {P : Program} {w : World} {K : PySem.W.Frag} {mg : Str → Option Value} {base : Heap} {k : Nat} {f : Addr} {fd : FuncData} {ps : List Str} {sp sp' : Sp} (F : FnOk P w K mg base CX0 k f fd ps sp) (h : ∀ vs H Q E, sp' vs H Q E → sp vs H Q E) : FnOk P w K mg base CX0 k f fd ps sp' :=
  ⟨fun vs H Q E g => F.len vs H Q E (h _ _ _ _ g), fun A o s H a us vs Q E hr e hb r g => F.run A o s H a us vs Q E hr e hb r (h _ _ _ _ g)⟩
section
variable {K : PySem.W.Frag} {W : Wd Nat} {p q : Addr} {ρ : Rho} {k : Nat} {Φ : PyData → Nat → Prop} {ta : L2.TA}
/-- a number drawn -/
theorem ev_draw [hd : HasD W p q] {i : Nat} (h0 : ρ[i]? = some (.raw (.ref p))) (h : EvA K W ta ρ k fun ds k1 => ∃ many : Int, ds = [.int many] ∧ 0 < many ∧ many ≤ 1000000000 ∧ k1 + 1 ≤ 1000000000 ∧ ∀ r : Nat, (r : Int) < many → Φ (nI r) (k1 + 1)) :
    EvW K W (tCall (spD K 2 R_draw) [] E0 (tCons (tVar i) ta)) ρ k Φ := ev_callD h0 fun L0 H0 L H σ S Q c => h L0 H0 L H σ S Q fun vs ds k1 H2 S2 e2 t2 g => c vs ds k1 H2 S2 e2 t2 (by
  obtain ⟨many, rfl, g0, g1, g2, g3⟩ := g
  exact ⟨rfl, 1, _, ⟨many, rfl, g0, g1, rfl, rfl⟩, g2, fun d ⟨r, hr, e⟩ => by rw [e]; exact g3 r hr⟩)
end
def R_one (ds : List PyData) (c : Nat) (G : PyData → Prop) : Prop := c = 1 ∧ ((∃ es, (ds = [.list es] ∨ ds = [.tuple es]) ∧ es ≠ [] ∧ es.length ≤ 1000 ∧ G = fun d => d ∈ es) ∨
  ∃ ws : List Nat, ds = [.str (txt ws)] ∧ ws ≠ [] ∧ ws.length ≤ 1000 ∧ G = fun d => ∃ x ∈ ws, d = .str (txt [x]))
def OneOk (Ψ : PyData → Prop) : PyData → Prop
  | .list es => es ≠ [] ∧ es.length ≤ 1000 ∧ ∀ d, d ∈ es → Ψ d
  | .tuple es => es ≠ [] ∧ es.length ≤ 1000 ∧ ∀ d, d ∈ es → Ψ d
  | .str z => ∃ ws, z = txt ws ∧ ws ≠ [] ∧ ws.length ≤ 1000 ∧ ∀ x, x ∈ ws → Ψ (.str (txt [x]))
  | _ => False
section
variable {K : PySem.W.Frag} {W : Wd Nat} {p q : Addr} {ρ : Rho} {k : Nat} {Φ : PyData → Nat → Prop} {ta : L2.TA}
/-- one of some -/
theorem ev_one [hd : HasD W p q] {i : Nat} (h0 : ρ[i]? = some (.raw (.ref p))) (h : EvA K W ta ρ k fun ds k1 => ∃ x, ds = [x] ∧ k1 + 1 ≤ 1000000000 ∧ OneOk (fun d => Φ d (k1 + 1)) x) :
    EvW K W (tCall (spD K 2 R_one) [] E0 (tCons (tVar i) ta)) ρ k Φ := ev_callD h0 fun L0 H0 L H σ S Q c => h L0 H0 L H σ S Q fun vs ds k1 H2 S2 e2 t2 g => c vs ds k1 H2 S2 e2 t2 (by
  obtain ⟨x, rfl, g0, g1⟩ := g
  refine ⟨rfl, 1, ?_⟩
  cases x with
  | list es => exact ⟨_, ⟨rfl, .inl ⟨es, .inl rfl, g1.1, g1.2.1, rfl⟩⟩, g0, g1.2.2⟩
  | tuple es => exact ⟨_, ⟨rfl, .inl ⟨es, .inr rfl, g1.1, g1.2.1, rfl⟩⟩, g0, g1.2.2⟩
  | str z =>
    obtain ⟨ws, rfl, a, b, g⟩ := g1
    exact ⟨_, ⟨rfl, .inr ⟨ws, rfl, a, b, rfl⟩⟩, g0, fun d ⟨y, hy, e⟩ => by rw [e]; exact g y hy⟩
  | _ => exact g1.elim)
end
section
variable {K : PySem.W.Frag} {γ : Type} {W : Wd γ} {ρ : Rho} {k : γ} {Φ : PyData → γ → Prop} {x y : PyData}
/-- an item of what may be a list, a tuple or a text -/
def nthD (x : PyData) (j : Nat) : Option PyData := match x with
  | .list es => es[j]?
  | .tuple es => es[j]?
  | .str z => z.cps[j]?.map fun c => .str ⟨#[c]⟩
  | _ => none
theorem rd_ixQ {i : Int} {j : Nat} {d : PyData} (hi : i = (j : Int)) (hz : sizeOk x) (h : nthD x j = some d) (q : Φ d k) : RD K W (rIx K) x (.int i) ρ k Φ := rd_ q fun N H vx vy tx ty Q c => by
  subst hi
  cases ty
  cases tx with
  | lst n ha t =>
    obtain ⟨v, h1, h2⟩ := t.at h
    exact .inl ⟨_, _, _, v, rfl, rfl, SqL.of ha, atI_nat h1, c v h2⟩
  | tup n ha t =>
    obtain ⟨v, h1, h2⟩ := t.at h
    exact .inr (.inl ⟨_, _, _, v, rfl, rfl, SqT.of ha, atI_nat h1, c v h2⟩)
  | str z =>
    obtain ⟨cc, h1, rfl⟩ := Option.map_eq_some_iff.mp h
    exact .inr (.inr ⟨z, _, cc, rfl, rfl, Nat.le_trans hz (by decide), atI_nat (by simpa using h1), c _ (.str _)⟩)
  | _ => cases h
end

theorem fine_X {n : Nat} {ws : List Nat} (h : ∀ c ∈ ws, c < 1000) (hn : ws.length ≤ n) : Fine n 0 (nX ws) := by
  refine ⟨rfl, ?_, by show (txt ws).cps.size ≤ n; rw [txt_size]; exact hn, Nat.le_refl _⟩
  show ((txt ws).cps.toList.all fun c => decide (c < 16 ^ 8)) = true
  rw [List.all_eq_true]
  intro c hc
  obtain ⟨d, hd, rfl⟩ : ∃ d ∈ ws, c = 97 + d := by
    unfold txt at hc
    simp only [List.mem_map] at hc
    obtain ⟨d, hd, e⟩ := hc
    exact ⟨d, hd, e.symm⟩
  have := h d hd
  have h2 : (1100 : Nat) < 16 ^ 8 := by decide
  exact decide_eq_true (by omega)
section
variable {K : PySem.W.Frag} {γ : Type} {W : Wd γ} {ρ : Rho} {k : γ} {Φ : PyData → γ → Prop}
theorem rd_neX0 {a : List Nat} (q : Φ (.bool (!decide (a = []))) k) : RD K W rNe (nX a) (.str (Str.ofString "")) ρ k Φ := by rw [txt_nil]; exact rd_neXX q
theorem rd_eqX0 {a : List Nat} (q : Φ (.bool (decide (a = []))) k) : RD K W rEq (nX a) (.str (Str.ofString "")) ρ k Φ := by rw [txt_nil]; exact rd_eqXX q
end
/-! ### slots forgotten -/
inductive Le : Rho → Rho → Prop
  | nil : Le [] []
  | no {s : Slot} {a b : Rho} : Le a b → Le (.no :: a) (s :: b)
  | same {s : Slot} {a b : Rho} : Le a b → Le (s :: a) (s :: b)
theorem Le.refl : ∀ (a : Rho), Le a a
  | [] => .nil
  | _ :: a => .same (Le.refl a)
theorem Le.len : ∀ {a b : Rho}, Le a b → a.length = b.length
  | _, _, .nil => rfl
  | _, _, .no h => by rw [List.length_cons, List.length_cons, h.len]
  | _, _, .same h => by rw [List.length_cons, List.length_cons, h.len]
theorem Le.get : ∀ {a b : Rho}, Le a b → ∀ (i : Nat) (s : Slot), a[i]? = some s → s = .no ∨ b[i]? = some s
  | _, _, .nil, i, s, h => by simp at h
  | _, _, .no g, 0, s, h => by simp at h; exact .inl h.symm
  | _, _, .no g, i + 1, s, h => by simpa using g.get i s (by simpa using h)
  | _, _, .same g, 0, s, h => by simp at h; exact .inr (by simp [h])
  | _, _, .same g, i + 1, s, h => by simpa using g.get i s (by simpa using h)
section
variable {K : PySem.W.Frag} {γ : Type} {W : Wd γ} {ρ : Rho} {k : γ} {P : Ps γ} {g : TG} {a b : TS} {wi : TI} {tt : TT}
theorem Stt.le {L0 L : List Addr} {H0 H : Hp} {σ : L2.St} {ρ0 : Rho} (S : Stt K W L0 H0 L H σ ρ k) (l : Le ρ0 ρ) : Stt K W L0 H0 L H σ ρ0 k := S.weaken l.len l.get
theorem sw_wk (h : SW K W a ρ k { P with nx := fun ρ' k' => ∃ ρ0, Le ρ0 ρ' ∧ P.nx ρ0 k' }) : SW K W a ρ k P := fun L0 H0 L H σ D S nx rt bk ct =>
  h L0 H0 L H σ D S (fun L' H' σ' ρ' k' S' ⟨ρ0, l, q⟩ => nx L' H' σ' ρ0 k' (S'.le l) q) rt bk ct
theorem sw_le {ρ0 : Rho} (l : Le ρ0 ρ) (h : SW K W a ρ0 k P) : SW K W a ρ k P := fun L0 H0 L H σ D S nx rt bk ct => h L0 H0 L H σ D (S.le l) nx rt bk ct
theorem tg_le {js : Nat → Prop} {d : PyData} {Ψ : Rho → Prop} {ρ0 : Rho} (l : Le ρ0 ρ) (h : TgW K W g js d ρ0 Ψ) : TgW K W g js d ρ Ψ := fun L0 H0 L H σ k v S t Q c => h L0 H0 L H σ k v (S.le l) t Q c
/-- for, slots forgotten at each turn -/
theorem sw_forW (h : EvI K W wi ρ k fun n f k1 => ∃ J : Nat → Rho → γ → Prop, (∃ ρ0, Le ρ0 ρ ∧ J 0 ρ0 k1) ∧
      (∀ i ρ1 k2, i < n → J i ρ1 k2 → TgW K W g (fun _ => True) (f i) ρ1 fun ρ2 => SW K W b ρ2 k2 { P with nx := fun ρ' k' => ∃ ρ0, Le ρ0 ρ' ∧ J (i + 1) ρ0 k', ct := fun ρ' k' => ∃ ρ0, Le ρ0 ρ' ∧ J (i + 1) ρ0 k', bk := P.nx }) ∧ ∀ ρ1 k2, J n ρ1 k2 → P.nx ρ1 k2) : SW K W (tFor wi g b) ρ k P :=
  sw_wk (sw_for fun L0 H0 L H σ S R c => h L0 H0 L H σ S R fun J n f k' H2 S2 e wd ⟨Jv, j0, turn, done⟩ => c J n f k' H2 S2 e wd
    ⟨fun i ρ k => ∃ ρ0, Le ρ0 ρ ∧ Jv i ρ0 k, j0, fun i ρ1 k2 hi ⟨ρ0, l, j⟩ => tg_le l (fun L0 H0 L H σ k v S t Q c => turn i ρ0 k2 hi j L0 H0 L H σ k v S t Q fun σ' ρ' S' a b body => c σ' ρ' S' a b
      (body.mono (fun _ _ q => q) (fun _ _ q => q) (fun ρ k q => ⟨ρ, Le.refl ρ, q⟩) (fun _ _ q => q))), fun ρ1 k2 ⟨ρ0, l, j⟩ => ⟨ρ0, l, done ρ0 k2 j⟩⟩)
end
/-! ### a law -/
def spLaw (K : PySem.W.Frag) : Sp := fun vs H Q _ => ∃ (a : Addr) (ns : List Int), vs = [.ref a] ∧ SqL K H a (ns.map V.int) ∧ ns.length ≤ 63 ∧ ∀ H', Q (.bl true) H'
theorem spLaw.len {K : PySem.W.Frag} {vs : List V} {H : Hp} {Q : VK} {E : XK} (h : spLaw K vs H Q E) : vs.length = 1 := by
  obtain ⟨_, _, rfl, _⟩ := h
  rfl
theorem spLaw.ok {K : PySem.W.Frag} {N : List Str} {vs : List V} {H : Hp} {Q : VK} {E : XK} {rest : TS} (n : Nat) (hN : N.length = n + 2) (h : spLaw K vs H Q E)
    (hb : ∀ (M : List Addr) (p q : Addr) (hp : p ∈ M) (hq : q ∈ M) (Hs : Hp) (tr : Trk M Hs), SW K (deckW M p q Hs tr hp hq) rest (.no :: .raw (.ref p) :: List.replicate n .no) 0 ⟨fun _ _ => False, fun d _ => d = .bool true, fun _ _ => False, fun _ _ => False⟩) :
    tSeq (tAsg (tCall (spDeck K) [] E0 (tCons (tVar 0) tNil)) (gName 1)) rest { nx := fun _ H' => Q .non H', rt := Q } (L2.start N vs) H := by
  obtain ⟨a, ns, rfl, hS, hl, k⟩ := h
  refine ⟨.ref a, start_get (by simp), a, ns, rfl, hS, hl, fun H' p q hp0 hq0 dk sm => ?_⟩
  have tr : Trk [p, q] H' := fun b hb z => by
    rcases List.mem_cons.mp hb with rfl | hb
    · rw [dk.top] at z; cases z
    · have : b = q := by simpa using hb
      subst this
      obtain ⟨cs, hc, _⟩ := dk.cells
      rw [hc] at z; cases z
  have es : L2.start N [.ref a] = some (.ref a) :: none :: List.replicate n none := by
    unfold L2.start
    rw [hN]
    show some (V.ref a) :: List.replicate (n + 1) none = _
    rfl
  show rest _ ((L2.start N [.ref a]).set 1 (some (.ref p))) H'
  rw [es]
  have S : Stt K (deckW [p, q] p q H' tr (by simp) (by simp)) [] H' [] H' (some (.ref a) :: some (.ref p) :: List.replicate n none) (.no :: .raw (.ref p) :: List.replicate n .no) 0 := by
    have get_ : ∀ (i : Nat) (s : Slot), (Slot.no :: Slot.raw (.ref p) :: List.replicate n Slot.no)[i]? = some s → s = .no ∨ (i = 1 ∧ s = .raw (.ref p)) := fun i s hs => by
      match i, hs with
      | 0, hs => left; simpa using hs.symm
      | 1, hs => right; exact ⟨rfl, by simpa using hs.symm⟩
      | i + 2, hs => left; exact List.eq_of_mem_replicate (List.mem_of_getElem? (by simpa using hs))
    refine ⟨Ext.refl _ _, (fun l hl => nomatch hl), (fun l hl => nomatch hl), tr, ⟨⟨0, Nat.le_refl _, dk⟩, fun b _ _ _ => rfl⟩, by simp, fun i s hs => ?_, fun i j s u hs hu h1 _ _ => ?_⟩
    · rcases get_ i s hs with rfl | ⟨rfl, rfl⟩
      · trivial
      · rfl
    · rcases get_ i s hs with rfl | ⟨rfl, rfl⟩ <;> cases h1
  refine hb [p, q] p q (by simp) (by simp) H' tr [] H' [] H' _ _ S (fun _ _ _ _ _ _ z => z.elim) (fun v d k' H2 _ _ t e => ?_) (fun _ _ _ _ _ _ z => z.elim) (fun _ _ _ _ _ _ z => z.elim)
  subst e
  cases t
  exact k H2
abbrev sp_law (K : PySem.W.Frag) : Sp := spLaw K
theorem sp_law_end {K : PySem.W.Frag} {H : Hp} {a : Addr} {ns : List Int} (hl : ns.length ≤ 63) (hS : SqL K H a (ns.map V.int)) : sp_law K [.ref a] H (fun v _ => v = .bl true) E0 := ⟨a, ns, rfl, hS, hl, fun _ => rfl⟩
end U

set_option Elab.async false
set_option linter.all false
set_option maxRecDepth 100000
set_option maxHeartbeats 2000000
namespace U
open PySem PySem.Spec PyProof.Rows L2
/-! ### dicts of one's own -/
def keyD : Key → PyData
  | .inl i => .int i
  | .inr x => .str x
def lookD (kvs : List (Key × PyData)) (k : Key) : Option PyData := (kvs.find? fun kv => decide (kv.1 = k)).map (·.2)
def putD (kvs : List (Key × PyData)) (k : Key) (d : PyData) : List (Key × PyData) := if (kvs.any fun kv => decide (kv.1 = k)) = true then kvs.map (fun kv => if kv.1 = k then (kv.1, d) else kv) else kvs ++ [(k, d)]
theorem lookD_cons (p : Key × PyData) (kvs : List (Key × PyData)) (j : Key) : lookD (p :: kvs) j = if p.1 = j then some p.2 else lookD kvs j := by
  unfold lookD
  by_cases e : p.1 = j <;> simp [e]
theorem lookD_any (kvs : List (Key × PyData)) (k : Key) : (kvs.any fun kv => decide (kv.1 = k)) = (lookD kvs k).isSome := by
  induction kvs with
  | nil => rfl
  | cons p r ih =>
    rw [List.any_cons, lookD_cons, ih]
    by_cases e : p.1 = k <;> simp [e]
theorem lookD_map (k j : Key) (d : PyData) (kvs : List (Key × PyData)) : lookD (kvs.map fun kv => if kv.1 = k then (kv.1, d) else kv) j = (lookD kvs j).map fun x => if j = k then d else x := by
  induction kvs with
  | nil => rfl
  | cons p r ih =>
    rw [List.map_cons, lookD_cons, lookD_cons, ih]
    by_cases e : p.1 = k
    · rw [if_pos e]
      by_cases f : p.1 = j
      · rw [if_pos f, if_pos f, Option.map_some, if_pos (f.symm.trans e)]
      · rw [if_neg f, if_neg f]
    · rw [if_neg e]
      by_cases f : p.1 = j
      · rw [if_pos f, if_pos f, Option.map_some, if_neg (fun z => e (f.trans z))]
      · rw [if_neg f, if_neg f]
theorem lookD_app (k j : Key) (d : PyData) (kvs : List (Key × PyData)) (h : lookD kvs k = none) : lookD (kvs ++ [(k, d)]) j = if j = k then some d else lookD kvs j := by
  induction kvs with
  | nil =>
    rw [List.nil_append, lookD_cons]
    by_cases e : k = j
    · rw [if_pos e, if_pos e.symm]
    · rw [if_neg e, if_neg (fun z => e z.symm)]
  | cons p r ih =>
    rw [lookD_cons] at h
    by_cases e : p.1 = k
    · rw [if_pos e] at h; cases h
    · rw [if_neg e] at h
      rw [List.cons_append, lookD_cons, lookD_cons, ih h]
      by_cases f : p.1 = j
      · rw [if_pos f, if_pos f, if_neg (fun z => e (f.trans z))]
      · rw [if_neg f, if_neg f]
theorem lookD_put (kvs : List (Key × PyData)) (k j : Key) (d : PyData) : lookD (putD kvs k d) j = if j = k then some d else lookD kvs j := by
  unfold putD
  rw [lookD_any]
  cases h : lookD kvs k with
  | none => simp only [Option.isSome_none, Bool.false_eq_true, if_false]; exact lookD_app k j d kvs h
  | some x =>
    simp only [Option.isSome_some, if_true]
    rw [lookD_map]
    by_cases e : j = k
    · subst e; simp [h]
    · cases lookD kvs j <;> simp [e]
theorem length_putD (kvs : List (Key × PyData)) (k : Key) (d : PyData) : (putD kvs k d).length ≤ kvs.length + 1 := by
  unfold putD
  split <;> simp
theorem keys_putD (kvs : List (Key × PyData)) (k : Key) (d : PyData) (h : lookD kvs k = none) : putD kvs k d = kvs ++ [(k, d)] := by
  unfold putD
  rw [lookD_any, h]
  simp
section
variable {K : PySem.W.Frag} {N : List Addr} {H : Hp}
theorem keyD_T {v : V} {key : Key} (t : T K N H v (keyD key)) : v = kV key := by
  cases key with
  | inl i => cases t; rfl
  | inr x => cases t; rfl
theorem T_keyD (key : Key) : T K N H (kV key) (keyD key) := by
  cases key with
  | inl i => exact .int i
  | inr x => exact .str x
theorem KD.len {vs : List (Key × V)} {ds : List (Key × PyData)} (h : KD K N H vs ds) : vs.length = ds.length := by
  induction h with
  | nil => rfl
  | cons _ _ ih => rw [List.length_cons, List.length_cons, ih]
theorem KD.look {vs : List (Key × V)} {ds : List (Key × PyData)} (h : KD K N H vs ds) (key : Key) : (valV vs key = none ∧ lookD ds key = none) ∨ ∃ v d, valV vs key = some v ∧ lookD ds key = some d ∧ T K N H v d := by
  induction h with
  | nil => exact .inl ⟨rfl, rfl⟩
  | @cons k v d vs ds t h ih =>
    unfold valV lookD at ih ⊢
    by_cases e : k = key
    · right
      refine ⟨v, d, ?_, ?_, t⟩ <;> simp [e]
    · simp only [List.find?_cons, decide_eq_false e]
      exact ih
theorem KD.at {vs : List (Key × V)} {ds : List (Key × PyData)} (h : KD K N H vs ds) : ∀ (i : Nat) (key : Key) (v : V), vs[i]? = some (key, v) → ∃ d, ds[i]? = some (key, d) := by
  induction h with
  | nil => intro i key v e; simp at e
  | @cons k v d vs ds t h ih =>
    intro i key u e
    cases i with
    | zero =>
      simp only [List.getElem?_cons_zero, Option.some.injEq, Prod.mk.injEq] at e
      exact ⟨d, by simp [e.1]⟩
    | succ i => simpa using ih i key u (by simpa using e)
end
section
variable {K : PySem.W.Frag} {N : List Addr} {H : Hp}
theorem KD.anyk {vs : List (Key × V)} {ds : List (Key × PyData)} (h : KD K N H vs ds) (key : Key) : (vs.any fun kv => decide (kv.1 = key)) = ds.any fun kv => decide (kv.1 = key) := by
  induction h with
  | nil => rfl
  | cons _ _ ih => rw [List.any_cons, List.any_cons, ih]
theorem KD.put {vs : List (Key × V)} {ds : List (Key × PyData)} (h : KD K N H vs ds) (key : Key) {v : V} {d : PyData} (t : T K N H v d) : KD K N H (putK vs key v) (putD ds key d) := by
  unfold putK putD
  rw [h.anyk]
  split
  · rename_i hh; clear hh
    induction h with
    | nil => exact .nil
    | @cons k x y vs ds tx h ih =>
      rw [List.map_cons, List.map_cons]
      by_cases e : k = key
      · simp only [e, if_true]; exact .cons t ih
      · simp only [e, if_false]; exact .cons tx ih
  · rename_i hh; clear hh
    induction h with
    | nil => exact .cons t .nil
    | cons tx h ih => exact .cons tx ih
end
section
variable {K : PySem.W.Frag} {γ : Type} {W : Wd γ} {ρ : Rho} {k : γ} {Φ : PyData → γ → Prop} {P : Ps γ} {ty tv te : TE} {i : Nat} {kvs : List (Key × PyData)}
/-- the dict of a slot, locked or not -/
def DSlot (kvs : List (Key × PyData)) (s : Slot) : Prop := s = .ownD kvs ∨ s = .lck kvs
theorem Stt.dict {L0 L : List Addr} {H0 H : Hp} {σ : L2.St} {s : Slot} (S : Stt K W L0 H0 L H σ ρ k) (h : ρ[i]? = some s) (hd : DSlot kvs s) : ∃ l vs, σ[i]? = some (some (.ref l)) ∧ l ∈ L ∧ Rd H l (.dK vs) ∧ KD K (L ++ W.M) H vs kvs := by
  have q := S.slots i s h
  rcases hd with rfl | rfl
  · obtain ⟨l, vs, h1, h2, h3, h4⟩ := q
    exact ⟨l, vs, h1, h2, .inl h3, h4⟩
  · obtain ⟨l, vs, od, h1, h2, h3, h4⟩ := q
    exact ⟨l, vs, h1, h2, .inr ⟨od, h3⟩, h4⟩
theorem ref_eq {o : Option (Option V)} {a b : Addr} (h1 : o = some (some (.ref a))) (h2 : o = some (some (.ref b))) : a = b := by
  rw [h1] at h2
  injection h2 with h2; injection h2 with h2; injection h2
/-- d[k], there -/
theorem ev_dget {s : Slot} (h0 : ρ[i]? = some s) (hd : DSlot kvs s) (h : EvW K W ty ρ k fun x k1 => ∃ key d, x = keyD key ∧ lookD kvs key = some d ∧ Φ d k1) : EvW K W (tDGet (tVar i) ty) ρ k Φ := fun L0 H0 L H σ S Q c => by
  obtain ⟨l, vs, e1, e2, e3, e4⟩ := S.dict h0 hd
  refine ⟨_, e1, h L0 H0 L H σ S _ fun v x k1 H1 S1 e t g => ?_⟩
  obtain ⟨key, d, rfl, hl, q⟩ := g
  obtain ⟨l', vs', f1, f2, f3, f4⟩ := S1.dict h0 hd
  obtain rfl := ref_eq e1 f1
  rcases f4.look key with ⟨_, z⟩ | ⟨u, d', h1, h2, h3⟩
  · rw [z] at hl; cases hl
  · rw [h2] at hl
    cases hl
    exact ⟨l, u, rfl, .inl ⟨vs', key, f3, keyD_T t, h1.symm⟩, c u d k1 H1 S1 e h3 q⟩
/-- d.get(k) -/
theorem ev_dget1 {s : Slot} (h0 : ρ[i]? = some s) (hd : DSlot kvs s) (h : EvW K W ty ρ k fun x k1 => ∃ key, x = keyD key ∧ Φ ((lookD kvs key).getD .none) k1) : EvW K W (tDGet1 (tVar i) ty) ρ k Φ := fun L0 H0 L H σ S Q c => by
  obtain ⟨l, vs, e1, e2, e3, e4⟩ := S.dict h0 hd
  refine ⟨_, e1, l, rfl, .inl ⟨vs, e3⟩, h L0 H0 L H σ S _ fun v x k1 H1 S1 e t g => ?_⟩
  obtain ⟨key, rfl, q⟩ := g
  obtain ⟨l', vs', f1, f2, f3, f4⟩ := S1.dict h0 hd
  obtain rfl := ref_eq e1 f1
  rcases f4.look key with ⟨h1, z⟩ | ⟨u, d', h1, h2, h3⟩
  · refine ⟨none, .inl ⟨vs', key, f3, keyD_T t, h1.symm⟩, c .non .none k1 H1 S1 e .non ?_⟩
    rw [z] at q
    exact q
  · refine ⟨some u, .inl ⟨vs', key, f3, keyD_T t, h1.symm⟩, c u d' k1 H1 S1 e h3 ?_⟩
    rw [h2] at q
    exact q
/-- k in d -/
theorem ev_din {s : Slot} (h0 : ρ[i]? = some s) (hd : DSlot kvs s) (h : EvW K W ty ρ k fun x k1 => ∃ key, x = keyD key ∧ Φ (.bool (lookD kvs key).isSome) k1) : EvW K W (tDIn ty (tVar i)) ρ k Φ := fun L0 H0 L H σ S Q c =>
  h L0 H0 L H σ S _ fun v x k1 H1 S1 e t g => by
    obtain ⟨key, rfl, q⟩ := g
    obtain ⟨l', vs', f1, f2, f3, f4⟩ := S1.dict h0 hd
    rcases f4.look key with ⟨h1, z⟩ | ⟨u, d', h1, h2, h3⟩
    · refine ⟨_, f1, l', none, rfl, .inl ⟨vs', key, f3, keyD_T t, h1.symm⟩, c _ _ k1 H1 S1 e (.bl _) ?_⟩
      rw [z] at q
      exact q
    · refine ⟨_, f1, l', some u, rfl, .inl ⟨vs', key, f3, keyD_T t, h1.symm⟩, c _ _ k1 H1 S1 e (.bl _) ?_⟩
      rw [h2] at q
      exact q
theorem ev_dnin {s : Slot} (h0 : ρ[i]? = some s) (hd : DSlot kvs s) (h : EvW K W ty ρ k fun x k1 => ∃ key, x = keyD key ∧ Φ (.bool (!(lookD kvs key).isSome)) k1) : EvW K W (tDNotIn ty (tVar i)) ρ k Φ := fun L0 H0 L H σ S Q c =>
  h L0 H0 L H σ S _ fun v x k1 H1 S1 e t g => by
    obtain ⟨key, rfl, q⟩ := g
    obtain ⟨l', vs', f1, f2, f3, f4⟩ := S1.dict h0 hd
    rcases f4.look key with ⟨h1, z⟩ | ⟨u, d', h1, h2, h3⟩
    · refine ⟨_, f1, l', none, rfl, .inl ⟨vs', key, f3, keyD_T t, h1.symm⟩, c _ _ k1 H1 S1 e (.bl _) ?_⟩
      rw [z] at q
      exact q
    · refine ⟨_, f1, l', some u, rfl, .inl ⟨vs', key, f3, keyD_T t, h1.symm⟩, c _ _ k1 H1 S1 e (.bl _) ?_⟩
      rw [h2] at q
      exact q
/-- d[k] = v -/
theorem sw_dput (h0 : ρ[i]? = some (.ownD kvs)) (h : EvW K W tv ρ k fun d k1 => EvW K W ty ρ k1 fun x k2 => ∃ key, x = keyD key ∧ kvs.length < 100000 ∧ P.nx (ρ.set i (.ownD (putD kvs key d))) k2) : SW K W (sDPut (tVar i) ty tv) ρ k P := fun L0 H0 L H σ D S nx _ _ _ =>
  h L0 H0 L H σ S _ fun v d k1 H1 S1 ee t g => by
    obtain ⟨l, vs, e1, e2, e3, e4⟩ := S1.slots i _ h0
    refine ⟨_, e1, g L0 H0 L H1 σ S1 _ fun u x k2 H2 S2 ee2 t2 g2 => ?_⟩
    obtain ⟨key, rfl, hl, q⟩ := g2
    obtain ⟨l', vs', f1, f2, f3, f4⟩ := S2.slots i _ h0
    obtain rfl := ref_eq e1 f1
    refine ⟨l, _, rfl, .inl ⟨vs', key, f3, keyD_T t2, Nat.lt_of_le_of_lt (show vs'.length ≤ 99999 by rw [f4.len]; omega) (by decide), rfl⟩, ?_⟩
    exact nx _ _ _ _ _ (S2.put (s1 := .ownD (putD kvs key d)) h0 rfl rfl f1 f2 ⟨l, _, rfl, f2, upd_same, (f4.put key (t.ext (eM ee2))).map fun _ _ t => t.ext (Ext.put (List.mem_append_left _ f2))⟩) q
/-- x = {k: v} -/
theorem sw_disp1 {tk : TE} {key : Key} (htk : tk = tC (kV key)) (h : EvW K W tv ρ k fun d k1 => P.nx (ρ.set i (.ownD [(key, d)])) k1) : SW K W (tAsg (tDisp [(tk, tv)]) (gName i)) ρ k P := fun L0 H0 L H σ D S nx _ _ _ => by
  intro p hp
  subst htk
  obtain ⟨S1, nat⟩ := S.hide (o := .dK []) hp
  refine h L0 H0 (p :: L) _ σ S1 _ fun v d k1 H1 S2 e t g => ?_
  have npM : p ∉ W.M := fun z => S.nin hp (List.mem_append_right _ z)
  have hp1 : H1 p = some (.dK []) := e p _ npM upd_same
  refine ⟨hp1, [(key, v)], rfl, (show 1 ≤ 15 by decide), ?_⟩
  have S3 := S2.putHid (o := .dK [(key, v)]) nat
  have tv' : T K (p :: L ++ W.M) (upd H1 p (.dK [(key, v)])) v d := t.ext (Ext.put (by simp))
  have eqs : (mergeK [] [(key, v)]) = [(key, v)] := rfl
  rw [eqs]
  have il : ∀ {s : Slot}, (ρ.set i (.ownD [(key, d)]))[i]? = some s → s = .ownD [(key, d)] ∧ i < σ.length := fun {s} hs => by
    rw [List.getElem?_set_self'] at hs
    cases q : ρ[i]? with
    | none => rw [q] at hs; cases hs
    | some u =>
      rw [q] at hs
      have hs' : Slot.ownD [(key, d)] = s := by simpa using hs
      exact ⟨hs'.symm, by rw [← S.len]; exact (List.getElem?_eq_some_iff.mp q).1⟩
  refine nx _ _ _ _ _ ⟨S3.base, S3.fresh, S3.offM, S3.trk, S3.wd, by rw [List.length_set, List.length_set]; exact S.len, fun j s hs => ?_, fun j m s u hs hu h1 h2 h3 => ?_⟩ g
  · by_cases ej : j = i
    · subst ej
      obtain ⟨rfl, hl⟩ := il hs
      have : (σ.set j (some (V.ref p)))[j]? = some (some (.ref p)) := by simp [hl]
      rw [this]
      exact ⟨p, _, rfl, by simp, upd_same, .cons tv' .nil⟩
    · rw [List.getElem?_set_ne (fun z => ej z.symm)] at hs ⊢
      exact S3.slots j s hs
  · by_cases ej : j = i
    · by_cases em : m = i
      · rw [ej, em]
      · exfalso
        subst ej
        obtain ⟨_, hl⟩ := il hs
        rw [List.getElem?_set_ne (fun z => em z.symm)] at hu h3
        rw [show (σ.set j (some (V.ref p)))[j]? = some (some (.ref p)) by simp [hl]] at h3
        exact nat m u hu h2 h3.symm
    · by_cases em : m = i
      · exfalso
        subst em
        obtain ⟨_, hl⟩ := il hu
        rw [List.getElem?_set_ne (fun z => ej z.symm)] at hs h3
        rw [show (σ.set m (some (V.ref p)))[m]? = some (some (.ref p)) by simp [hl]] at h3
        exact nat j s hs h1 h3
      · rw [List.getElem?_set_ne (fun z => ej z.symm)] at hs h3
        rw [List.getElem?_set_ne (fun z => em z.symm)] at hu h3
        exact S3.dis j m s u hs hu h1 h2 h3
/-- a comprehension over the keys: the dict is locked meanwhile -/
theorem ev_lock (h0 : ρ[i]? = some (.ownD kvs)) (h : EvW K W te (ρ.set i (.lck kvs)) k Φ) : EvW K W (tLockE te) ρ k Φ := fun L0 H0 L H σ S Q c => by
  obtain ⟨l, vs, e1, e2, e3, e4⟩ := S.slots i _ h0
  refine ⟨l, .dK vs, e3, trivial, fun od => ?_⟩
  have nM := S.offM l e2
  have S1 : Stt K W L0 H0 L (upd H l (.frz od (.dK vs))) σ (ρ.set i (.lck kvs)) k := S.put (s1 := .lck kvs) h0 rfl rfl e1 e2 ⟨l, vs, od, rfl, e2, upd_same, e4.map fun _ _ t => t.ext (Ext.put (List.mem_append_left _ e2))⟩
  refine h L0 H0 L _ σ S1 _ fun v d k1 H1 S2 e t q => ?_
  have h1 : H1 l = some (.frz od (.dK vs)) := e l _ nM upd_same
  refine ⟨h1, ?_⟩
  have hi1 : (ρ.set i (.lck kvs))[i]? = some (.lck kvs) := by simp [(List.getElem?_eq_some_iff.mp h0).1]
  have f4 : KD K (L ++ W.M) H1 vs kvs := e4.map fun _ _ t => (t.ext (Ext.put (List.mem_append_left _ e2))).ext (eM e)
  have S3 := S2.put (o := .dK vs) (s1 := .ownD kvs) hi1 rfl rfl e1 e2 ⟨l, vs, rfl, e2, upd_same, f4.map fun _ _ t => t.ext (Ext.put (List.mem_append_left _ e2))⟩
  have back : (ρ.set i (.lck kvs)).set i (.ownD kvs) = ρ := by
    rw [List.set_set]
    apply List.ext_getElem?
    intro j
    by_cases ej : i = j
    · subst ej
      rw [List.getElem?_set_self', h0]
      rfl
    · rw [List.getElem?_set_ne ej]
  rw [back] at S3
  refine c v d k1 _ S3 (fun b o nb hb => ?_) (t.ext (Ext.put (List.mem_append_left _ e2))) q
  by_cases eb : b = l
  · subst eb
    rw [upd_same, ← hb, e3]
  · rw [upd_ne eb]
    refine e b o nb ?_
    rw [upd_ne eb]
    exact hb
/-- x = [.. for k in d ..] -/
theorem sw_lockA {j : Nat} (hij : i ≠ j) (h0 : ρ[i]? = some (.ownD kvs)) (h : EvW K W te (ρ.set i (.lck kvs)) k fun d k1 => P.nx (ρ.set j (.dat d)) k1) : SW K W (tLock (tAsg te (gName j))) ρ k P := fun L0 H0 L H σ D S nx _ _ _ => by
  obtain ⟨l, vs, e1, e2, e3, e4⟩ := S.slots i _ h0
  refine ⟨l, .dK vs, e3, trivial, fun od => ?_⟩
  have nM := S.offM l e2
  have S1 : Stt K W L0 H0 L (upd H l (.frz od (.dK vs))) σ (ρ.set i (.lck kvs)) k := S.put (s1 := .lck kvs) h0 rfl rfl e1 e2 ⟨l, vs, od, rfl, e2, upd_same, e4.map fun _ _ t => t.ext (Ext.put (List.mem_append_left _ e2))⟩
  refine h L0 H0 L _ σ S1 _ fun v d k1 H1 S2 e t q => ?_
  have h1 : H1 l = some (.frz od (.dK vs)) := e l _ nM upd_same
  refine ⟨h1, ?_⟩
  have hi1 : (ρ.set i (.lck kvs))[i]? = some (.lck kvs) := by simp [(List.getElem?_eq_some_iff.mp h0).1]
  have f4 : KD K (L ++ W.M) H1 vs kvs := e4.map fun _ _ t => (t.ext (Ext.put (List.mem_append_left _ e2))).ext (eM e)
  have S3 := S2.put (o := .dK vs) (s1 := .ownD kvs) hi1 rfl rfl e1 e2 ⟨l, vs, rfl, e2, upd_same, f4.map fun _ _ t => t.ext (Ext.put (List.mem_append_left _ e2))⟩
  have back : (ρ.set i (.lck kvs)).set i (.ownD kvs) = ρ := by
    rw [List.set_set]
    apply List.ext_getElem?
    intro j
    by_cases ej : i = j
    · subst ej
      rw [List.getElem?_set_self', h0]
      rfl
    · rw [List.getElem?_set_ne ej]
  rw [back] at S3
  exact nx _ _ _ _ _ (S3.set j (t.ext (Ext.put (List.mem_append_left _ e2)))) q
theorem ex_keys {Ω : Nat → (Nat → PyData) → γ → Prop} (h0 : ρ[i]? = some (.lck kvs)) (q : Ω kvs.length (fun j => (kvs[j]?.map fun p => keyD p.1).getD .none) k) : EvX K W (iKeys (tVar i)) ρ k Ω := fun L0 H0 L H σ S R c => by
  obtain ⟨l, vs, od, e1, e2, e3, e4⟩ := S.slots i _ h0
  have nM := S.offM l e2
  have hl := e4.len
  refine ⟨_, e1, l, od, rfl, .inl ⟨vs, e3, c _ _ _ k H S (Ext.refl _ _) ?_ q⟩⟩
  refine ⟨fun i' L' H' hi _ e => ⟨e l _ nM e3, by rw [hl]; exact hi⟩, fun L' H' _ e => ⟨e l _ nM e3, Nat.le_of_eq hl⟩, fun i' L' H' x H'' hi _ e y => ?_⟩
  obtain ⟨rfl, key, v, h1, rfl⟩ := y
  obtain ⟨d, h2⟩ := e4.at i' key v h1
  refine ⟨Same.refl _, ?_⟩
  show T K _ _ _ ((kvs[i']?.map fun p => keyD p.1).getD .none)
  rw [h2]
  exact T_keyD key
theorem rc_min {ds : List PyData} (ns : List Int) (h : ds = ns.map .int) (hl : 0 < ns.length) (q : ∀ m, m ∈ ns → (∀ y, y ∈ ns → m ≤ y) → Φ (.int m) k) : RCD K W (rMin K) [.list ds] ρ k Φ := fun L0 H0 L H σ vs S t Q c => by
  subst h
  obtain ⟨v, rfl, t1⟩ := t.one_
  cases t1 with
  | lst n ha t2 =>
    have e := t2.ints_
    subst e
    exact ⟨_, ns, rfl, SqL.of ha, hl, fun m h1 h2 => c _ _ k H S (Ext.refl _ _) (.int m) (q m h1 h2)⟩
theorem rc_max {ds : List PyData} (ns : List Int) (h : ds = ns.map .int) (hl : 0 < ns.length) (q : ∀ m, m ∈ ns → (∀ y, y ∈ ns → y ≤ m) → Φ (.int m) k) : RCD K W (rMax K) [.list ds] ρ k Φ := fun L0 H0 L H σ vs S t Q c => by
  subst h
  obtain ⟨v, rfl, t1⟩ := t.one_
  cases t1 with
  | lst n ha t2 =>
    have e := t2.ints_
    subst e
    exact ⟨_, ns, rfl, SqL.of ha, hl, fun m h1 h2 => c _ _ k H S (Ext.refl _ _) (.int m) (q m h1 h2)⟩
theorem ev_joinT (h : EvW K W te ρ k fun a k1 => ∃ s : Str, a = .str s ∧ EvW K W ty ρ k1 fun d k2 => ∃ ys : List Str, d = .tuple (ys.map .str) ∧ (ys.map (·.length)).sum + ys.length * s.length ≤ 16777216 ∧ Φ (.str (Txt.join s ys)) k2) :
    EvW K W (tM1 (rJoin K) te ty) ρ k Φ := fun L0 H0 L H σ S Q c =>
  h L0 H0 L H σ S _ fun v a k1 H1 S1 e1 t1 g => by
    obtain ⟨s, rfl, g⟩ := g
    cases t1
    refine ⟨⟨s, rfl⟩, g L0 H0 L H1 σ S1 _ fun u d k2 H2 S2 e2 t2 g2 => ?_⟩
    obtain ⟨ys, rfl, hz, q⟩ := g2
    cases t2 with
    | tup n ha t =>
      have e := t.strs_
      subst e
      exact ⟨s, _, ys, rfl, rfl, .inr (SqT.of ha), hz, c _ _ k2 H2 S2 (e1.trans e2) (.str _) q⟩
/-- a text among texts -/
theorem inV_str (z : Str) : ∀ l : List Str, inV (.str z) (l.map V.str) = decide (z ∈ l)
  | [] => by simp [inV]
  | x :: xs => by
    have ih := inV_str z xs
    unfold inV at ih ⊢
    rw [List.map_cons, List.any_cons, ih]
    show ((x == z) || _) = _
    by_cases e : z = x
    · subst e; simp
    · have e2 : ¬ x = z := fun q => e q.symm
      simp [e, e2]
theorem flat_strs : ∀ l : List Str, (l.map V.str).all flatV = true
  | [] => rfl
  | _ :: xs => by rw [List.map_cons, List.all_cons, flat_strs xs]; rfl
theorem rd_inStrsT {z : Str} {l : List Str} (q : Φ (.bool (decide (z ∈ l))) k) : RD K W (rIn K false) (.str z) (.tuple (l.map .str)) ρ k Φ := rd_ q fun N H vx vy tx ty Q c => by
  cases tx
  cases ty with
  | tup n ha t =>
    have e := t.strs_
    subst e
    exact ⟨_, _, rfl, .inr (SqT.of ha), rfl, flat_strs l, by simp only [Bool.false_eq_true, if_false]; rw [inV_str]; exact c _ (.bl _)⟩
/-- == [] -/
theorem rd_eqNilL {ds : List PyData} (q : Φ (.bool ds.isEmpty) k) : RD K W (rNil K false) (.list ds) (.list []) ρ k Φ := rd_ q fun N H vx vy tx ty Q c => by
  cases tx with
  | lst n ha t =>
    cases ty with
    | lst n2 hb t2 =>
      cases t2
      exact ⟨_, _, _, rfl, rfl, .inl ⟨SqL.of ha, SqL.of hb⟩, by simp only [Bool.false_eq_true, if_false]; rw [← t.emp]; exact c _ (.bl _)⟩
theorem rd_neNilL {ds : List PyData} (q : Φ (.bool (!ds.isEmpty)) k) : RD K W (rNil K true) (.list ds) (.list []) ρ k Φ := rd_ q fun N H vx vy tx ty Q c => by
  cases tx with
  | lst n ha t =>
    cases ty with
    | lst n2 hb t2 =>
      cases t2
      exact ⟨_, _, _, rfl, rfl, .inl ⟨SqL.of ha, SqL.of hb⟩, by simp only [if_true]; rw [← t.emp]; exact c _ (.bl _)⟩
theorem rd_eqNilT {ds : List PyData} (q : Φ (.bool ds.isEmpty) k) : RD K W (rNil K false) (.tuple ds) (.tuple []) ρ k Φ := rd_ q fun N H vx vy tx ty Q c => by
  cases tx with
  | tup n ha t =>
    cases ty with
    | tup n2 hb t2 =>
      cases t2
      exact ⟨_, _, _, rfl, rfl, .inr ⟨SqT.of ha, SqT.of hb⟩, by simp only [Bool.false_eq_true, if_false]; rw [← t.emp]; exact c _ (.bl _)⟩
theorem rd_neNilT {ds : List PyData} (q : Φ (.bool (!ds.isEmpty)) k) : RD K W (rNil K true) (.tuple ds) (.tuple []) ρ k Φ := rd_ q fun N H vx vy tx ty Q c => by
  cases tx with
  | tup n ha t =>
    cases ty with
    | tup n2 hb t2 =>
      cases t2
      exact ⟨_, _, _, rfl, rfl, .inr ⟨SqT.of ha, SqT.of hb⟩, by simp only [if_true]; rw [← t.emp]; exact c _ (.bl _)⟩
end
end U

set_option Elab.async false
set_option linter.all false
set_option maxRecDepth 100000
set_option maxHeartbeats 2000000
namespace Law
open PySem PySem.Spec PyProof.Rows L2 U
local macro_rules | `(tactic| walk_at "st") => `(tactic| simp only [rest0, rest1, List.map_cons, List.map_nil, List.length_cons, List.length_nil, List.cons_append, List.nil_append, Nat.reduceAdd, Nat.reduceSub, Nat.zero_add, Nat.sub_self, List.replicate])
local macro_rules | `(tactic| walk_at "go") => `(tactic| repeat (first
  | ((with_reducible apply ev_var); · exact rfl)
  | with_reducible refine ev_int ?_
  | with_reducible refine ev_str ?_
  | with_reducible refine ev_non ?_
  | with_reducible refine ev_bl ?_
  | with_reducible refine rd_add ?_
  | with_reducible refine rd_sub ?_
  | with_reducible refine rd_lt ?_
  | with_reducible refine rd_le ?_
  | with_reducible refine rd_gt ?_
  | with_reducible refine rd_ge ?_
  | with_reducible refine rd_eqI ?_
  | with_reducible refine rd_neI ?_
  | with_reducible refine rd_neX0 ?_
  | with_reducible refine rd_eqX0 ?_
  | with_reducible refine rd_neXX ?_
  | with_reducible refine rd_eqXX ?_
  | with_reducible refine rd_eqX ?_
  | with_reducible refine rd_neX ?_
  | ((with_reducible apply rd_eq); · exact rfl)
  | ((with_reducible apply rd_ne); · exact rfl)
  | with_reducible refine rd_isN ?_
  | with_reducible refine rd_notN ?_
  | with_reducible refine rd_ixT0 ?_
  | with_reducible refine rd_ixT1 ?_
  | with_reducible refine rd_ixT2 ?_
  | with_reducible refine rd_inX ?_
  | with_reducible refine rd_ninX ?_
  | with_reducible refine rd_inS ?_
  | with_reducible refine rd_ninS ?_
  | with_reducible refine ev_op ?_
  | with_reducible refine et_test ?_
  | with_reducible refine et_B ?_
  | with_reducible refine et_and ?_
  | with_reducible refine et_or ?_
  | with_reducible refine et_not ?_
  | with_reducible refine et_yes ?_
  | with_reducible refine et_truth ?_
  | with_reducible refine ev_andV ?_
  | with_reducible refine ev_orV ?_
  | with_reducible refine ev_notV ?_
  | with_reducible refine ev_if ?_
  | with_reducible refine ev_chain ?_
  | with_reducible refine ea_nil ?_
  | with_reducible refine ea_cons ?_
  | (with_reducible refine ev_tup ?_)
  | (with_reducible refine ev_lst ?_)
  | with_reducible refine ev_dnew ?_
  | with_reducible refine ev_isi ?_
  | with_reducible refine ev_cb ?_
  | with_reducible refine ev_un ?_
  | with_reducible refine ru_neg ?_
  | with_reducible refine rc_lenL ?_
  | with_reducible refine rc_lenT ?_
  | with_reducible refine rc_int1 ?_
  | with_reducible refine rc_max2 ?_
  | with_reducible refine rc_min2 ?_
  | with_reducible refine rc_abs ?_
  | with_reducible refine rc_ord ?_
  | with_reducible refine rc_tupL ?_
  | with_reducible refine rc_tupT ?_
  | with_reducible refine rc_listL ?_
  | with_reducible refine rc_listT ?_
  | with_reducible refine ev_sl ?_
  | with_reducible refine eo_none ?_
  | with_reducible refine eo_some ?_
  | with_reducible refine rsl_T ?_
  | with_reducible refine rsl_L ?_
  | with_reducible refine ev_join ?_
  | with_reducible refine ev_index ?_
  | ((with_reducible apply ev_draw); · exact rfl)
  | ((with_reducible apply ev_one); · exact rfl)
  | ((with_reducible apply ev_callD); · exact rfl)
  | with_reducible refine ev_call ?_
  | with_reducible refine sw_seq ?_
  | with_reducible refine sw_nx ?_
  | with_reducible refine sw_ret ?_
  | with_reducible refine sw_retN ?_
  | with_reducible refine sw_brk ?_
  | with_reducible refine sw_ct ?_
  | with_reducible refine sw_if ?_
  | with_reducible refine sw_par ?_
  | with_reducible refine sw_set ?_
  | with_reducible refine sw_asg ?_
  | with_reducible refine sw_drop ?_
  | with_reducible refine tg_name trivial ?_
  | ((with_reducible apply tg_name); · simp; done)
  | ((with_reducible apply tg_tup); · exact rfl)
  | with_reducible refine tgs_cons ?_
  | with_reducible refine tgs_nil ?_
  | with_reducible refine ei_list ?_
  | with_reducible refine ei_tup ?_
  | with_reducible refine ei_str ?_
  | with_reducible refine ei_rng1 ?_
  | with_reducible refine ei_rng2 ?_
  | with_reducible refine ei_enumL ?_
  | with_reducible refine ei_enumT ?_
  | with_reducible refine ei_enumS ?_
  | (with_reducible rw [if_pos rfl])
  | (with_reducible rw [if_pos trivial])
  | (with_reducible rw [if_neg not_false])
  | (with_reducible rw [if_neg Bool.false_ne_true])
  | (refine ⟨_, rfl, ?_⟩)
  | (refine ⟨_, _, rfl, ?_⟩)
  | (refine ⟨_, _, _, rfl, ?_⟩)
  | (refine ⟨_, _, _, _, rfl, ?_⟩)
  | (refine ⟨_, _, _, _, _, rfl, ?_⟩)
  | (refine ⟨_, _, _, _, _, _, rfl, ?_⟩)
  | ((with_reducible refine And.intro ?_ ?_); · decide)
  | ((with_reducible refine And.intro ?_ ?_); · (simp only [List.length_cons, List.length_nil, Nat.reduceAdd, Nat.reduceLeDiff, Nat.zero_add]; done))
  | (with_reducible refine fun _ : True => ?_)
  | (with_reducible refine fun _ : true = true => ?_)
  | (dsimp only [wipeR, List.set_cons_succ, List.set_cons_zero])
  | (with_reducible rw [Bool.not_true])
  | (with_reducible rw [Bool.not_false])))
local macro_rules | `(tactic| walk_at "gof") => `(tactic| repeat (first
  | ((with_reducible apply ev_var); · exact rfl)
  | with_reducible refine ev_int ?_
  | with_reducible refine ev_str ?_
  | with_reducible refine ev_non ?_
  | with_reducible refine ev_bl ?_
  | with_reducible refine rd_add ?_
  | with_reducible refine rd_sub ?_
  | with_reducible refine rd_lt ?_
  | with_reducible refine rd_le ?_
  | with_reducible refine rd_gt ?_
  | with_reducible refine rd_ge ?_
  | with_reducible refine rd_eqI ?_
  | with_reducible refine rd_neI ?_
  | with_reducible refine rd_neX0 ?_
  | with_reducible refine rd_eqX0 ?_
  | with_reducible refine rd_neXX ?_
  | with_reducible refine rd_eqXX ?_
  | with_reducible refine rd_eqX ?_
  | with_reducible refine rd_neX ?_
  | ((with_reducible apply rd_eq); · exact rfl)
  | ((with_reducible apply rd_ne); · exact rfl)
  | with_reducible refine rd_isN ?_
  | with_reducible refine rd_notN ?_
  | with_reducible refine rd_ixT0 ?_
  | with_reducible refine rd_ixT1 ?_
  | with_reducible refine rd_ixT2 ?_
  | with_reducible refine rd_inX ?_
  | with_reducible refine rd_ninX ?_
  | with_reducible refine rd_inS ?_
  | with_reducible refine rd_ninS ?_
  | with_reducible refine ev_op ?_
  | with_reducible refine et_test ?_
  | with_reducible refine et_B ?_
  | with_reducible refine et_and ?_
  | with_reducible refine et_or ?_
  | with_reducible refine et_not ?_
  | with_reducible refine et_yes ?_
  | with_reducible refine et_truth ?_
  | with_reducible refine ev_andV ?_
  | with_reducible refine ev_orV ?_
  | with_reducible refine ev_notV ?_
  | with_reducible refine ev_if ?_
  | with_reducible refine ev_chain ?_
  | with_reducible refine ea_nil ?_
  | with_reducible refine ea_cons ?_
  | (with_reducible refine ev_tup ?_)
  | (with_reducible refine ev_lst ?_)
  | with_reducible refine ev_dnew ?_
  | with_reducible refine ev_isi ?_
  | with_reducible refine ev_cb ?_
  | with_reducible refine ev_un ?_
  | with_reducible refine ru_neg ?_
  | with_reducible refine rc_lenL ?_
  | with_reducible refine rc_lenT ?_
  | with_reducible refine rc_int1 ?_
  | with_reducible refine rc_max2 ?_
  | with_reducible refine rc_min2 ?_
  | with_reducible refine rc_abs ?_
  | with_reducible refine rc_ord ?_
  | with_reducible refine rc_tupL ?_
  | with_reducible refine rc_tupT ?_
  | with_reducible refine rc_listL ?_
  | with_reducible refine rc_listT ?_
  | with_reducible refine ev_sl ?_
  | with_reducible refine eo_none ?_
  | with_reducible refine eo_some ?_
  | with_reducible refine rsl_T ?_
  | with_reducible refine rsl_L ?_
  | with_reducible refine ev_join ?_
  | with_reducible refine ev_index ?_
  | ((with_reducible apply ev_draw); · exact rfl)
  | ((with_reducible apply ev_one); · exact rfl)
  | ((with_reducible apply ev_callD); · exact rfl)
  | with_reducible refine ev_call ?_
  | with_reducible refine sw_seq ?_
  | with_reducible refine sw_nx ?_
  | with_reducible refine sw_ret ?_
  | with_reducible refine sw_retN ?_
  | with_reducible refine sw_brk ?_
  | with_reducible refine sw_ct ?_
  | with_reducible refine sw_if ?_
  | with_reducible refine sw_par ?_
  | with_reducible refine sw_set ?_
  | with_reducible refine sw_asg ?_
  | with_reducible refine sw_for ?_
  | with_reducible refine sw_drop ?_
  | with_reducible refine tg_name trivial ?_
  | ((with_reducible apply tg_name); · simp; done)
  | ((with_reducible apply tg_tup); · exact rfl)
  | with_reducible refine tgs_cons ?_
  | with_reducible refine tgs_nil ?_
  | with_reducible refine ei_list ?_
  | with_reducible refine ei_tup ?_
  | with_reducible refine ei_str ?_
  | with_reducible refine ei_rng1 ?_
  | with_reducible refine ei_rng2 ?_
  | with_reducible refine ei_enumL ?_
  | with_reducible refine ei_enumT ?_
  | with_reducible refine ei_enumS ?_
  | (with_reducible rw [if_pos rfl])
  | (with_reducible rw [if_pos trivial])
  | (with_reducible rw [if_neg not_false])
  | (with_reducible rw [if_neg Bool.false_ne_true])
  | (refine ⟨_, rfl, ?_⟩)
  | (refine ⟨_, _, rfl, ?_⟩)
  | (refine ⟨_, _, _, rfl, ?_⟩)
  | (refine ⟨_, _, _, _, rfl, ?_⟩)
  | (refine ⟨_, _, _, _, _, rfl, ?_⟩)
  | (refine ⟨_, _, _, _, _, _, rfl, ?_⟩)
  | ((with_reducible refine And.intro ?_ ?_); · decide)
  | ((with_reducible refine And.intro ?_ ?_); · (simp only [List.length_cons, List.length_nil, Nat.reduceAdd, Nat.reduceLeDiff, Nat.zero_add]; done))
  | (with_reducible refine fun _ : True => ?_)
  | (with_reducible refine fun _ : true = true => ?_)
  | (dsimp only [wipeR, List.set_cons_succ, List.set_cons_zero])
  | (with_reducible rw [Bool.not_true])
  | (with_reducible rw [Bool.not_false])))
local macro_rules | `(tactic| walk_at "tg") => `(tactic| repeat (first
  | with_reducible refine tg_name trivial ?_
  | ((with_reducible apply tg_name); · simp; done)
  | ((with_reducible apply tg_tup); · exact rfl)
  | with_reducible refine tgs_cons ?_
  | with_reducible refine tgs_nil ?_
  | (dsimp only [wipeR, List.set_cons_succ, List.set_cons_zero])
  | (with_reducible rw [Bool.not_true])
  | (with_reducible rw [Bool.not_false])))
local macro_rules | `(tactic| walk_at "le") => `(tactic| repeat (first | exact Le.nil | refine Le.no ?_ | refine Le.same ?_))


def top (i : Nat) : Stmt := PySem.Challenge.pw_unitlimits_k42_whole_fewest_parts.main.body.getD i (.Pass ⟨0, 0, 0, 0⟩)
abbrev s_letter_number : Stmt := top 1
abbrev N_letter_number : List Str := ["letter"]
theorem sc_letter_number : FnScope N_letter_number ["letter"] (defScope s_letter_number) := ⟨rfl, rfl, rfl, by decide +kernel, rfl, by decide +kernel, by decide +kernel⟩
abbrev s__place : Stmt := top 3
abbrev N__place : List Str := ["units", "cut", "word", "index", "most", "clings", "unit", "count", "border", "at", "letter"]
theorem sc__place : FnScope N__place ["units", "cut", "word"] (defScope s__place) := ⟨rfl, rfl, rfl, by decide +kernel, rfl, by decide +kernel, by decide +kernel⟩
abbrev s_parts : Stmt := top 4
abbrev N_parts : List Str := ["units", "cut", "word", "found", "place"]
theorem sc_parts : FnScope N_parts ["units", "cut", "word"] (defScope s_parts) := ⟨rfl, rfl, rfl, by decide +kernel, rfl, by decide +kernel, by decide +kernel⟩
abbrev s__law_deck : Stmt := top 6
abbrev N__law_deck : List Str := ["_law_script", "_law_cell"]
theorem sc__law_deck : FnScope N__law_deck ["_law_script"] (defScope s__law_deck) := ⟨rfl, rfl, rfl, by decide +kernel, rfl, by decide +kernel, by decide +kernel⟩
abbrev s__law_draw : Stmt := top 7
abbrev N__law_draw : List Str := ["_law_deck_here", "_law_most", "_law_cell", "_law_at", "_law_mixed"]
theorem sc__law_draw : FnScope N__law_draw ["_law_deck_here", "_law_most"] (defScope s__law_draw) := ⟨rfl, rfl, rfl, by decide +kernel, rfl, by decide +kernel, by decide +kernel⟩
abbrev s__law_one : Stmt := top 8
abbrev N__law_one : List Str := ["_law_deck_here", "_law_items"]
theorem sc__law_one : FnScope N__law_one ["_law_deck_here", "_law_items"] (defScope s__law_one) := ⟨rfl, rfl, rfl, by decide +kernel, rfl, by decide +kernel, by decide +kernel⟩
abbrev s__law_count : Stmt := top 13
abbrev N__law_count : List Str := ["_law_unit_here", "_law_word", "_law_letter"]
theorem sc__law_count : FnScope N__law_count ["_law_unit_here", "_law_word"] (defScope s__law_count) := ⟨rfl, rfl, rfl, by decide +kernel, rfl, by decide +kernel, by decide +kernel⟩
abbrev s__law_unit : Stmt := top 14
abbrev N__law_unit : List Str := ["_law_deck_here", "_law_letters", "_law_least", "_law_k"]
theorem sc__law_unit : FnScope N__law_unit ["_law_deck_here", "_law_letters", "_law_least"] (defScope s__law_unit) := ⟨rfl, rfl, rfl, by decide +kernel, rfl, by decide +kernel, by decide +kernel⟩
abbrev s__law_cut : Stmt := top 15
abbrev N__law_cut : List Str := ["_law_deck_here", "_law_letters", "_law_units_here", "_law_most", "_law_clings", "_law_letter"]
theorem sc__law_cut : FnScope N__law_cut ["_law_deck_here", "_law_letters", "_law_units_here", "_law_most"] (defScope s__law_cut) := ⟨rfl, rfl, rfl, by decide +kernel, rfl, by decide +kernel, by decide +kernel⟩
abbrev s__law_cuts : Stmt := top 16
abbrev N__law_cuts : List Str := ["_law_deck_here", "_law_letters", "_law_units_here", "_law_most", "_law_wide", "_law_k"]
theorem sc__law_cuts : FnScope N__law_cuts ["_law_deck_here", "_law_letters", "_law_units_here", "_law_most", "_law_wide"] (defScope s__law_cuts) := ⟨rfl, rfl, rfl, by decide +kernel, rfl, by decide +kernel, by decide +kernel⟩
abbrev s__law_units : Stmt := top 17
abbrev N__law_units : List Str := ["_law_deck_here", "_law_letters", "_law_k"]
theorem sc__law_units : FnScope N__law_units ["_law_deck_here", "_law_letters"] (defScope s__law_units) := ⟨rfl, rfl, rfl, by decide +kernel, rfl, by decide +kernel, by decide +kernel⟩
abbrev s__law_one_cut : Stmt := top 18
abbrev N__law_one_cut : List Str := ["_law_units_here", "_law_cut_here", "_law_word", "_law_found", "_law_place", "_law_is_border"]
theorem sc__law_one_cut : FnScope N__law_one_cut ["_law_units_here", "_law_cut_here", "_law_word"] (defScope s__law_one_cut) := ⟨rfl, rfl, rfl, by decide +kernel, rfl, by decide +kernel, by decide +kernel⟩
abbrev s__law_left : Stmt := top 19
abbrev N__law_left : List Str := ["_law_units_here", "_law_cuts_here", "_law_word", "_law_cut_here"]
theorem sc__law_left : FnScope N__law_left ["_law_units_here", "_law_cuts_here", "_law_word"] (defScope s__law_left) := ⟨rfl, rfl, rfl, by decide +kernel, rfl, by decide +kernel, by decide +kernel⟩
abbrev s__law_fewest : Stmt := top 20
abbrev N__law_fewest : List Str := ["_law_unit_here", "_law_cut_here", "_law_word", "_law_best", "_law_end", "_law_some", "_law_begin"]
theorem sc__law_fewest : FnScope N__law_fewest ["_law_unit_here", "_law_cut_here", "_law_word"] (defScope s__law_fewest) := ⟨rfl, rfl, rfl, by decide +kernel, rfl, by decide +kernel, by decide +kernel⟩
abbrev s_law : Stmt := top 21
abbrev N_law : List Str := ["_law_script", "_law_deck_here", "_law_turn", "_law_letters", "_law_units_here", "_law_cut_here", "_law_word", "_law_told", "_law_due", "_law_k", "_law_piece"]
theorem sc_law : FnScope N_law ["_law_script"] (defScope s_law) := ⟨rfl, rfl, rfl, by decide +kernel, rfl, by decide +kernel, by decide +kernel⟩
/-- where the defs stand -/
structure Adrs where
  f_letter_number : Addr
  d_letter_number : FuncData
  f__place : Addr
  d__place : FuncData
  f_parts : Addr
  d_parts : FuncData
  f__law_deck : Addr
  d__law_deck : FuncData
  f__law_draw : Addr
  d__law_draw : FuncData
  f__law_one : Addr
  d__law_one : FuncData
  f__law_count : Addr
  d__law_count : FuncData
  f__law_unit : Addr
  d__law_unit : FuncData
  f__law_cut : Addr
  d__law_cut : FuncData
  f__law_cuts : Addr
  d__law_cuts : FuncData
  f__law_units : Addr
  d__law_units : FuncData
  f__law_one_cut : Addr
  d__law_one_cut : FuncData
  f__law_left : Addr
  d__law_left : FuncData
  f__law_fewest : Addr
  d__law_fewest : FuncData
  f_law : Addr
  d_law : FuncData
structure Txt (K : PySem.W.Frag) (mg : Str → Option Value) (A : Adrs) : Prop where
  F_letter_number : Fun K "letter_number" "letter_number" s_letter_number A.f_letter_number A.d_letter_number
  m_letter_number : mg "letter_number" = some (.ref A.f_letter_number)
  k_letter_number : PySem.W.keepIn K (.ref A.f_letter_number) = true
  b_letter_number : Binds K A.d_letter_number ["letter"] []
  F__place : Fun K "_place" "_place" s__place A.f__place A.d__place
  m__place : mg "_place" = some (.ref A.f__place)
  k__place : PySem.W.keepIn K (.ref A.f__place) = true
  b__place : Binds K A.d__place ["units", "cut", "word"] []
  F_parts : Fun K "parts" "parts" s_parts A.f_parts A.d_parts
  m_parts : mg "parts" = some (.ref A.f_parts)
  k_parts : PySem.W.keepIn K (.ref A.f_parts) = true
  b_parts : Binds K A.d_parts ["units", "cut", "word"] []
  F__law_deck : Fun K "_law_deck" "_law_deck" s__law_deck A.f__law_deck A.d__law_deck
  m__law_deck : mg "_law_deck" = some (.ref A.f__law_deck)
  k__law_deck : PySem.W.keepIn K (.ref A.f__law_deck) = true
  b__law_deck : Binds K A.d__law_deck ["_law_script"] []
  F__law_draw : Fun K "_law_draw" "_law_draw" s__law_draw A.f__law_draw A.d__law_draw
  m__law_draw : mg "_law_draw" = some (.ref A.f__law_draw)
  k__law_draw : PySem.W.keepIn K (.ref A.f__law_draw) = true
  b__law_draw : Binds K A.d__law_draw ["_law_deck_here", "_law_most"] []
  F__law_one : Fun K "_law_one" "_law_one" s__law_one A.f__law_one A.d__law_one
  m__law_one : mg "_law_one" = some (.ref A.f__law_one)
  k__law_one : PySem.W.keepIn K (.ref A.f__law_one) = true
  b__law_one : Binds K A.d__law_one ["_law_deck_here", "_law_items"] []
  F__law_count : Fun K "_law_count" "_law_count" s__law_count A.f__law_count A.d__law_count
  m__law_count : mg "_law_count" = some (.ref A.f__law_count)
  k__law_count : PySem.W.keepIn K (.ref A.f__law_count) = true
  b__law_count : Binds K A.d__law_count ["_law_unit_here", "_law_word"] []
  F__law_unit : Fun K "_law_unit" "_law_unit" s__law_unit A.f__law_unit A.d__law_unit
  m__law_unit : mg "_law_unit" = some (.ref A.f__law_unit)
  k__law_unit : PySem.W.keepIn K (.ref A.f__law_unit) = true
  b__law_unit : Binds K A.d__law_unit ["_law_deck_here", "_law_letters", "_law_least"] []
  F__law_cut : Fun K "_law_cut" "_law_cut" s__law_cut A.f__law_cut A.d__law_cut
  m__law_cut : mg "_law_cut" = some (.ref A.f__law_cut)
  k__law_cut : PySem.W.keepIn K (.ref A.f__law_cut) = true
  b__law_cut : Binds K A.d__law_cut ["_law_deck_here", "_law_letters", "_law_units_here", "_law_most"] []
  F__law_cuts : Fun K "_law_cuts" "_law_cuts" s__law_cuts A.f__law_cuts A.d__law_cuts
  m__law_cuts : mg "_law_cuts" = some (.ref A.f__law_cuts)
  k__law_cuts : PySem.W.keepIn K (.ref A.f__law_cuts) = true
  b__law_cuts : Binds K A.d__law_cuts ["_law_deck_here", "_law_letters", "_law_units_here", "_law_most", "_law_wide"] []
  F__law_units : Fun K "_law_units" "_law_units" s__law_units A.f__law_units A.d__law_units
  m__law_units : mg "_law_units" = some (.ref A.f__law_units)
  k__law_units : PySem.W.keepIn K (.ref A.f__law_units) = true
  b__law_units : Binds K A.d__law_units ["_law_deck_here", "_law_letters"] []
  F__law_one_cut : Fun K "_law_one_cut" "_law_one_cut" s__law_one_cut A.f__law_one_cut A.d__law_one_cut
  m__law_one_cut : mg "_law_one_cut" = some (.ref A.f__law_one_cut)
  k__law_one_cut : PySem.W.keepIn K (.ref A.f__law_one_cut) = true
  b__law_one_cut : Binds K A.d__law_one_cut ["_law_units_here", "_law_cut_here", "_law_word"] []
  F__law_left : Fun K "_law_left" "_law_left" s__law_left A.f__law_left A.d__law_left
  m__law_left : mg "_law_left" = some (.ref A.f__law_left)
  k__law_left : PySem.W.keepIn K (.ref A.f__law_left) = true
  b__law_left : Binds K A.d__law_left ["_law_units_here", "_law_cuts_here", "_law_word"] []
  F__law_fewest : Fun K "_law_fewest" "_law_fewest" s__law_fewest A.f__law_fewest A.d__law_fewest
  m__law_fewest : mg "_law_fewest" = some (.ref A.f__law_fewest)
  k__law_fewest : PySem.W.keepIn K (.ref A.f__law_fewest) = true
  b__law_fewest : Binds K A.d__law_fewest ["_law_unit_here", "_law_cut_here", "_law_word"] []
  F_law : Fun K "law" "law" s_law A.f_law A.d_law
  m_law : mg "law" = some (.ref A.f_law)
  k_law : PySem.W.keepIn K (.ref A.f_law) = true
  b_law : Binds K A.d_law ["_law_script"] []
  z_abs : mg "abs" = none
  z_enumerate : mg "enumerate" = none
  z_int : mg "int" = none
  z_len : mg "len" = none
  z_min : mg "min" = none
  z_ord : mg "ord" = none
  z_range : mg "range" = none
  z_sum : mg "sum" = none
  z_tuple : mg "tuple" = none
/-! ### data of the program -/
abbrev encU (u : List Nat) : PyData := .tuple (u.map nI)
abbrev encC (c : Nat × Nat × List Nat) : PyData := .tuple [.int (c.1 : Int), .int (c.2.1 : Int), .str (txt c.2.2)]
def placeF (u : List Nat) (m : Nat) (cl : List Nat) : List Nat → Nat → Nat → Nat → Nat
  | [], n, _, _ => n
  | c :: ws, n, cnt, bor => if cnt + u.getD c 0 > m then (if c ∈ cl then bor else n) else placeF u m cl ws (n + 1) (cnt + u.getD c 0) (if c ∈ cl then bor else n)
def place (u : List Nat) (m : Nat) (cl : List Nat) (ws : List Nat) : Nat := placeF u m cl ws 0 0 0
/-! ### what a cut leaves: two reckonings -/
def cntN (u : List Nat) (ws : List Nat) : Nat := (ws.map fun c => u.getD c 0).sum
theorem cntN_app (u a b : List Nat) : cntN u (a ++ b) = cntN u a + cntN u b := by simp [cntN]
theorem cntN_take_le (u ws : List Nat) {a b : Nat} (h : a ≤ b) : cntN u (ws.take a) ≤ cntN u (ws.take b) := by
  obtain ⟨k, rfl⟩ := Nat.le.dest h
  rw [List.take_add, cntN_app]
  omega
def bord (cl ws : List Nat) (p : Nat) : Bool := decide (p = 0) || decide (p = ws.length) || !(decide (ws.getD p 0 ∈ cl))
def okP (u : List Nat) (m : Nat) (cl ws : List Nat) (p : Nat) : Bool := bord cl ws p && decide (cntN u (ws.take p) ≤ m)
/-- p is the greatest place that is right -/
def Greatest (u : List Nat) (m : Nat) (cl ws : List Nat) (p : Nat) : Prop := p ≤ ws.length ∧ okP u m cl ws p = true ∧ ∀ q, q ≤ ws.length → okP u m cl ws q = true → q ≤ p
theorem Greatest.one {u cl ws : List Nat} {m p q : Nat} (h : Greatest u m cl ws p) (g : Greatest u m cl ws q) : p = q :=
  Nat.le_antisymm (g.2.2 p h.1 h.2.1) (h.2.2 q g.1 g.2.1)
theorem okP_zero (u cl ws : List Nat) (m : Nat) : okP u m cl ws 0 = true := by simp [okP, bord, cntN]
theorem placeF_spec (u : List Nat) (m : Nat) (cl ws : List Nat) : ∀ (rest : List Nat) (n cnt bor : Nat), ws.drop n = rest → n ≤ ws.length → cnt = cntN u (ws.take n) → cnt ≤ m → bor ≤ n → (rest ≠ [] ∨ True) →
    bord cl ws bor = true → (∀ q, q < n → bord cl ws q = true → q ≤ bor) → Greatest u m cl ws (placeF u m cl rest n cnt bor) := by
  intro rest
  induction rest with
  | nil =>
    intro n cnt bor hd hn hc hm hb _ h1 h2
    have hl : n = ws.length := by
      have := congrArg List.length hd
      simp at this
      omega
    unfold placeF
    refine ⟨hn, ?_, fun q hq _ => by omega⟩
    unfold okP
    rw [Bool.and_eq_true, decide_eq_true_eq]
    exact ⟨by simp [bord, hl], by omega⟩
  | cons c rest ih =>
    intro n cnt bor hd hn hc hm hb _ h1 h2
    have hlt : n < ws.length := by
      have := congrArg List.length hd
      simp at this
      omega
    have hcn : ws[n] = c := by
      have := List.getElem_cons_drop hlt
      rw [hd] at this
      exact (List.cons.inj this).1
    have hd2 : ws.drop (n + 1) = rest := by
      have := List.getElem_cons_drop hlt
      rw [hd] at this
      exact (List.cons.inj this).2
    have hbn : bord cl ws n = true ↔ n = 0 ∨ c ∉ cl := by
      have h3 : ws[n]?.getD 0 = c := by simp [hlt, hcn]
      have hne : n ≠ ws.length := by omega
      simp [bord, h3, hne]
    have hcnt : cnt + u.getD c 0 = cntN u (ws.take (n + 1)) := by
      rw [List.take_add_one, cntN_app, ← hc]
      have : ws[n]? = some c := by simp [hlt, hcn]
      rw [this]
      simp [cntN]
    unfold placeF
    have b1 : (if c ∈ cl then bor else n) ≤ n := by split <;> omega
    have b2 : bord cl ws (if c ∈ cl then bor else n) = true := by
      split
      · exact h1
      · exact hbn.mpr (.inr ‹_›)
    have b3 : ∀ q, q < n + 1 → bord cl ws q = true → q ≤ (if c ∈ cl then bor else n) := by
      intro q hq hbq
      split
      · by_cases e : q = n
        · subst e
          rcases hbn.mp hbq with z | z
          · omega
          · exact absurd ‹c ∈ cl› z
        · exact h2 q (by omega) hbq
      · omega
    split
    · refine ⟨by omega, ?_, fun q hq hok => ?_⟩
      · unfold okP
        rw [b2, Bool.true_and, decide_eq_true_eq]
        have := cntN_take_le u ws b1
        omega
      · unfold okP at hok
        rw [Bool.and_eq_true, decide_eq_true_eq] at hok
        by_cases hqn : q < n + 1
        · exact b3 q hqn hok.1
        · have := cntN_take_le u ws (show n + 1 ≤ q by omega)
          omega
    · exact ih (n + 1) _ _ hd2 hlt hcnt (by omega) (by omega) (.inr trivial) b2 b3
theorem place_spec (u : List Nat) (m : Nat) (cl ws : List Nat) : Greatest u m cl ws (place u m cl ws) :=
  placeF_spec u m cl ws ws 0 0 0 rfl (Nat.zero_le _) (by simp [cntN]) (Nat.zero_le _) (Nat.le_refl _) (.inr trivial) (by simp [bord]) (fun q hq => by omega)
theorem place_le (u : List Nat) (m : Nat) (cl ws : List Nat) : place u m cl ws ≤ ws.length := (place_spec u m cl ws).1
/-- the law's: the last place that is right -/
def lastP (u : List Nat) (m : Nat) (cl ws : List Nat) : Nat → Nat
  | 0 => 0
  | n + 1 => if okP u m cl ws n = true then n else lastP u m cl ws n
theorem lastP_spec (u : List Nat) (m : Nat) (cl ws : List Nat) : ∀ n, n ≤ ws.length + 1 → lastP u m cl ws n ≤ ws.length ∧ okP u m cl ws (lastP u m cl ws n) = true ∧ ∀ q, q < n → okP u m cl ws q = true → q ≤ lastP u m cl ws n
  | 0, _ => ⟨Nat.zero_le _, okP_zero u cl ws m, fun q hq => by omega⟩
  | n + 1, hn => by
    obtain ⟨a, b, c⟩ := lastP_spec u m cl ws n (by omega)
    unfold lastP
    by_cases h : okP u m cl ws n = true
    · rw [if_pos h]
      exact ⟨by omega, h, fun q hq _ => by omega⟩
    · rw [if_neg h]
      refine ⟨a, b, fun q hq ho => ?_⟩
      by_cases e : q = n
      · subst e
        exact absurd ho h
      · exact c q (by omega) ho
theorem lastP_place (u : List Nat) (m : Nat) (cl ws : List Nat) : lastP u m cl ws (ws.length + 1) = place u m cl ws := by
  obtain ⟨a, b, c⟩ := lastP_spec u m cl ws (ws.length + 1) (Nat.le_refl _)
  exact Greatest.one ⟨a, b, fun q hq => c q (by omega)⟩ (place_spec u m cl ws)
/-! parts -/
def partsN (u : List Nat) (m : Nat) (cl : List Nat) : Nat → List Nat → Option (List (List Nat))
  | _, [] => some []
  | 0, _ => some []
  | n + 1, ws => if place u m cl ws = 0 then none else (partsN u m cl n (ws.drop (place u m cl ws))).map (ws.take (place u m cl ws) :: ·)
theorem partsN_any (u : List Nat) (m : Nat) (cl : List Nat) : ∀ (n k : Nat) (ws : List Nat), ws.length ≤ n → ws.length ≤ k → partsN u m cl n ws = partsN u m cl k ws := by
  intro n
  induction n with
  | zero =>
    intro k ws h1 h2
    have : ws = [] := List.length_eq_zero_iff.mp (by omega)
    subst this
    cases k <;> rfl
  | succ n ih =>
    intro k ws h1 h2
    cases ws with
    | nil => cases k <;> rfl
    | cons w ws =>
      cases k with
      | zero => simp at h2
      | succ k =>
        unfold partsN
        by_cases hp : place u m cl (w :: ws) = 0
        · rw [if_pos hp, if_pos hp]
        · rw [if_neg hp, if_neg hp]
          rw [ih k _ (by rw [List.length_drop]; omega) (by rw [List.length_drop]; omega)]
def partsF (u : List Nat) (m : Nat) (cl ws : List Nat) : Option (List (List Nat)) := partsN u m cl ws.length ws
theorem partsF_nil (u : List Nat) (m : Nat) (cl : List Nat) : partsF u m cl [] = some [] := rfl
theorem partsF_step (u : List Nat) (m : Nat) (cl : List Nat) {ws : List Nat} (h : ws ≠ []) : partsF u m cl ws = if place u m cl ws = 0 then none else (partsF u m cl (ws.drop (place u m cl ws))).map (ws.take (place u m cl ws) :: ·) := by
  cases ws with
  | nil => exact absurd rfl h
  | cons w ws =>
    conv => lhs; unfold partsF; rw [List.length_cons]; unfold partsN
    by_cases hp : place u m cl (w :: ws) = 0
    · rw [if_pos hp, if_pos hp]
    · rw [if_neg hp, if_neg hp]
      unfold partsF
      rw [partsN_any u m cl ws.length _ ((w :: ws).drop (place u m cl (w :: ws))) (by rw [List.length_drop, List.length_cons]; omega) (Nat.le_refl _)]

def leftF (us : List (List Nat)) (cs : List (Nat × Nat × List Nat)) (ws : List Nat) : List Nat := cs.foldl (fun w c => w.take (place (us.getD c.1 []) c.2.1 c.2.2 w)) ws
theorem leftF_sub (us : List (List Nat)) : ∀ (cs : List (Nat × Nat × List Nat)) (ws : List Nat), ∃ n, leftF us cs ws = ws.take n
  | [], ws => ⟨ws.length, by simp [leftF]⟩
  | c :: cs, ws => by
    obtain ⟨n, h⟩ := leftF_sub us cs (ws.take (place (us.getD c.1 []) c.2.1 c.2.2 ws))
    refine ⟨min n (place (us.getD c.1 []) c.2.1 c.2.2 ws), ?_⟩
    rw [← List.take_take, ← h]
    rfl
theorem leftF_snoc (us : List (List Nat)) (cs : List (Nat × Nat × List Nat)) (c : Nat × Nat × List Nat) (ws : List Nat) : leftF us (cs ++ [c]) ws = (leftF us cs ws).take (place (us.getD c.1 []) c.2.1 c.2.2 (leftF us cs ws)) := by
  unfold leftF
  rw [List.foldl_append]
  rfl
def encP : Option (List (List Nat)) → PyData | none => .none | some l => .tuple (l.map nX)
/-! ### letters -/
section
variable {P : Program} {w : World} {K : PySem.W.Frag} {mg : Str → Option Value} {base : Heap} {A : Adrs}
def R_letter (ds : List PyData) (r : PyData) : Prop := ∃ c : Nat, ds = [.str ⟨#[97 + c]⟩] ∧ r = .int (c : Int)
theorem ok_letter_number (T : Txt K mg A) : FnOk P w K mg base CX0 1 A.f_letter_number A.d_letter_number ["letter"] (spP K 1 R_letter) := by
  refine T.F_letter_number.ok sc_letter_number (fun vs H Q E h => ?_) (fun cdv Ar outer s H vs Q E hr h => ?_)
  · exact spP.len h
  refine ⟨_, (pss_one (ps_ret (pe_op op_sub (pe_callB (id := "ord") call_ord (by rfl) T.z_ord (by decide +kernel) (pa_cons (pv 0) pa_nil)) (pe_callB (id := "ord") call_ord (by rfl) T.z_ord (by decide +kernel) (pa_cons pe_str pa_nil))))), ?_⟩
  refine spP.ok h fun W ds r hR => ?_
  obtain ⟨c, rfl, rfl⟩ := hR
  walk_at "st"
  walk_at "gof"
  refine rc_ord (c := 97) ?_
  walk_at "gof"
  show PyData.int _ = PyData.int _
  congr 1
  omega
def R_place (ds : List PyData) (r : PyData) : Prop := ∃ (us : List (List Nat)) (i m : Nat) (cl ws u : List Nat), ds = [.tuple (us.map encU), encC (i, m, cl), .str (txt ws)] ∧ us[i]? = some u ∧ (∀ c ∈ ws, c < u.length) ∧ ws.length ≤ 100000 ∧ r = .int (place u m cl ws : Nat)
theorem ok__place (T : Txt K mg A) : FnOk P w K mg base CX0 2 A.f__place A.d__place ["units", "cut", "word"] (spP K 3 R_place) := by
  have G_letter_number : FnOk P w K mg base CX0 1 A.f_letter_number A.d_letter_number ["letter"] (spP K 1 R_letter) := ok_letter_number T
  refine T.F__place.ok sc__place (fun vs H Q E h => ?_) (fun cdv Ar outer s H vs Q E hr h => ?_)
  · exact spP.len h
  refine ⟨_, (pss_cons (ps_asg (pv 1) (kTgT K (n := 3) (by rfl) (pgs_cons (pg_name (i := 3) sc__place.nd rfl (Or.inl rfl)) (pgs_cons (pg_name (i := 4) sc__place.nd rfl (Or.inl rfl)) (pgs_cons (pg_name (i := 5) sc__place.nd rfl (Or.inl rfl)) pgs_nil)))))
    (pss_cons (ps_set (i := 6) sc__place.nd rfl (Or.inl rfl) (pe_ix (kIxT K) (pv 0) (pv 3) (fun _ _ => rfl)))
    (pss_cons (ps_set (i := 7) sc__place.nd rfl (Or.inl rfl) pe_int)
    (pss_cons (ps_set (i := 8) sc__place.nd rfl (Or.inl rfl) pe_int)
    (pss_cons (ps_for PassesOwn.never rfl (pi_enumS (by rfl) T.z_enumerate (pa_cons (pv 2) pa_nil)) (kTgT K (n := 2) (by rfl) (pgs_cons (pg_name (i := 9) sc__place.nd rfl (Or.inl rfl)) (pgs_cons (pg_name (i := 10) sc__place.nd rfl (Or.inl rfl)) pgs_nil)))
    (pss_cons (ps_if (pt_cmpR op_notIn_sign (pv 10) (pv 5) (by with_unfolding_all rfl)) (pss_one (ps_set (i := 8) sc__place.nd rfl (Or.inl rfl) (pv 9)))
    pss_nil)
    (pss_cons (ps_set (i := 7) sc__place.nd rfl (Or.inl rfl) (pe_op op_add (pv 7) (pe_ix (kIxT K) (pv 6) (pe_call G_letter_number (hr.mono (by first | decide | omega)) rfl T.m_letter_number T.k_letter_number T.b_letter_number .nil pass0 (pa_cons (pv 10) pa_nil)) (fun _ _ => rfl))))
    (pss_one (ps_if (pt_cmpR op_gt (pv 7) (pv 4) (nomark _)) (pss_one (ps_ret (pv 8)))
    pss_nil)))))
    (pss_one (ps_ret (pe_callB (id := "len") call_len_str (by rfl) T.z_len (by decide +kernel) (pa_cons (pv 2) pa_nil))))))))), ?_⟩
  refine spP.ok h fun W ds r hR => ?_
  obtain ⟨us, i, m, cl, ws, u, rfl, hu, hw, hl, rfl⟩ := hR
  walk_at "st"
  walk_at "gof"
  refine rd_ixT rfl (at_map hu) ?_
  walk_at "gof"
  refine ⟨fun j ρ1 _ => ∃ (cnt bor : Nat) (s t : Slot),
    ρ1 = [.dat (.tuple (us.map encU)), .dat (encC (i, m, cl)), .dat (.str (txt ws)), .dat (nI i), .dat (nI m), .dat (.str (txt cl)), .dat (encU u), .dat (nI cnt), .dat (nI bor), s, t] ∧ place u m cl ws = placeF u m cl (ws.drop j) j cnt bor, ⟨0, 0, .no, .no, rfl, rfl⟩, ?_, ?_⟩
  · rintro j ρ1 k2 hj ⟨cnt, bor, s, t, rfl, e⟩
    rw [txt_size] at hj
    have hc : (txt ws).cps[j]?.getD 0 = 97 + ws[j] := by rw [txt_get]; simp [hj]
    have hd : ws.drop j = ws[j] :: ws.drop (j + 1) := (List.getElem_cons_drop hj).symm
    have hu2 : u[ws[j]]? = some (u.getD ws[j] 0) := by
      have := hw ws[j] (List.getElem_mem hj)
      simp [this]
    rw [hd, placeF] at e
    rw [hc]
    walk_at "tg"
    refine sw_mid (fun ρ' _ => ∃ b : Nat, ρ' = [.dat (.tuple (us.map encU)), .dat (encC (i, m, cl)), .dat (.str (txt ws)), .dat (nI i), .dat (nI m), .dat (.str (txt cl)), .dat (encU u), .dat (nI cnt), .dat (nI b), .dat (nI j), .dat (.str ⟨#[97 + ws[j]]⟩)] ∧ b = (if ws[j] ∈ cl then bor else j)) ?_ ?_
    · walk_at "gof"
      refine if_split (fun h1 => ?_) (fun h1 => ?_)
      · walk_at "gof"
        simp at h1; rw [if_neg h1]
      · walk_at "gof"
        simp at h1; rw [if_pos h1]
    · rintro ρ1 k1 ⟨b, rfl, hb⟩
      walk_at "gof"
      refine rc_pure rfl ⟨ws[j], rfl, rfl⟩ ?_
      refine rd_ixT rfl (at_map hu2) ?_
      walk_at "gof"
      refine if_split (fun h2 => ?_) (fun h2 => ?_)
      · walk_at "gof"
        rw [if_pos (show cnt + u.getD ws[j] 0 > m by have := of_decide_eq_true h2; omega)] at e
        rw [e, hb]
      · walk_at "gof"
        rw [if_neg (show ¬ cnt + u.getD ws[j] 0 > m by have := of_decide_eq_false h2; omega)] at e
        rw [e, hb]
  · rintro ρ1 k2 ⟨cnt, bor, s, t, rfl, e⟩
    rw [txt_size, List.drop_length, placeF] at e
    walk_at "gof"
    refine rc_lenS (by rw [txt_len]; exact hl) ?_
    walk_at "gof"
    rw [txt_len, e]
def R_parts (ds : List PyData) (r : PyData) : Prop := ∃ (us : List (List Nat)) (c : Nat × Nat × List Nat) (ws u : List Nat), ds = [.tuple (us.map encU), encC c, nX ws] ∧ us[c.1]? = some u ∧ (∀ x ∈ ws, x < u.length) ∧ ws.length ≤ 100000 ∧ r = encP (partsF u c.2.1 c.2.2 ws)
theorem ok_parts (T : Txt K mg A) : FnOk P w K mg base CX0 3 A.f_parts A.d_parts ["units", "cut", "word"] (spP K 3 R_parts) := by
  have G__place : FnOk P w K mg base CX0 2 A.f__place A.d__place ["units", "cut", "word"] (spP K 3 R_place) := ok__place T
  refine T.F_parts.ok sc_parts (fun vs H Q E h => ?_) (fun cdv Ar outer s H vs Q E hr h => ?_)
  · exact spP.len h
  refine ⟨_, (pss_cons (ps_set (i := 3) sc_parts.nd rfl (Or.inl rfl) (pe_lst pa_nil))
    (pss_cons (ps_while PassesOwn.never (kTruth K (pv 2) (by intro _; rfl))
    (pss_cons (ps_set (i := 4) sc_parts.nd rfl (Or.inl rfl) (pe_call G__place (hr.mono (by first | decide | omega)) rfl T.m__place T.k__place T.b__place .nil pass0 (pa_cons (pv 0) (pa_cons (pv 1) (pa_cons (pv 2) pa_nil)))))
    (pss_cons (ps_if (pt_cmpR op_eq (pv 4) pe_int (nomark _)) (pss_one (ps_ret pe_non))
    pss_nil)
    (pss_cons (ps_expr (kBm K (pe_bm PySem.F.plainAttrs_list PySem.F.slot_list_append PySem.F.type_list_append mt_append (pv 3) (pa_cons (pe_slice sl_str (pv 2) po_none (po_some (pv 4))) pa_nil))))
    (pss_one (ps_set (i := 2) sc_parts.nd rfl (Or.inl rfl) (pe_slice sl_str (pv 2) (po_some (pv 4)) po_none)))))))
    (pss_one (ps_ret (pe_callTy (T := "tuple") (kTupOf K) (by rfl) T.z_tuple (by decide +kernel) (pa_cons (pv 3) pa_nil)))))), ?_⟩
  refine spP.ok h fun W ds r hR => ?_
  obtain ⟨us, c, ws, u, rfl, hu, hx, hl, rfl⟩ := hR
  walk_at "st"
  refine sw_seq (sw_own (ea_nil ⟨by decide, ?_⟩))
  refine sw_seq (sw_while (fun m ρ1 _ => ∃ (rest : List Nat) (found : List (List Nat)) (s : Slot), ρ1 = [.dat (.tuple (us.map encU)), .dat (encC c), .dat (nX rest), .own (found.map nX), s] ∧ m = rest.length ∧ (∃ n, rest = ws.drop n) ∧ found.length + rest.length ≤ ws.length ∧
    partsF u c.2.1 c.2.2 ws = (partsF u c.2.1 c.2.2 rest).map (found ++ ·)) ws.length ⟨ws, [], .no, rfl, rfl, ⟨0, rfl⟩, by simp, by simp⟩ ?_)
  rintro m ρ1 k1 ⟨rest, found, s, rfl, rfl, ⟨n, hn⟩, hfl, e⟩
  have hrl : rest.length ≤ ws.length := by omega
  have hrx : ∀ x ∈ rest, x < u.length := fun x h => hx x (by rw [hn] at h; exact List.mem_of_mem_drop h)
  refine et_truth (ev_var rfl ⟨by show (txt rest).length ≤ 100000; rw [txt_len]; omega, ?_⟩)
  refine if_split (fun h1 => ?_) (fun h1 => ?_)
  · have hne : rest ≠ [] := by
      rintro rfl
      exact absurd h1 (by decide)
    have hp := place_le u c.2.1 c.2.2 rest
    rw [partsF_step _ _ _ hne] at e
    walk_at "gof"
    refine rc_pure rfl ⟨us, c.1, c.2.1, c.2.2, rest, u, rfl, hu, hrx, by omega, rfl⟩ ?_
    walk_at "gof"
    refine if_split (fun h2 => ?_) (fun h2 => ?_)
    · have h2 : place u c.2.1 c.2.2 rest = 0 := by have := of_decide_eq_true h2; omega
      rw [if_pos h2] at e
      walk_at "gof"
      rw [e]
      rfl
    · have h2 : place u c.2.1 c.2.2 rest ≠ 0 := by have := of_decide_eq_false h2; omega
      rw [if_neg h2] at e
      refine sw_nx (sw_seq (sw_append ?_ ⟨_, rfl⟩))
      walk_at "gof"
      refine rsl_S (by rw [txt_len]; omega) ⟨_, rfl, by rw [List.length_map]; omega, ?_⟩
      rw [cut_to]
      walk_at "gof"
      refine rsl_S (by rw [txt_len]; omega) ?_
      walk_at "gof"
      rw [cut_from]
      refine ⟨_, ?_, rest.drop (place u c.2.1 c.2.2 rest), found ++ [rest.take (place u c.2.1 c.2.2 rest)], _, by rw [List.map_append]; rfl, rfl, ⟨n + place u c.2.1 c.2.2 rest, by rw [hn, List.drop_drop]⟩, ?_, ?_⟩
      · rw [List.length_drop]
        omega
      · rw [List.length_append, List.length_drop]
        simp only [List.length_singleton]
        omega
      · rw [e]
        cases partsF u c.2.1 c.2.2 (rest.drop (place u c.2.1 c.2.2 rest)) <;> simp
  · have hne : rest = [] := by
      have : ((txt rest).length != 0) = false := h1
      rw [txt_len] at this
      exact List.length_eq_zero_iff.mp (by simpa using this)
    subst hne
    refine sw_freeze 3 rfl ?_
    walk_at "gof"
    rw [e, partsF_nil]
    simp [encP]
end

section
variable {P : Program} {w : World} {K : PySem.W.Frag} {mg : Str → Option Value} {base : Heap} {A : Adrs}
theorem ok__law_deck (T : Txt K mg A) : FnOk P w K mg base CX0 1 A.f__law_deck A.d__law_deck ["_law_script"] (spDeck K) := by
  refine T.F__law_deck.ok sc__law_deck (fun vs H Q E h => ?_) (fun cdv Ar outer s H vs Q E hr h => ?_)
  · obtain ⟨_, _, rfl, _⟩ := h
    rfl
  obtain ⟨a, ns, rfl, hS, hl, k⟩ := h
  refine ⟨_, (pss_one (ps_ret (pe_lst (pa_cons (pe_lc (own := [("_law_cell", 1)]) rfl sc__law_deck.nd (kPiL K (pe_slice (kSlL K) (pv 0) po_none (po_some pe_int))) (blkOk_by (own := [("_law_cell", 1)]) (N := N__law_deck) (sc := defScope s__law_deck) (by decide +kernel)) (fun _ _ _ _ _ => (pg_name (i := 1) sc__law_deck.nd rfl (Or.inl rfl))) (fun _ _ _ _ _ => pts_nil) (fun _ _ _ _ _ => (pe_callB (id := "abs") call_abs (by rfl) T.z_abs (by decide +kernel) (pa_cons (pv 1) pa_nil)))) (pa_cons pe_int pa_nil))))), ?_⟩
  refine ⟨_, rfl, _, rfl, a, ns.map V.int, rfl, hS, fun l hl0 => ?_⟩
  have cut : cutV (ns.map V.int) none (some 63) = ns.map V.int := by
    unfold cutV
    rw [show HT.sIx (ns.map V.int).length 0 none = 0 from rfl, show (some (63 : Int)) = some ((63 : Nat) : Int) from rfl, HT.sIx_nat, List.drop_zero, List.length_map]
    exact List.take_of_length_le (by rw [List.length_map]; omega)
  rw [cut]
  refine ⟨l, rfl, ⟨_, SqL.of upd_same⟩, fun D hD => ?_⟩
  have hDl : D ≠ l := by
    intro e
    rw [e, upd_same] at hD
    cases hD
  have hD0 : H D = none := (upd_ne hDl).symm.trans hD
  refine lc_list (K := K) (a := l) (xs := ns.map V.int) (fun i H' => H' D = some (.lst (((ns.take i).map fun c => if c < 0 then -c else c).map V.int)) ∧ H' l = some (.lst (ns.map V.int)) ∧ Same H H')
    ⟨upd_same, by rw [upd_ne hDl.symm, upd_same], Same.newer (Same.new hl0) hD0⟩ (fun i H' _ h => SqL.of h.2.1) ?_ ?_
  · rintro i x H' hx ⟨h1, h2, h3⟩
    rw [List.getElem?_map] at hx
    obtain ⟨c, hc, rfl⟩ := Option.map_eq_some_iff.mp hx
    have hi : i < ns.length := (List.getElem?_eq_some_iff.mp hc).1
    refine ⟨rfl, ?_⟩
    refine yes_ ?_
    refine ⟨_, rfl, c, rfl, _, h1, ?_, ?_, ?_, ?_⟩
    · rw [List.length_map, List.length_map, List.length_take]
      exact Nat.lt_of_le_of_lt (show min i ns.length ≤ 63 by omega) (by decide)
    · rw [upd_same, List.take_add_one, hc, List.map_append, List.map_append]
      rfl
    · rw [upd_ne hDl.symm]
      exact h2
    · exact Same.newer h3 hD0
  · rintro H' ⟨h1, h2, h3⟩
    refine ⟨(show 2 ≤ sizeLine by decide), fun p hp => ?_⟩
    have hDp : D ≠ p := ne_of_none h1 hp
    refine k _ p D (Same.free h3 hp) hD0 ⟨upd_same, _, by rw [upd_ne hDp]; exact h1, ?_, ?_⟩ (Same.newer h3 (Same.free h3 hp))
    · intro c hc
      obtain ⟨b, _, rfl⟩ := List.mem_map.mp hc
      split <;> omega
    · rw [List.length_map, List.length_take]
      omega
theorem ok_draw0 (T : Txt K mg A) : FnOk P w K mg base CX0 1 A.f__law_draw A.d__law_draw ["_law_deck_here", "_law_most"] spDraw := by
  refine T.F__law_draw.ok sc__law_draw (fun vs H Q E h => ?_) (fun cdv Ar outer s H vs Q E hr h => ?_)
  · obtain ⟨_, _, _, _, rfl, _⟩ := h
    rfl
  obtain ⟨p, q, n, many, rfl, hD, hn, h0, h9, k⟩ := h
  obtain ⟨cs, hq, hc, hl⟩ := hD.cells
  have hp := hD.top
  have pq := hD.ne
  refine ⟨_, (pss_cons (ps_asg (pe_op op_add (pe_ix (kIxL K) (pv 0) pe_int (fun _ _ => rfl)) pe_int) (pg_sub (pv 0) pe_int set_list))
    (pss_cons (ps_asg (pe_tup (pa_cons pe_int (pa_cons (pe_un un_neg pe_int) pa_nil))) (kTgT K (n := 2) (by rfl) (pgs_cons (pg_name (i := 2) sc__law_draw.nd rfl (Or.inl rfl)) (pgs_cons (pg_name (i := 3) sc__law_draw.nd rfl (Or.inl rfl)) pgs_nil))))
    (pss_cons (ps_if (pt_cmpR op_gt (pe_callB (id := "len") (kLenQ K) (by rfl) T.z_len (by decide +kernel) (pa_cons (pe_ix (kIxL K) (pv 0) pe_int (fun _ _ => rfl)) pa_nil)) pe_int (nomark _)) (pss_cons (ps_set (i := 3) sc__law_draw.nd rfl (Or.inl rfl) (pe_op op_mod (pe_callTy (T := "int") call_int1 (by rfl) T.z_int (by decide +kernel) (pa_cons (pe_ix (kIxL K) (pv 0) pe_int (fun _ _ => rfl)) pa_nil)) (pe_callB (id := "len") (kLenQ K) (by rfl) T.z_len (by decide +kernel) (pa_cons (pe_ix (kIxL K) (pv 0) pe_int (fun _ _ => rfl)) pa_nil))))
    (pss_one (ps_set (i := 2) sc__law_draw.nd rfl (Or.inl rfl) (pe_ix (kIxL K) (pe_ix (kIxL K) (pv 0) pe_int (fun _ _ => rfl)) (pv 3) (fun _ _ => rfl)))))
    pss_nil)
    (pss_cons (ps_if (pt_cmpR op_ge (pv 2) (pe_op op_pow pe_int pe_int) (nomark _)) (pss_cons (ps_asg (pe_op op_fdiv (pe_callTy (T := "int") call_int1 (by rfl) T.z_int (by decide +kernel) (pa_cons (pv 2) pa_nil)) (pv 1)) (pg_sub (pe_ix (kIxL K) (pv 0) pe_int (fun _ _ => rfl)) (pv 3) set_list))
    (pss_one (ps_ret (pe_op op_mod (pe_callTy (T := "int") call_int1 (by rfl) T.z_int (by decide +kernel) (pa_cons (pv 2) pa_nil)) (pv 1)))))
    pss_nil)
    (pss_cons (ps_set (i := 4) sc__law_draw.nd rfl (Or.inl rfl) (pe_op op_add (pe_op op_add (pe_op op_mod (pe_callTy (T := "int") call_int1 (by rfl) T.z_int (by decide +kernel) (pa_cons (pv 2) pa_nil)) pe_int) (pe_op op_mul pe_int (pe_ix (kIxL K) (pv 0) pe_int (fun _ _ => rfl)))) pe_int))
    (pss_one (ps_ret (pe_op op_mod (pe_callTy (T := "int") call_int1 (by rfl) T.z_int (by decide +kernel) (pa_cons (pe_op op_mod (pe_callTy (T := "int") call_int1 (by rfl) T.z_int (by decide +kernel) (pa_cons (pe_op op_pow (pv 4) pe_int) pa_nil)) pe_int) pa_nil)) (pv 1))))))))), ?_⟩
  refine ⟨_, rfl, p, _, 1, _, rfl, rfl, SqL.of hp, rfl, _, _, rfl, rfl, _, rfl, p, _, 1, 1, rfl, rfl, hp, rfl, ?_⟩
  refine ⟨_, rfl, by decide, fun t ht => ?_⟩
  refine ⟨t, _, rfl, SqT.of upd_same, rfl, ?_⟩
  have tp : t ≠ p := by
    intro e
    rw [e, upd_same] at ht
    cases ht
  have ht0 : H t = none := (upd_ne tp).symm.trans ht
  have tq : t ≠ q := fun e => by rw [e, hq] at ht0; cases ht0
  have hp2 : (upd (upd H p (.lst ([V.ref q, V.int (n : Int)].set 1 (.int ((n : Int) + 1))))) t (.tup [V.int 0, .int (-1)])) p = some (.lst [V.ref q, V.int ((n : Int) + 1)]) := by
    rw [upd_ne tp.symm, upd_same]
    rfl
  have hq2 : (upd (upd H p (.lst ([V.ref q, V.int (n : Int)].set 1 (.int ((n : Int) + 1))))) t (.tup [V.int 0, .int (-1)])) q = some (.lst (cs.map V.int)) := by
    rw [upd_ne tq.symm, upd_ne pq.symm]
    exact hq
  have he2 : Ext [p, q] H (upd (upd H p (.lst ([V.ref q, V.int (n : Int)].set 1 (.int ((n : Int) + 1))))) t (.tup [V.int 0, .int (-1)])) :=
    Ext.trans (Ext.put (by simp)) (Ext.new ht)
  revert hp2 hq2 he2
  intro hp2 hq2 he2
  refine two_ ?_
  dsimp only
  revert hp2 hq2 he2
  generalize upd (upd H p (.lst ([V.ref q, V.int (n : Int)].set 1 (.int ((n : Int) + 1))))) t (.tup [V.int 0, .int (-1)]) = H2
  intro hp2 hq2 he2
  refine sq (fun σ' H' => H' = H2 ∧ ∃ (c : Int) (z : Int), 0 ≤ c ∧ σ' = [some (.ref p), some (.int many), some (.int c), some (.int z), none] ∧ (c = 0 ∨ ∃ i : Nat, z = (i : Int) ∧ cs[i]? = some c)) (fun N hN => ?_) ?_
  · refine ⟨_, rfl, p, _, 0, _, rfl, rfl, SqL.of hp2, rfl, q, _, rfl, .inl (SqL.of hq2), _, _, rfl, rfl, _, rfl, idec (fun hlen => ?_) (fun hlen => ?_)⟩
    · rw [List.length_map] at hlen
      have hm0 : 0 ≤ ((n : Int) + 1) % (cs.length : Int) := Int.emod_nonneg _ (by omega)
      have hm1 : ((n : Int) + 1) % (cs.length : Int) < cs.length := Int.emod_lt_of_pos _ (by omega)
      obtain ⟨i, hi⟩ : ∃ i : Nat, ((n : Int) + 1) % (cs.length : Int) = (i : Int) := ⟨_, (Int.toNat_of_nonneg hm0).symm⟩
      have hil : i < cs.length := by omega
      obtain ⟨c, hci⟩ : ∃ c, cs[i]? = some c := ⟨cs[i], by simp [hil]⟩
      refine ⟨_, rfl, p, _, 1, _, rfl, rfl, SqL.of hp2, rfl, .inl ⟨_, rfl, _, rfl, p, _, 0, _, rfl, rfl, SqL.of hp2, rfl, q, _, rfl, .inl (SqL.of hq2), _, _, rfl, rfl, ?_, ?_⟩⟩
      · rw [List.length_map]
        exact hlen
      · dsimp only
        rw [List.length_map, hi]
        refine ⟨_, rfl, p, _, 0, _, rfl, rfl, SqL.of hp2, rfl, _, rfl, q, _, (i : Int), .int c, rfl, rfl, SqL.of hq2, atI_nat (by rw [List.getElem?_map, hci]; rfl), ?_⟩
        exact hN _ _ ⟨rfl, c, (i : Int), hc c (List.mem_of_getElem? hci), rfl, .inr ⟨i, rfl, hci⟩⟩
    · exact hN _ _ ⟨rfl, 0, -1, Int.le_refl 0, rfl, .inl rfl⟩
  rintro σ' H' ⟨rfl, c, z, hc0, rfl, hcz⟩
  refine sq (fun σ' H'' => H'' = H' ∧ σ' = [some (.ref p), some (.int many), some (.int c), some (.int z), none]) (fun N hN => ?_) ?_
  · refine ⟨_, rfl, (10 : Int), (18 : Int), rfl, rfl, ⟨by decide, by decide, by decide⟩, _, _, rfl, rfl, _, rfl, idec (fun hbig => ?_) (fun _ => ?_)⟩
    · -- a great cell
      obtain ⟨i, rfl, hci⟩ : ∃ i : Nat, z = (i : Int) ∧ cs[i]? = some c := by
        rcases hcz with rfl | h
        · exact absurd hbig (by decide)
        · exact h
      have hil : i < cs.length := (List.getElem?_eq_some_iff.mp hci).1
      refine ⟨_, rfl, .inl ⟨_, rfl, _, rfl, _, _, rfl, rfl, ⟨h0, by omega⟩, ?_⟩⟩
      refine ⟨_, rfl, p, _, 0, _, rfl, rfl, SqL.of hp2, rfl, _, rfl, q, _, (i : Int), i, rfl, rfl, hq2, ?_, ?_⟩
      · unfold ixN
        rw [List.length_map, if_pos (by omega), if_pos (by omega)]
        simp
      refine ⟨_, rfl, .inl ⟨_, rfl, _, rfl, _, _, rfl, rfl, h0, ?_⟩⟩
      refine k _ _ ⟨by rw [upd_ne pq]; exact hp2, cs.set i (c / many), by rw [upd_same, List.map_set], ?_, by rw [List.length_set]; exact hl⟩ (Ext.trans he2 (Ext.put (by simp))) (Int.emod_nonneg _ (by omega)) (Int.emod_lt_of_pos _ h0)
      intro d hd
      rcases List.mem_or_eq_of_mem_set hd with h | rfl
      · exact hc d h
      · exact Int.ediv_nonneg hc0 (by omega)
    · exact hN _ _ ⟨rfl, rfl⟩
  rintro σ' H'' ⟨rfl, rfl⟩
  have hm0 : 0 ≤ c % 2147483399 := Int.emod_nonneg _ (by decide)
  have hm1 : c % 2147483399 < 2147483399 := Int.emod_lt_of_pos _ (by decide)
  refine ⟨_, rfl, .inl ⟨_, rfl, _, _, rfl, rfl, (show (0 : Int) < 2147483399 by decide), _, rfl, p, _, 1, _, rfl, rfl, SqL.of hp2, rfl, _, _, rfl, rfl, .inl ⟨by decide, by decide⟩, _, _, rfl, rfl, _, _, rfl, rfl, ?_⟩⟩
  refine ⟨_, rfl, _, _, rfl, rfl, ⟨by decide, by decide, by omega⟩, .inl ⟨_, rfl, _, _, rfl, rfl, (show (0 : Int) < 2147483549 by decide), .inl ⟨_, rfl, _, rfl, _, _, rfl, rfl, h0, ?_⟩⟩⟩
  exact k _ _ ⟨hp2, cs, hq2, hc, hl⟩ he2 (Int.emod_nonneg _ (by omega)) (Int.emod_lt_of_pos _ h0)
theorem ok__law_draw (T : Txt K mg A) : FnOk P w K mg base CX0 1 A.f__law_draw A.d__law_draw ["_law_deck_here", "_law_most"] (spD K 2 R_draw) :=
  FnOk.less (ok_draw0 T) fun vs H Q E h => by
    obtain ⟨M, p, q, n, us, ds, c, G, rfl, dk, hp, hq, ta, tr, hl, ⟨many, rfl, h1, h2, rfl, rfl⟩, hn, k⟩ := h
    obtain ⟨v, rfl, t⟩ := ta.one_
    cases t
    refine ⟨p, q, n, many, rfl, dk, by omega, h1, h2, fun H' r dk' e r0 r1 => ?_⟩
    obtain ⟨r', rfl⟩ : ∃ r' : Nat, r = (r' : Int) := ⟨r.toNat, by omega⟩
    exact k _ (nI r') H' (n + 1) dk' (Nat.le_refl _) e (.int _) ⟨r', r1, rfl⟩
end
section
variable {P : Program} {w : World} {K : PySem.W.Frag} {mg : Str → Option Value} {base : Heap} {A : Adrs}
theorem ok__law_one (T : Txt K mg A) : FnOk P w K mg base CX0 2 A.f__law_one A.d__law_one ["_law_deck_here", "_law_items"] (spD K 2 R_one) := by
  have G__law_draw : FnOk P w K mg base CX0 1 A.f__law_draw A.d__law_draw ["_law_deck_here", "_law_most"] (spD K 2 R_draw) := ok__law_draw T
  refine T.F__law_one.ok sc__law_one (fun vs H Q E h => ?_) (fun cdv Ar outer s H vs Q E hr h => ?_)
  · exact spD.len h
  refine ⟨_, (pss_one (ps_ret (pe_ix (kIxQ K) (pv 1) (pe_call G__law_draw (hr.mono (by first | decide | omega)) rfl T.m__law_draw T.k__law_draw T.b__law_draw .nil pass0 (pa_cons (pv 0) (pa_cons (pe_callB (id := "len") (kLenA K) (by rfl) T.z_len (by decide +kernel) (pa_cons (pv 1) pa_nil)) pa_nil))) (fun _ _ => rfl)))), ?_⟩
  refine spD.ok h fun M p q hp hq Hs tr ds cc k0 G hR hk0 => ?_
  obtain ⟨rfl, hR⟩ := hR
  have main : ∀ (x : PyData) (n : Nat), ds = [x] → lenD x = some n → 0 < n → n ≤ 1000 → sizeOk x → (∀ j, j < n → ∃ d, nthD x j = some d ∧ G d) →
      SW K (deckW M p q Hs tr hp hq) (tRet (tOp (rIx K) (tVar 1) (tCall (spD K 2 R_draw) [] E0 (tCons (tVar 0) (tCons (tCB (rLenA K) (tCons (tVar 1) tNil)) tNil))))) [.raw (.ref p), .dat x] k0 ⟨fun _ k => G .none ∧ k ≤ k0 + 1, fun d k => G d ∧ k ≤ k0 + 1, fun _ _ => False, fun _ _ => False⟩ := fun x n e hn n0 n1 hz hG => by
    walk_at "go"
    refine rc_lenA hn (by omega) ?_
    walk_at "go"
    refine ⟨by omega, by omega, by omega, fun r hr => ?_⟩
    obtain ⟨d, h1, h2⟩ := hG r (by omega)
    exact rd_ixQ rfl hz h1 ⟨h2, Nat.le_refl _⟩
  rcases hR with ⟨es, rfl | rfl, h0, h1, rfl⟩ | ⟨ws, rfl, h0, h1, rfl⟩
  · exact main (.list es) es.length rfl rfl (List.length_pos_iff.mpr h0) h1 trivial fun j hj => ⟨es[j], by simp [nthD, hj], List.getElem_mem hj⟩
  · exact main (.tuple es) es.length rfl rfl (List.length_pos_iff.mpr h0) h1 trivial fun j hj => ⟨es[j], by simp [nthD, hj], List.getElem_mem hj⟩
  · exact main (.str (txt ws)) ws.length rfl (by simp [lenD, txt_len]) (List.length_pos_iff.mpr h0) h1 (by show (txt ws).length ≤ 100000; rw [txt_len]; omega) fun j hj => ⟨.str (txt [ws[j]]), by simp [nthD, txt_get, hj, txt], ws[j], List.getElem_mem hj, rfl⟩
end

/-! ### the law's units, cuts, words -/
theorem ints_sum (u : List Nat) (ws : List Nat) : ((ws.map fun c => nI (u.getD c 0))) = (ws.map fun c => ((u.getD c 0 : Nat) : Int)).map PyData.int := by rw [List.map_map]; rfl
theorem sum_cast (f : Nat → Nat) (l : List Nat) : (l.map fun c => ((f c : Nat) : Int)).sum = (((l.map f).sum : Nat) : Int) := by
  induction l with
  | nil => rfl
  | cons x xs ih => rw [List.map_cons, List.map_cons, List.sum_cons, List.sum_cons, ih]; omega
theorem txt_at {ws : List Nat} {j : Nat} (h : j < ws.length) : (txt ws).cps[j]?.getD 0 = 97 + ws[j] := by rw [txt_get]; simp [h]
theorem range_map {α : Type} (ws : List Nat) (f : Nat → α) : (List.range ws.length).map (fun j => f (ws.getD j 0)) = ws.map f := by
  apply List.ext_getElem?
  intro i
  rw [List.getElem?_map, List.getElem?_map]
  by_cases h : i < ws.length
  · rw [List.getElem?_range h]; simp [h]
  · simp [h]
theorem keep_all {α : Type} (l : List α) : (l.filter fun _ => true) = l := List.filter_eq_self.mpr fun _ _ => rfl
structure UOk (L : Nat) (u : List Nat) : Prop where
  len : u.length = L
  small : ∀ n ∈ u, n ≤ 9
structure COk (L U most : Nat) (c : Nat × Nat × List Nat) : Prop where
  unit : c.1 < U
  small : c.2.1 ≤ most
  cl : ∃ f : Nat → Bool, c.2.2 = (List.range L).filter f
section
variable {P : Program} {w : World} {K : PySem.W.Frag} {mg : Str → Option Value} {base : Heap} {A : Adrs}
def R_count (ds : List PyData) (r : PyData) : Prop := ∃ u ws : List Nat, ds = [encU u, nX ws] ∧ (∀ c ∈ ws, c < u.length ∧ c < 4) ∧ ws.length ≤ 100000 ∧ r = nI (cntN u ws)
theorem ok__law_count (T : Txt K mg A) : FnOk P w K mg base CX0 1 A.f__law_count A.d__law_count ["_law_unit_here", "_law_word"] (spP K 2 R_count) := by
  refine T.F__law_count.ok sc__law_count (fun vs H Q E h => ?_) (fun cdv Ar outer s H vs Q E hr h => ?_)
  · exact spP.len h
  refine ⟨_, (pss_one (ps_ret (pe_callB (id := "sum") (kSum K rfl) (by rfl) T.z_sum (by decide +kernel) (pa_cons (pe_lc (own := [("_law_letter", 2)]) rfl sc__law_count.nd (pi_str (pv 1)) (blkOk_by (own := [("_law_letter", 2)]) (N := N__law_count) (sc := defScope s__law_count) (by decide +kernel)) (fun _ _ _ _ _ => (pg_name (i := 2) sc__law_count.nd rfl (Or.inl rfl))) (fun _ _ _ _ _ => pts_nil) (fun _ _ _ _ _ => (pe_ix (kIxT K) (pv 0) (kBm K (pe_bm PySem.F.plainAttrs_str PySem.F.slot_str_index PySem.F.type_str_index mt_sindex pe_str (pa_cons (pv 2) pa_nil))) (fun _ _ => rfl)))) pa_nil)))), ?_⟩
  refine spP.ok h fun W ds r hR => ?_
  obtain ⟨u, ws, rfl, hw, hl, rfl⟩ := hR
  walk_at "st"
  walk_at "gof"
  refine ev_lcP (fun _ => true) (fun j => nI (u.getD (ws.getD j 0) 0)) (ei_str (ev_var rfl ⟨_, rfl, ?_⟩))
  rw [txt_size]
  refine ⟨by omega, fun j hj => ?_, ?_⟩
  · dsimp only
    rw [txt_at hj]
    have := hw ws[j] (List.getElem_mem hj)
    walk_at "gof"
    refine ⟨this.2, ?_⟩
    refine rd_ixT rfl (at_map (f := nI) (u := u.getD ws[j] 0) (by simp [this.1])) ?_
    exact ⟨by simp [hj], rfl⟩
  · rw [keep_all, range_map ws (fun c => nI (u.getD c 0)), ints_sum]
    walk_at "gof"
    refine rc_sum _ rfl ?_
    rw [sum_cast (fun c => u.getD c 0)]
    rfl
def R_unit (ds : List PyData) (c : Nat) (G : PyData → Prop) : Prop := ∃ L least : Nat, ds = [nI L, nI least] ∧ L ≤ 4 ∧ least ≤ 1 ∧ c = 8 ∧ G = fun d => ∃ u, d = encU u ∧ UOk L u
theorem ok__law_unit (T : Txt K mg A) : FnOk P w K mg base CX0 3 A.f__law_unit A.d__law_unit ["_law_deck_here", "_law_letters", "_law_least"] (spD K 3 R_unit) := by
  have G__law_one : FnOk P w K mg base CX0 2 A.f__law_one A.d__law_one ["_law_deck_here", "_law_items"] (spD K 2 R_one) := ok__law_one T
  have G__law_draw : FnOk P w K mg base CX0 1 A.f__law_draw A.d__law_draw ["_law_deck_here", "_law_most"] (spD K 2 R_draw) := ok__law_draw T
  refine T.F__law_unit.ok sc__law_unit (fun vs H Q E h => ?_) (fun cdv Ar outer s H vs Q E hr h => ?_)
  · exact spD.len h
  refine ⟨_, (pss_one (ps_ret (pe_callTy (T := "tuple") (kTupOf K) (by rfl) T.z_tuple (by decide +kernel) (pa_cons (pe_lc (own := [("_law_k", 3)]) rfl sc__law_unit.nd (pi_range1 (by rfl) T.z_range (pa_cons (pv 1) pa_nil)) (blkOk_by (own := [("_law_k", 3)]) (N := N__law_unit) (sc := defScope s__law_unit) (by decide +kernel)) (fun _ _ _ _ _ => (pg_name (i := 3) sc__law_unit.nd rfl (Or.inl rfl))) (fun _ _ _ _ _ => pts_nil) (fun _ _ _ _ _ => (pe_call G__law_one (hr.mono (by first | decide | omega)) rfl T.m__law_one T.k__law_one T.b__law_one .nil pass0 (pa_cons (pv 0) (pa_cons (pe_lst (pa_cons (pv 2) (pa_cons pe_int (pa_cons pe_int (pa_cons pe_int (pa_cons pe_int (pa_cons (pe_op op_add (pe_call G__law_draw (hr.mono (by first | decide | omega)) rfl T.m__law_draw T.k__law_draw T.b__law_draw .nil pass0 (pa_cons (pv 0) (pa_cons pe_int pa_nil))) pe_int) pa_nil))))))) pa_nil))))) pa_nil)))), ?_⟩
  refine spD.ok h fun M p q hp hq Hs tr ds cc k0 G hR hk0 => ?_
  obtain ⟨L, least, rfl, hL, hle, rfl, rfl⟩ := hR
  walk_at "st"
  walk_at "gof"
  refine ev_lc (ei_rng1 ?_)
  walk_at "gof"
  refine ⟨by omega, by omega, ?_⟩
  refine ⟨by omega, fun j acc k2 => ∃ u : List Nat, acc = u.map nI ∧ u.length = j ∧ (∀ n ∈ u, n ≤ 9) ∧ k2 ≤ k0 + 2 * j, ⟨[], rfl, rfl, (fun _ h => nomatch h), Nat.le_refl _⟩, ?_, ?_⟩
  · rintro j acc k2 hj ⟨u, rfl, hu, hn, hk⟩
    walk_at "gof"
    refine ⟨by omega, fun r hr => ?_⟩
    walk_at "gof"
    refine ⟨by omega, by simp, by simp, fun d hd => ?_⟩
    have hd' : ∃ x : Nat, d = nI x ∧ x ≤ 9 := by
      simp only [List.mem_cons, List.not_mem_nil, or_false] at hd
      rcases hd with rfl | rfl | rfl | rfl | rfl | rfl
      · exact ⟨least, rfl, by omega⟩
      · exact ⟨1, rfl, by omega⟩
      · exact ⟨1, rfl, by omega⟩
      · exact ⟨2, rfl, by omega⟩
      · exact ⟨3, rfl, by omega⟩
      · exact ⟨r + 1, rfl, by omega⟩
    obtain ⟨x, rfl, hx⟩ := hd'
    exact ⟨u ++ [x], by rw [List.map_append]; rfl, by rw [List.length_append, hu]; rfl, fun n hn' => by
      rcases List.mem_append.mp hn' with h | h
      · exact hn n h
      · rw [List.mem_singleton.mp h]; exact hx, by omega⟩
  · rintro acc k2 _ ⟨u, rfl, hu, hn, hk⟩
    walk_at "gof"
    exact ⟨⟨u, rfl, by omega, hn⟩, by omega⟩
def R_units (ds : List PyData) (c : Nat) (G : PyData → Prop) : Prop := ∃ L : Nat, ds = [nI L] ∧ L ≤ 4 ∧ c = 17 ∧ G = fun d => ∃ us : List (List Nat), d = .tuple (us.map encU) ∧ 1 ≤ us.length ∧ us.length ≤ 2 ∧ ∀ u ∈ us, UOk L u
theorem ok__law_units (T : Txt K mg A) : FnOk P w K mg base CX0 4 A.f__law_units A.d__law_units ["_law_deck_here", "_law_letters"] (spD K 2 R_units) := by
  have G__law_unit : FnOk P w K mg base CX0 3 A.f__law_unit A.d__law_unit ["_law_deck_here", "_law_letters", "_law_least"] (spD K 3 R_unit) := ok__law_unit T
  have G__law_draw : FnOk P w K mg base CX0 1 A.f__law_draw A.d__law_draw ["_law_deck_here", "_law_most"] (spD K 2 R_draw) := ok__law_draw T
  refine T.F__law_units.ok sc__law_units (fun vs H Q E h => ?_) (fun cdv Ar outer s H vs Q E hr h => ?_)
  · exact spD.len h
  refine ⟨_, (pss_one (ps_ret (pe_callTy (T := "tuple") (kTupOf K) (by rfl) T.z_tuple (by decide +kernel) (pa_cons (pe_lc (own := [("_law_k", 2)]) rfl sc__law_units.nd (pi_range1 (by rfl) T.z_range (pa_cons (pe_op op_add pe_int (pe_call G__law_draw (hr.mono (by first | decide | omega)) rfl T.m__law_draw T.k__law_draw T.b__law_draw .nil pass0 (pa_cons (pv 0) (pa_cons pe_int pa_nil)))) pa_nil)) (blkOk_by (own := [("_law_k", 2)]) (N := N__law_units) (sc := defScope s__law_units) (by decide +kernel)) (fun _ _ _ _ _ => (pg_name (i := 2) sc__law_units.nd rfl (Or.inl rfl))) (fun _ _ _ _ _ => pts_nil) (fun _ _ _ _ _ => (pe_call G__law_unit (hr.mono (by first | decide | omega)) rfl T.m__law_unit T.k__law_unit T.b__law_unit .nil pass0 (pa_cons (pv 0) (pa_cons (pv 1) (pa_cons pe_int pa_nil)))))) pa_nil)))), ?_⟩
  refine spD.ok h fun M p q hp hq Hs tr ds cc k0 G hR hk0 => ?_
  obtain ⟨L, rfl, hL, rfl, rfl⟩ := hR
  walk_at "st"
  walk_at "gof"
  refine ev_lc (ei_rng1 ?_)
  walk_at "gof"
  refine ⟨by omega, fun r hr => ?_⟩
  walk_at "gof"
  refine ⟨by omega, by omega, ?_⟩
  refine ⟨by omega, fun j acc k2 => ∃ us : List (List Nat), acc = us.map encU ∧ us.length = j ∧ (∀ u ∈ us, UOk L u) ∧ k2 ≤ k0 + 1 + 8 * j, ⟨[], rfl, rfl, (fun _ h => nomatch h), Nat.le_refl _⟩, ?_, ?_⟩
  · rintro j acc k2 hj ⟨us, rfl, hu, hn, hk⟩
    walk_at "gof"
    refine ⟨8, _, ⟨L, 0, rfl, hL, by omega, rfl, rfl⟩, by omega, ?_⟩
    rintro d ⟨u, rfl, hu2⟩
    exact ⟨us ++ [u], by rw [List.map_append]; rfl, by rw [List.length_append, hu]; rfl, fun v hv => by
      rcases List.mem_append.mp hv with h | h
      · exact hn v h
      · rw [List.mem_singleton.mp h]; exact hu2, by omega⟩
  · rintro acc k2 _ ⟨us, rfl, hu, hn, hk⟩
    walk_at "gof"
    exact ⟨⟨us, rfl, by omega, by omega, hn⟩, by omega⟩
def R_cut (ds : List PyData) (c : Nat) (G : PyData → Prop) : Prop := ∃ (L most : Nat) (us : List (List Nat)), ds = [nI L, .tuple (us.map encU), nI most] ∧ L ≤ 4 ∧ 1 ≤ us.length ∧ us.length ≤ 2 ∧ most ≤ 1000 ∧ c = 6 ∧ G = fun d => ∃ cu, d = encC cu ∧ COk L us.length most cu
theorem abcd_cut {L : Nat} (h : L ≤ 4) : cutS (Str.ofString "abcd") none (some (L : Int)) = txt (List.range L) := by
  rw [txt_abcd, cut_to]
  have : L = 0 ∨ L = 1 ∨ L = 2 ∨ L = 3 ∨ L = 4 := by omega
  rcases this with rfl | rfl | rfl | rfl | rfl <;> rfl
theorem join_ones (ws : List Nat) : Txt.join (Str.ofString "") (ws.map fun c => txt [c]) = txt ws := by
  have := join_txt (ws.map fun c => [c])
  rw [List.map_map] at this
  rw [show (fun c => txt [c]) = txt ∘ fun c => [c] from rfl, this]
  congr 1
  induction ws with
  | nil => rfl
  | cons x xs ih => rw [List.map_cons, List.flatten_cons, ih (by simpa using join_txt (xs.map fun c => [c]))]; rfl
theorem ones_len (ws : List Nat) : ((ws.map fun c => txt [c]).map fun z : Str => z.length).sum = ws.length := by
  rw [List.map_map]
  induction ws with
  | nil => rfl
  | cons x xs ih =>
    rw [List.map_cons, List.sum_cons, ih, List.length_cons]
    show 1 + _ = _
    omega
theorem range_take_filter {L j : Nat} (h : j < L) (f : Nat → Bool) : ((List.range (j + 1)).filter f) = (List.range j).filter f ++ (if f j = true then [j] else []) := by
  rw [List.range_succ, List.filter_append]
  by_cases hf : f j = true <;> simp [hf]
theorem ok__law_cut (T : Txt K mg A) : FnOk P w K mg base CX0 2 A.f__law_cut A.d__law_cut ["_law_deck_here", "_law_letters", "_law_units_here", "_law_most"] (spD K 4 R_cut) := by
  have G__law_draw : FnOk P w K mg base CX0 1 A.f__law_draw A.d__law_draw ["_law_deck_here", "_law_most"] (spD K 2 R_draw) := ok__law_draw T
  refine T.F__law_cut.ok sc__law_cut (fun vs H Q E h => ?_) (fun cdv Ar outer s H vs Q E hr h => ?_)
  · exact spD.len h
  refine ⟨_, (pss_cons (ps_set (i := 4) sc__law_cut.nd rfl (Or.inl rfl) (kJoin K (pe_join pe_str (pe_lc (own := [("_law_letter", 5)]) rfl sc__law_cut.nd (pi_str (pe_slice sl_str pe_str po_none (po_some (pv 1)))) (blkOk_by (own := [("_law_letter", 5)]) (N := N__law_cut) (sc := defScope s__law_cut) (by decide +kernel)) (fun _ _ _ _ _ => (pg_name (i := 5) sc__law_cut.nd rfl (Or.inl rfl))) (fun _ _ _ _ _ => (pts_one (pt_cmpR op_eq (pe_call G__law_draw (hr.mono (by first | decide | omega)) rfl T.m__law_draw T.k__law_draw T.b__law_draw .nil pass0 (pa_cons (pv 0) (pa_cons pe_int pa_nil))) pe_int (nomark _)))) (fun _ _ _ _ _ => (pv 5))))))
    (pss_one (ps_ret (pe_tup (pa_cons (pe_call G__law_draw (hr.mono (by first | decide | omega)) rfl T.m__law_draw T.k__law_draw T.b__law_draw .nil pass0 (pa_cons (pv 0) (pa_cons (pe_callB (id := "len") (kLenQ K) (by rfl) T.z_len (by decide +kernel) (pa_cons (pv 2) pa_nil)) pa_nil))) (pa_cons (pe_call G__law_draw (hr.mono (by first | decide | omega)) rfl T.m__law_draw T.k__law_draw T.b__law_draw .nil pass0 (pa_cons (pv 0) (pa_cons (pe_op op_add (pv 3) pe_int) pa_nil))) (pa_cons (pv 4) pa_nil))))))), ?_⟩
  refine spD.ok h fun M p q hp hq Hs tr ds cc k0 G hR hk0 => ?_
  obtain ⟨L, most, us, rfl, hL, hu1, hu2, hm, rfl, rfl⟩ := hR
  walk_at "st"
  walk_at "gof"
  refine ev_lc (ei_str ?_)
  walk_at "gof"
  refine rsl_S (by decide) ?_
  walk_at "gof"
  rw [abcd_cut hL, txt_size, List.length_range]
  refine ⟨by omega, fun j acc k2 => k2 ≤ k0 + j ∧ ∃ f : Nat → Bool, acc = ((List.range j).filter f).map fun c => PyData.str (txt [c]), ⟨Nat.le_refl _, fun _ => false, rfl⟩, ?_, ?_⟩
  · rintro j acc k2 hj ⟨hk, f, rfl⟩
    have hx : (txt (List.range L)).cps[j]?.getD 0 = 97 + j := by rw [txt_get]; simp [hj]
    dsimp only
    rw [hx]
    walk_at "gof"
    refine ⟨by omega, fun r hr => ?_⟩
    walk_at "gof"
    have ext : ∀ b : Bool, ((List.range (j + 1)).filter fun i => if i = j then b else f i) = (List.range j).filter f ++ (if b = true then [j] else []) := fun b => by
      rw [range_take_filter hj]
      have : (List.range j).filter (fun i => if i = j then b else f i) = (List.range j).filter f := List.filter_congr fun i hi => by
        have := List.mem_range.mp hi
        rw [if_neg (by omega)]
      rw [this, if_pos rfl]
    refine if_split (fun h => ?_) (fun h => ?_)
    · walk_at "gof"
      exact ⟨by omega, fun i => if i = j then true else f i, by rw [ext, List.map_append]; rfl⟩
    · exact ⟨by omega, fun i => if i = j then false else f i, by rw [ext]; simp⟩
  · rintro acc k2 hlen ⟨hk, f, rfl⟩
    rw [List.length_map] at hlen
    refine ⟨((List.range L).filter f).map fun c => txt [c], by rw [List.map_map]; rfl, ?_, ?_⟩
    · rw [ones_len, List.length_map]
      have : (Str.ofString "").length = 0 := rfl
      rw [this]
      omega
    rw [join_ones]
    walk_at "gof"
    rw [List.length_map]
    refine ⟨by omega, by omega, by omega, fun r1 hr1 => ?_⟩
    walk_at "gof"
    refine ⟨by omega, by omega, by omega, fun r2 hr2 => ?_⟩
    walk_at "gof"
    exact ⟨⟨(r1, r2, (List.range L).filter f), rfl, by show r1 < _; omega, by show r2 ≤ _; omega, ⟨f, rfl⟩⟩, by omega⟩
def R_cuts (ds : List PyData) (c : Nat) (G : PyData → Prop) : Prop := ∃ (L most wide : Nat) (us : List (List Nat)), ds = [nI L, .tuple (us.map encU), nI most, nI wide] ∧ L ≤ 4 ∧ 1 ≤ us.length ∧ us.length ≤ 2 ∧ most ≤ 1000 ∧ wide ≤ 100 ∧ c = 1 + 6 * wide ∧ G = fun d => ∃ cs : List (Nat × Nat × List Nat), d = .tuple (cs.map encC) ∧ cs.length ≤ wide ∧ ∀ cu ∈ cs, COk L us.length most cu
theorem ok__law_cuts (T : Txt K mg A) : FnOk P w K mg base CX0 3 A.f__law_cuts A.d__law_cuts ["_law_deck_here", "_law_letters", "_law_units_here", "_law_most", "_law_wide"] (spD K 5 R_cuts) := by
  have G__law_cut : FnOk P w K mg base CX0 2 A.f__law_cut A.d__law_cut ["_law_deck_here", "_law_letters", "_law_units_here", "_law_most"] (spD K 4 R_cut) := ok__law_cut T
  have G__law_draw : FnOk P w K mg base CX0 1 A.f__law_draw A.d__law_draw ["_law_deck_here", "_law_most"] (spD K 2 R_draw) := ok__law_draw T
  refine T.F__law_cuts.ok sc__law_cuts (fun vs H Q E h => ?_) (fun cdv Ar outer s H vs Q E hr h => ?_)
  · exact spD.len h
  refine ⟨_, (pss_one (ps_ret (pe_callTy (T := "tuple") (kTupOf K) (by rfl) T.z_tuple (by decide +kernel) (pa_cons (pe_lc (own := [("_law_k", 5)]) rfl sc__law_cuts.nd (pi_range1 (by rfl) T.z_range (pa_cons (pe_call G__law_draw (hr.mono (by first | decide | omega)) rfl T.m__law_draw T.k__law_draw T.b__law_draw .nil pass0 (pa_cons (pv 0) (pa_cons (pe_op op_add (pv 4) pe_int) pa_nil))) pa_nil)) (blkOk_by (own := [("_law_k", 5)]) (N := N__law_cuts) (sc := defScope s__law_cuts) (by decide +kernel)) (fun _ _ _ _ _ => (pg_name (i := 5) sc__law_cuts.nd rfl (Or.inl rfl))) (fun _ _ _ _ _ => pts_nil) (fun _ _ _ _ _ => (pe_call G__law_cut (hr.mono (by first | decide | omega)) rfl T.m__law_cut T.k__law_cut T.b__law_cut .nil pass0 (pa_cons (pv 0) (pa_cons (pv 1) (pa_cons (pv 2) (pa_cons (pv 3) pa_nil))))))) pa_nil)))), ?_⟩
  refine spD.ok h fun M p q hp hq Hs tr ds cc k0 G hR hk0 => ?_
  obtain ⟨L, most, wide, us, rfl, hL, hu1, hu2, hm, hw, rfl, rfl⟩ := hR
  walk_at "st"
  walk_at "gof"
  refine ev_lc (ei_rng1 ?_)
  walk_at "gof"
  refine ⟨by omega, by omega, by omega, fun r hr => ?_⟩
  walk_at "gof"
  refine ⟨by omega, by omega, ?_⟩
  refine ⟨by omega, fun j acc k2 => ∃ cs : List (Nat × Nat × List Nat), acc = cs.map encC ∧ cs.length = j ∧ (∀ u ∈ cs, COk L us.length most u) ∧ k2 ≤ k0 + 1 + 6 * j, ⟨[], rfl, rfl, (fun _ h => nomatch h), Nat.le_refl _⟩, ?_, ?_⟩
  · rintro j acc k2 hj ⟨cs, rfl, hu, hn, hk⟩
    walk_at "gof"
    refine ⟨6, _, ⟨L, most, us, rfl, hL, hu1, hu2, hm, rfl, rfl⟩, by omega, ?_⟩
    rintro d ⟨u, rfl, hu2⟩
    exact ⟨cs ++ [u], by rw [List.map_append]; rfl, by rw [List.length_append, hu]; rfl, fun v hv => by
      rcases List.mem_append.mp hv with h | h
      · exact hn v h
      · rw [List.mem_singleton.mp h]; exact hu2, by omega⟩
  · rintro acc k2 _ ⟨cs, rfl, hu, hn, hk⟩
    walk_at "gof"
    exact ⟨⟨cs, rfl, by omega, hn⟩, by omega⟩
def R_one_cut (ds : List PyData) (r : PyData) : Prop := ∃ (us : List (List Nat)) (cu : Nat × Nat × List Nat) (ws u : List Nat), ds = [.tuple (us.map encU), encC cu, nX ws] ∧ us[cu.1]? = some u ∧ (∀ c ∈ ws, c < u.length ∧ c < 4) ∧ ws.length ≤ 100000 ∧ r = nX (ws.take (place u cu.2.1 cu.2.2 ws))
theorem ok__law_one_cut (T : Txt K mg A) : FnOk P w K mg base CX0 2 A.f__law_one_cut A.d__law_one_cut ["_law_units_here", "_law_cut_here", "_law_word"] (spP K 3 R_one_cut) := by
  have G__law_count : FnOk P w K mg base CX0 1 A.f__law_count A.d__law_count ["_law_unit_here", "_law_word"] (spP K 2 R_count) := ok__law_count T
  refine T.F__law_one_cut.ok sc__law_one_cut (fun vs H Q E h => ?_) (fun cdv Ar outer s H vs Q E hr h => ?_)
  · exact spP.len h
  refine ⟨_, (pss_cons (ps_set (i := 3) sc__law_one_cut.nd rfl (Or.inl rfl) pe_str)
    (pss_cons (ps_for PassesOwn.never rfl (pi_range1 (by rfl) T.z_range (pa_cons (pe_op op_add (pe_callB (id := "len") call_len_str (by rfl) T.z_len (by decide +kernel) (pa_cons (pv 2) pa_nil)) pe_int) pa_nil)) (pg_name (i := 4) sc__law_one_cut.nd rfl (Or.inl rfl))
    (pss_cons (ps_set (i := 5) sc__law_one_cut.nd rfl (Or.inl rfl) (pe_or (pe_cmpR op_eq (pv 4) pe_int (nomark _)) (pe_or (pe_cmpR op_eq (pv 4) (pe_callB (id := "len") call_len_str (by rfl) T.z_len (by decide +kernel) (pa_cons (pv 2) pa_nil)) (nomark _)) (pe_one (pe_cmpR op_notIn_sign (pe_ix ix_str (pv 2) (pv 4) (fun _ _ => rfl)) (pe_ix (kIxT K) (pv 1) pe_int (fun _ _ => rfl)) (by with_unfolding_all rfl))))))
    (pss_one (ps_if (PW.pt (pw_and (kTruth K (pv 5) (by intro _; rfl)) (pw_and1 (pt_cmpR op_le (pe_call G__law_count (hr.mono (by first | decide | omega)) rfl T.m__law_count T.k__law_count T.b__law_count .nil pass0 (pa_cons (pe_ix (kIxT K) (pv 0) (pe_ix (kIxT K) (pv 1) pe_int (fun _ _ => rfl)) (fun _ _ => rfl)) (pa_cons (pe_slice sl_str (pv 2) po_none (po_some (pv 4))) pa_nil))) (pe_ix (kIxT K) (pv 1) pe_int (fun _ _ => rfl)) (nomark _))))) (pss_one (ps_set (i := 3) sc__law_one_cut.nd rfl (Or.inl rfl) (pe_slice sl_str (pv 2) po_none (po_some (pv 4)))))
    pss_nil))))
    (pss_one (ps_ret (pv 3))))), ?_⟩
  refine spP.ok h fun W ds r hR => ?_
  obtain ⟨us, cu, ws, u, rfl, hu, hx, hl, rfl⟩ := hR
  walk_at "st"
  walk_at "gof"
  refine rc_lenS (by rw [txt_len]; exact hl) ?_
  walk_at "gof"
  rw [txt_len]
  refine ⟨by omega, by omega, ?_⟩
  refine ⟨fun j ρ1 _ => ∃ s t : Slot, ρ1 = [.dat (.tuple (us.map encU)), .dat (encC cu), .dat (nX ws), .dat (nX (ws.take (lastP u cu.2.1 cu.2.2 ws j))), s, t], ⟨.no, .no, rfl⟩, ?_, ?_⟩
  · rintro j ρ1 k2 hj ⟨s, t, rfl⟩
    have hj' : j ≤ ws.length := by omega
    walk_at "tg"
    refine sw_mid (fun ρ' _ => ρ' = [.dat (.tuple (us.map encU)), .dat (encC cu), .dat (nX ws), .dat (nX (ws.take (lastP u cu.2.1 cu.2.2 ws j))), .dat (nI j), .dat (.bool (bord cu.2.2 ws j))]) ?_ ?_
    · walk_at "gof"
      refine if_split (fun h1 => ?_) (fun h1 => ?_)
      · walk_at "gof"
        have : j = 0 := by have := of_decide_eq_true h1; omega
        subst this
        rfl
      · walk_at "gof"
        refine rc_lenX hl ?_
        walk_at "gof"
        have j0 : j ≠ 0 := by have := of_decide_eq_false h1; omega
        refine if_split (fun h2 => ?_) (fun h2 => ?_)
        · have : j = ws.length := by have := of_decide_eq_true h2; omega
          rw [show bord cu.2.2 ws j = true by simp [bord, this]]
        · have jl : j ≠ ws.length := by have := of_decide_eq_false h2; omega
          have jl2 : j < ws.length := by omega
          walk_at "gof"
          refine rd_ixX hl jl2 ?_
          walk_at "gof"
          rw [show bord cu.2.2 ws j = !decide (ws[j] ∈ cu.2.2) by simp [bord, j0, jl, jl2]]
    · rintro ρ1 k1 rfl
      have ok : okP u cu.2.1 cu.2.2 ws j = (bord cu.2.2 ws j && decide (cntN u (ws.take j) ≤ cu.2.1)) := rfl
      walk_at "gof"
      refine ⟨trivial, ?_⟩
      refine if_split (fun h1 => ?_) (fun h1 => ?_)
      · have h1 : bord cu.2.2 ws j = true := h1
        rw [h1, Bool.true_and] at ok
        walk_at "gof"
        refine rd_ixTm hu ?_
        walk_at "gof"
        refine rsl_to hl ?_
        walk_at "gof"
        refine rc_pure rfl ⟨u, ws.take j, rfl, fun c hc => hx c (List.mem_of_mem_take hc), by rw [List.length_take]; omega, rfl⟩ ?_
        walk_at "gof"
        refine if_split (fun h2 => ?_) (fun h2 => ?_)
        · walk_at "gof"
          refine rsl_to hl ?_
          walk_at "gof"
          have : lastP u cu.2.1 cu.2.2 ws (j + 1) = j := by
            unfold lastP
            rw [if_pos (by rw [ok]; have := of_decide_eq_true h2; exact decide_eq_true (by omega))]
          exact ⟨_, _, by rw [this]⟩
        · have : lastP u cu.2.1 cu.2.2 ws (j + 1) = lastP u cu.2.1 cu.2.2 ws j := by
            conv => lhs; unfold lastP
            rw [if_neg (by rw [ok]; have := of_decide_eq_false h2; simp; omega)]
          walk_at "gof"
          exact ⟨_, _, by rw [this]⟩
      · have h1 : bord cu.2.2 ws j = false := h1
        have : lastP u cu.2.1 cu.2.2 ws (j + 1) = lastP u cu.2.1 cu.2.2 ws j := by
          conv => lhs; unfold lastP
          rw [if_neg (by rw [ok, h1]; simp)]
        walk_at "gof"
        exact ⟨_, _, by rw [this]⟩
  · rintro ρ1 k2 ⟨s, t, rfl⟩
    walk_at "gof"
    have : ((ws.length : Int) + 1).toNat = ws.length + 1 := by omega
    rw [this, lastP_place]
def R_lawleft (ds : List PyData) (r : PyData) : Prop := ∃ (us : List (List Nat)) (cs : List (Nat × Nat × List Nat)) (ws : List Nat), ds = [.tuple (us.map encU), .tuple (cs.map encC), nX ws] ∧
  (∀ c ∈ cs, ∃ u, us[c.1]? = some u ∧ ∀ x ∈ ws, x < u.length ∧ x < 4) ∧ ws.length ≤ 100000 ∧ r = nX (leftF us cs ws)
theorem ok__law_left (T : Txt K mg A) : FnOk P w K mg base CX0 3 A.f__law_left A.d__law_left ["_law_units_here", "_law_cuts_here", "_law_word"] (spP K 3 R_lawleft) := by
  have G__law_one_cut : FnOk P w K mg base CX0 2 A.f__law_one_cut A.d__law_one_cut ["_law_units_here", "_law_cut_here", "_law_word"] (spP K 3 R_one_cut) := ok__law_one_cut T
  refine T.F__law_left.ok sc__law_left (fun vs H Q E h => ?_) (fun cdv Ar outer s H vs Q E hr h => ?_)
  · exact spP.len h
  refine ⟨_, (pss_cons (ps_for PassesOwn.never rfl (kPiT K (pv 1)) (pg_name (i := 3) sc__law_left.nd rfl (Or.inl rfl))
    (pss_one (ps_set (i := 2) sc__law_left.nd rfl (Or.inl rfl) (pe_call G__law_one_cut (hr.mono (by first | decide | omega)) rfl T.m__law_one_cut T.k__law_one_cut T.b__law_one_cut .nil pass0 (pa_cons (pv 0) (pa_cons (pv 3) (pa_cons (pv 2) pa_nil)))))))
    (pss_one (ps_ret (pv 2)))), ?_⟩
  refine spP.ok h fun W ds r hR => ?_
  obtain ⟨us, cs, ws, rfl, hc, hl, rfl⟩ := hR
  walk_at "st"
  walk_at "gof"
  refine ⟨fun j ρ1 _ => ∃ (s : Slot), ρ1 = [.dat (.tuple (us.map encU)), .dat (.tuple (cs.map encC)), .dat (nX (leftF us (cs.take j) ws)), s], ⟨.no, rfl⟩, ?_, ?_⟩
  · rintro j ρ1 k2 hj ⟨s, rfl⟩
    rw [List.length_map] at hj
    rw [itemD_map hj]
    obtain ⟨u, hu, hx⟩ := hc cs[j] (List.getElem_mem hj)
    obtain ⟨n, hn⟩ := leftF_sub us (cs.take j) ws
    walk_at "gof"
    refine rc_pure rfl ⟨us, cs[j], leftF us (cs.take j) ws, u, rfl, hu, ?_, ?_, rfl⟩ ?_
    · rw [hn]; exact fun c h => hx c (List.mem_of_mem_take h)
    · rw [hn, List.length_take]; omega
    have e : cs.take (j + 1) = cs.take j ++ [cs[j]] := by rw [List.take_add_one]; simp [hj]
    rw [e, leftF_snoc]
    have : us.getD cs[j].1 [] = u := by simp [hu]
    rw [this]
    walk_at "gof"
    exact ⟨_, rfl⟩
  · rintro ρ1 k2 ⟨s, rfl⟩
    walk_at "gof"
    rw [List.length_map, List.take_length]
end

/-! ### the fewest parts -/
def seg (ws : List Nat) (b e : Nat) : List Nat := (ws.drop b).take (e - b)
def endOk (cl ws : List Nat) (e : Nat) : Bool := decide (e = ws.length) || !(decide (ws.getD e 0 ∈ cl))
inductive Reach (u : List Nat) (m : Nat) (cl ws : List Nat) : Nat → Nat → Prop
  | zero : Reach u m cl ws 0 0
  | step {j b e : Nat} : Reach u m cl ws j b → b < e → e ≤ ws.length → endOk cl ws e = true → cntN u (seg ws b e) ≤ m → Reach u m cl ws (j + 1) e
theorem Reach.le {u cl ws : List Nat} {m j e : Nat} (h : Reach u m cl ws j e) : e ≤ ws.length := by
  cases h with
  | zero => exact Nat.zero_le _
  | step _ _ h _ _ => exact h
def gp (u : List Nat) (m : Nat) (cl ws : List Nat) : Nat → Nat
  | 0 => 0
  | n + 1 => gp u m cl ws n + place u m cl (ws.drop (gp u m cl ws n))
theorem gp_le (u : List Nat) (m : Nat) (cl ws : List Nat) : ∀ n, gp u m cl ws n ≤ ws.length
  | 0 => Nat.zero_le _
  | n + 1 => by
    have h := place_le u m cl (ws.drop (gp u m cl ws n))
    have := gp_le u m cl ws n
    rw [List.length_drop] at h
    unfold gp
    omega
theorem gp_mono (u : List Nat) (m : Nat) (cl ws : List Nat) (n : Nat) : ∀ k, gp u m cl ws n ≤ gp u m cl ws (n + k)
  | 0 => Nat.le_refl _
  | k + 1 => by
    have := gp_mono u m cl ws n k
    have h : gp u m cl ws (n + k + 1) = gp u m cl ws (n + k) + place u m cl (ws.drop (gp u m cl ws (n + k))) := rfl
    rw [← Nat.add_assoc, h]
    omega
theorem seg_mono (u ws : List Nat) {b g e : Nat} (h : b ≤ g) : cntN u (seg ws g e) ≤ cntN u (seg ws b e) := by
  obtain ⟨k, rfl⟩ := Nat.le.dest h
  by_cases he : b + k ≤ e
  · have : seg ws b e = (ws.drop b).take k ++ seg ws (b + k) e := by
      unfold seg
      rw [show e - b = k + (e - (b + k)) by omega, List.take_add, List.drop_drop]
    rw [this, cntN_app]
    omega
  · have : seg ws (b + k) e = [] := by unfold seg; rw [show e - (b + k) = 0 by omega]; rfl
    rw [this]
    exact Nat.zero_le _
/-- greedy is ahead of every other way -/
theorem ahead {u cl ws : List Nat} {m : Nat} : ∀ {j e : Nat}, Reach u m cl ws j e → e ≤ gp u m cl ws j
  | _, _, .zero => Nat.le_refl _
  | _, _, @Reach.step _ _ _ _ j b e h hb he hok hc => by
    have ih := ahead h
    have hg : gp u m cl ws (j + 1) = gp u m cl ws j + place u m cl (ws.drop (gp u m cl ws j)) := rfl
    by_cases hle : e ≤ gp u m cl ws j
    · omega
    · have sp := place_spec u m cl (ws.drop (gp u m cl ws j))
      have gl := gp_le u m cl ws j
      have key := sp.2.2 (e - gp u m cl ws j) (by rw [List.length_drop]; omega) (by
        unfold okP
        rw [Bool.and_eq_true, decide_eq_true_eq]
        constructor
        · unfold bord
          unfold endOk at hok
          rw [Bool.or_eq_true, decide_eq_true_eq] at hok
          rcases hok with hok | hok
          · simp [hok]
          · rw [Bool.or_eq_true]
            right
            have : (ws.drop (gp u m cl ws j)).getD (e - gp u m cl ws j) 0 = ws.getD e 0 := by
              simp only [List.getD_eq_getElem?_getD, List.getElem?_drop]
              rw [show gp u m cl ws j + (e - gp u m cl ws j) = e by omega]
            rw [this]
            exact hok
        · exact Nat.le_trans (seg_mono u ws ih) hc)
      omega
theorem parts_gp (u : List Nat) (m : Nat) (cl ws : List Nat) : ∀ (n i : Nat), (ws.drop (gp u m cl ws i)).length ≤ n →
    (∀ l, partsF u m cl (ws.drop (gp u m cl ws i)) = some l → gp u m cl ws (i + l.length) = ws.length ∧ (∀ t, t < l.length → gp u m cl ws (i + t) < ws.length) ∧ (Reach u m cl ws i (gp u m cl ws i) → Reach u m cl ws (i + l.length) ws.length)) ∧
    (partsF u m cl (ws.drop (gp u m cl ws i)) = none → ∃ t, gp u m cl ws (i + t) < ws.length ∧ place u m cl (ws.drop (gp u m cl ws (i + t))) = 0)
  | 0, i, h => by
    have hg := gp_le u m cl ws i
    have e : ws.drop (gp u m cl ws i) = [] := List.length_eq_zero_iff.mp (by omega)
    have eg : gp u m cl ws i = ws.length := by rw [List.length_drop] at h; omega
    rw [e, partsF_nil]
    refine ⟨fun l hl => ?_, fun z => by cases z⟩
    cases hl
    exact ⟨eg, (fun t ht => absurd ht (Nat.not_lt_zero _)), fun r => by rw [eg] at r; exact r⟩
  | n + 1, i, h => by
    have hg := gp_le u m cl ws i
    by_cases hn : ws.drop (gp u m cl ws i) = []
    · have eg : gp u m cl ws i = ws.length := by
        have := congrArg List.length hn
        rw [List.length_drop] at this
        simp at this
        omega
      rw [hn, partsF_nil]
      refine ⟨fun l hl => ?_, fun z => by cases z⟩
      cases hl
      exact ⟨eg, (fun t ht => absurd ht (Nat.not_lt_zero _)), fun r => by rw [eg] at r; exact r⟩
    · have gl : gp u m cl ws i < ws.length := by
        have : (ws.drop (gp u m cl ws i)).length ≠ 0 := fun z => hn (List.length_eq_zero_iff.mp z)
        rw [List.length_drop] at this
        omega
      rw [partsF_step _ _ _ hn]
      by_cases hp : place u m cl (ws.drop (gp u m cl ws i)) = 0
      · rw [if_pos hp]
        exact ⟨(fun l hl => by cases hl), fun _ => ⟨0, gl, hp⟩⟩
      · rw [if_neg hp]
        have gs : gp u m cl ws (i + 1) = gp u m cl ws i + place u m cl (ws.drop (gp u m cl ws i)) := rfl
        rw [List.drop_drop, ← gs]
        obtain ⟨ih1, ih2⟩ := parts_gp u m cl ws n (i + 1) (by rw [List.length_drop] at h ⊢; omega)
        refine ⟨fun l hl => ?_, fun z => ?_⟩
        · obtain ⟨l', h1, rfl⟩ := Option.map_eq_some_iff.mp hl
          obtain ⟨a, b, c⟩ := ih1 l' h1
          rw [List.length_cons]
          refine ⟨by rw [show i + (l'.length + 1) = i + 1 + l'.length by omega]; exact a, fun t ht => ?_, fun r => ?_⟩
          · cases t with
            | zero => exact gl
            | succ t => rw [show i + (t + 1) = i + 1 + t by omega]; exact b t (by omega)
          · rw [show i + (l'.length + 1) = i + 1 + l'.length by omega]
            refine c ?_
            have sp := place_spec u m cl (ws.drop (gp u m cl ws i))
            have l1 := sp.1
            have ok := sp.2.1
            rw [List.length_drop] at l1
            unfold okP at ok
            rw [Bool.and_eq_true, decide_eq_true_eq] at ok
            rw [gs]
            refine .step r (by omega) (by omega) ?_ ?_
            · unfold endOk
              have bo := ok.1
              unfold bord at bo
              rw [Bool.or_eq_true, Bool.or_eq_true, decide_eq_true_eq, decide_eq_true_eq] at bo
              rcases bo with (bo | bo) | bo
              · exact absurd bo hp
              · rw [List.length_drop] at bo
                rw [decide_eq_true (by omega)]
                rfl
              · rw [Bool.or_eq_true]
                right
                have : (ws.drop (gp u m cl ws i)).getD (place u m cl (ws.drop (gp u m cl ws i))) 0 = ws.getD (gp u m cl ws i + place u m cl (ws.drop (gp u m cl ws i))) 0 := by
                  simp only [List.getD_eq_getElem?_getD, List.getElem?_drop]
                rw [← this]
                exact bo
            · unfold seg
              rw [show gp u m cl ws i + place u m cl (ws.drop (gp u m cl ws i)) - gp u m cl ws i = place u m cl (ws.drop (gp u m cl ws i)) by omega]
              exact ok.2
        · have z' : partsF u m cl (ws.drop (gp u m cl ws (i + 1))) = none := by
            cases hh : partsF u m cl (ws.drop (gp u m cl ws (i + 1))) with
            | none => rfl
            | some l => rw [hh] at z; cases z
          obtain ⟨t, a, b⟩ := ih2 z'
          exact ⟨t + 1, by rw [show i + (t + 1) = i + 1 + t by omega]; exact a, by rw [show i + (t + 1) = i + 1 + t by omega]; exact b⟩
theorem gp_stuck {u cl ws : List Nat} {m n : Nat} (h : place u m cl (ws.drop (gp u m cl ws n)) = 0) : ∀ k, gp u m cl ws (n + k) = gp u m cl ws n
  | 0 => rfl
  | k + 1 => by
    have ih := gp_stuck h k
    have e : gp u m cl ws (n + k + 1) = gp u m cl ws (n + k) + place u m cl (ws.drop (gp u m cl ws (n + k))) := rfl
    rw [← Nat.add_assoc, e, ih, h]
    rfl
/-- the fewest are the parts' number -/
theorem fewest_parts (u : List Nat) (m : Nat) (cl ws : List Nat) :
    (∀ l, partsF u m cl ws = some l → Reach u m cl ws l.length ws.length ∧ ∀ j, Reach u m cl ws j ws.length → l.length ≤ j) ∧ (partsF u m cl ws = none → ∀ j, ¬ Reach u m cl ws j ws.length) := by
  obtain ⟨h1, h2⟩ := parts_gp u m cl ws ws.length 0 (by show ws.length ≤ _; exact Nat.le_refl _)
  refine ⟨fun l hl => ?_, fun hn j r => ?_⟩
  · obtain ⟨a, b, c⟩ := h1 l hl
    have c' := c .zero
    rw [Nat.zero_add] at c'
    refine ⟨c', fun j r => ?_⟩
    have := ahead r
    by_cases hj : j < l.length
    · have := b j hj
      rw [Nat.zero_add] at this
      omega
    · omega
  · obtain ⟨t, a, b⟩ := h2 hn
    rw [Nat.zero_add] at a b
    have ar := ahead r
    by_cases hj : t ≤ j
    · obtain ⟨k, rfl⟩ := Nat.le.dest hj
      rw [gp_stuck b] at ar
      omega
    · obtain ⟨k, rfl⟩ := Nat.le.dest (show j ≤ t by omega)
      have := gp_mono u m cl ws j k
      omega
/-- the law's table -/
structure Tab (u : List Nat) (m : Nat) (cl ws : List Nat) (n : Nat) (bl : List (Nat × Nat)) : Prop where
  good : ∀ p ∈ bl, p.1 ≤ n ∧ Reach u m cl ws p.2 p.1 ∧ ∀ j, Reach u m cl ws j p.1 → p.2 ≤ j
  all : ∀ e j, e ≤ n → Reach u m cl ws j e → ∃ j', (e, j') ∈ bl
  few : bl.length ≤ n + 1
theorem Tab.start (u : List Nat) (m : Nat) (cl ws : List Nat) : Tab u m cl ws 0 [(0, 0)] :=
  ⟨fun p hp => by rw [List.mem_singleton.mp hp]; exact ⟨Nat.le_refl _, .zero, fun j _ => Nat.zero_le _⟩, fun e j he _ => ⟨0, by rw [show e = 0 by omega]; simp⟩, Nat.le_refl _⟩
theorem Tab.one {u cl ws : List Nat} {m n : Nat} {bl : List (Nat × Nat)} (t : Tab u m cl ws n bl) {e j j' : Nat} (h : (e, j) ∈ bl) (h' : (e, j') ∈ bl) : j = j' :=
  Nat.le_antisymm ((t.good _ h).2.2 j' (t.good _ h').2.1) ((t.good _ h').2.2 j (t.good _ h).2.1)
theorem Tab.skip {u cl ws : List Nat} {m n : Nat} {bl : List (Nat × Nat)} (t : Tab u m cl ws n bl) (h : ∀ j, ¬ Reach u m cl ws j (n + 1)) : Tab u m cl ws (n + 1) bl :=
  ⟨fun p hp => ⟨by have := (t.good p hp).1; omega, (t.good p hp).2⟩, fun e j he r => by
    by_cases e1 : e = n + 1
    · subst e1; exact absurd r (h j)
    · exact t.all e j (by omega) r, by have := t.few; omega⟩
/-- the begins from which n is an end -/
def begins (u : List Nat) (m : Nat) (ws : List Nat) (bl : List (Nat × Nat)) (e : Nat) : List (Nat × Nat) := bl.filter fun p => decide (cntN u (seg ws p.1 e) ≤ m)
theorem Tab.none_ {u cl ws : List Nat} {m n : Nat} {bl : List (Nat × Nat)} (t : Tab u m cl ws n bl) (h : endOk cl ws (n + 1) = false ∨ begins u m ws bl (n + 1) = []) : ∀ j, ¬ Reach u m cl ws j (n + 1) := by
  intro j r
  cases r with
  | @step j b _ r hb he hok hc =>
    rcases h with h | h
    · rw [h] at hok; cases hok
    · obtain ⟨j', hj⟩ := t.all b j (by omega) r
      have : (b, j') ∈ begins u m ws bl (n + 1) := List.mem_filter.mpr ⟨hj, decide_eq_true hc⟩
      rw [h] at this
      cases this
theorem Tab.put {u cl ws : List Nat} {m n : Nat} {bl : List (Nat × Nat)} (t : Tab u m cl ws n bl) (hn : n + 1 ≤ ws.length) (hok : endOk cl ws (n + 1) = true) {x : Nat} (hx : ∃ b, (b, x) ∈ begins u m ws bl (n + 1)) (hm : ∀ p ∈ begins u m ws bl (n + 1), x ≤ p.2) :
    Tab u m cl ws (n + 1) (bl ++ [(n + 1, x + 1)]) := by
  obtain ⟨b, hb⟩ := hx
  obtain ⟨hb1, hb2⟩ := List.mem_filter.mp hb
  obtain ⟨g1, g2, g3⟩ := t.good _ hb1
  refine ⟨fun p hp => ?_, fun e j he r => ?_, by rw [List.length_append]; simp only [List.length_singleton]; have := t.few; omega⟩
  · rcases List.mem_append.mp hp with hp | hp
    · exact ⟨by have := (t.good p hp).1; omega, (t.good p hp).2⟩
    · rw [List.mem_singleton.mp hp]
      refine ⟨Nat.le_refl _, .step g2 (by show b < n + 1; have : b ≤ n := g1; omega) hn hok (of_decide_eq_true hb2), fun j r => ?_⟩
      cases r with
      | @step j b' _ r hb' he hok' hc =>
        obtain ⟨j', hj⟩ := t.all b' j (by omega) r
        have h1 := hm (b', j') (List.mem_filter.mpr ⟨hj, decide_eq_true hc⟩)
        have h2 := (t.good _ hj).2.2 j r
        show x + 1 ≤ j + 1
        exact Nat.succ_le_succ (Nat.le_trans h1 h2)
  · by_cases e1 : e = n + 1
    · subst e1; exact ⟨x + 1, by simp⟩
    · obtain ⟨j', h⟩ := t.all e j (by omega) r
      exact ⟨j', List.mem_append_left _ h⟩
/-- what parts promise -/
theorem parts_sound (u : List Nat) (m : Nat) (cl : List Nat) : ∀ (n : Nat) (ws : List Nat), ws.length ≤ n → ∀ l, partsF u m cl ws = some l →
    l.flatten = ws ∧ (∀ p ∈ l, p ≠ [] ∧ cntN u p ≤ m) ∧ (∀ p ∈ l.tail, ∀ c, p[0]? = some c → c ∉ cl) ∧ (∀ p, l[0]? = some p → p[0]? = ws[0]?)
  | n, ws, hn, l, hl => by
    by_cases hw : ws = []
    · subst hw
      rw [partsF_nil] at hl
      cases hl
      exact ⟨rfl, (fun p hp => nomatch hp), (fun p hp => nomatch hp), (fun p hp => by simp at hp)⟩
    · rw [partsF_step _ _ _ hw] at hl
      by_cases hp : place u m cl ws = 0
      · rw [if_pos hp] at hl; cases hl
      · rw [if_neg hp] at hl
        obtain ⟨l', h1, rfl⟩ := Option.map_eq_some_iff.mp hl
        have sp := place_spec u m cl ws
        have ok := sp.2.1
        unfold okP at ok
        rw [Bool.and_eq_true, decide_eq_true_eq] at ok
        have hlen : (ws.drop (place u m cl ws)).length < ws.length := by
          rw [List.length_drop]
          have : ws.length ≠ 0 := fun z => hw (List.length_eq_zero_iff.mp z)
          omega
        cases n with
        | zero => exact absurd (List.length_eq_zero_iff.mp (by omega)) hw
        | succ n =>
          obtain ⟨a, b, c, d⟩ := parts_sound u m cl n (ws.drop (place u m cl ws)) (by omega) l' h1
          refine ⟨by rw [List.flatten_cons, a, List.take_append_drop], fun p hp' => ?_, fun p hp' x hx => ?_, fun p hp' => ?_⟩
          · rcases List.mem_cons.mp hp' with rfl | hp'
            · refine ⟨fun z => ?_, ok.2⟩
              have hz : (ws.take (place u m cl ws)).length = 0 := by rw [z]; rfl
              rw [List.length_take] at hz
              have h0 : ws.length ≠ 0 := fun z => hw (List.length_eq_zero_iff.mp z)
              omega
            · exact b p hp'
          · have hp'' : p ∈ l' := hp'
            cases l' with
            | nil => cases hp''
            | cons q l' =>
              rcases List.mem_cons.mp hp'' with rfl | hq
              · have h0 := d p (by simp)
                rw [hx, List.getElem?_drop, Nat.add_zero] at h0
                have bo := ok.1
                unfold bord at bo
                rw [Bool.or_eq_true, Bool.or_eq_true, decide_eq_true_eq, decide_eq_true_eq] at bo
                have hlt := (List.getElem?_eq_some_iff.mp h0.symm).1
                rcases bo with (bo | bo) | bo
                · exact absurd bo hp
                · omega
                · have : ws.getD (place u m cl ws) 0 = x := by rw [List.getD_eq_getElem?_getD, ← h0]; rfl
                  rw [this] at bo
                  simpa using bo
              · exact c p hq x hx
          · simp only [List.getElem?_cons_zero, Option.some.injEq] at hp'
            subst hp'
            rw [List.getElem?_take]
            rw [if_pos (by omega)]

/-! ### the law itself -/
abbrev encB (p : Nat × Nat) : Key × PyData := (.inl (p.1 : Int), nI p.2)
theorem lookB {bl : List (Nat × Nat)} {e j : Nat} (h : (e, j) ∈ bl) (one : ∀ j', (e, j') ∈ bl → j' = j) : lookD (bl.map encB) (.inl (e : Int)) = some (nI j) := by
  induction bl with
  | nil => cases h
  | cons p r ih =>
    rw [List.map_cons, lookD_cons]
    by_cases hp : p.1 = e
    · have : p.2 = j := one p.2 (by rw [← hp]; exact List.mem_cons_self)
      rw [if_pos (by rw [show (encB p).1 = Sum.inl (p.1 : Int) from rfl, hp]), show (encB p).2 = nI p.2 from rfl, this]
    · rw [if_neg (fun z => hp (by have z' : (Sum.inl (p.1 : Int) : Key) = Sum.inl (e : Int) := z; injection z' with z'; omega))]
      refine ih ?_ fun j' h' => one j' (List.mem_cons_of_mem _ h')
      rcases List.mem_cons.mp h with h | h
      · rw [← h] at hp; exact absurd rfl hp
      · exact h
theorem lookB_none {bl : List (Nat × Nat)} {e : Nat} (h : ∀ j, (e, j) ∉ bl) : lookD (bl.map encB) (.inl (e : Int)) = none := by
  induction bl with
  | nil => rfl
  | cons p r ih =>
    rw [List.map_cons, lookD_cons]
    rw [if_neg (fun z => h p.2 (by
      have z' : (Sum.inl (p.1 : Int) : Key) = Sum.inl (e : Int) := z
      injection z' with z'
      have : p.1 = e := by omega
      rw [← this]; exact List.mem_cons_self))]
    exact ih fun j h' => h j (List.mem_cons_of_mem _ h')
theorem range_filter_map {α β : Type} (f : α → Bool) (g : α → β) (d : α) (l : List α) : ((List.range l.length).filter fun i => f (l[i]?.getD d)).map (fun i => g (l[i]?.getD d)) = (l.filter f).map g := by
  have h : (List.range l.length).map (fun i => l[i]?.getD d) = l := by
    apply List.ext_getElem?
    intro i
    rw [List.getElem?_map]
    by_cases hi : i < l.length
    · rw [List.getElem?_range hi]; simp [hi]
    · simp [hi]
  have h2 : ((List.range l.length).filter fun i => f (l[i]?.getD d)).map (fun i => l[i]?.getD d) = l.filter f := by
    conv => rhs; rw [← h]
    rw [List.filter_map]
    rfl
  rw [← h2, List.map_map]
  rfl
theorem mem_len_flatten {l : List (List Nat)} {p : List Nat} (h : p ∈ l) : p.length ≤ l.flatten.length := by
  induction l with
  | nil => cases h
  | cons q l ih =>
    rw [List.flatten_cons, List.length_append]
    rcases List.mem_cons.mp h with rfl | h
    · omega
    · have := ih h; omega
def encO : Option Nat → PyData | none => .none | some n => nI n
section
variable {P : Program} {w : World} {K : PySem.W.Frag} {mg : Str → Option Value} {base : Heap} {A : Adrs}
def R_fewest (ds : List PyData) (r : PyData) : Prop := ∃ (u ws : List Nat) (cu : Nat × Nat × List Nat), ds = [encU u, encC cu, nX ws] ∧ (∀ c ∈ ws, c < u.length ∧ c < 4) ∧ ws.length ≤ 1000 ∧ r = encO ((partsF u cu.2.1 cu.2.2 ws).map List.length)
theorem ok__law_fewest (T : Txt K mg A) : FnOk P w K mg base CX0 2 A.f__law_fewest A.d__law_fewest ["_law_unit_here", "_law_cut_here", "_law_word"] (spP K 3 R_fewest) := by
  have G__law_count : FnOk P w K mg base CX0 1 A.f__law_count A.d__law_count ["_law_unit_here", "_law_word"] (spP K 2 R_count) := ok__law_count T
  refine T.F__law_fewest.ok sc__law_fewest (fun vs H Q E h => ?_) (fun cdv Ar outer s H vs Q E hr h => ?_)
  · exact spP.len h
  refine ⟨_, (pss_cons (ps_set (i := 3) sc__law_fewest.nd rfl (Or.inr rfl) (pe_disp (pps_cons pe_int pe_int pps_nil) (by rfl) (by rfl) (fun z => by cases z) (by decide)))
    (pss_cons (ps_for PassesOwn.never rfl (pi_range2 (by rfl) T.z_range (pa_cons pe_int (pa_cons (pe_op op_add (pe_callB (id := "len") call_len_str (by rfl) T.z_len (by decide +kernel) (pa_cons (pv 2) pa_nil)) pe_int) pa_nil))) (pg_name (i := 4) sc__law_fewest.nd rfl (Or.inr rfl))
    (pss_one (ps_if (PW.pt (pw_or (pt_cmpR op_eq (pv 4) (pe_callB (id := "len") call_len_str (by rfl) T.z_len (by decide +kernel) (pa_cons (pv 2) pa_nil)) (nomark _)) (pw_or1 (pt_cmpR op_notIn_sign (pe_ix ix_str (pv 2) (pv 4) (fun _ _ => rfl)) (pe_ix (kIxT K) (pv 1) pe_int (fun _ _ => rfl)) (by with_unfolding_all rfl))))) (pss_cons (ps_lock (ps_setLc (i := 5) (own := [("_law_begin", 6)]) (by rfl) sc__law_fewest.nd rfl rfl (sw_true rfl rfl rfl (by decide +kernel)) (pi_keys (pv 3)) (blkOk_by (own := [("_law_begin", 6)]) (N := N__law_fewest) (sc := defScope s__law_fewest) (by decide +kernel)) (fun _ _ _ _ _ => (pg_name (i := 6) sc__law_fewest.nd rfl (Or.inl rfl))) (fun _ _ _ _ _ => (pts_one (pt_cmpR op_le (pe_call G__law_count (hr.mono (by first | decide | omega)) rfl T.m__law_count T.k__law_count T.b__law_count .nil pass0 (pa_cons (pv 0) (pa_cons (pe_slice sl_str (pv 2) (po_some (pv 6)) (po_some (pv 4))) pa_nil))) (pe_ix (kIxT K) (pv 1) pe_int (fun _ _ => rfl)) (nomark _)))) (fun _ _ _ _ _ => (pe_dget (room1 hr) (pv 3) (pv 6) (fun _ _ => rfl)))))
    (pss_one (ps_if (pt_cmpR (kNeNil K hr) (pv 5) (pe_lst pa_nil) (nomark _)) (pss_one (ps_dput (room1 hr) (pv 3) (pv 4) (pe_op op_add (pe_callB (id := "min") (kMin K rfl) (by rfl) T.z_min (by decide +kernel) (pa_cons (pv 5) pa_nil)) pe_int) rfl))
    pss_nil)))
    pss_nil)))
    (pss_one (ps_ret (pe_dget1 (room1 hr) (pv 3) (pe_callB (id := "len") call_len_str (by rfl) T.z_len (by decide +kernel) (pa_cons (pv 2) pa_nil)) ⟨rfl, rfl, rfl, rfl⟩))))), ?_⟩
  refine spP.ok h fun W ds r hR => ?_
  obtain ⟨u, ws, cu, rfl, hx, hl, rfl⟩ := hR
  walk_at "st"
  refine sw_seq (sw_disp1 (key := .inl 0) rfl (ev_int ?_))
  walk_at "go"
  refine sw_forW ?_
  walk_at "go"
  refine rc_lenX (by omega) ?_
  walk_at "go"
  refine ⟨by omega, ?_⟩
  have hn : (((ws.length : Nat) : Int) + 1 - 1).toNat = ws.length := by omega
  rw [hn]
  refine ⟨fun i ρ _ => ∃ bl, ρ = [.dat (encU u), .dat (encC cu), .dat (nX ws), .ownD (bl.map encB), .no, .no, .no] ∧ Tab u cu.2.1 cu.2.2 ws i bl, ⟨_, by walk_at "le", [(0, 0)], rfl, Tab.start _ _ _ _⟩, ?_, ?_⟩
  · rintro i ρ1 k2 hi ⟨bl, rfl, tab⟩
    dsimp only
    rw [show (1 : Int) + (i : Nat) = ((i + 1 : Nat) : Int) by omega]
    walk_at "go"
    have stop : (endOk cu.2.2 ws (i + 1) = false ∨ begins u cu.2.1 ws bl (i + 1) = []) → Tab u cu.2.1 cu.2.2 ws (i + 1) bl := fun h => tab.skip (tab.none_ h)
    refine rc_lenX (by omega) ?_
    walk_at "go"
    have body : endOk cu.2.2 ws (i + 1) = true → SW K W (tSeq (tLock (tAsg (tLc (iKeys (tVar 3)) (gName 6)
                        (tTest
                          (tOp (rI0 fun i j => V.bl (decide (i ≤ j)))
                            (tCall (spP K 2 R_count) [] E0
                              (tCons (tVar 0) (tCons (tSl rSlS (tVar 2) (tPart (tVar 6)) (tPart (tVar 4))) tNil)))
                            (tOp (rIxT K) (tVar 1) (tC (V.int 1)))))
                        (tDGet (tVar 3) (tVar 6)) [6]) (gName 5)))
                  (tIfS (tTest (tOp (rNil K true) (tVar 5) (tLst tNil)))
                    (sDPut (tVar 3) (tVar 4)
                      (tOp (rI0 fun i j => V.int (i + j)) (tCB (rMin K) (tCons (tVar 5) tNil)) (tC (V.int 1)))) tNext))
        [.dat (encU u), .dat (encC cu), .dat (nX ws), .ownD (bl.map encB), .dat (.int ((i + 1 : Nat) : Int)), .no, .no] k2
        ⟨fun ρ' _ => ∃ ρ0, Le ρ0 ρ' ∧ ∃ bl, ρ0 = [.dat (encU u), .dat (encC cu), .dat (nX ws), .ownD (bl.map encB), .no, .no, .no] ∧ Tab u cu.2.1 cu.2.2 ws (i + 1) bl, fun d _ => d = encO ((partsF u cu.2.1 cu.2.2 ws).map List.length), fun _ _ => False, fun _ _ => False⟩ := fun hok => by
      refine sw_seq (sw_lockA (i := 3) (by decide) rfl (ev_lcXP (fun t => decide (cntN u (seg ws (bl[t]?.getD (0, 0)).1 (i + 1)) ≤ cu.2.1)) (fun t => nI (bl[t]?.getD (0, 0)).2) (ex_keys rfl ?_)))
      rw [List.length_map]
      refine ⟨by have := tab.few; omega, fun t ht => ?_, ?_⟩
      · have h1 : ((bl.map encB)[t]?.map fun p => keyD p.1).getD .none = nI bl[t].1 := by simp [ht, keyD]
        have h2 : bl[t]?.getD (0, 0) = bl[t] := by simp [ht]
        have hm := List.getElem_mem ht
        obtain ⟨g1, g2, g3⟩ := tab.good _ hm
        have hs : cutS (txt ws) (some (bl[t].1 : Int)) (some ((i + 1 : Nat) : Int)) = txt (seg ws bl[t].1 (i + 1)) := by
          rw [txt_cut, HT.sIx_nat, HT.sIx_nat, Nat.min_eq_left (show bl[t].1 ≤ ws.length by omega), Nat.min_eq_left (show i + 1 ≤ ws.length by omega)]
          rfl
        dsimp only
        rw [h1, h2]
        walk_at "go"
        refine rsl_S (by rw [txt_len]; omega) ?_
        rw [hs]
        walk_at "go"
        refine rc_pure rfl ⟨u, seg ws bl[t].1 (i + 1), rfl, fun c hc => hx c (List.mem_of_mem_drop (List.mem_of_mem_take hc)), by unfold seg; rw [List.length_take, List.length_drop]; omega, rfl⟩ ?_
        walk_at "go"
        have dd : ∀ a b : Nat, decide ((a : Int) ≤ (b : Int)) = decide (a ≤ b) := fun a b => by
          by_cases h : a ≤ b
          · rw [decide_eq_true h, decide_eq_true (by omega)]
          · rw [decide_eq_false h, decide_eq_false (by omega)]
        refine ⟨dd _ _, rfl, fun _ => ?_⟩
        refine ev_dget rfl (.inr rfl) ?_
        walk_at "go"
        refine ⟨.inl (bl[t].1 : Int), nI bl[t].2, rfl, lookB (by exact hm) fun j' h' => tab.one h' hm, rfl, rfl⟩
      · have e := range_filter_map (fun p : Nat × Nat => decide (cntN u (seg ws p.1 (i + 1)) ≤ cu.2.1)) (fun p => nI p.2) (0, 0) bl
        rw [e]
        walk_at "go"
        refine rd_neNilL ?_
        walk_at "go"
        refine if_split (fun h => ?_) (fun h => ?_)
        · refine sw_dput rfl ?_
          walk_at "go"
          have hb : begins u cu.2.1 ws bl (i + 1) ≠ [] := fun z => by
            rw [show (bl.filter fun p => decide (cntN u (seg ws p.1 (i + 1)) ≤ cu.2.1)) = [] from z] at h
            cases h
          refine rc_min (((begins u cu.2.1 ws bl (i + 1)).map fun p => ((p.2 : Nat) : Int))) (by rw [List.map_map]; rfl) (by rw [List.length_map]; exact List.length_pos_iff.mpr hb) fun m hm1 hm2 => ?_
          obtain ⟨p0, hp0, rfl⟩ := List.mem_map.mp hm1
          walk_at "go"
          refine ⟨.inl ((i + 1 : Nat) : Int), rfl, by rw [List.length_map]; have := tab.few; omega, ?_⟩
          have hnew : lookD (bl.map encB) (.inl ((i + 1 : Nat) : Int)) = none := lookB_none fun j hj => by
            have := (tab.good _ hj).1
            have : i + 1 ≤ i := this
            omega
          rw [keys_putD _ _ _ hnew]
          have e2 : bl.map encB ++ [((.inl ((i + 1 : Nat) : Int) : Key), PyData.int ((p0.2 : Int) + 1))] = (bl ++ [(i + 1, p0.2 + 1)]).map encB := by
            rw [List.map_append]; rfl
          rw [e2]
          refine ⟨_, by walk_at "le", bl ++ [(i + 1, p0.2 + 1)], rfl, tab.put (by omega) hok ⟨p0.1, hp0⟩ fun p hp => ?_⟩
          have := hm2 (p.2 : Int) (List.mem_map.mpr ⟨p, hp, rfl⟩)
          omega
        · walk_at "go"
          refine ⟨_, by walk_at "le", bl, rfl, stop (.inr ?_)⟩
          have : ((bl.filter fun p => decide (cntN u (seg ws p.1 (i + 1)) ≤ cu.2.1)).map fun p => nI p.2).isEmpty = true := by simpa using h
          exact List.map_eq_nil_iff.mp (List.isEmpty_iff.mp this)
    refine if_split (fun h => ?_) (fun h => ?_)
    · exact (body (by have := of_decide_eq_true h; unfold endOk; rw [decide_eq_true (by omega)]; rfl)).mono (fun _ _ q => q) (fun _ _ q => q) (fun _ _ z => z.elim) (fun _ _ z => z.elim)
    · have hne : i + 1 ≠ ws.length := by have := of_decide_eq_false h; omega
      have hlt : i + 1 < ws.length := by omega
      have he : endOk cu.2.2 ws (i + 1) = !decide (ws[i + 1] ∈ cu.2.2) := by unfold endOk; simp [hne, hlt]
      walk_at "go"
      refine rd_ixX (by omega) hlt ?_
      walk_at "go"
      refine if_split (fun h1 => ?_) (fun h1 => ?_)
      · exact (body (by rw [he]; exact h1)).mono (fun _ _ q => q) (fun _ _ q => q) (fun _ _ z => z.elim) (fun _ _ z => z.elim)
      · walk_at "go"
        exact ⟨_, by walk_at "le", bl, rfl, stop (.inl (by rw [he]; exact h1))⟩
  · rintro ρ1 k2 ⟨bl, rfl, tab⟩
    walk_at "go"
    refine ev_dget1 rfl (.inl rfl) ?_
    walk_at "go"
    refine rc_lenX (by omega) ⟨.inl (ws.length : Int), rfl, ?_⟩
    obtain ⟨f1, f2⟩ := fewest_parts u cu.2.1 cu.2.2 ws
    cases hp : partsF u cu.2.1 cu.2.2 ws with
    | none =>
      rw [lookB_none fun j hj => f2 hp j (tab.good _ hj).2.1]
      rfl
    | some l =>
      obtain ⟨r1, r2⟩ := f1 l hp
      obtain ⟨j, hj⟩ := tab.all ws.length l.length (Nat.le_refl _) r1
      rw [lookB hj fun j' h' => tab.one h' hj]
      have g := tab.good _ hj
      have : j = l.length := Nat.le_antisymm (g.2.2 _ r1) (r2 _ g.2.1)
      rw [this]
      rfl
theorem ok_law (T : Txt K mg A) : FnG P w K mg base 5 A.f_law A.d_law ["_law_script"] (spLaw K) := by
  have G__law_deck : FnOk P w K mg base CX0 1 A.f__law_deck A.d__law_deck ["_law_script"] (spDeck K) := ok__law_deck T
  have G__law_units : FnOk P w K mg base CX0 4 A.f__law_units A.d__law_units ["_law_deck_here", "_law_letters"] (spD K 2 R_units) := ok__law_units T
  have G__law_cut : FnOk P w K mg base CX0 2 A.f__law_cut A.d__law_cut ["_law_deck_here", "_law_letters", "_law_units_here", "_law_most"] (spD K 4 R_cut) := ok__law_cut T
  have G__law_draw : FnOk P w K mg base CX0 1 A.f__law_draw A.d__law_draw ["_law_deck_here", "_law_most"] (spD K 2 R_draw) := ok__law_draw T
  have G_parts : FnOk P w K mg base CX0 3 A.f_parts A.d_parts ["units", "cut", "word"] (spP K 3 R_parts) := ok_parts T
  have G__law_fewest : FnOk P w K mg base CX0 2 A.f__law_fewest A.d__law_fewest ["_law_unit_here", "_law_cut_here", "_law_word"] (spP K 3 R_fewest) := ok__law_fewest T
  have G__law_one : FnOk P w K mg base CX0 2 A.f__law_one A.d__law_one ["_law_deck_here", "_law_items"] (spD K 2 R_one) := ok__law_one T
  have G__law_count : FnOk P w K mg base CX0 1 A.f__law_count A.d__law_count ["_law_unit_here", "_law_word"] (spP K 2 R_count) := ok__law_count T
  refine okG T.F_law sc_law (fun vs H Q E h => ?_) (fun cdv Ar outer s H vs Q E hG hr h => ?_)
  · exact spLaw.len h
  refine ⟨_, (pss_cons (ps_set (i := 1) sc_law.nd rfl (Or.inr rfl) (pe_call G__law_deck (hr.mono (by first | decide | omega)) rfl T.m__law_deck T.k__law_deck T.b__law_deck .nil pass0 (pa_cons (pv 0) pa_nil)))
    (pss_cons (ps_for PassesOwn.never rfl (pi_range1 (by rfl) T.z_range (pa_cons pe_int pa_nil)) (pg_name (i := 2) sc_law.nd rfl (Or.inl rfl))
    (pss_cons (ps_set (i := 3) sc_law.nd rfl (Or.inr rfl) (pe_op op_add pe_int (pe_call G__law_draw (hr.mono (by first | decide | omega)) rfl T.m__law_draw T.k__law_draw T.b__law_draw .nil pass0 (pa_cons (pv 1) (pa_cons pe_int pa_nil)))))
    (pss_cons (ps_set (i := 4) sc_law.nd rfl (Or.inr rfl) (pe_call G__law_units (hr.mono (by first | decide | omega)) rfl T.m__law_units T.k__law_units T.b__law_units .nil pass0 (pa_cons (pv 1) (pa_cons (pv 3) pa_nil))))
    (pss_cons (ps_set (i := 5) sc_law.nd rfl (Or.inr rfl) (pe_call G__law_cut (hr.mono (by first | decide | omega)) rfl T.m__law_cut T.k__law_cut T.b__law_cut .nil pass0 (pa_cons (pv 1) (pa_cons (pv 3) (pa_cons (pv 4) (pa_cons pe_int pa_nil))))))
    (pss_cons (ps_set (i := 6) sc_law.nd rfl (Or.inl rfl) (kJoin K (pe_join pe_str (pe_lc (own := [("_law_k", 9)]) rfl sc_law.nd (pi_range1 (by rfl) T.z_range (pa_cons (pe_call G__law_one (hr.mono (by first | decide | omega)) rfl T.m__law_one T.k__law_one T.b__law_one .nil pass0 (pa_cons (pv 1) (pa_cons (pe_lst (pa_cons pe_int (pa_cons pe_int (pa_cons pe_int (pa_cons (pe_call G__law_draw (hr.mono (by first | decide | omega)) rfl T.m__law_draw T.k__law_draw T.b__law_draw .nil pass0 (pa_cons (pv 1) (pa_cons pe_int pa_nil))) pa_nil))))) pa_nil))) pa_nil)) (blkOk_by (own := [("_law_k", 9)]) (N := N_law) (sc := defScope s_law) (by decide +kernel)) (fun _ _ _ _ _ => (pg_name (i := 9) sc_law.nd rfl (Or.inl rfl))) (fun _ _ _ _ _ => pts_nil) (fun _ _ _ _ _ => (pe_call G__law_one (hr.mono (by first | decide | omega)) rfl T.m__law_one T.k__law_one T.b__law_one .nil pass0 (pa_cons (pv 1) (pa_cons (pe_slice sl_str pe_str po_none (po_some (pv 3))) pa_nil))))))))
    (pss_cons (ps_par (i := 7) (j := 8) (by rfl) sc_law.nd rfl rfl (by decide) rfl rfl (pa_cons (pe_call G_parts (hr.mono (by first | decide | omega)) rfl T.m_parts T.k_parts T.b_parts .nil pass0 (pa_cons (pv 4) (pa_cons (pv 5) (pa_cons (pv 6) pa_nil)))) (pa_cons (pe_call G__law_fewest (hr.mono (by first | decide | omega)) rfl T.m__law_fewest T.k__law_fewest T.b__law_fewest .nil pass0 (pa_cons (pe_ix (kIxT K) (pv 4) (pe_ix (kIxT K) (pv 5) pe_int (fun _ _ => rfl)) (fun _ _ => rfl)) (pa_cons (pv 5) (pa_cons (pv 6) pa_nil)))) pa_nil)) (by rfl))
    (pss_cons (ps_if (pt_cmpR op_ne (pe_cmpR op_isN (pv 7) pe_non (nomark _)) (pe_cmpR op_isN (pv 8) pe_non (nomark _)) (nomark _)) (pss_one (ps_ret pe_bl))
    pss_nil)
    (pss_one (ps_if (pt_cmpR op_notN (pv 7) pe_non (nomark _)) (pss_cons (ps_if (PW.pt (pw_or (pt_cmpR op_ne (pe_callB (id := "len") (kLenQ K) (by rfl) T.z_len (by decide +kernel) (pa_cons (pv 7) pa_nil)) (pv 8) (nomark _)) (pw_or (pt_cmpR op_ne (kJoin K (pe_join pe_str (pv 7))) (pv 6) (nomark _)) (pw_or1 (pt_cmpR (kIn K) pe_str (pv 7) (by with_unfolding_all rfl)))))) (pss_one (ps_ret pe_bl))
    pss_nil)
    (pss_cons (ps_if (pt_cmpR (kNeNil K hr) (pe_lc (own := [("_law_piece", 10)]) rfl sc_law.nd (kPiT K (pv 7)) (blkOk_by (own := [("_law_piece", 10)]) (N := N_law) (sc := defScope s_law) (by decide +kernel)) (fun _ _ _ _ _ => (pg_name (i := 10) sc_law.nd rfl (Or.inl rfl))) (fun _ _ _ _ _ => (pts_one (pt_cmpR op_gt (pe_call G__law_count (hr.mono (by first | decide | omega)) rfl T.m__law_count T.k__law_count T.b__law_count .nil pass0 (pa_cons (pe_ix (kIxT K) (pv 4) (pe_ix (kIxT K) (pv 5) pe_int (fun _ _ => rfl)) (fun _ _ => rfl)) (pa_cons (pv 10) pa_nil))) (pe_ix (kIxT K) (pv 5) pe_int (fun _ _ => rfl)) (nomark _)))) (fun _ _ _ _ _ => (pv 10))) (pe_lst pa_nil) (nomark _)) (pss_one (ps_ret pe_bl))
    pss_nil)
    (pss_one (ps_if (pt_cmpR (kNeNil K hr) (pe_lc (own := [("_law_piece", 10)]) rfl sc_law.nd (kPiT K (pe_slice (kSlT K) (pv 7) (po_some pe_int) po_none)) (blkOk_by (own := [("_law_piece", 10)]) (N := N_law) (sc := defScope s_law) (by decide +kernel)) (fun _ _ _ _ _ => (pg_name (i := 10) sc_law.nd rfl (Or.inl rfl))) (fun _ _ _ _ _ => (pts_one (pt_cmpR op_in_sign (pe_ix ix_str (pv 10) pe_int (fun _ _ => rfl)) (pe_ix (kIxT K) (pv 5) pe_int (fun _ _ => rfl)) (by with_unfolding_all rfl)))) (fun _ _ _ _ _ => (pv 10))) (pe_lst pa_nil) (nomark _)) (pss_one (ps_ret pe_bl))
    pss_nil))))
    pss_nil)))))))))
    (pss_one (ps_ret pe_bl)))), ?_⟩
  refine spLaw.ok 9 rfl h fun M p q hp hq Hs tr => ?_
  walk_at "st"
  walk_at "go"
  refine sw_forW ?_
  walk_at "go"
  refine ⟨fun i ρ k => ρ = [.no, .raw (.ref p), .no, .no, .no, .no, .no, .no, .no, .no, .no] ∧ k ≤ 70 * i, ⟨_, Le.refl _, rfl, Nat.le_refl _⟩, ?_, ?_⟩
  · rintro i ρ1 k2 hi ⟨rfl, hk⟩
    have hi20 : i < 20 := hi
    walk_at "go"
    refine ⟨by omega, fun L0 hL0 => ?_⟩
    walk_at "go"
    obtain ⟨L, hL, l1, l4⟩ : ∃ L : Nat, (1 : Int) + (L0 : Int) = (L : Int) ∧ 1 ≤ L ∧ L ≤ 4 := ⟨1 + L0, by omega, by omega, by omega⟩
    rw [hL]
    refine ⟨17, _, ⟨L, rfl, l4, rfl, rfl⟩, by omega, ?_⟩
    rintro d ⟨us, rfl, u1, u2, hu⟩
    walk_at "go"
    refine ⟨6, _, ⟨L, 20, us, rfl, l4, u1, u2, by omega, rfl, rfl⟩, by omega, ?_⟩
    rintro d ⟨cu, rfl, hcu⟩
    have getU : ∀ x : Nat, x < us.length → ∃ u, us[x]? = some u ∧ UOk L u := fun x hx => ⟨us[x], by simp [hx], hu _ (List.getElem_mem hx)⟩
    obtain ⟨u, hu1, hu2⟩ := getU cu.1 hcu.unit
    walk_at "go"
    refine ev_lc (ei_rng1 ?_)
    walk_at "go"
    refine ⟨by omega, fun r hr => ?_⟩
    walk_at "go"
    refine ⟨by omega, by simp, by simp, fun d hd => ?_⟩
    have hd' : ∃ x : Nat, d = nI x ∧ x ≤ 40 := by
      simp only [List.mem_cons, List.not_mem_nil, or_false] at hd
      rcases hd with rfl | rfl | rfl | rfl
      · exact ⟨0, rfl, by omega⟩
      · exact ⟨1, rfl, by omega⟩
      · exact ⟨5, rfl, by omega⟩
      · exact ⟨r, rfl, by omega⟩
    obtain ⟨n, rfl, hn⟩ := hd'
    walk_at "go"
    refine ⟨by omega, by omega, ?_⟩
    refine ⟨by omega, fun j acc k2 => ∃ ws : List Nat, acc = ws.map (fun c => PyData.str (txt [c])) ∧ ws.length = j ∧ (∀ x ∈ ws, x < L) ∧ k2 ≤ 70 * i + 26 + j, ⟨[], rfl, rfl, (fun _ h => nomatch h), by omega⟩, ?_, ?_⟩
    · rintro j acc k2 hj ⟨ws, rfl, hl, hx, hk⟩
      walk_at "go"
      refine rsl_S (by decide) ?_
      rw [abcd_cut l4]
      walk_at "go"
      refine ⟨by omega, List.range L, rfl, by intro z; have := congrArg List.length z; simp at this; omega, by simp; omega, fun x hxL => ?_⟩
      exact ⟨ws ++ [x], by rw [List.map_append]; rfl, by rw [List.length_append, hl]; rfl, fun v hv => by
        rcases List.mem_append.mp hv with h | h
        · exact hx v h
        · rw [List.mem_singleton.mp h]; exact List.mem_range.mp hxL, by omega⟩
    · rintro acc k3 hlen ⟨ws, rfl, hl, hx, hk3⟩
      refine ⟨ws.map fun c => txt [c], by rw [List.map_map]; rfl, ?_, ?_⟩
      · rw [ones_len, List.length_map]
        have : (Str.ofString "").length = 0 := rfl
        rw [this]
        omega
      rw [join_ones]
      have hwx : ∀ x ∈ ws, x < u.length ∧ x < 4 := fun x h => by have := hx x h; rw [hu2.len]; omega
      have hwl : ws.length ≤ 40 := by omega
      walk_at "go"
      refine rc_pure rfl ⟨us, cu, ws, u, rfl, hu1, fun x h => (hwx x h).1, by omega, rfl⟩ ?_
      walk_at "go"
      refine rd_ixTm hu1 ?_
      walk_at "go"
      refine rc_pure rfl ⟨u, ws, cu, rfl, hwx, by omega, rfl⟩ ?_
      walk_at "go"
      have sound := parts_sound u cu.2.1 cu.2.2 ws.length ws (Nat.le_refl _)
      cases hp : partsF u cu.2.1 cu.2.2 ws with
      | none =>
        rw [show isNone (encP none) = true from rfl, show isNone (encO (Option.map List.length (none : Option (List (List Nat))))) = true from rfl]
        refine if_split (fun h => by cases h) (fun _ => ?_)
        walk_at "go"
        rw [show isNone (encP none) = true from rfl]
        walk_at "go"
        exact ⟨_, by walk_at "le", rfl, by omega⟩
      | some l =>
        obtain ⟨s1, s2, s3, _⟩ := sound l hp
        rw [show isNone (encP (some l)) = false from rfl, show isNone (encO (Option.map List.length (some l))) = false from rfl]
        have hll : l.length ≤ ws.length := by
          rw [← s1]
          clear s3 hp sound
          revert s2
          generalize l = l
          intro s2
          induction l with
          | nil => exact Nat.zero_le _
          | cons q l ih =>
            have h1 := (s2 q List.mem_cons_self).1
            have h2 : q.length ≠ 0 := fun z => h1 (List.length_eq_zero_iff.mp z)
            have h3 := ih fun p hp => s2 p (List.mem_cons_of_mem _ hp)
            rw [List.flatten_cons, List.length_append, List.length_cons]
            omega
        refine if_split (fun h => by cases h) (fun _ => ?_)
        walk_at "go"
        rw [show isNone (encP (some l)) = false from rfl]
        walk_at "go"
        show RCD K _ (rLenQ K) [.tuple (l.map nX)] _ _ _
        walk_at "go"
        refine if_split (fun h => by simp at h) (fun _ => ?_)
        refine et_or (et_test (ev_op (ev_joinT (ev_str ⟨_, rfl, ev_var rfl ⟨l.map txt, by rw [List.map_map]; rfl, ?_, ?_⟩⟩))))
        · have : (Str.ofString "").length = 0 := rfl
          rw [this, List.map_map]
          have e : ∀ l : List (List Nat), (l.map ((fun z : Str => z.length) ∘ txt)).sum = l.flatten.length := fun l => by
            induction l with
            | nil => rfl
            | cons q l ih => rw [List.map_cons, List.sum_cons, ih, List.flatten_cons, List.length_append]; show (txt q).length + _ = _; rw [txt_len]
          rw [e, s1]
          omega
        rw [join_txt, s1]
        walk_at "go"
        refine if_split (fun h => by simp at h) (fun _ => ?_)
        walk_at "go"
        have ein : encP (some l) = .tuple ((l.map txt).map .str) := by rw [List.map_map]; rfl
        rw [ein]
        refine rd_inStrsT ?_
        have nin : decide (Str.ofString "" ∈ l.map txt) = false := decide_eq_false fun hh => by
          obtain ⟨q, hq, e⟩ := List.mem_map.mp hh
          exact (s2 q hq).1 (txt_inj (b := []) e)
        rw [nin]
        walk_at "go"
        rw [← ein]
        refine ev_lcP (fun _ => false) (fun _ => .none) (ei_tup (ev_var rfl ⟨l.map nX, rfl, ?_⟩))
        rw [List.length_map]
        refine ⟨by omega, fun t ht => ?_, ?_⟩
        · rw [itemD_map ht]
          obtain ⟨_, hc⟩ := s2 l[t] (List.getElem_mem ht)
          have hsub : ∀ x ∈ l[t], x ∈ ws := fun x hx => by rw [← s1]; exact List.mem_flatten.mpr ⟨_, List.getElem_mem ht, hx⟩
          walk_at "go"
          refine rd_ixTm hu1 ?_
          walk_at "go"
          refine rc_pure rfl ⟨u, l[t], rfl, fun c hc => hwx c (hsub c hc), ?_, rfl⟩ ?_
          · have := mem_len_flatten (List.getElem_mem ht)
            rw [s1] at this
            omega
          walk_at "go"
          refine ⟨decide_eq_false (by omega), ?_⟩
          exact ⟨rfl, fun z => by cases z⟩
        · have e : ((List.range l.length).filter fun _ => false) = [] := List.filter_eq_nil_iff.mpr fun _ _ => by simp
          rw [e]
          walk_at "go"
          refine rd_neNilL ?_
          walk_at "go"
          refine if_split (fun h => by cases h) (fun _ => ?_)
          walk_at "go"
          have etail : cutD (l.map nX) (some 1) none = l.tail.map nX := by
            cases l with
            | nil => rfl
            | cons q l =>
              have := cut_drop (ds := (q :: l).map nX) (j := 1) (by simp)
              rw [show (some (1 : Int)) = some ((1 : Nat) : Int) from rfl, this]
              rfl
          refine ev_lcP (fun _ => false) (fun _ => .none) (ei_tup (ev_sl (ev_var rfl (eo_some (ev_int ⟨1, rfl, eo_none ?_⟩)))))
          show RSl K _ (rSlA K) (.tuple (l.map nX)) _ _ _ _ _
          refine rsl_T ?_
          rw [etail]
          refine ⟨l.tail.map nX, rfl, ?_⟩
          rw [List.length_map]
          refine ⟨by rw [List.length_tail]; omega, fun t ht => ?_, ?_⟩
          · rw [itemD_map ht]
            have hmem : l.tail[t] ∈ l := List.mem_of_mem_tail (List.getElem_mem ht)
            have hne := (s2 _ hmem).1
            have hlen : 0 < l.tail[t].length := List.length_pos_iff.mpr hne
            have hc := s3 _ (List.getElem_mem ht) l.tail[t][0] (by simp [hlen])
            have hpl := mem_len_flatten hmem
            rw [s1] at hpl
            walk_at "go"
            refine rd_ixX (j := 0) (by omega) hlen ?_
            walk_at "go"
            refine ⟨decide_eq_false hc, ?_⟩
            exact ⟨rfl, fun z => by cases z⟩
          · have e : ((List.range l.tail.length).filter fun _ => false) = [] := List.filter_eq_nil_iff.mpr fun _ _ => by simp
            rw [e]
            walk_at "go"
            refine rd_neNilL ?_
            walk_at "go"
            refine if_split (fun h => by cases h) (fun _ => ?_)
            walk_at "go"
            exact ⟨_, by walk_at "le", rfl, by omega⟩
  · rintro ρ1 k2 ⟨rfl, hk⟩
    walk_at "go"
end

theorem all_mk {l : PySem.W.OpenLaw} {w : World} {K : PySem.W.Frag} {h : Heap} {mg : Str → Option Value} {fa : Addr} (X : K.In h) (G : h.Ns mainGlobals mg) (hfa : mg "law" = some (.ref fa))
    {f_letter_number : Addr} {od_letter_number an_letter_number : Option Addr} {sl_letter_number : Array (Option Value)} {oc_letter_number kV_letter_number dc_letter_number pm_letter_number cd_letter_number ct_letter_number : Value}
    {f__place : Addr} {od__place an__place : Option Addr} {sl__place : Array (Option Value)} {oc__place kV__place dc__place pm__place cd__place ct__place : Value}
    {f_parts : Addr} {od_parts an_parts : Option Addr} {sl_parts : Array (Option Value)} {oc_parts kV_parts dc_parts pm_parts cd_parts ct_parts : Value}
    {f__law_deck : Addr} {od__law_deck an__law_deck : Option Addr} {sl__law_deck : Array (Option Value)} {oc__law_deck kV__law_deck dc__law_deck pm__law_deck cd__law_deck ct__law_deck : Value}
    {f__law_draw : Addr} {od__law_draw an__law_draw : Option Addr} {sl__law_draw : Array (Option Value)} {oc__law_draw kV__law_draw dc__law_draw pm__law_draw cd__law_draw ct__law_draw : Value}
    {f__law_one : Addr} {od__law_one an__law_one : Option Addr} {sl__law_one : Array (Option Value)} {oc__law_one kV__law_one dc__law_one pm__law_one cd__law_one ct__law_one : Value}
    {f__law_count : Addr} {od__law_count an__law_count : Option Addr} {sl__law_count : Array (Option Value)} {oc__law_count kV__law_count dc__law_count pm__law_count cd__law_count ct__law_count : Value}
    {f__law_unit : Addr} {od__law_unit an__law_unit : Option Addr} {sl__law_unit : Array (Option Value)} {oc__law_unit kV__law_unit dc__law_unit pm__law_unit cd__law_unit ct__law_unit : Value}
    {f__law_cut : Addr} {od__law_cut an__law_cut : Option Addr} {sl__law_cut : Array (Option Value)} {oc__law_cut kV__law_cut dc__law_cut pm__law_cut cd__law_cut ct__law_cut : Value}
    {f__law_cuts : Addr} {od__law_cuts an__law_cuts : Option Addr} {sl__law_cuts : Array (Option Value)} {oc__law_cuts kV__law_cuts dc__law_cuts pm__law_cuts cd__law_cuts ct__law_cuts : Value}
    {f__law_units : Addr} {od__law_units an__law_units : Option Addr} {sl__law_units : Array (Option Value)} {oc__law_units kV__law_units dc__law_units pm__law_units cd__law_units ct__law_units : Value}
    {f__law_one_cut : Addr} {od__law_one_cut an__law_one_cut : Option Addr} {sl__law_one_cut : Array (Option Value)} {oc__law_one_cut kV__law_one_cut dc__law_one_cut pm__law_one_cut cd__law_one_cut ct__law_one_cut : Value}
    {f__law_left : Addr} {od__law_left an__law_left : Option Addr} {sl__law_left : Array (Option Value)} {oc__law_left kV__law_left dc__law_left pm__law_left cd__law_left ct__law_left : Value}
    {f__law_fewest : Addr} {od__law_fewest an__law_fewest : Option Addr} {sl__law_fewest : Array (Option Value)} {oc__law_fewest kV__law_fewest dc__law_fewest pm__law_fewest cd__law_fewest ct__law_fewest : Value}
    {f_law : Addr} {od_law an_law : Option Addr} {sl_law : Array (Option Value)} {oc_law kV_law dc_law pm_law cd_law ct_law : Value}
    (a_letter_number : PySem.W.nsIn K mainGlobals "letter_number" = some (some (.ref f_letter_number))) (l_letter_number : K.lookup f_letter_number = some ⟨oc_letter_number, od_letter_number, .func (PySem.W.fnOf "letter_number" "letter_number" (defArgs s_letter_number) (defBody s_letter_number) (defScope s_letter_number) .none kV_letter_number dc_letter_number pm_letter_number an_letter_number cd_letter_number ct_letter_number), sl_letter_number⟩) (e_letter_number : PySem.W.codeIn K cd_letter_number "letter_number" = true) (k_letter_number : PySem.W.keepIn K (.ref f_letter_number) = true)
    (a__place : PySem.W.nsIn K mainGlobals "_place" = some (some (.ref f__place))) (l__place : K.lookup f__place = some ⟨oc__place, od__place, .func (PySem.W.fnOf "_place" "_place" (defArgs s__place) (defBody s__place) (defScope s__place) .none kV__place dc__place pm__place an__place cd__place ct__place), sl__place⟩) (e__place : PySem.W.codeIn K cd__place "_place" = true) (k__place : PySem.W.keepIn K (.ref f__place) = true)
    (a_parts : PySem.W.nsIn K mainGlobals "parts" = some (some (.ref f_parts))) (l_parts : K.lookup f_parts = some ⟨oc_parts, od_parts, .func (PySem.W.fnOf "parts" "parts" (defArgs s_parts) (defBody s_parts) (defScope s_parts) .none kV_parts dc_parts pm_parts an_parts cd_parts ct_parts), sl_parts⟩) (e_parts : PySem.W.codeIn K cd_parts "parts" = true) (k_parts : PySem.W.keepIn K (.ref f_parts) = true)
    (a__law_deck : PySem.W.nsIn K mainGlobals "_law_deck" = some (some (.ref f__law_deck))) (l__law_deck : K.lookup f__law_deck = some ⟨oc__law_deck, od__law_deck, .func (PySem.W.fnOf "_law_deck" "_law_deck" (defArgs s__law_deck) (defBody s__law_deck) (defScope s__law_deck) .none kV__law_deck dc__law_deck pm__law_deck an__law_deck cd__law_deck ct__law_deck), sl__law_deck⟩) (e__law_deck : PySem.W.codeIn K cd__law_deck "_law_deck" = true) (k__law_deck : PySem.W.keepIn K (.ref f__law_deck) = true)
    (a__law_draw : PySem.W.nsIn K mainGlobals "_law_draw" = some (some (.ref f__law_draw))) (l__law_draw : K.lookup f__law_draw = some ⟨oc__law_draw, od__law_draw, .func (PySem.W.fnOf "_law_draw" "_law_draw" (defArgs s__law_draw) (defBody s__law_draw) (defScope s__law_draw) .none kV__law_draw dc__law_draw pm__law_draw an__law_draw cd__law_draw ct__law_draw), sl__law_draw⟩) (e__law_draw : PySem.W.codeIn K cd__law_draw "_law_draw" = true) (k__law_draw : PySem.W.keepIn K (.ref f__law_draw) = true)
    (a__law_one : PySem.W.nsIn K mainGlobals "_law_one" = some (some (.ref f__law_one))) (l__law_one : K.lookup f__law_one = some ⟨oc__law_one, od__law_one, .func (PySem.W.fnOf "_law_one" "_law_one" (defArgs s__law_one) (defBody s__law_one) (defScope s__law_one) .none kV__law_one dc__law_one pm__law_one an__law_one cd__law_one ct__law_one), sl__law_one⟩) (e__law_one : PySem.W.codeIn K cd__law_one "_law_one" = true) (k__law_one : PySem.W.keepIn K (.ref f__law_one) = true)
    (a__law_count : PySem.W.nsIn K mainGlobals "_law_count" = some (some (.ref f__law_count))) (l__law_count : K.lookup f__law_count = some ⟨oc__law_count, od__law_count, .func (PySem.W.fnOf "_law_count" "_law_count" (defArgs s__law_count) (defBody s__law_count) (defScope s__law_count) .none kV__law_count dc__law_count pm__law_count an__law_count cd__law_count ct__law_count), sl__law_count⟩) (e__law_count : PySem.W.codeIn K cd__law_count "_law_count" = true) (k__law_count : PySem.W.keepIn K (.ref f__law_count) = true)
    (a__law_unit : PySem.W.nsIn K mainGlobals "_law_unit" = some (some (.ref f__law_unit))) (l__law_unit : K.lookup f__law_unit = some ⟨oc__law_unit, od__law_unit, .func (PySem.W.fnOf "_law_unit" "_law_unit" (defArgs s__law_unit) (defBody s__law_unit) (defScope s__law_unit) .none kV__law_unit dc__law_unit pm__law_unit an__law_unit cd__law_unit ct__law_unit), sl__law_unit⟩) (e__law_unit : PySem.W.codeIn K cd__law_unit "_law_unit" = true) (k__law_unit : PySem.W.keepIn K (.ref f__law_unit) = true)
    (a__law_cut : PySem.W.nsIn K mainGlobals "_law_cut" = some (some (.ref f__law_cut))) (l__law_cut : K.lookup f__law_cut = some ⟨oc__law_cut, od__law_cut, .func (PySem.W.fnOf "_law_cut" "_law_cut" (defArgs s__law_cut) (defBody s__law_cut) (defScope s__law_cut) .none kV__law_cut dc__law_cut pm__law_cut an__law_cut cd__law_cut ct__law_cut), sl__law_cut⟩) (e__law_cut : PySem.W.codeIn K cd__law_cut "_law_cut" = true) (k__law_cut : PySem.W.keepIn K (.ref f__law_cut) = true)
    (a__law_cuts : PySem.W.nsIn K mainGlobals "_law_cuts" = some (some (.ref f__law_cuts))) (l__law_cuts : K.lookup f__law_cuts = some ⟨oc__law_cuts, od__law_cuts, .func (PySem.W.fnOf "_law_cuts" "_law_cuts" (defArgs s__law_cuts) (defBody s__law_cuts) (defScope s__law_cuts) .none kV__law_cuts dc__law_cuts pm__law_cuts an__law_cuts cd__law_cuts ct__law_cuts), sl__law_cuts⟩) (e__law_cuts : PySem.W.codeIn K cd__law_cuts "_law_cuts" = true) (k__law_cuts : PySem.W.keepIn K (.ref f__law_cuts) = true)
    (a__law_units : PySem.W.nsIn K mainGlobals "_law_units" = some (some (.ref f__law_units))) (l__law_units : K.lookup f__law_units = some ⟨oc__law_units, od__law_units, .func (PySem.W.fnOf "_law_units" "_law_units" (defArgs s__law_units) (defBody s__law_units) (defScope s__law_units) .none kV__law_units dc__law_units pm__law_units an__law_units cd__law_units ct__law_units), sl__law_units⟩) (e__law_units : PySem.W.codeIn K cd__law_units "_law_units" = true) (k__law_units : PySem.W.keepIn K (.ref f__law_units) = true)
    (a__law_one_cut : PySem.W.nsIn K mainGlobals "_law_one_cut" = some (some (.ref f__law_one_cut))) (l__law_one_cut : K.lookup f__law_one_cut = some ⟨oc__law_one_cut, od__law_one_cut, .func (PySem.W.fnOf "_law_one_cut" "_law_one_cut" (defArgs s__law_one_cut) (defBody s__law_one_cut) (defScope s__law_one_cut) .none kV__law_one_cut dc__law_one_cut pm__law_one_cut an__law_one_cut cd__law_one_cut ct__law_one_cut), sl__law_one_cut⟩) (e__law_one_cut : PySem.W.codeIn K cd__law_one_cut "_law_one_cut" = true) (k__law_one_cut : PySem.W.keepIn K (.ref f__law_one_cut) = true)
    (a__law_left : PySem.W.nsIn K mainGlobals "_law_left" = some (some (.ref f__law_left))) (l__law_left : K.lookup f__law_left = some ⟨oc__law_left, od__law_left, .func (PySem.W.fnOf "_law_left" "_law_left" (defArgs s__law_left) (defBody s__law_left) (defScope s__law_left) .none kV__law_left dc__law_left pm__law_left an__law_left cd__law_left ct__law_left), sl__law_left⟩) (e__law_left : PySem.W.codeIn K cd__law_left "_law_left" = true) (k__law_left : PySem.W.keepIn K (.ref f__law_left) = true)
    (a__law_fewest : PySem.W.nsIn K mainGlobals "_law_fewest" = some (some (.ref f__law_fewest))) (l__law_fewest : K.lookup f__law_fewest = some ⟨oc__law_fewest, od__law_fewest, .func (PySem.W.fnOf "_law_fewest" "_law_fewest" (defArgs s__law_fewest) (defBody s__law_fewest) (defScope s__law_fewest) .none kV__law_fewest dc__law_fewest pm__law_fewest an__law_fewest cd__law_fewest ct__law_fewest), sl__law_fewest⟩) (e__law_fewest : PySem.W.codeIn K cd__law_fewest "_law_fewest" = true) (k__law_fewest : PySem.W.keepIn K (.ref f__law_fewest) = true)
    (a_law : PySem.W.nsIn K mainGlobals "law" = some (some (.ref f_law))) (l_law : K.lookup f_law = some ⟨oc_law, od_law, .func (PySem.W.fnOf "law" "law" (defArgs s_law) (defBody s_law) (defScope s_law) .none kV_law dc_law pm_law an_law cd_law ct_law), sl_law⟩) (e_law : PySem.W.codeIn K cd_law "law" = true) (k_law : PySem.W.keepIn K (.ref f_law) = true)
    (z_abs : PySem.W.nsIn K mainGlobals "abs" = some none)
    (z_enumerate : PySem.W.nsIn K mainGlobals "enumerate" = some none)
    (z_int : PySem.W.nsIn K mainGlobals "int" = some none)
    (z_len : PySem.W.nsIn K mainGlobals "len" = some none)
    (z_min : PySem.W.nsIn K mainGlobals "min" = some none)
    (z_ord : PySem.W.nsIn K mainGlobals "ord" = some none)
    (z_range : PySem.W.nsIn K mainGlobals "range" = some none)
    (z_sum : PySem.W.nsIn K mainGlobals "sum" = some none)
    (z_tuple : PySem.W.nsIn K mainGlobals "tuple" = some none)
    : ∃ fd : FuncData, (∀ (s : Shared) (v : Value), BindsTo s fd ⟨[v], []⟩ [("_law_script", v)]) ∧ ∀ base : Heap, K.In base → base.Ns mainGlobals mg → FnG l.prog w K mg base 5 fa fd ["_law_script"] (sp_law K) := by
  have e := (PySem.W.mg_of X G a_law).symm.trans hfa
  have e2 : f_law = fa := by injection e with e; injection e
  subst e2
  have F_letter_number := fun_mk (st := s_letter_number) l_letter_number e_letter_number k_letter_number
  have b_letter_number := F_letter_number.binds (ps := ["letter"]) fun _ _ _ _ _ _ us hl => match us, hl with | [_], _ => rfl
  have F__place := fun_mk (st := s__place) l__place e__place k__place
  have b__place := F__place.binds (ps := ["units", "cut", "word"]) fun _ _ _ _ _ _ us hl => match us, hl with | [_, _, _], _ => rfl
  have F_parts := fun_mk (st := s_parts) l_parts e_parts k_parts
  have b_parts := F_parts.binds (ps := ["units", "cut", "word"]) fun _ _ _ _ _ _ us hl => match us, hl with | [_, _, _], _ => rfl
  have F__law_deck := fun_mk (st := s__law_deck) l__law_deck e__law_deck k__law_deck
  have b__law_deck := F__law_deck.binds (ps := ["_law_script"]) fun _ _ _ _ _ _ us hl => match us, hl with | [_], _ => rfl
  have F__law_draw := fun_mk (st := s__law_draw) l__law_draw e__law_draw k__law_draw
  have b__law_draw := F__law_draw.binds (ps := ["_law_deck_here", "_law_most"]) fun _ _ _ _ _ _ us hl => match us, hl with | [_, _], _ => rfl
  have F__law_one := fun_mk (st := s__law_one) l__law_one e__law_one k__law_one
  have b__law_one := F__law_one.binds (ps := ["_law_deck_here", "_law_items"]) fun _ _ _ _ _ _ us hl => match us, hl with | [_, _], _ => rfl
  have F__law_count := fun_mk (st := s__law_count) l__law_count e__law_count k__law_count
  have b__law_count := F__law_count.binds (ps := ["_law_unit_here", "_law_word"]) fun _ _ _ _ _ _ us hl => match us, hl with | [_, _], _ => rfl
  have F__law_unit := fun_mk (st := s__law_unit) l__law_unit e__law_unit k__law_unit
  have b__law_unit := F__law_unit.binds (ps := ["_law_deck_here", "_law_letters", "_law_least"]) fun _ _ _ _ _ _ us hl => match us, hl with | [_, _, _], _ => rfl
  have F__law_cut := fun_mk (st := s__law_cut) l__law_cut e__law_cut k__law_cut
  have b__law_cut := F__law_cut.binds (ps := ["_law_deck_here", "_law_letters", "_law_units_here", "_law_most"]) fun _ _ _ _ _ _ us hl => match us, hl with | [_, _, _, _], _ => rfl
  have F__law_cuts := fun_mk (st := s__law_cuts) l__law_cuts e__law_cuts k__law_cuts
  have b__law_cuts := F__law_cuts.binds (ps := ["_law_deck_here", "_law_letters", "_law_units_here", "_law_most", "_law_wide"]) fun _ _ _ _ _ _ us hl => match us, hl with | [_, _, _, _, _], _ => rfl
  have F__law_units := fun_mk (st := s__law_units) l__law_units e__law_units k__law_units
  have b__law_units := F__law_units.binds (ps := ["_law_deck_here", "_law_letters"]) fun _ _ _ _ _ _ us hl => match us, hl with | [_, _], _ => rfl
  have F__law_one_cut := fun_mk (st := s__law_one_cut) l__law_one_cut e__law_one_cut k__law_one_cut
  have b__law_one_cut := F__law_one_cut.binds (ps := ["_law_units_here", "_law_cut_here", "_law_word"]) fun _ _ _ _ _ _ us hl => match us, hl with | [_, _, _], _ => rfl
  have F__law_left := fun_mk (st := s__law_left) l__law_left e__law_left k__law_left
  have b__law_left := F__law_left.binds (ps := ["_law_units_here", "_law_cuts_here", "_law_word"]) fun _ _ _ _ _ _ us hl => match us, hl with | [_, _, _], _ => rfl
  have F__law_fewest := fun_mk (st := s__law_fewest) l__law_fewest e__law_fewest k__law_fewest
  have b__law_fewest := F__law_fewest.binds (ps := ["_law_unit_here", "_law_cut_here", "_law_word"]) fun _ _ _ _ _ _ us hl => match us, hl with | [_, _, _], _ => rfl
  have F_law := fun_mk (st := s_law) l_law e_law k_law
  have b_law := F_law.binds (ps := ["_law_script"]) fun _ _ _ _ _ _ us hl => match us, hl with | [_], _ => rfl
  have T : Txt K mg ⟨f_letter_number, PySem.W.fnOf "letter_number" "letter_number" (defArgs s_letter_number) (defBody s_letter_number) (defScope s_letter_number) .none kV_letter_number dc_letter_number pm_letter_number an_letter_number cd_letter_number ct_letter_number, f__place, PySem.W.fnOf "_place" "_place" (defArgs s__place) (defBody s__place) (defScope s__place) .none kV__place dc__place pm__place an__place cd__place ct__place, f_parts, PySem.W.fnOf "parts" "parts" (defArgs s_parts) (defBody s_parts) (defScope s_parts) .none kV_parts dc_parts pm_parts an_parts cd_parts ct_parts, f__law_deck, PySem.W.fnOf "_law_deck" "_law_deck" (defArgs s__law_deck) (defBody s__law_deck) (defScope s__law_deck) .none kV__law_deck dc__law_deck pm__law_deck an__law_deck cd__law_deck ct__law_deck, f__law_draw, PySem.W.fnOf "_law_draw" "_law_draw" (defArgs s__law_draw) (defBody s__law_draw) (defScope s__law_draw) .none kV__law_draw dc__law_draw pm__law_draw an__law_draw cd__law_draw ct__law_draw, f__law_one, PySem.W.fnOf "_law_one" "_law_one" (defArgs s__law_one) (defBody s__law_one) (defScope s__law_one) .none kV__law_one dc__law_one pm__law_one an__law_one cd__law_one ct__law_one, f__law_count, PySem.W.fnOf "_law_count" "_law_count" (defArgs s__law_count) (defBody s__law_count) (defScope s__law_count) .none kV__law_count dc__law_count pm__law_count an__law_count cd__law_count ct__law_count, f__law_unit, PySem.W.fnOf "_law_unit" "_law_unit" (defArgs s__law_unit) (defBody s__law_unit) (defScope s__law_unit) .none kV__law_unit dc__law_unit pm__law_unit an__law_unit cd__law_unit ct__law_unit, f__law_cut, PySem.W.fnOf "_law_cut" "_law_cut" (defArgs s__law_cut) (defBody s__law_cut) (defScope s__law_cut) .none kV__law_cut dc__law_cut pm__law_cut an__law_cut cd__law_cut ct__law_cut, f__law_cuts, PySem.W.fnOf "_law_cuts" "_law_cuts" (defArgs s__law_cuts) (defBody s__law_cuts) (defScope s__law_cuts) .none kV__law_cuts dc__law_cuts pm__law_cuts an__law_cuts cd__law_cuts ct__law_cuts, f__law_units, PySem.W.fnOf "_law_units" "_law_units" (defArgs s__law_units) (defBody s__law_units) (defScope s__law_units) .none kV__law_units dc__law_units pm__law_units an__law_units cd__law_units ct__law_units, f__law_one_cut, PySem.W.fnOf "_law_one_cut" "_law_one_cut" (defArgs s__law_one_cut) (defBody s__law_one_cut) (defScope s__law_one_cut) .none kV__law_one_cut dc__law_one_cut pm__law_one_cut an__law_one_cut cd__law_one_cut ct__law_one_cut, f__law_left, PySem.W.fnOf "_law_left" "_law_left" (defArgs s__law_left) (defBody s__law_left) (defScope s__law_left) .none kV__law_left dc__law_left pm__law_left an__law_left cd__law_left ct__law_left, f__law_fewest, PySem.W.fnOf "_law_fewest" "_law_fewest" (defArgs s__law_fewest) (defBody s__law_fewest) (defScope s__law_fewest) .none kV__law_fewest dc__law_fewest pm__law_fewest an__law_fewest cd__law_fewest ct__law_fewest, f_law, PySem.W.fnOf "law" "law" (defArgs s_law) (defBody s_law) (defScope s_law) .none kV_law dc_law pm_law an_law cd_law ct_law⟩ := ⟨F_letter_number, PySem.W.mg_of X G a_letter_number, k_letter_number, b_letter_number, F__place, PySem.W.mg_of X G a__place, k__place, b__place, F_parts, PySem.W.mg_of X G a_parts, k_parts, b_parts, F__law_deck, PySem.W.mg_of X G a__law_deck, k__law_deck, b__law_deck, F__law_draw, PySem.W.mg_of X G a__law_draw, k__law_draw, b__law_draw, F__law_one, PySem.W.mg_of X G a__law_one, k__law_one, b__law_one, F__law_count, PySem.W.mg_of X G a__law_count, k__law_count, b__law_count, F__law_unit, PySem.W.mg_of X G a__law_unit, k__law_unit, b__law_unit, F__law_cut, PySem.W.mg_of X G a__law_cut, k__law_cut, b__law_cut, F__law_cuts, PySem.W.mg_of X G a__law_cuts, k__law_cuts, b__law_cuts, F__law_units, PySem.W.mg_of X G a__law_units, k__law_units, b__law_units, F__law_one_cut, PySem.W.mg_of X G a__law_one_cut, k__law_one_cut, b__law_one_cut, F__law_left, PySem.W.mg_of X G a__law_left, k__law_left, b__law_left, F__law_fewest, PySem.W.mg_of X G a__law_fewest, k__law_fewest, b__law_fewest, F_law, PySem.W.mg_of X G a_law, k_law, b_law, PySem.W.mg_none_of X G z_abs, PySem.W.mg_none_of X G z_enumerate, PySem.W.mg_none_of X G z_int, PySem.W.mg_none_of X G z_len, PySem.W.mg_none_of X G z_min, PySem.W.mg_none_of X G z_ord, PySem.W.mg_none_of X G z_range, PySem.W.mg_none_of X G z_sum, PySem.W.mg_none_of X G z_tuple⟩
  exact ⟨_, fun s v => .of_eq rfl, fun base _ _ => ok_law T⟩
theorem walk {l : PySem.W.OpenLaw} {q : Program} {loose : List Str} {XP : (Str → Option Value) → Heap → Prop} {YP : World → Heap → Prop} {d : DefRec} {K : Params → PySem.W.Frag} (hn : l.most = some 63) (hdf : d.params.defaults = [])
    (hY : ∀ (w : World) (h : Heap), YP w h → (K w.params).In h)
    (F : ∀ (w : World) (mg : Str → Option Value) (fa : Addr) (h : Heap), (K w.params).In h → h.Ns mainGlobals mg → mg d.name = some (.ref fa) →
      ∃ fd : FuncData, (∀ (s : Shared) (u : Value), BindsTo s fd ⟨[u], []⟩ [("_law_script", u)]) ∧ ∀ base : Heap, (K w.params).In base → base.Ns mainGlobals mg → FnG l.prog w (K w.params) mg base 5 fa fd ["_law_script"] (sp_law (K w.params))) :
    PySem.W.WalkO q loose XP YP l.row.toRowW d [] (fun f vs => PySem.call f vs) :=
  U.walkG (n := 63) (k := 5) (x := "_law_script") (sp := sp_law) hn (by decide) hdf ⟨rfl, by decide, by decide⟩ hY F fun K H a ns hl _ hS => sp_law_end hl hS
end Law

open PySem PySem.W PyProof.Rows in
set_option maxRecDepth 100000 in
set_option maxHeartbeats 0 in
theorem PySem.Challenge.cw_unitlimits_k42_whole_fewest_parts_holds : PySem.Challenge.rw_unitlimits_k42_whole_fewest_parts.Holds := by
  w_on; o_law; k_head; (case hw => w_witness2)
  k_fill
  refine Law.walk (l := PySem.Challenge.rw_unitlimits_k42_whole_fewest_parts) rfl rfl (fun w h Y => PySem.W.kIn_of Y) ?F
  case F =>
    intro w mg fa h KX G hmg
    refine' Law.all_mk KX G hmg ?a_letter_number ?l_letter_number ?e_letter_number ?k_letter_number ?a__place ?l__place ?e__place ?k__place ?a_parts ?l_parts ?e_parts ?k_parts ?a__law_deck ?l__law_deck ?e__law_deck ?k__law_deck ?a__law_draw ?l__law_draw ?e__law_draw ?k__law_draw ?a__law_one ?l__law_one ?e__law_one ?k__law_one ?a__law_count ?l__law_count ?e__law_count ?k__law_count ?a__law_unit ?l__law_unit ?e__law_unit ?k__law_unit ?a__law_cut ?l__law_cut ?e__law_cut ?k__law_cut ?a__law_cuts ?l__law_cuts ?e__law_cuts ?k__law_cuts ?a__law_units ?l__law_units ?e__law_units ?k__law_units ?a__law_one_cut ?l__law_one_cut ?e__law_one_cut ?k__law_one_cut ?a__law_left ?l__law_left ?e__law_left ?k__law_left ?a__law_fewest ?l__law_fewest ?e__law_fewest ?k__law_fewest ?a_law ?l_law ?e_law ?k_law ?z_abs ?z_enumerate ?z_int ?z_len ?z_min ?z_ord ?z_range ?z_sum ?z_tuple
    (case a_letter_number => k_is)
    (case l_letter_number => k_is)
    (case e_letter_number => k_is)
    (case k_letter_number => k_is)
    (case a__place => k_is)
    (case l__place => k_is)
    (case e__place => k_is)
    (case k__place => k_is)
    (case a_parts => k_is)
    (case l_parts => k_is)
    (case e_parts => k_is)
    (case k_parts => k_is)
    (case a__law_deck => k_is)
    (case l__law_deck => k_is)
    (case e__law_deck => k_is)
    (case k__law_deck => k_is)
    (case a__law_draw => k_is)
    (case l__law_draw => k_is)
    (case e__law_draw => k_is)
    (case k__law_draw => k_is)
    (case a__law_one => k_is)
    (case l__law_one => k_is)
    (case e__law_one => k_is)
    (case k__law_one => k_is)
    (case a__law_count => k_is)
    (case l__law_count => k_is)
    (case e__law_count => k_is)
    (case k__law_count => k_is)
    (case a__law_unit => k_is)
    (case l__law_unit => k_is)
    (case e__law_unit => k_is)
    (case k__law_unit => k_is)
    (case a__law_cut => k_is)
    (case l__law_cut => k_is)
    (case e__law_cut => k_is)
    (case k__law_cut => k_is)
    (case a__law_cuts => k_is)
    (case l__law_cuts => k_is)
    (case e__law_cuts => k_is)
    (case k__law_cuts => k_is)
    (case a__law_units => k_is)
    (case l__law_units => k_is)
    (case e__law_units => k_is)
    (case k__law_units => k_is)
    (case a__law_one_cut => k_is)
    (case l__law_one_cut => k_is)
    (case e__law_one_cut => k_is)
    (case k__law_one_cut => k_is)
    (case a__law_left => k_is)
    (case l__law_left => k_is)
    (case e__law_left => k_is)
    (case k__law_left => k_is)
    (case a__law_fewest => k_is)
    (case l__law_fewest => k_is)
    (case e__law_fewest => k_is)
    (case k__law_fewest => k_is)
    (case a_law => k_is)
    (case l_law => k_is)
    (case e_law => k_is)
    (case k_law => k_is)
    (case z_abs => k_is)
    (case z_enumerate => k_is)
    (case z_int => k_is)
    (case z_len => k_is)
    (case z_min => k_is)
    (case z_ord => k_is)
    (case z_range => k_is)
    (case z_sum => k_is)
    (case z_tuple => k_is)
