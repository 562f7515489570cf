import PyProof.Rows.All
import Wide.All
import OpenK.AllK
import Wide.FinOn
import HandS.ForMost
import HandS.IsInst
import HandS.Conv
import HandS.TupAny
import HandS.TupMul
import HandS.Codes
import HandS.Replace
import KE.GoesEnum
import HandS.Walk
import HandS.Steps
import HandS.NestedK
import KE.KDictKeyed
import KE.KeyNested
import HandS.EndTab
import HandS.Style
import PyProof.Rows.StrRev
import KE.GoesMore
import KE.KTurns
import HandS.Zip
import KE.KDictDisplayH
import KE.LtData
import KE.SortData
import HandS.Set
import HandS.SetTxt0
import HandS.SetFor
import HandS.DictComp
import HandS.SetKeys
import HandS.SortRule
import PyProof.StrLawsOcc
import PySem.Challenge.RW_unitlimits_k23_forms_unlike
set_option Elab.async false
set_option linter.all false
set_option maxRecDepth 100000
set_option maxHeartbeats 2000000
namespace U
open PySem PySem.Spec PyProof.Rows L2

/-! ### defs that are run where no guard is on the stack (for repr of lists and tuples) -/
/-- as FnOk, but asked only where no guard runs -/
structure FnG (P : Program) (w : World) (K : PySem.W.Frag) (mg : Str → Option Value) (base : Heap) (k : Nat) (f : Addr) (fd : FuncData) (ps : List Str) (sp : Sp) : Prop where
  arity : ∀ vs H Q E, sp vs H Q E → vs.length = ps.length
  runs : ∀ (A : Around) (outer : List Env) (s : Shared) (H : Hp) (args : Args) (us : List Value) (vs : List V) (Q : VK) (E : XK), A.guards = some [] → Room k A → Env0 P w K mg base A outer s H →
    BindsTo s fd args (ps.zip us) → Vals vs us → sp vs H Q E → codeAny (model P w) A (.call (.ref f) args) (CR CX0 outer P w H s Q E) s

section
variable {P : Program} {w : World} {K : PySem.W.Frag} {mg : Str → Option Value} {base : Heap}
theorem FnG.of {k : Nat} {f : Addr} {fd : FuncData} {ps : List Str} {sp : Sp} (F : FnOk P w K mg base CX0 k f fd ps sp) : FnG P w K mg base k f fd ps sp :=
  ⟨F.len, fun A o s H a us vs Q E _ => F.run A o s H a us vs Q E⟩
theorem FnG.more {j k : Nat} {f : Addr} {fd : FuncData} {ps : List Str} {sp : Sp} (F : FnG P w K mg base j f fd ps sp) (h : j ≤ k) : FnG P w K mg base k f fd ps sp :=
  ⟨F.arity, fun A o s H a us vs Q E g hr => F.runs A o s H a us vs Q E g (hr.mono h)⟩

/-- the body's rule, as Fun.ok, with the guards told -/
theorem okG {x qual : Str} {st : Stmt} {f : Addr} {fd : FuncData} {N ps : List Str} {k : Nat} {sp : Sp} (F : Fun K x qual st f fd) (S : FnScope N ps (defScope st)) (len : ∀ vs H Q E, sp vs H Q E → vs.length = ps.length)
    (hbody : ∀ (cdv : Value) (A : Around) (outer : List Env) (s : Shared) (H : Hp) (vs : List V) (Q : VK) (E : XK), A.guards = some [] → Room k (A.deeper (envOfC qual (defScope st) s.heap.objs.size f cdv)) → sp vs H Q E →
      ∃ t, PSs (cxOf CX0 P w K mg base N qual (defScope st) f cdv A outer s H E).nox (defBody st) t ∧ t { nx := fun _ H' => Q .non H', rt := Q } (start N vs) H) : FnG P w K mg base (k + 1) f fd ps sp := by
  obtain ⟨oc, od, kV, doc, pm, an, cdv, ct, osl, rfl, lk, hcd⟩ := F.ex
  refine ⟨len, fun A outer s H args us vs Q E hg hr e0 hb rel hsp => ?_⟩
  have nargs := len _ _ _ _ hsp
  have inH : K.In s.heap := e0.mod.kin.keeps (fun b o e => And.left (e0.bs b o e))
  have noLim : s.heap.NoLimit := e0.mod.nolimit.keeps (fun b o e => And.left (e0.bs b o e))
  have kinds : ∀ y ∈ ps.zip us, (defScope st).names.lookup y.1 = some .local ∨ ((defScope st).names.lookup y.1 = some .cell ∧ ((cellsFrom (s.heap.objs.size + 1) (defScope st).names []).lookup y.1).isSome = true) := by
    rintro ⟨n, v⟩ hy
    cases S.par n (List.of_mem_zip hy).1 with
    | inl q => exact Or.inl q
    | inr q => exact Or.inr ⟨q, PySem.W.cellsFrom_some _ _ _ (Or.inl q)⟩
  apply codeAny_call_function hr.depth (inH _ _ lk) rfl S.co S.gen rfl (PySem.W.codeRec_of inH hcd)
  refine hb _ _ _ _ (wpAny_newFunctionEnv_cells S.kind kinds fun env he s1 inC => ?_)
  cases he
  obtain ⟨t, ht, start_ok⟩ := hbody cdv A outer s H vs Q E hg (hr.deeper _) hsp
  have I0 : Inv (cxOf CX0 P w K mg base N qual (defScope st) f cdv A outer s H E) [] (start N vs) H s1 := inv_start S hr.hd e0 nargs rel inC
  have done : ∀ {σ' : L2.St} {H' : Hp} {v : V} {u : Value} {s' : Shared}, Inv (cxOf CX0 P w K mg base N qual (defScope st) f cdv A outer s H E) [] σ' H' s' → RelV v u → Q v H' → CE outer P w H s Q u s' :=
    fun {σ' H' v u s'} J rv q => ⟨v, H', J.os, J.bare, J.base, J.hok, rv, q⟩
  refine ⟨noLim.keeps inC.toInCall.keep, codeAny_func (wpAny_mono (ht.nox.run [] s1 (start N vs) H _ I0 start_ok) (fun fl s' hs => ?_) (fun _ _ z => z))⟩
  cases fl with
  | next =>
    obtain ⟨σ', H', J, q⟩ := hs
    exact done (v := V.non) (u := Value.none) J rfl q
  | ret u =>
    obtain ⟨v, σ', H', J, rv, q⟩ := hs
    exact done J rv q
  | brk => exact False.elim (let ⟨_, _, _, q⟩ := hs; q)
  | cont => exact False.elim (let ⟨_, _, _, q⟩ := hs; q)
end

section
variable {X : Cx} {k : Nat} {f : Addr} {fd : FuncData} {ps : List Str} {sp : Sp} {E : XK} {x : Str} {p pos : Pos} {e : Expr} {es : List Expr} {t : TA}
theorem pe_callG (hG : X.A.guards = some []) (F : FnG X.prog X.w X.K X.mg X.base k f fd ps sp) (hr : Room k X.A) (hg : Gl X x) (hm : X.mg x = some (.ref f)) (hk : PySem.W.keepIn X.K (.ref f) = true) (hb : Binds X.K fd ps [])
    (ha : PA X (e :: es) t) (hdb : (x == ("__debug__" : Str)) = false := by decide) (he : starEach (e :: es) X.env = (false, eval e X.env) :: starEach es X.env := by rfl) (hpl : (backTo pos (starEach es X.env)).any (·.1) = false := by rfl) :
    PE X (.Call (.Name x p) (e :: es) [] pos) (tCall sp [] E0 t) := by
  constructor
  intro pins s σ H Q I h
  apply wpAny_Call_Name_kw
  apply ld_glob I hg hm _ hdb
  apply PySem.W.callWith_K (h₀ := X.base) I.ok.mod.kin hk _ he hpl
  refine thn (ha.run pos pins s σ H _ I h) ?_
  rintro us s1 ⟨vs, H1, I1, r, q⟩
  refine ⟨I1.kIn, ?_⟩
  have q' : sp vs H1 Q E0 := by
    have z : sp (vs ++ []) H1 Q E0 := q
    rwa [List.append_nil] at z
  have nargs : (us ++ []).length = ps.length := by rw [List.append_nil, ← r.length]; exact F.arity _ _ _ _ q'
  have bd := hb s1 us I1.kIn nargs
  rw [List.append_nil] at bd
  apply wpAny_call
  refine codeAny_mono (F.runs X.A X.stack s1 H1 ⟨us, []⟩ us vs Q E0 hG hr I1.env0 bd r q') ?_
  intro res s' hres
  match res, hres with
  | .ok (.ret u), hres => exact I1.after hres
  | .ok .next, hres => exact False.elim hres
  | .ok .brk, hres => exact False.elim hres
  | .ok .cont, hres => exact False.elim hres
  | .error _, hres => exact False.elim hres
end

/-! ### the end of a law over such a def -/
theorem lawG {P : Program} {w : World} {K : PySem.W.Frag} {mg mb : Str → Option Value} {k : Nat} {fa a : Addr} {fd : FuncData} {x : Str} {sp : Sp} {s₁ : Shared} {vs : List Value} {ns : List Int}
    (inK : K.In s₁.heap) (glo : s₁.heap.Ns mainGlobals mg) (blt : s₁.heap.Ns builtinsNs mb) (boot : ∀ x : Str, x ≠ "__name__" → mb x = bootBuiltins x) (noLim : s₁.heap.NoLimit) (noGen : s₁.gens = #[])
    (scr : s₁.heap.get? a = some { cls := .type "list", data := .seq vs.toArray }) (nums : IntsAre vs ns) (small : ns.length ≤ sizeLine) (room : Room k callerA)
    (F : ∀ base : Heap, K.In base → base.Ns mainGlobals mg → FnG P w K mg base k fa fd [x] sp) (bind : ∀ (s : Shared) (u : Value), BindsTo s fd ⟨[u], []⟩ [(x, u)])
    (hsp : ∀ H : Hp, Only H → SqL K H a (ns.map V.int) → sp [.ref a] H (fun v _ => v = .bl true) E0) :
    codeAny (model P w) callerA (.call (.ref fa) ⟨[.ref a], []⟩) (fun r s' => r = .ok (.ret (.bool true)) ∧ OldK s₁.heap s'.heap ∧ s'.os = s₁.os ∧ AllBare s'.gens) s₁ := by
  have rel : Vals (ns.map V.int) vs := vals_ints nums
  have many : vs.length = ns.length := nums.length
  -- what is tracked: the script, where it is no object of the module's own
  obtain ⟨H, hOnly, hScr, hOk, hAt, hOwn⟩ : ∃ H : Hp, Only H ∧ SqL K H a (ns.map V.int) ∧ HOk P w H s₁.heap ∧ (∀ b u, H b = some u → b = a) ∧ (∀ u, H a = some u → K.lookup a = none) := by
    cases own : K.lookup a with
    | some o =>
      have e := inK a o own
      rw [scr] at e
      cases e
      exact ⟨fun _ => none, fun _ => Or.inl rfl, Or.inr ⟨_, vs.toArray, _, own, rfl, rfl, rfl, by rw [List.size_toArray, many]; exact small, by simpa using rel⟩,
        (fun b u z => absurd (show (none : Option HO) = some u from z) (by simp)), (fun b u z => absurd (show (none : Option HO) = some u from z) (by simp)), fun u z => absurd (show (none : Option HO) = some u from z) (by simp)⟩
    | none =>
      have at_ : ∀ b u, (fun b => if b = a then some (HO.frz { cls := .type "list", data := .seq vs.toArray } (.lst (ns.map V.int))) else none : Hp) b = some u → b = a ∧ u = HO.frz { cls := .type "list", data := .seq vs.toArray } (.lst (ns.map V.int)) := by
        intro b u z
        by_cases hb : b = a
        · exact ⟨hb, (Option.some.inj ((if_pos hb).symm.trans z)).symm⟩
        · exact nomatch (if_neg hb).symm.trans z
      refine ⟨fun b => if b = a then some (.frz { cls := .type "list", data := .seq vs.toArray } (.lst (ns.map V.int))) else none, fun b => ?_, Or.inl (Or.inr ⟨_, if_pos rfl⟩), fun b u z => ?_, fun b u z => (at_ b u z).1, fun _ _ => rfl⟩
      · by_cases hb : b = a
        · exact Or.inr ⟨_, _, if_pos hb⟩
        · exact Or.inl (if_neg hb)
      · obtain ⟨rfl, rfl⟩ := at_ b u z
        exact ⟨scr, by rw [List.length_map]; exact small, vs, _, rel, scr⟩
  have dictFree : ∀ {b : Addr} {o : Obj} {es : Array DictEntry} {ep : Nat}, s₁.heap.get? b = some o → o.data = .dict es ep → H b = none := by
    intro b o es ep e d
    cases q : H b with
    | none => rfl
    | some u =>
      cases hAt b u q
      rw [scr] at e
      cases e
      exact nomatch (show Data.seq vs.toArray _ = Data.dict es ep from d)
  have nsKeep : ∀ {b : Addr} {m : Str → Option Value}, s₁.heap.Ns b m → (hidT s₁.heap H).Ns b m := by
    rintro b m ⟨o, es, ep, e, d, r⟩
    exact ⟨o, es, ep, hidT_get e (dictFree e d), d, r⟩
  have inB : K.In (hidT s₁.heap H) := by
    intro b o e
    refine hidT_get (inK b o e) ?_
    cases q : H b with
    | none => rfl
    | some u =>
      cases hAt b u q
      rw [hOwn u q] at e
      cases e
  have M : Mod K mg (hidT s₁.heap H) := by
    obtain ⟨mc, h1, h2⟩ := noLim
    exact ⟨inB, nsKeep glo, ⟨mb, nsKeep blt, boot⟩, ⟨mc, nsKeep h1, h2⟩⟩
  have env : Env0 P w K mg (hidT s₁.heap H) callerA [] s₁ H := by
    refine ⟨rfl, M, fun b o e => of_hidT e, Nat.le_of_eq (hidT_size _ _), trivial, fun b hb => ?_, hOk, .of_eq noGen⟩
    exact nomatch (show b ∈ ([] : List Addr) from hb)
  refine codeAny_mono ((F _ inB (nsKeep glo)).runs callerA [] s₁ H ⟨[.ref a], []⟩ [.ref a] [.ref a] _ _ rfl room env (bind s₁ (.ref a)) (.cons rfl .nil) (hsp H hOnly hScr)) ?_
  intro res s' hres
  match res, hres with
  | .error _, hres => exact False.elim hres
  | .ok .next, hres => exact False.elim hres
  | .ok .brk, hres => exact False.elim hres
  | .ok .cont, hres => exact False.elim hres
  | .ok (.ret u), hres =>
    obtain ⟨v, H', os, bare, un, ok', rv, q⟩ := hres
    cases (show v = .bl true from q)
    cases (show u = Value.bool true from rv)
    refine ⟨rfl, OldK.of_keep (fun b o e => ?_), os, bare⟩
    cases q : H b with
    | none => exact un.keep b o e q (fun z => nomatch (show b ∈ ([] : List Addr) from z)) (by simp)
    | some u =>
      rcases hOnly b with z | ⟨ob, xs, z⟩
      · rw [q] at z
        cases z
      · have before := (hOk b _ z).1
        have after := (ok' b _ (un.frzs b ob _ z)).1
        rw [e] at before
        cases before
        exact after

theorem walkG {l : PySem.W.OpenLaw} {n k : Nat} {q : Program} {loose : List Str} {XP : (Str → Option Value) → Heap → Prop} {YP : World → Heap → Prop} {d : DefRec} {K : Params → PySem.W.Frag} {sp : PySem.W.Frag → Sp} {x : Str}
    (many : l.most = some n) (small : n ≤ sizeLine) (noDef : d.params.defaults = []) (room : Room k callerA)
    (inK : ∀ (w : World) (h : Heap), YP w h → (K w.params).In h)
    (F : ∀ (w : World) (mg : Str → Option Value) (fa : Addr) (h : Heap), (K w.params).In h → h.Ns mainGlobals mg → mg d.name = some (.ref fa) →
      ∃ fd : FuncData, (∀ (s : Shared) (u : Value), BindsTo s fd ⟨[u], []⟩ [(x, u)]) ∧
        ∀ base : Heap, (K w.params).In base → base.Ns mainGlobals mg → FnG l.prog w (K w.params) mg base k fa fd [x] (sp (K w.params)))
    (hsp : ∀ (K : PySem.W.Frag) (H : Hp) (a : Addr) (ns : List Int), ns.length ≤ n → Only H → SqL K H a (ns.map V.int) → sp K [.ref a] H (fun v _ => v = .bl true) E0) :
    PySem.W.WalkO q loose XP YP l.row.toRowW d [] (fun f vs => PySem.call f vs) := by
  apply Att.attach_call many noDef
  intro w s₀ s₁ mg mb fa o pm cd doc a vs ns G Y ho hd hcd hmg hobj hints hlen hg
  obtain ⟨fd, hb, hF⟩ := F w mg fa _ (inK w _ Y) G.T.g hmg
  exact lawG (inK w _ Y) G.T.g G.T.b G.T.builtins G.T.nolimit hg hobj hints (Nat.le_trans hlen small) room hF hb fun H hO hS => hsp (K w.params) H a ns hlen hO hS
end U

set_option Elab.async false
set_option linter.all false
set_option maxRecDepth 100000
set_option maxHeartbeats 2000000
namespace U
open PySem PySem.Spec PyProof.Rows L2

/-! ### data in the heap, off the places that are written (M) -/
mutual
inductive T (K : PySem.W.Frag) (M : List Addr) (H : Hp) : V → PyData → Prop
  | non : T K M H .non .none
  | bl (b : Bool) : T K M H (.bl b) (.bool b)
  | int (i : Int) : T K M H (.int i) (.int i)
  | str (x : Str) : T K M H (.str x) (.str x)
  | lst {a : Addr} {xs : List V} {ds : List PyData} : a ∉ M → H a = some (.lst xs) → TA K M H xs ds → T K M H (.ref a) (.list ds)
  | tup {a : Addr} {xs : List V} {ds : List PyData} : a ∉ M → H a = some (.tup xs) → TA K M H xs ds → T K M H (.ref a) (.tuple ds)
  | dct {a : Addr} {kvs : List (Key × V)} {es : List (PyData × PyData)} : a ∉ M → H a = some (.dK kvs) → TK K M H kvs es → T K M H (.ref a) (.dict es)
inductive TA (K : PySem.W.Frag) (M : List Addr) (H : Hp) : List V → List PyData → Prop
  | nil : TA K M H [] []
  | cons {v : V} {vs : List V} {d : PyData} {ds : List PyData} : T K M H v d → TA K M H vs ds → TA K M H (v :: vs) (d :: ds)
inductive TK (K : PySem.W.Frag) (M : List Addr) (H : Hp) : List (Key × V) → List (PyData × PyData) → Prop
  | nil : TK K M H [] []
  | cons {k : Key} {v : V} {e d : PyData} {kvs : List (Key × V)} {es : List (PyData × PyData)} : T K M H (kV k) e → T K M H v d → TK K M H kvs es → TK K M H ((k, v) :: kvs) ((e, d) :: es)
end

/-- what was tracked off M stands as before -/
def Ext (M : List Addr) (H H' : Hp) : Prop := ∀ b o, b ∉ M → H b = some o → H' b = some o
theorem Ext.refl (M : List Addr) (H : Hp) : Ext M H H := fun _ _ _ h => h
theorem Ext.trans {M : List Addr} {H H1 H2 : Hp} (a : Ext M H H1) (b : Ext M H1 H2) : Ext M H H2 := fun c o h e => b c o h (a c o h e)
theorem Ext.same {M : List Addr} {H H' : Hp} (a : Same H H') : Ext M H H' := fun b o _ e => a b o e
theorem Ext.sub {M N : List Addr} {H H' : Hp} (a : Ext M H H') (h : ∀ b ∈ M, b ∈ N) : Ext N H H' := fun b o n e => a b o (fun z => n (h b z)) e
theorem Ext.new {M : List Addr} {H : Hp} {p : Addr} {o : HO} (h : H p = none) : Ext M H (upd H p o) := fun b u _ e => by
  rw [upd_ne (ne_of_none e h)]
  exact e
theorem Ext.put {M : List Addr} {H : Hp} {p : Addr} {o : HO} (h : p ∈ M) : Ext M H (upd H p o) := fun b u n e => by
  have q : b ≠ p := by
    rintro rfl
    exact n h
  rw [upd_ne q]
  exact e
theorem Same.new {H : Hp} {p : Addr} {o : HO} (h : H p = none) : Same H (upd H p o) := fun b u e => by
  rw [upd_ne (ne_of_none e h)]
  exact e
theorem Same.newer {H H' : Hp} {p : Addr} {o : HO} (s : Same H H') (h : H p = none) : Same H (upd H' p o) := fun b u e => by
  rw [upd_ne (ne_of_none e h)]
  exact s b u e

section
variable {K : PySem.W.Frag} {M N : List Addr} {H H' : Hp}
theorem SqT.ext {a : Addr} {xs : List V} (e : Ext M H H') (n : a ∉ M) (h : SqT K H a xs) : SqT K H' a xs := by
  rcases h with (h | ⟨o, h⟩) | h
  · exact Or.inl (Or.inl (e _ _ n h))
  · exact Or.inl (Or.inr ⟨o, e _ _ n h⟩)
  · exact Or.inr h
mutual
theorem T.ext (e : Ext M H H') : ∀ {v : V} {d : PyData}, T K M H v d → T K M H' v d
  | _, _, .non => .non
  | _, _, .bl b => .bl b
  | _, _, .int i => .int i
  | _, _, .str x => .str x
  | _, _, .lst n h t => .lst n (e _ _ n h) (TA.ext e t)
  | _, _, .tup n h t => .tup n (e _ _ n h) (TA.ext e t)
  | _, _, .dct n h t => .dct n (e _ _ n h) (TK.ext e t)
theorem TA.ext (e : Ext M H H') : ∀ {vs : List V} {ds : List PyData}, TA K M H vs ds → TA K M H' vs ds
  | _, _, .nil => .nil
  | _, _, .cons h t => .cons (T.ext e h) (TA.ext e t)
theorem TK.ext (e : Ext M H H') : ∀ {kvs : List (Key × V)} {es : List (PyData × PyData)}, TK K M H kvs es → TK K M H' kvs es
  | _, _, .nil => .nil
  | _, _, .cons h g t => .cons (T.ext e h) (T.ext e g) (TK.ext e t)
end
mutual
/-- off fewer places -/
theorem T.off (s : ∀ b ∈ N, b ∈ M) : ∀ {v : V} {d : PyData}, T K M H v d → T K N H v d
  | _, _, .non => .non
  | _, _, .bl b => .bl b
  | _, _, .int i => .int i
  | _, _, .str x => .str x
  | _, _, .lst n h t => .lst (fun z => n (s _ z)) h (TA.off s t)
  | _, _, .tup n h t => .tup (fun z => n (s _ z)) h (TA.off s t)
  | _, _, .dct n h t => .dct (fun z => n (s _ z)) h (TK.off s t)
theorem TA.off (s : ∀ b ∈ N, b ∈ M) : ∀ {vs : List V} {ds : List PyData}, TA K M H vs ds → TA K N H vs ds
  | _, _, .nil => .nil
  | _, _, .cons h t => .cons (T.off s h) (TA.off s t)
theorem TK.off (s : ∀ b ∈ N, b ∈ M) : ∀ {kvs : List (Key × V)} {es : List (PyData × PyData)}, TK K M H kvs es → TK K N H kvs es
  | _, _, .nil => .nil
  | _, _, .cons h g t => .cons (T.off s h) (T.off s g) (TK.off s t)
end
mutual
/-- off one more place, which is free -/
theorem T.plus {p : Addr} (hp : H p = none) : ∀ {v : V} {d : PyData}, T K M H v d → T K (p :: M) H v d
  | _, _, .non => .non
  | _, _, .bl b => .bl b
  | _, _, .int i => .int i
  | _, _, .str x => .str x
  | _, _, .lst n h t => .lst (fun z => (List.mem_cons.mp z).elim (ne_of_none h hp) n) h (TA.plus hp t)
  | _, _, .tup n h t => .tup (fun z => (List.mem_cons.mp z).elim (ne_of_none h hp) n) h (TA.plus hp t)
  | _, _, .dct n h t => .dct (fun z => (List.mem_cons.mp z).elim (ne_of_none h hp) n) h (TK.plus hp t)
theorem TA.plus {p : Addr} (hp : H p = none) : ∀ {vs : List V} {ds : List PyData}, TA K M H vs ds → TA K (p :: M) H vs ds
  | _, _, .nil => .nil
  | _, _, .cons h t => .cons (T.plus hp h) (TA.plus hp t)
theorem TK.plus {p : Addr} (hp : H p = none) : ∀ {kvs : List (Key × V)} {es : List (PyData × PyData)}, TK K M H kvs es → TK K (p :: M) H kvs es
  | _, _, .nil => .nil
  | _, _, .cons h g t => .cons (T.plus hp h) (T.plus hp g) (TK.plus hp t)
end
theorem T.same (s : Same H H') {v : V} {d : PyData} (h : T K M H v d) : T K M H' v d := T.ext (Ext.same s) h
theorem TA.same (s : Same H H') {v : List V} {d : List PyData} (h : TA K M H v d) : TA K M H' v d := TA.ext (Ext.same s) h
theorem TA.len : ∀ {vs : List V} {ds : List PyData}, TA K M H vs ds → vs.length = ds.length
  | _, _, .nil => rfl
  | _, _, .cons _ t => by rw [List.length_cons, List.length_cons, TA.len t]
theorem TA.get : ∀ {vs : List V} {ds : List PyData} {i : Nat} {v : V}, TA K M H vs ds → vs[i]? = some v → ∃ d, ds[i]? = some d ∧ T K M H v d
  | _, _, _, _, .nil, e => by simp at e
  | _, _, 0, _, .cons h _, e => by simp at e; subst e; exact ⟨_, rfl, h⟩
  | _, _, i + 1, _, .cons _ t, e => by
    obtain ⟨d, h1, h2⟩ := TA.get (i := i) t (by simpa using e)
    exact ⟨d, by simpa using h1, h2⟩
theorem TA.app : ∀ {vs us : List V} {ds es : List PyData}, TA K M H vs ds → TA K M H us es → TA K M H (vs ++ us) (ds ++ es)
  | _, _, _, _, .nil, s => s
  | _, _, _, _, .cons h t, s => .cons h (TA.app t s)
theorem TA.take : ∀ {vs : List V} {ds : List PyData} (n : Nat), TA K M H vs ds → TA K M H (vs.take n) (ds.take n)
  | _, _, 0, _ => .nil
  | _, _, _ + 1, .nil => .nil
  | _, _, n + 1, .cons h t => .cons h (TA.take n t)
theorem TA.drop : ∀ {vs : List V} {ds : List PyData} (n : Nat), TA K M H vs ds → TA K M H (vs.drop n) (ds.drop n)
  | _, _, 0, h => h
  | _, _, _ + 1, .nil => .nil
  | _, _, n + 1, .cons _ t => TA.drop n t
theorem TA.one {v : V} {d : PyData} (h : T K M H v d) : TA K M H [v] [d] := .cons h .nil
theorem TA.ints : ∀ (is : List Int), TA K M H (is.map V.int) (is.map PyData.int)
  | [] => .nil
  | i :: is => .cons (.int i) (TA.ints is)
theorem TA.bls : ∀ (is : List Bool), TA K M H (is.map V.bl) (is.map PyData.bool)
  | [] => .nil
  | i :: is => .cons (.bl i) (TA.bls is)
end

/-! ### such data is read off the concrete heap -/
section
variable {X : Cx} {pins : List (Addr × Obj)} {σ : L2.St} {H : Hp} {s : Shared} {M : List Addr}
theorem pairs_two {P : Program} {w : World} : ∀ {es : List DictEntry} {kvs : List (Key × V)} {us : List (Key × Value)}, Pairs (mixKind P w) es us → KV kvs us →
    Vals (kvs.map fun p => kV p.1) (es.map (·.key)) ∧ Vals (kvs.map (·.2)) (es.map (·.val))
  | _, _, _, .nil, .nil => ⟨.nil, .nil⟩
  | _, _, _, .cons (e := e) h1 h2 t, .cons r rs => by
    obtain ⟨a, b⟩ := pairs_two t rs
    refine ⟨.cons ?_ a, .cons ?_ b⟩
    · show L2.RelV (kV _) _
      rw [r.1]
      rcases keyIs_shape h1 with ⟨i, t, e1, e2⟩ | ⟨x, t, e1, e2⟩
      · rw [e1]
        exact ⟨t, e2⟩
      · rw [e1]
        exact ⟨t, e2⟩
    · show L2.RelV _ (DictEntry.val _)
      rw [h2]
      exact r.2
mutual
theorem T.reads (I : Inv X pins σ H s) : ∀ (d : PyData) (v : V) (u : Value), T X.K M H v d → RelV v u → ∃ as, Reads s.heap u d as
  | .none, _, _, h, r => by
    cases h
    cases r
    exact ⟨_, .none⟩
  | .bool b, _, _, h, r => by
    cases h
    cases r
    exact ⟨_, .bool b⟩
  | .int i, _, _, h, r => by
    cases h
    obtain ⟨t, rfl⟩ := r
    exact ⟨_, .int i t⟩
  | .str x, _, _, h, r => by
    cases h
    obtain ⟨t, rfl⟩ := r
    exact ⟨_, .str x t⟩
  | .list ds, _, _, h, r => by
    cases h with
    | lst n ha t =>
      cases r
      obtain ⟨its, rv, ⟨o, k, ho, hc, _, hd⟩, _⟩ := I.list (SqL.of ha)
      obtain ⟨as, q⟩ := TA.reads I ds _ its t rv
      exact ⟨_, .list ho hc hd q⟩
  | .tuple ds, _, _, h, r => by
    cases h with
    | tup n ha t =>
      cases r
      obtain ⟨its, rv, ⟨o, ho, hc, k, hd⟩, _⟩ := I.tuple (SqT.of ha)
      obtain ⟨as, q⟩ := TA.reads I ds _ its t rv
      exact ⟨_, .tuple ho hc hd q⟩
  | .dict es, _, _, h, r => by
    cases h with
    | dct n ha t =>
      cases r
      obtain ⟨_, _, us, kv, o, es', ep, ho, hx, hd, _, hp, _⟩ := I.hok _ _ ha
      obtain ⟨r1, r2⟩ := pairs_two hp kv
      obtain ⟨⟨as, q1⟩, ⟨bs, q2⟩⟩ := TK.reads I es _ _ _ t r1 r2
      exact ⟨_, .dict ho hx.1 hd q1 q2⟩
theorem TA.reads (I : Inv X pins σ H s) : ∀ (ds : List PyData) (vs : List V) (us : List Value), TA X.K M H vs ds → Vals vs us → ∃ as, ReadsAll s.heap us ds as
  | [], _, _, h, r => by
    cases h
    cases r
    exact ⟨_, .nil⟩
  | d :: ds, _, _, h, r => by
    cases h with
    | cons h1 h2 =>
      cases r with
      | cons r1 r2 =>
        obtain ⟨as, q1⟩ := T.reads I d _ _ h1 r1
        obtain ⟨bs, q2⟩ := TA.reads I ds _ _ h2 r2
        exact ⟨_, .cons q1 q2⟩
theorem TK.reads (I : Inv X pins σ H s) : ∀ (es : List (PyData × PyData)) (kvs : List (Key × V)) (ks us : List Value), TK X.K M H kvs es → Vals (kvs.map fun p => kV p.1) ks → Vals (kvs.map (·.2)) us →
    (∃ as, ReadsAll s.heap ks (es.map (·.1)) as) ∧ ∃ bs, ReadsAll s.heap us (es.map (·.2)) bs
  | [], _, _, _, h, r1, r2 => by
    cases h
    cases r1
    cases r2
    exact ⟨⟨_, .nil⟩, ⟨_, .nil⟩⟩
  | (e, d) :: es, _, _, _, h, r1, r2 => by
    cases h with
    | cons h1 h2 h3 =>
      cases r1 with
      | cons a1 b1 =>
        cases r2 with
        | cons a2 b2 =>
          obtain ⟨as, q1⟩ := T.reads I e _ _ h1 a1
          obtain ⟨bs, q2⟩ := T.reads I d _ _ h2 a2
          obtain ⟨⟨cs, q3⟩, ⟨fs, q4⟩⟩ := TK.reads I es _ _ _ h3 b1 b2
          exact ⟨⟨_, .cons q1 q3⟩, ⟨_, .cons q2 q4⟩⟩
end
mutual
/-- .. and shown -/
theorem T.shows (I : Inv X pins σ H s) : ∀ (d : PyData) (v : V) (u : Value), T X.K M H v d → RelV v u → d.showable = true → d.shown.length ≤ sizeLine →
    ∃ bs, ReadAtMost s.heap d.depth bs ∧ ReprK X.prog X.w bs s.heap d.depth u d.shown
  | .none, _, _, h, r, _, _ => by
    cases h
    cases r
    exact ⟨[], (fun _ z => nomatch z), by simpa only [PyData.shown] using ReprK.of_is ReprIs.none [] s.heap _⟩
  | .bool b, _, _, h, r, _, _ => by
    cases h
    cases r
    exact ⟨[], (fun _ z => nomatch z), by simpa only [PyData.shown] using ReprK.of_is (ReprIs.bool b) [] s.heap _⟩
  | .int i, _, _, h, r, hs, _ => by
    cases h
    obtain ⟨t, rfl⟩ := r
    exact ⟨[], (fun _ z => nomatch z), by simpa only [PyData.shown] using ReprK.of_is (ReprIs.int t (by simpa [PyData.showable] using hs)) [] s.heap _⟩
  | .str x, _, _, h, r, _, hz => by
    cases h
    obtain ⟨t, rfl⟩ := r
    exact ⟨[], (fun _ z => nomatch z), by simpa only [PyData.shown] using ReprK.of_is (ReprIs.str x t (by simpa only [PyData.shown] using hz)) [] s.heap _⟩
  | .list ds, v, u, h, r, hs, hz => by
    obtain ⟨as0, rd⟩ := T.reads I _ v u h r
    cases h with
    | lst n ha t =>
      cases r
      obtain ⟨its, rv, ⟨o, k, ho, hc, _, hd⟩, _⟩ := I.list (SqL.of ha)
      have z' : (listText (PyData.shownAll ds)).length ≤ sizeLine := by simpa only [PyData.shown] using hz
      obtain ⟨bs, low, all⟩ := TA.shows I ds _ its t rv (by simpa [PyData.showable] using hs) fun x hx => Nat.le_trans (listText_mem_le hx) z'
      have out := not_mem_of_deeper rd (by simp only [PyData.depth]; omega) low
      refine ⟨_ :: bs, ReadAtMost.cons rd (by simp only [PyData.depth]; omega) low, ?_⟩
      simp only [PyData.depth, PyData.shown]
      cases its with
      | nil =>
        cases rv
        cases t
        simp only [PyData.shownAll, listText_nil]
        exact ReprK.listEmpty ho hc hd
      | cons x l => exact ReprK.list ho hc hd out (by simpa using all.length_eq) fun i y e => all.item i y (by simpa using e)
  | .tuple ds, v, u, h, r, hs, hz => by
    obtain ⟨as0, rd⟩ := T.reads I _ v u h r
    cases h with
    | tup n ha t =>
      cases r
      obtain ⟨its, rv, ⟨o, ho, hc, k, hd⟩, _⟩ := I.tuple (SqT.of ha)
      have z' : (tupleText (PyData.shownAll ds)).length ≤ sizeLine := by simpa only [PyData.shown] using hz
      obtain ⟨bs, low, all⟩ := TA.shows I ds _ its t rv (by simpa [PyData.showable] using hs) fun x hx => Nat.le_trans (tupleText_mem_le hx) z'
      have out := not_mem_of_deeper rd (by simp only [PyData.depth]; omega) low
      refine ⟨_ :: bs, ReadAtMost.cons rd (by simp only [PyData.depth]; omega) low, ?_⟩
      simp only [PyData.depth, PyData.shown]
      exact ReprK.tuple ho hc hd out (by simpa using all)
  | .dict es, v, u, h, r, hs, hz => by
    obtain ⟨as0, rd⟩ := T.reads I _ v u h r
    cases h with
    | dct n ha t =>
      cases r
      obtain ⟨_, sys, us, kv, o, es', ep, ho, hx, hd, _, hp, _⟩ := I.hok _ _ ha
      obtain ⟨r1, r2⟩ := pairs_two hp kv
      have z' : (dictText (PyData.shownKv es)).length ≤ sizeLine := by simpa only [PyData.shown] using hz
      obtain ⟨s1, s2⟩ := PyData.showableKv_split es (by simpa [PyData.showable] using hs)
      obtain ⟨⟨b1, l1, k1⟩, ⟨b2, l2, k2⟩⟩ := TK.shows I es _ _ _ t r1 r2 s1 s2
        (fun x hx => let ⟨p, hp, hl⟩ := PyData.shownKv_key_le es x hx; Nat.le_trans hl (Nat.le_trans (dictText_mem_le hp) z'))
        (fun x hx => let ⟨p, hp, hl⟩ := PyData.shownKv_val_le es x hx; Nat.le_trans hl (Nat.le_trans (dictText_mem_le hp) z'))
      have low : ReadAtMost s.heap (PyData.depthKv es) (b1 ++ b2) := (l1.mono (PyData.depthAll_keys_le es)).append (l2.mono (PyData.depthAll_vals_le es))
      have out := not_mem_of_deeper rd (by simp only [PyData.depth]; omega) low
      refine ⟨_ :: (b1 ++ b2), ReadAtMost.cons rd (by simp only [PyData.depth]; omega) low, ?_⟩
      simp only [PyData.depth, PyData.shown, PyData.shownKv_eq]
      exact ReprK.dict ho hx.1 hd sys out (ReprEntriesK.of_two es'.toList _ _ (k1.more_le (fun b hb => List.mem_append_left _ hb) (PyData.depthAll_keys_le es))
        (k2.more_le (fun b hb => List.mem_append_right _ hb) (PyData.depthAll_vals_le es)))
theorem TA.shows (I : Inv X pins σ H s) : ∀ (ds : List PyData) (vs : List V) (us : List Value), TA X.K M H vs ds → Vals vs us → PyData.showableAll ds = true → (∀ t ∈ PyData.shownAll ds, t.length ≤ sizeLine) →
    ∃ bs, ReadAtMost s.heap (PyData.depthAll ds) bs ∧ ReprAllK X.prog X.w bs s.heap (PyData.depthAll ds) us (PyData.shownAll ds)
  | [], _, _, h, r, _, _ => by
    cases h
    cases r
    exact ⟨[], (fun _ z => nomatch z), by simpa only [PyData.shownAll] using ReprAllK.nil⟩
  | d :: ds, _, _, h, r, hs, hz => by
    cases h with
    | cons h1 h2 =>
      cases r with
      | cons r1 r2 =>
        have hs' : d.showable = true ∧ PyData.showableAll ds = true := by simpa [PyData.showableAll] using hs
        obtain ⟨b1, l1, k1⟩ := T.shows I d _ _ h1 r1 hs'.1 (hz _ (by simp only [PyData.shownAll]; exact List.mem_cons_self ..))
        obtain ⟨b2, l2, k2⟩ := TA.shows I ds _ _ h2 r2 hs'.2 fun t ht => hz t (by simp only [PyData.shownAll]; exact List.mem_cons_of_mem _ ht)
        refine ⟨b1 ++ b2, ?_, ?_⟩
        · simp only [PyData.depthAll]
          exact (l1.mono (Nat.le_max_left _ _)).append (l2.mono (Nat.le_max_right _ _))
        · simp only [PyData.depthAll, PyData.shownAll]
          exact .cons ((k1.more fun b hb => List.mem_append_left _ hb).level_le (Nat.le_max_left _ _)) (k2.more_le (fun b hb => List.mem_append_right _ hb) (Nat.le_max_right _ _))
theorem TK.shows (I : Inv X pins σ H s) : ∀ (es : List (PyData × PyData)) (kvs : List (Key × V)) (ks us : List Value), TK X.K M H kvs es → Vals (kvs.map fun p => kV p.1) ks → Vals (kvs.map (·.2)) us →
    PyData.showableAll (es.map (·.1)) = true → PyData.showableAll (es.map (·.2)) = true → (∀ t ∈ PyData.shownAll (es.map (·.1)), t.length ≤ sizeLine) → (∀ t ∈ PyData.shownAll (es.map (·.2)), t.length ≤ sizeLine) →
    (∃ bs, ReadAtMost s.heap (PyData.depthAll (es.map (·.1))) bs ∧ ReprAllK X.prog X.w bs s.heap (PyData.depthAll (es.map (·.1))) ks (PyData.shownAll (es.map (·.1)))) ∧
    (∃ bs, ReadAtMost s.heap (PyData.depthAll (es.map (·.2))) bs ∧ ReprAllK X.prog X.w bs s.heap (PyData.depthAll (es.map (·.2))) us (PyData.shownAll (es.map (·.2))))
  | [], _, _, _, h, r1, r2, _, _, _, _ => by
    cases h
    cases r1
    cases r2
    exact ⟨⟨[], (fun _ z => nomatch z), by simpa only [List.map_nil, PyData.shownAll] using ReprAllK.nil⟩, ⟨[], (fun _ z => nomatch z), by simpa only [List.map_nil, PyData.shownAll] using ReprAllK.nil⟩⟩
  | (e, d) :: es, _, _, _, h, r1, r2, s1, s2, z1, z2 => by
    cases h with
    | cons h1 h2 h3 =>
      cases r1 with
      | cons a1 c1 =>
        cases r2 with
        | cons a2 c2 =>
          simp only [List.map_cons] at s1 s2 z1 z2 ⊢
          have t1 : e.showable = true ∧ PyData.showableAll (es.map (·.1)) = true := by simpa [PyData.showableAll] using s1
          have t2 : d.showable = true ∧ PyData.showableAll (es.map (·.2)) = true := by simpa [PyData.showableAll] using s2
          obtain ⟨b1, l1, k1⟩ := T.shows I e _ _ h1 a1 t1.1 (z1 _ (by simp only [PyData.shownAll]; exact List.mem_cons_self ..))
          obtain ⟨b2, l2, k2⟩ := T.shows I d _ _ h2 a2 t2.1 (z2 _ (by simp only [PyData.shownAll]; exact List.mem_cons_self ..))
          obtain ⟨⟨b3, l3, k3⟩, ⟨b4, l4, k4⟩⟩ := TK.shows I es _ _ _ h3 c1 c2 t1.2 t2.2 (fun t ht => z1 t (by simp only [PyData.shownAll]; exact List.mem_cons_of_mem _ ht)) (fun t ht => z2 t (by simp only [PyData.shownAll]; exact List.mem_cons_of_mem _ ht))
          refine ⟨⟨b1 ++ b3, ?_, ?_⟩, ⟨b2 ++ b4, ?_, ?_⟩⟩
          · simp only [PyData.depthAll]
            exact (l1.mono (Nat.le_max_left _ _)).append (l3.mono (Nat.le_max_right _ _))
          · simp only [PyData.depthAll, PyData.shownAll]
            exact .cons ((k1.more fun b hb => List.mem_append_left _ hb).level_le (Nat.le_max_left _ _)) (k3.more_le (fun b hb => List.mem_append_right _ hb) (Nat.le_max_right _ _))
          · simp only [PyData.depthAll]
            exact (l2.mono (Nat.le_max_left _ _)).append (l4.mono (Nat.le_max_right _ _))
          · simp only [PyData.depthAll, PyData.shownAll]
            exact .cons ((k2.more fun b hb => List.mem_append_left _ hb).level_le (Nat.le_max_left _ _)) (k4.more_le (fun b hb => List.mem_append_right _ hb) (Nat.le_max_right _ _))
end
end

/-! ### repr -/
/-- what repr asks of data: ints of a size that is written out, a text that fits -/
def Shown (d : PyData) : Prop := d.showable = true ∧ d.shown.length ≤ sizeLine ∧ d.depth ≤ 100
def rRepr (K : PySem.W.Frag) : List V → Hp → VK → Prop := fun xs H Q => ∃ (v : V) (M : List Addr) (d : PyData), xs = [v] ∧ T K M H v d ∧ Shown d ∧ Q (.str d.shown) H
section
variable {X : Cx}
theorem call_repr {k : Nat} (hG : X.A.guards = some []) (hr : Room k X.A) : CallR X (.builtin "repr") (rRepr X.K) := by
  intro pins s σ H xs us Q I r h
  obtain ⟨v, M, d, rfl, ht, ⟨hs, hz, hd⟩, q⟩ := h
  obtain ⟨u, rfl, ru⟩ := vals1 r
  have room := hr.un
  have back : ∀ h' tok tk, (∀ b o, s.heap.get? b = some o → h'.get? b = some o) → EP X pins σ Q (.str d.shown tok) { s with heap := h', toks := tk } := fun h' tok tk kp => ⟨.str d.shown, H, I.kept kp, ⟨tok, rfl⟩, q⟩
  have ofCall : ∀ h' tok tk, (∀ b o, s.heap.get? b = some o → h'.get? b = some o) → ∃ y t, Value.str d.shown tok = Value.str y t ∧ EP X pins σ Q (.str d.shown tok) { s with heap := h', toks := tk } := fun h' tok tk kp => ⟨_, _, rfl, back h' tok tk kp⟩
  cases ht with
  | non =>
    cases ru
    exact PySem.P.repr_of_none (by simpa only [PyData.shown] using back s.heap _ _ fun _ _ e => e)
  | bl b =>
    cases ru
    exact PySem.P.repr_of_bool (by simpa only [PyData.shown] using back s.heap _ _ fun _ _ e => e)
  | int i =>
    obtain ⟨t, rfl⟩ := ru
    exact PySem.P.repr_of_int (by simpa [PyData.showable] using hs) (by simpa only [PyData.shown] using back s.heap _ _ fun _ _ e => e)
  | str x =>
    obtain ⟨t, rfl⟩ := ru
    exact PySem.P.repr_of_str (by simpa only [PyData.shown] using back s.heap _ _ fun _ _ e => e) (by simpa only [PyData.shown] using hz)
  | @lst a xs ds n ha t =>
    obtain ⟨as0, rd⟩ := T.reads I _ _ _ (T.lst n ha t) ru
    cases ru
    obtain ⟨its, rv, ⟨o, k', ho, hc, _, hdat⟩, _⟩ := I.list (SqL.of ha)
    have z' : (listText (PyData.shownAll ds)).length ≤ sizeLine := by simpa only [PyData.shown] using hz
    obtain ⟨bs, low, all⟩ := TA.shows I ds _ its t rv (by simpa [PyData.showable] using hs) fun x hx => Nat.le_trans (listText_mem_le hx) z'
    have out := not_mem_of_deeper rd (by simp only [PyData.depth]; omega) low
    simp only [PyData.depth] at hd
    simp only [PyData.shown] at ofCall
    refine call_repr_slot (T := "list") (idr := "list.__repr__") (by omega) ⟨o, ho, hc⟩ F.slot_list_repr.toG ?_
    cases its with
    | nil =>
      cases rv
      cases t
      simp only [PyData.shownAll, listText_nil] at ofCall
      exact call_list_repr_empty ⟨o, ho, hc⟩ ho hdat (ofCall s.heap _ _ fun _ _ e => e)
    | cons x l =>
      exact call_list_reprK ho hc hdat out (by simpa using all.length_eq) (fun i y e => all.item i y (by simpa using e)) hG (fun b _ => Clear.nil b) (by show X.A.units + 1 + (_ + 1) < cLine; omega) (fun _ _ e => e) ofCall z'
  | @tup a xs ds n ha t =>
    obtain ⟨as0, rd⟩ := T.reads I _ _ _ (T.tup n ha t) ru
    cases ru
    obtain ⟨its, rv, ⟨o, ho, hc, k', hdat⟩, _⟩ := I.tuple (SqT.of ha)
    have z' : (tupleText (PyData.shownAll ds)).length ≤ sizeLine := by simpa only [PyData.shown] using hz
    obtain ⟨bs, low, all⟩ := TA.shows I ds _ its t rv (by simpa [PyData.showable] using hs) fun x hx => Nat.le_trans (tupleText_mem_le hx) z'
    have out := not_mem_of_deeper rd (by simp only [PyData.depth]; omega) low
    simp only [PyData.depth] at hd
    simp only [PyData.shown] at ofCall
    refine call_repr_slot (T := "tuple") (idr := "tuple.__repr__") (by omega) ⟨o, ho, hc⟩ F.slot_tuple_repr ?_
    exact call_tuple_reprK ho hc hdat out (by simpa using all) hG (fun b _ => Clear.nil b) (by show X.A.units + 1 + (_ + 1) < cLine; omega) (fun _ _ e => e) ofCall z'
  | @dct a kvs es n ha t =>
    obtain ⟨as0, rd⟩ := T.reads I _ _ _ (T.dct n ha t) ru
    cases ru
    obtain ⟨_, sys, us, kv, o, es', ep, ho, hx, hdat, _, hp, _⟩ := I.hok _ _ ha
    obtain ⟨r1, r2⟩ := pairs_two hp kv
    have z' : (dictText (PyData.shownKv es)).length ≤ sizeLine := by simpa only [PyData.shown] using hz
    obtain ⟨s1, s2⟩ := PyData.showableKv_split es (by simpa [PyData.showable] using hs)
    obtain ⟨⟨b1, l1, k1⟩, ⟨b2, l2, k2⟩⟩ := TK.shows I es _ _ _ t r1 r2 s1 s2
      (fun x hx => let ⟨p, hp, hl⟩ := PyData.shownKv_key_le es x hx; Nat.le_trans hl (Nat.le_trans (dictText_mem_le hp) z'))
      (fun x hx => let ⟨p, hp, hl⟩ := PyData.shownKv_val_le es x hx; Nat.le_trans hl (Nat.le_trans (dictText_mem_le hp) z'))
    have low : ReadAtMost s.heap (PyData.depthKv es) (b1 ++ b2) := (l1.mono (PyData.depthAll_keys_le es)).append (l2.mono (PyData.depthAll_vals_le es))
    have out := not_mem_of_deeper rd (by simp only [PyData.depth]; omega) low
    simp only [PyData.depth] at hd
    simp only [PyData.shown, PyData.shownKv_eq] at ofCall
    refine call_repr_slot (T := "dict") (idr := "dict.__repr__") (by omega) ⟨o, ho, hx.1⟩ F.slot_dict_repr ?_
    exact call_dict_reprK ho hx.1 hdat sys out (ReprEntriesK.of_two es'.toList _ _ (k1.more_le (fun b hb => List.mem_append_left _ hb) (PyData.depthAll_keys_le es))
        (k2.more_le (fun b hb => List.mem_append_right _ hb) (PyData.depthAll_vals_le es))) hG (fun b _ => Clear.nil b) (by show X.A.units + 1 + (PyData.depthKv es + 1) < cLine; omega) (fun _ _ e => e) ofCall (by rw [← PyData.shownKv_eq]; exact z')
end
end U

set_option Elab.async false
set_option linter.all false
set_option maxRecDepth 100000
set_option maxHeartbeats 2000000
namespace U
open PySem PySem.Spec PyProof.Rows L2

/-! ### short steps of a reading -/
section
variable {a b : TS} {D : Ends} {σ : L2.St} {H : Hp}
/-- two statements, what holds between them -/
theorem sq (J : L2.St → Hp → Prop) (h1 : ∀ N : L2.St → Hp → Prop, (∀ σ' H', J σ' H' → N σ' H') → a { D with nx := N } σ H) (h2 : ∀ σ' H', J σ' H' → b D σ' H') : tSeq a b D σ H := h1 _ h2
theorem nx_ {N : L2.St → Hp → Prop} (h : N σ H) : tNext { D with nx := N } σ H := h
theorem two_ {i j : Nat} {x y : V} {Q : L2.St → Hp → Prop} (h : Q ((σ.set i (some x)).set j (some y)) H) : gCons (gName i) (gCons (gName j) gNil) [x, y] σ H Q := ⟨_, _, rfl, _, _, rfl, rfl, h⟩
theorem if_ {P Q : Prop} {c : Bool} (h1 : c = true → P) (h2 : c = false → Q) : if c = true then P else Q := by
  cases c with
  | true => exact iteT (h1 rfl)
  | false => exact iteF (h2 rfl)
theorem idec {P Q c : Prop} [Decidable c] (h1 : c → P) (h2 : ¬ c → Q) : if (decide c) = true then P else Q := by
  by_cases h : c
  · rw [decide_eq_true h]
    exact iteT (h1 h)
  · rw [decide_eq_false h]
    exact iteF (h2 h)
theorem ndec {P Q c : Prop} [Decidable c] (h1 : c → Q) (h2 : ¬ c → P) : if (!decide c) = true then P else Q := by
  by_cases h : c
  · rw [decide_eq_true h]
    exact iteF (h1 h)
  · rw [decide_eq_false h]
    exact iteT (h2 h)
theorem if_t {P Q : Prop} {c : Bool} (e : c = true) (h : P) : if c = true then P else Q := by rw [e]; exact iteT h
theorem if_f {P Q : Prop} {c : Bool} (e : c = false) (h : Q) : if c = true then P else Q := by rw [e]; exact iteF h
end
/-- a comprehension's turn without a test -/
theorem yes_ {te : TE} {σ : L2.St} {H : Hp} {Q : VK} {R : Hp → Prop} (h : te σ H Q) : tYes σ H fun b H' => if b = true then te σ H' Q else R H' := by
  show if true = true then te σ H Q else R H
  rw [if_pos rfl]
  exact h
/-- a module's number -/
theorem pe_gi {X : Cx} {x : Str} {i : Int} {pos : Pos} (hg : Gl X x) (h : ∃ t, X.mg x = some (.int i t)) (hd : (x == ("__debug__" : Str)) = false := by decide) : PE X (.Name x pos) (tC (.int i)) := by
  obtain ⟨t, e⟩ := h
  exact pe_glob hg e ⟨t, rfl⟩ hd
theorem ne_new {H : Hp} {a p : Addr} {o u : HO} (h : H a = some o) (hp : H p = none) : upd H p u a = some o := by
  rw [upd_ne (ne_of_none h hp)]
  exact h
end U

set_option Elab.async false
set_option linter.all false
set_option maxRecDepth 100000
set_option maxHeartbeats 2000000
namespace U
open PySem PySem.Spec PyProof.Rows L2

/-! ### a list or tuple against the empty one -/
section
variable {X : Cx}
theorem lstOf {pins : List (Addr × Obj)} {σ : L2.St} {H : Hp} {s : Shared} {a : Addr} {xs : List V} (I : Inv X pins σ H s) (h : SqL X.K H a xs) : ∃ its : List Value, its.length = xs.length ∧ s.heap.IsList a its.toArray := by
  obtain ⟨its, rv, ⟨o, n, ho, hc, _, hd⟩, _⟩ := I.list h
  exact ⟨its, rv.length.symm, o, ho, hc, n, hd⟩
theorem tupOf {pins : List (Addr × Obj)} {σ : L2.St} {H : Hp} {s : Shared} {a : Addr} {xs : List V} (I : Inv X pins σ H s) (h : SqT X.K H a xs) : ∃ its : List Value, its.length = xs.length ∧ s.heap.IsTuple a its.toArray := by
  obtain ⟨its, rv, ⟨o, ho, hc, n, hd⟩, _⟩ := I.tuple h
  exact ⟨its, rv.length.symm, o, ho, hc, n, hd⟩
def rNil (K : PySem.W.Frag) (neg : Bool) : R2 := fun x y H Q => ∃ a b xs, x = .ref a ∧ y = .ref b ∧ ((SqL K H a xs ∧ SqL K H b []) ∨ (SqT K H a xs ∧ SqT K H b [])) ∧ Q (.bl (if neg then !xs.isEmpty else xs.isEmpty)) H
theorem op_neNil {k : Nat} (hr : Room k X.A) : OpR X (compareOp .NotEq) (rNil X.K true) := by
  intro pins s σ H x y v u Q I rx ry h
  obtain ⟨a, b, xs, rfl, rfl, h, q⟩ := h
  cases (show v = Value.ref a from rx)
  cases (show u = Value.ref b from ry)
  have room := hr.un
  have q' : EP X pins σ Q (.bool (!xs.isEmpty)) s := ⟨.bl (!xs.isEmpty), H, I, rfl, q⟩
  rcases h with ⟨h1, h2⟩ | ⟨h1, h2⟩
  · obtain ⟨i1, l1, L1⟩ := lstOf I h1
    obtain ⟨i2, l2, L2⟩ := lstOf I h2
    have e2 : i2 = [] := List.length_eq_zero_iff.mp l2
    subst e2
    cases xs with
    | nil =>
      have e1 : i1 = [] := List.length_eq_zero_iff.mp l1
      subst e1
      exact PySem.SeqAt.RcNeAt.lists (e := fun _ => true) L1 L2 rfl (by omega) (fun j h1 h2 => absurd h1 (by simp)) _ _ _ _ (by simpa using q')
    | cons x xs =>
      exact PySem.SeqAt.RcNeAt.lists_lengths L1 L2 (by simp [l1]) (by omega) _ _ _ _ q'
  · obtain ⟨i1, l1, L1⟩ := tupOf I h1
    obtain ⟨i2, l2, L2⟩ := tupOf I h2
    have e2 : i2 = [] := List.length_eq_zero_iff.mp l2
    subst e2
    refine PySem.SeqAt.RcNeAt.tuples (e := fun _ => true) L1 L2 (by omega) (fun j h1 h2 => absurd h2 (by simp)) _ _ _ _ ?_
    cases xs with
    | nil => simpa [l1] using q'
    | cons x xs => simpa [l1] using q'
theorem op_eqNil {k : Nat} (hr : Room k X.A) : OpR X (compareOp .Eq) (rNil X.K false) := by
  intro pins s σ H x y v u Q I rx ry h
  obtain ⟨a, b, xs, rfl, rfl, h, q⟩ := h
  cases (show v = Value.ref a from rx)
  cases (show u = Value.ref b from ry)
  have room := hr.un
  have q' : EP X pins σ Q (.bool xs.isEmpty) s := ⟨.bl xs.isEmpty, H, I, rfl, q⟩
  rcases h with ⟨h1, h2⟩ | ⟨h1, h2⟩
  · obtain ⟨i1, l1, L1⟩ := lstOf I h1
    obtain ⟨i2, l2, L2⟩ := lstOf I h2
    have e2 : i2 = [] := List.length_eq_zero_iff.mp l2
    subst e2
    cases xs with
    | nil =>
      have e1 : i1 = [] := List.length_eq_zero_iff.mp l1
      subst e1
      exact PySem.SeqAt.RcAt.lists (e := fun _ => true) L1 L2 rfl (by omega) (fun j h1 h2 => absurd h1 (by simp)) _ _ _ _ (by simpa using q')
    | cons x xs =>
      exact PySem.SeqAt.RcAt.lists_lengths L1 L2 (by simp [l1]) (by omega) _ _ _ _ q'
  · obtain ⟨i1, l1, L1⟩ := tupOf I h1
    obtain ⟨i2, l2, L2⟩ := tupOf I h2
    have e2 : i2 = [] := List.length_eq_zero_iff.mp l2
    subst e2
    refine PySem.SeqAt.RcAt.tuples (e := fun _ => true) L1 L2 (by omega) (fun j h1 h2 => absurd h2 (by simp)) _ _ _ _ ?_
    cases xs with
    | nil => simpa [l1] using q'
    | cons x xs => simpa [l1] using q'
end

/-! ### isinstance of data -/
def tyName : PyData → String
  | .none => "NoneType" | .bool _ => "bool" | .int _ => "int" | .str _ => "str" | .list _ => "list" | .tuple _ => "tuple" | .dict _ => "dict"
theorem T.ty {K : PySem.W.Frag} {M : List Addr} {H : Hp} {v : V} {d : PyData} (h : T K M H v d) : TyX K H v (.type (tyName d)) := by
  cases h with
  | non => exact .base .non
  | bl b => exact .base (.bl b)
  | int i => exact .base (.int i)
  | str x => exact .base (.str x)
  | lst n h t => exact .base (.lst h)
  | tup n h t => exact .base (.tup h)
  | dct n h t => exact .base (.dK h)
def isInt : PyData → Bool | .bool _ => true | .int _ => true | _ => false
def isBool : PyData → Bool | .bool _ => true | _ => false
def isTup : PyData → Bool | .tuple _ => true | _ => false
def isList : PyData → Bool | .list _ => true | _ => false
def isStr : PyData → Bool | .str _ => true | _ => false
theorem kit_int (d : PyData) : kitB (tyName d) "int" = some (isInt d) := by
  cases d with
  | none => exact (by decide +kernel : kitB "NoneType" "int" = some false)
  | bool _ => exact (by decide +kernel : kitB "bool" "int" = some true)
  | int _ => exact (by decide +kernel : kitB "int" "int" = some true)
  | str _ => exact (by decide +kernel : kitB "str" "int" = some false)
  | list _ => exact (by decide +kernel : kitB "list" "int" = some false)
  | tuple _ => exact (by decide +kernel : kitB "tuple" "int" = some false)
  | dict _ => exact (by decide +kernel : kitB "dict" "int" = some false)
theorem kit_bool (d : PyData) : kitB (tyName d) "bool" = some (isBool d) := by
  cases d with
  | none => exact (by decide +kernel : kitB "NoneType" "bool" = some false)
  | bool _ => exact (by decide +kernel : kitB "bool" "bool" = some true)
  | int _ => exact (by decide +kernel : kitB "int" "bool" = some false)
  | str _ => exact (by decide +kernel : kitB "str" "bool" = some false)
  | list _ => exact (by decide +kernel : kitB "list" "bool" = some false)
  | tuple _ => exact (by decide +kernel : kitB "tuple" "bool" = some false)
  | dict _ => exact (by decide +kernel : kitB "dict" "bool" = some false)
theorem kit_tup (d : PyData) : kitB (tyName d) "tuple" = some (isTup d) := by
  cases d with
  | none => exact (by decide +kernel : kitB "NoneType" "tuple" = some false)
  | bool _ => exact (by decide +kernel : kitB "bool" "tuple" = some false)
  | int _ => exact (by decide +kernel : kitB "int" "tuple" = some false)
  | str _ => exact (by decide +kernel : kitB "str" "tuple" = some false)
  | list _ => exact (by decide +kernel : kitB "list" "tuple" = some false)
  | tuple _ => exact (by decide +kernel : kitB "tuple" "tuple" = some true)
  | dict _ => exact (by decide +kernel : kitB "dict" "tuple" = some false)
theorem kit_list (d : PyData) : kitB (tyName d) "list" = some (isList d) := by
  cases d with
  | none => exact (by decide +kernel : kitB "NoneType" "list" = some false)
  | bool _ => exact (by decide +kernel : kitB "bool" "list" = some false)
  | int _ => exact (by decide +kernel : kitB "int" "list" = some false)
  | str _ => exact (by decide +kernel : kitB "str" "list" = some false)
  | list _ => exact (by decide +kernel : kitB "list" "list" = some true)
  | tuple _ => exact (by decide +kernel : kitB "tuple" "list" = some false)
  | dict _ => exact (by decide +kernel : kitB "dict" "list" = some false)
theorem kit_str (d : PyData) : kitB (tyName d) "str" = some (isStr d) := by
  cases d with
  | none => exact (by decide +kernel : kitB "NoneType" "str" = some false)
  | bool _ => exact (by decide +kernel : kitB "bool" "str" = some false)
  | int _ => exact (by decide +kernel : kitB "int" "str" = some false)
  | str _ => exact (by decide +kernel : kitB "str" "str" = some true)
  | list _ => exact (by decide +kernel : kitB "list" "str" = some false)
  | tuple _ => exact (by decide +kernel : kitB "tuple" "str" = some false)
  | dict _ => exact (by decide +kernel : kitB "dict" "str" = some false)
/-- isinstance(x, type): the answer by the datum -/
theorem isi_ {K : PySem.W.Frag} {M : List Addr} {H : Hp} {v : V} {d : PyData} {n : String} {b : Bool} {Q : VK} (t : T K M H v d) (e : kitB (tyName d) n = some b) (q : Q (.bl b) H) : rIsi K [v, .ty n] H Q :=
  ⟨v, .ty n, _, _, b, rfl, .ty n, t.ty, kit_ty e, q⟩
end U

set_option Elab.async false
set_option linter.all false
set_option maxRecDepth 100000
set_option maxHeartbeats 2000000
namespace U
open PySem PySem.Spec PyProof.Rows L2

theorem not_mem_of_none {N : List Addr} {H : Hp} {D : Addr} (tr : ∀ b ∈ N, H b ≠ none) (h : H D = none) : D ∉ N := fun z => tr D z h
theorem Ext.tracked {N : List Addr} {H H' : Hp} {b : Addr} {o : HO} (e : Ext N H H') (n : b ∉ N) (h : H b = some o) : H' b = some o := e b o n h
theorem Ext.fresh {N : List Addr} {H H' : Hp} {p : Addr} (e : Ext N H H') (n : p ∉ N) (h : H' p = none) : H p = none := by
  cases q : H p with
  | none => rfl
  | some o =>
    rw [e p o n q] at h
    cases h
theorem TA.of_bools {K : PySem.W.Frag} {M : List Addr} {H : Hp} : ∀ {ys : List V} {bs : List Bool}, TA K M H ys (bs.map .bool) → ys = bs.map V.bl
  | _, [], h => by
    cases h
    rfl
  | _, b :: bs, h => by
    cases h with
    | cons h1 h2 =>
      cases h1
      rw [TA.of_bools h2]
      rfl
theorem T.mut {K : PySem.W.Frag} {M : List Addr} {H : Hp} {p : Addr} {o : HO} {v : V} {d : PyData} (h : T K M H v d) (hp : p ∈ M) : T K M (upd H p o) v d := h.ext (Ext.put hp)
section
variable {K : PySem.W.Frag} {M N : List Addr} {g : TG} {tt : TT} {te : TE} {vs : List Nat} {σ : L2.St} {H1 : Hp} {D : Addr} {Qd : Hp → Prop}
/-- what one turn of a comprehension is asked: the item taken, the test, the element; Ky: what is wanted of the element, Kn: where the item is not kept -/
def Turn (g : TG) (tt : TT) (te : TE) (vs : List Nat) (σ : L2.St) (x : V) (H : Hp) (Ky : V → Hp → Prop) (Kn : Hp → Prop) : Prop :=
  g x (wipe σ vs) H fun σ2 H2 => wipe σ2 vs = wipe σ vs ∧ tt σ2 H2 fun b H3 => if b = true then te σ2 H3 Ky else Kn H3

/-- the state ahead of turn i: the list so far -/
def Sofar (K : PySem.W.Frag) (M N : List Addr) (H1 : Hp) (D : Addr) (J : Nat → Hp → Prop) (keep : PyData → Bool) (f : PyData → PyData → Prop) (ds : List PyData) (i : Nat) (H : Hp) : Prop :=
  ∃ (ys : List V) (es : List PyData), Ext N H1 H ∧ J i H ∧ H D = some (.lst ys) ∧ TA K M H ys es ∧ Paired f ((ds.take i).filter keep) es
theorem Paired.snoc {α β : Type} {F : α → β → Prop} : ∀ {l : List α} {m : List β} {a : α} {b : β}, Paired F l m → F a b → Paired F (l ++ [a]) (m ++ [b])
  | _, _, _, _, .nil, h => .cons h .nil
  | _, _, _, _, .cons r t, h => .cons r (Paired.snoc t h)
theorem Paired.len {α β : Type} {F : α → β → Prop} : ∀ {l : List α} {m : List β}, Paired F l m → l.length = m.length
  | _, _, .nil => rfl
  | _, _, .cons _ t => by rw [List.length_cons, List.length_cons, Paired.len t]
theorem paired_map {α β : Type} {h : α → β} : ∀ {l : List α} {m : List β}, Paired (fun a b => b = h a) l m → m = l.map h
  | _, _, .nil => rfl
  | _, _, .cons r t => by rw [r, paired_map t]; rfl

theorem sofar_turn {J : Nat → Hp → Prop} {keep : PyData → Bool} {f : PyData → PyData → Prop} {ds : List PyData} {i : Nat} {x : V} {d : PyData} {H : Hp} (hl : ds.length ≤ 100000)
    (hNM : ∀ b ∈ N, b ∈ M) (hDN : D ∉ N) (hDM : D ∉ M) (hD : H1 D = none) (hJ : ∀ i H o, J i H → J i (upd H D o)) (hd : ds[i]? = some d)
    (p : Sofar K (D :: M) N H1 D J keep f ds i H)
    (turn : ∀ (Ky : V → Hp → Prop) (Kn : Hp → Prop), (keep d = false → ∀ H', Ext N H H' → J (i + 1) H' → Kn H') →
      (keep d = true → ∀ H' y e, Ext N H H' → J (i + 1) H' → T K (D :: M) H' y e → f d e → Ky y H') → Turn g tt te vs σ x H Ky Kn) :
    g x (wipe σ vs) H fun σ2 H2 => wipe σ2 vs = wipe σ vs ∧ tt σ2 H2 fun b H3 => if b = true then te σ2 H3 fun y H4 => ∃ acc, H4 D = some (.lst acc) ∧ acc.length < sizeLine ∧ Sofar K (D :: M) N H1 D J keep f ds (i + 1) (upd H4 D (.lst (acc ++ [y])))
      else Sofar K (D :: M) N H1 D J keep f ds (i + 1) H3 := by
  obtain ⟨ys, es, e, j, hDy, ht, pr⟩ := p
  have eM : ∀ {A B : Hp}, Ext N A B → Ext (D :: M) A B := fun x => x.sub fun b hb => List.mem_cons_of_mem _ (hNM b hb)
  refine turn _ _ (fun hk H' e' j' => ⟨ys, es, e.trans e', j', e' _ _ hDN hDy, ht.ext (eM e'), ?_⟩) (fun hk H' y ed e' j' ty fy => ⟨ys, e' _ _ hDN hDy, ?_, ys ++ [y], es ++ [ed], ?_, hJ _ _ _ j', upd_same, ?_, ?_⟩)
  · rw [List.take_add_one, hd, List.filter_append]
    simpa [hk] using pr
  · have l1 := ht.len
    have l2 := Paired.len pr
    have l3 := List.length_filter_le keep (ds.take i)
    rw [List.length_take] at l3
    exact Nat.lt_of_le_of_lt (show ys.length ≤ 100000 by omega) (by decide)
  · intro b o nb hb
    have hbD : b ≠ D := ne_of_none hb hD
    rw [upd_ne hbD]
    exact e' _ _ nb (e _ _ nb hb)
  · exact ((ht.ext (eM e')).app (.one ty)).ext (Ext.put (by simp))
  · rw [List.take_add_one, hd, List.filter_append]
    have : (some d).toList.filter keep = [d] := by simp [hk]
    rw [this]
    exact Paired.snoc pr fy

/-- a comprehension over a tuple of data -/
theorem lcT {a : Addr} {xs : List V} {ds : List PyData} (J : Nat → Hp → Prop) (keep : PyData → Bool) (f : PyData → PyData → Prop) (ha : H1 a = some (.tup xs)) (na : a ∉ M) (ht : TA K M H1 xs ds) (hl : ds.length ≤ 100000)
    (hNM : ∀ b ∈ N, b ∈ M) (hN : ∀ b ∈ M, H1 b ≠ none) (hD : H1 D = none) (j0 : J 0 H1) (hJ : ∀ i H o, J i H → J i (upd H D o))
    (turn : ∀ i x d H, ds[i]? = some d → T K (D :: M) H x d → Ext N H1 H → J i H → ∀ (Ky : V → Hp → Prop) (Kn : Hp → Prop), (keep d = false → ∀ H', Ext N H H' → J (i + 1) H' → Kn H') →
      (keep d = true → ∀ H' y e, Ext N H H' → J (i + 1) H' → T K (D :: M) H' y e → f d e → Ky y H') → Turn g tt te vs σ x H Ky Kn)
    (hd : ∀ H ys es, Ext N H1 H → J ds.length H → H D = some (.lst ys) → TA K M H ys es → Paired f (ds.filter keep) es → Qd H) :
    ∃ W : Nat → Nat → Hp → Prop, (∃ m, W 0 m (upd H1 D (.lst []))) ∧ ∀ i m H, W i m H →
      ((Itt K a).stop i H ∧ Qd H) ∨ ((Itt K a).go i H ∧ ∃ Nx : Hp → Prop, (∀ H', Nx H' → ∃ m', m' < m ∧ W (i + 1) m' H') ∧ ∀ x H', (Itt K a).yld i H x H' → g x (wipe σ vs) H' fun σ2 H2 => wipe σ2 vs = wipe σ vs ∧ tt σ2 H2 fun b H3 =>
        if b = true then te σ2 H3 fun y H4 => ∃ acc, H4 D = some (.lst acc) ∧ acc.length < sizeLine ∧ Nx (upd H4 D (.lst (acc ++ [y]))) else Nx H3) := by
  have hDM : D ∉ M := fun z => hN D z hD
  have hDN : D ∉ N := fun z => hDM (hNM D z)
  have naN : a ∉ N := fun z => na (hNM a z)
  have hT : TA K (D :: M) H1 xs ds := ht.plus hD
  refine lc_tup (K := K) (a := a) (xs := xs) (fun i H => Sofar K (D :: M) N H1 D J keep f ds i H) ⟨[], [], Ext.new hD, hJ _ _ _ j0, upd_same, .nil, by simpa using Paired.nil⟩ (fun i H _ p => ?_) (fun i x H hx p => ?_) (fun H p => ?_)
  · obtain ⟨_, _, e, _⟩ := p
    exact SqT.of (e _ _ naN ha)
  · obtain ⟨d, hdi, td⟩ := hT.get hx
    have e := let ⟨_, _, e, _⟩ := p; e
    have j := let ⟨_, _, _, j, _⟩ := p; j
    exact sofar_turn hl hNM hDN hDM hD hJ hdi p (turn i x d H hdi (td.ext (e.sub fun b hb => List.mem_cons_of_mem _ (hNM b hb))) e j)
  · obtain ⟨ys, es, e, j, h1, h2, h3⟩ := p
    rw [ht.len, List.take_length] at h3
    rw [ht.len] at j
    exact hd H ys es e j h1 (h2.off fun b hb => List.mem_cons_of_mem _ hb) h3
/-- over a list of data -/
theorem lcL {a : Addr} {xs : List V} {ds : List PyData} (J : Nat → Hp → Prop) (keep : PyData → Bool) (f : PyData → PyData → Prop) (ha : H1 a = some (.lst xs)) (na : a ∉ M) (ht : TA K M H1 xs ds) (hl : ds.length ≤ 100000)
    (hNM : ∀ b ∈ N, b ∈ M) (hN : ∀ b ∈ M, H1 b ≠ none) (hD : H1 D = none) (j0 : J 0 H1) (hJ : ∀ i H o, J i H → J i (upd H D o))
    (turn : ∀ i x d H, ds[i]? = some d → T K (D :: M) H x d → Ext N H1 H → J i H → ∀ (Ky : V → Hp → Prop) (Kn : Hp → Prop), (keep d = false → ∀ H', Ext N H H' → J (i + 1) H' → Kn H') →
      (keep d = true → ∀ H' y e, Ext N H H' → J (i + 1) H' → T K (D :: M) H' y e → f d e → Ky y H') → Turn g tt te vs σ x H Ky Kn)
    (hd : ∀ H ys es, Ext N H1 H → J ds.length H → H D = some (.lst ys) → TA K M H ys es → Paired f (ds.filter keep) es → Qd H) :
    ∃ W : Nat → Nat → Hp → Prop, (∃ m, W 0 m (upd H1 D (.lst []))) ∧ ∀ i m H, W i m H →
      ((Itl K a).stop i H ∧ Qd H) ∨ ((Itl K a).go i H ∧ ∃ Nx : Hp → Prop, (∀ H', Nx H' → ∃ m', m' < m ∧ W (i + 1) m' H') ∧ ∀ x H', (Itl K a).yld i H x H' → g x (wipe σ vs) H' fun σ2 H2 => wipe σ2 vs = wipe σ vs ∧ tt σ2 H2 fun b H3 =>
        if b = true then te σ2 H3 fun y H4 => ∃ acc, H4 D = some (.lst acc) ∧ acc.length < sizeLine ∧ Nx (upd H4 D (.lst (acc ++ [y]))) else Nx H3) := by
  have hDM : D ∉ M := fun z => hN D z hD
  have hDN : D ∉ N := fun z => hDM (hNM D z)
  have naN : a ∉ N := fun z => na (hNM a z)
  have hT : TA K (D :: M) H1 xs ds := ht.plus hD
  refine lc_list (K := K) (a := a) (xs := xs) (fun i H => Sofar K (D :: M) N H1 D J keep f ds i H) ⟨[], [], Ext.new hD, hJ _ _ _ j0, upd_same, .nil, by simpa using Paired.nil⟩ (fun i H _ p => ?_) (fun i x H hx p => ?_) (fun H p => ?_)
  · obtain ⟨_, _, e, _⟩ := p
    exact SqL.of (e _ _ naN ha)
  · obtain ⟨d, hdi, td⟩ := hT.get hx
    have e := let ⟨_, _, e, _⟩ := p; e
    have j := let ⟨_, _, _, j, _⟩ := p; j
    exact sofar_turn hl hNM hDN hDM hD hJ hdi p (turn i x d H hdi (td.ext (e.sub fun b hb => List.mem_cons_of_mem _ (hNM b hb))) e j)
  · obtain ⟨ys, es, e, j, h1, h2, h3⟩ := p
    rw [ht.len, List.take_length] at h3
    rw [ht.len] at j
    exact hd H ys es e j h1 (h2.off fun b hb => List.mem_cons_of_mem _ hb) h3
/-- over a range from 0 -/
theorem lcR {n : Nat} (J : Nat → Hp → Prop) (keep : PyData → Bool) (f : PyData → PyData → Prop) (hl : n ≤ 100000)
    (hNM : ∀ b ∈ N, b ∈ M) (hN : ∀ b ∈ M, H1 b ≠ none) (hD : H1 D = none) (j0 : J 0 H1) (hJ : ∀ i H o, J i H → J i (upd H D o))
    (turn : ∀ (i : Nat) H, i < n → Ext N H1 H → J i H → ∀ (Ky : V → Hp → Prop) (Kn : Hp → Prop), (keep (.int (i : Int)) = false → ∀ H', Ext N H H' → J (i + 1) H' → Kn H') →
      (keep (.int (i : Int)) = true → ∀ H' y e, Ext N H H' → J (i + 1) H' → T K (D :: M) H' y e → f (.int (i : Int)) e → Ky y H') → Turn g tt te vs σ (.int (i : Int)) H Ky Kn)
    (hd : ∀ H ys es, Ext N H1 H → J n H → H D = some (.lst ys) → TA K M H ys es → Paired f (((List.range n).map fun i : Nat => PyData.int (i : Int)).filter keep) es → Qd H) :
    ∃ W : Nat → Nat → Hp → Prop, (∃ m, W 0 m (upd H1 D (.lst []))) ∧ ∀ i m H, W i m H →
      ((Itr 0 n).stop i H ∧ Qd H) ∨ ((Itr 0 n).go i H ∧ ∃ Nx : Hp → Prop, (∀ H', Nx H' → ∃ m', m' < m ∧ W (i + 1) m' H') ∧ ∀ x H', (Itr 0 n).yld i H x H' → g x (wipe σ vs) H' fun σ2 H2 => wipe σ2 vs = wipe σ vs ∧ tt σ2 H2 fun b H3 =>
        if b = true then te σ2 H3 fun y H4 => ∃ acc, H4 D = some (.lst acc) ∧ acc.length < sizeLine ∧ Nx (upd H4 D (.lst (acc ++ [y]))) else Nx H3) := by
  have hDM : D ∉ M := fun z => hN D z hD
  have hDN : D ∉ N := fun z => hDM (hNM D z)
  refine lc_range (lo := 0) (n := n) (fun i H => Sofar K (D :: M) N H1 D J keep f ((List.range n).map fun i : Nat => PyData.int (i : Int)) i H) ⟨[], [], Ext.new hD, hJ _ _ _ j0, upd_same, .nil, by simpa using Paired.nil⟩ (fun i H hi p => ?_) (fun H p => ?_)
  · have e := let ⟨_, _, e, _⟩ := p; e
    have j := let ⟨_, _, _, j, _⟩ := p; j
    have z : (0 : Int) + (i : Int) = (i : Int) := Int.zero_add _
    rw [z]
    exact sofar_turn (d := .int (i : Int)) (by simpa using hl) hNM hDN hDM hD hJ (by simp [hi]) p (turn i H hi e j)
  · obtain ⟨ys, es, e, j, h1, h2, h3⟩ := p
    rw [List.take_of_length_le (by simp)] at h3
    exact hd H ys es e j h1 (h2.off fun b hb => List.mem_cons_of_mem _ hb) h3
end
section
variable {K : PySem.W.Frag} {M N : List Addr} {H : Hp}
theorem filter_all (ds : List PyData) : (ds.filter fun _ => true) = ds := List.filter_eq_self.mpr fun _ _ => rfl
theorem bools_of {h : PyData → Bool} {ds es : List PyData} {ys : List V} (pr : Paired (fun d e => e = .bool (h d)) (ds.filter fun _ => true) es) (ty : TA K M H ys es) : ys = (ds.map h).map V.bl := by
  rw [filter_all] at pr
  have e := paired_map pr
  rw [e, show (fun a => PyData.bool (h a)) = PyData.bool ∘ h from rfl, ← List.map_map] at ty
  exact TA.of_bools ty
theorem same_ext {H' : Hp} (e : Ext [] H H') : Same H H' := fun b o h => e b o (by simp) h
theorem T.non_ {d : PyData} (h : T K M H .non d) : d = .none := by
  cases h
  rfl
theorem all_id (bs : List Bool) : bs.all id = bs.all fun b => b := rfl
theorem all_map {h : PyData → Bool} (ds : List PyData) : (ds.map h).all id = ds.all h := by
  rw [List.all_map]
  rfl
end
end U

set_option Elab.async false
set_option linter.all false
set_option maxRecDepth 100000
set_option maxHeartbeats 2000000
namespace U
open PySem PySem.Spec PyProof.Rows L2

/-! ### the rules with the written part named (K), so that a comprehension's reading hangs on K alone -/
def rLenQ (K : PySem.W.Frag) : List V → Hp → VK → Prop := fun xs H Q => ∃ p ys, xs = [.ref p] ∧ (SqL K H p ys ∨ SqT K H p ys) ∧ Q (.int (ys.length : Nat)) H
def rLenA (K : PySem.W.Frag) : List V → Hp → VK → Prop := fun xs H Q => ∃ x n, xs = [x] ∧ LenV K x H n ∧ Q (.int (n : Nat)) H
def rListOf (K : PySem.W.Frag) : List V → Hp → VK → Prop := fun xs H Q => ∃ p ys, xs = [.ref p] ∧ (SqL K H p ys ∨ SqT K H p ys) ∧ ∀ l, H l = none → Q (.ref l) (upd H l (.lst ys))
def rTupOf (K : PySem.W.Frag) : List V → Hp → VK → Prop := fun xs H Q => ∃ p ys, xs = [.ref p] ∧ ((SqL K H p ys ∧ ∀ l, H l = none → Q (.ref l) (upd H l (.tup ys))) ∨ (SqT K H p ys ∧ Q (.ref p) H))
theorem room1 {k : Nat} {A : Around} (r : Room k A) : A.units + 1 < cLine := by have := r.units; omega
section
variable {X : Cx}
theorem kLenQ (K : PySem.W.Frag) (h : X.K = K := by rfl) : CallR X (.builtin "len") (rLenQ K) := by subst h; exact call_len_seq
theorem kLenA (K : PySem.W.Frag) (h : X.K = K := by rfl) : CallR X (.builtin "len") (rLenA K) := by subst h; exact call_len
theorem kListOf (K : PySem.W.Frag) (h : X.K = K := by rfl) : CallR X (.type "list") (rListOf K) := by subst h; exact call_list_of
theorem kTupOf (K : PySem.W.Frag) (h : X.K = K := by rfl) : CallR X (.type "tuple") (rTupOf K) := by subst h; exact call_tuple_of
theorem kIsi (K : PySem.W.Frag) (h : X.K = K := by rfl) : CallR X (.builtin "isinstance") (rIsi K) := by subst h; exact call_isi
theorem kAll (K : PySem.W.Frag) (hc : X.calm = true) (h : X.K = K := by rfl) : CallR X (.builtin "all") (rAll K) := by subst h; exact cr_all hc
theorem kAny (K : PySem.W.Frag) (hc : X.calm = true) (h : X.K = K := by rfl) : CallR X (.builtin "any") (rAny K) := by subst h; exact cr_any hc
theorem kSum (K : PySem.W.Frag) (hc : X.calm = true) (h : X.K = K := by rfl) : CallR X (.builtin "sum") (rSum K) := by subst h; exact cr_sum hc
theorem kMax (K : PySem.W.Frag) (hc : X.calm = true) (h : X.K = K := by rfl) : CallR X (.builtin "max") (rMax K) := by subst h; exact cr_max hc
theorem kMin (K : PySem.W.Frag) (hc : X.calm = true) (h : X.K = K := by rfl) : CallR X (.builtin "min") (rMin K) := by subst h; exact cr_min hc
theorem kRepr (K : PySem.W.Frag) {k : Nat} (hG : X.A.guards = some []) (hr : Room k X.A) (h : X.K = K := by rfl) : CallR X (.builtin "repr") (rRepr K) := by subst h; exact call_repr hG hr
theorem kIxL (K : PySem.W.Frag) (h : X.K = K := by rfl) : IxR X (rIxL K) := by subst h; exact ix_list
theorem kIxT (K : PySem.W.Frag) (h : X.K = K := by rfl) : IxR X (rIxT K) := by subst h; exact ix_tup
theorem kIxQ (K : PySem.W.Frag) (h : X.K = K := by rfl) : IxR X (rIx K) := by subst h; exact ix_seq
theorem kSlL (K : PySem.W.Frag) (h : X.K = K := by rfl) : SlR X (rSlL K) := by subst h; exact sl_list
theorem kSlT (K : PySem.W.Frag) (h : X.K = K := by rfl) : SlR X (rSlA K) := by subst h; exact sl_tupA
theorem kCatT (K : PySem.W.Frag) (h : X.K = K := by rfl) : OpR X (binaryOp .Add) (rCatA K) := by subst h; exact op_catA
theorem kRepT (K : PySem.W.Frag) (h : X.K = K := by rfl) : OpR X (binaryOp .Mult) (rRepT K) := by subst h; exact op_repT
theorem kIn (K : PySem.W.Frag) (h : X.K = K := by rfl) : OpR X (compareOp .In) (rIn K false) := by subst h; exact op_in_seq
theorem kNotIn (K : PySem.W.Frag) (h : X.K = K := by rfl) : OpR X (compareOp .NotIn) (rIn K true) := by subst h; exact op_notIn_seq
theorem kEqD (K : PySem.W.Frag) {k : Nat} (hr : Room k X.A) (h : X.K = K := by rfl) : OpR X (compareOp .Eq) (rEqD K) := by subst h; exact op_eqD hr.units
theorem kNeD (K : PySem.W.Frag) {k : Nat} (hr : Room k X.A) (h : X.K = K := by rfl) : OpR X (compareOp .NotEq) (rNeD K) := by subst h; exact op_neD hr.units
theorem kEqNil (K : PySem.W.Frag) {k : Nat} (hr : Room k X.A) (h : X.K = K := by rfl) : OpR X (compareOp .Eq) (rNil K false) := by subst h; exact op_eqNil hr
theorem kNeNil (K : PySem.W.Frag) {k : Nat} (hr : Room k X.A) (h : X.K = K := by rfl) : OpR X (compareOp .NotEq) (rNil K true) := by subst h; exact op_neNil hr
theorem kPiL (K : PySem.W.Frag) {tg l : Expr} {tl : TE} (hl : PE X l tl) (h : X.K = K := by rfl) : PI X tg l (iList K tl) := by subst h; exact pi_list hl
theorem kPiT (K : PySem.W.Frag) {tg l : Expr} {tl : TE} (hl : PE X l tl) (h : X.K = K := by rfl) : PI X tg l (iTup K tl) := by subst h; exact pi_tup hl
theorem kTgT (K : PySem.W.Frag) {es : List Expr} {k : Nat} {t : TGs} {n : Nat} {pos : Pos} (hc : X.calm = true) (g : PGs X es t) (h : X.K = K := by rfl)
    (hn : (assignEach es X.env).length = n := by rfl) (hst : (assignEach es X.env).findIdx? (·.1) = none := by rfl) : PG X (.Tuple es k pos) (gTup K n t) := by
  subst h
  exact pg_tup hc g hn hst
theorem kBm (K : PySem.W.Frag) {e : Expr} {t : String} {r : V → List V → Hp → VK → Prop} {to : TE} {ts : L2.TA} (p : PE X e (tBM X.K t r to ts)) (h : X.K = K := by rfl) : PE X e (tBM K t r to ts) := by subst h; exact p
theorem kBm0 (K : PySem.W.Frag) {e : Expr} {t : String} {r : V → List V → Hp → VK → Prop} {to : TE} (p : PE X e (tBM0 X.K t r to)) (h : X.K = K := by rfl) : PE X e (tBM0 K t r to) := by subst h; exact p
theorem kTruth (K : PySem.W.Frag) {a : Expr} {ta : TE} (ha : PE X a ta) (he : ∀ whole, isTrue a X.env whole = (do let v ← whole; standAt a.pos; holding [v] (truthy v))) (h : X.K = K := by rfl) :
    PT X a (fun σ H Q => ta σ H fun x H' => ∃ k, TruV K x H' k ∧ Q k H') := by subst h; exact pt_truth ha he
theorem kEnum (K : PySem.W.Frag) {e : Expr} {ta : L2.TA} {p pos tpos : Pos} {elts : List Expr} {kk : Nat} (hg : Gl X "enumerate") (hm : X.mg "enumerate" = none) (ha : PA X [e] ta) (h : X.K = K := by rfl) (hs : starEach [e] X.env = [(false, eval e X.env)] := by rfl) :
    PI X (.Tuple elts kk tpos) (.Call (.Name "enumerate" p) [e] [] pos) (iEnum K ta) := by subst h; exact pi_enum hg hm ha hs
end
end U

set_option Elab.async false
set_option linter.all false
set_option maxRecDepth 100000
set_option maxHeartbeats 2000000
namespace U
open PySem PySem.Spec PyProof.Rows L2
/-- the places that are written are tracked -/
def Trk (M : List Addr) (H : Hp) : Prop := ∀ b ∈ M, H b ≠ none
theorem Trk.same {M : List Addr} {H H' : Hp} (t : Trk M H) (s : Same H H') : Trk M H' := fun b hb z => t b hb (Same.free s z)
theorem Trk.new {M : List Addr} {H : Hp} {p : Addr} (t : Trk M H) (h : H p = none) : p ∉ M := fun z => t p z h
theorem Trk.upd {M : List Addr} {H : Hp} {p : Addr} {o : HO} (t : Trk M H) : Trk M (upd H p o) := fun b hb z => by
  by_cases e : b = p
  · rw [e, upd_same] at z
    cases z
  · rw [upd_ne e] at z
    exact t b hb z
section
variable {K : PySem.W.Frag} {M : List Addr} {H : Hp} {xs : List V} {ds : List PyData} {Q : VK}
theorem newT (tr : Trk M H) (t : TA K M H xs ds) (k : ∀ p H', H p = none → Same H H' → Trk M H' → H' p = some (.tup xs) → T K M H' (.ref p) (.tuple ds) → Q (.ref p) H') : ∀ p, H p = none → Q (.ref p) (upd H p (.tup xs)) := fun p hp =>
  k p _ hp (Same.new hp) (tr.same (Same.new hp)) upd_same (.tup (tr.new hp) upd_same (t.same (Same.new hp)))
theorem newL (tr : Trk M H) (t : TA K M H xs ds) (k : ∀ p H', H p = none → Same H H' → Trk M H' → H' p = some (.lst xs) → T K M H' (.ref p) (.list ds) → Q (.ref p) H') : ∀ p, H p = none → Q (.ref p) (upd H p (.lst xs)) := fun p hp =>
  k p _ hp (Same.new hp) (tr.same (Same.new hp)) upd_same (.lst (tr.new hp) upd_same (t.same (Same.new hp)))
theorem newD (tr : Trk M H) (k : ∀ p H', H p = none → Same H H' → Trk M H' → T K M H' (.ref p) (.dict []) → Q (.ref p) H') : ∀ p, H p = none → Q (.ref p) (upd H p (.dK [])) := fun p hp =>
  k p _ hp (Same.new hp) (tr.same (Same.new hp)) (.dct (tr.new hp) upd_same .nil)
end
section
variable {K : PySem.W.Frag} {M : List Addr} {H : Hp} {xs : List V} {ds : List PyData} {p : Addr}
theorem atT (tr : Trk M H) (t : TA K M H xs ds) (hp : H p = none) : Same H (upd H p (.tup xs)) ∧ Trk M (upd H p (.tup xs)) ∧ T K M (upd H p (.tup xs)) (.ref p) (.tuple ds) ∧ (upd H p (.tup xs)) p = some (.tup xs) :=
  ⟨Same.new hp, tr.upd, .tup (tr.new hp) upd_same (t.same (Same.new hp)), upd_same⟩
theorem atL (tr : Trk M H) (t : TA K M H xs ds) (hp : H p = none) : Same H (upd H p (.lst xs)) ∧ Trk M (upd H p (.lst xs)) ∧ T K M (upd H p (.lst xs)) (.ref p) (.list ds) ∧ (upd H p (.lst xs)) p = some (.lst xs) :=
  ⟨Same.new hp, tr.upd, .lst (tr.new hp) upd_same (t.same (Same.new hp)), upd_same⟩
theorem atD (tr : Trk M H) (hp : H p = none) : Same H (upd H p (.dK [])) ∧ Trk M (upd H p (.dK [])) ∧ T K M (upd H p (.dK [])) (.ref p) (.dict []) ∧ (upd H p (.dK [])) p = some (.dK []) :=
  ⟨Same.new hp, tr.upd, .dct (tr.new hp) upd_same .nil, upd_same⟩
end
/-! ### parts of tuples, tuples put together -/
def cutD (ds : List PyData) (lo hi : Option Int) : List PyData := (ds.drop (HT.sIx ds.length 0 lo)).take (HT.sIx ds.length ds.length hi - HT.sIx ds.length 0 lo)
section
variable {K : PySem.W.Frag} {M : List Addr} {H : Hp} {a b : Addr} {ds es : List PyData} {lo hi : Option Int} {Q : VK}
theorem slA {x : V} (tr : Trk M H) (t : T K M H x (.tuple ds)) (k : ∀ r H', Same H H' → Trk M H' → T K M H' r (.tuple (cutD ds lo hi)) → Q r H') : rSlA K x lo hi H Q := by
  cases t with
  | @tup a xs _ na ha t =>
    have lx := t.len
    refine ⟨a, xs, rfl, SqT.of ha, fun w => ?_, fun w p hp => ?_⟩
    · rw [lx] at w
      refine k _ _ (Same.refl _) tr ?_
      have e : cutD ds lo hi = ds := by
        unfold cutD
        rw [w.1, w.2, List.drop_zero, Nat.sub_zero, List.take_length]
      rw [e]
      exact .tup na ha t
    · have tc : TA K M H (cutV xs lo hi) (cutD ds lo hi) := by
        unfold cutV cutD
        rw [lx]
        exact (t.drop _).take _
      obtain ⟨s, tr', t', _⟩ := atT tr tc hp
      exact k _ _ s tr' t'
theorem catA {x y : V} (tr : Trk M H) (t : T K M H x (.tuple ds)) (u : T K M H y (.tuple es)) (hl : ds.length + es.length ≤ 100000) (k : ∀ r H', Same H H' → Trk M H' → T K M H' r (.tuple (ds ++ es)) → Q r H') : rCatA K x y H Q := by
  cases t with
  | @tup a xs _ na ha t =>
    cases u with
    | @tup b ys _ nb hb u =>
      have lx := t.len
      have ly := u.len
      refine ⟨a, b, xs, ys, rfl, rfl, SqT.of ha, SqT.of hb, Nat.le_trans (show xs.length + ys.length ≤ 100000 by omega) (by decide), fun e => ?_, fun e1 e2 => ?_, fun e1 e2 p hp => ?_⟩
      · subst e
        cases t
        exact k _ _ (Same.refl _) tr (.tup nb hb u)
      · subst e2
        cases u
        exact k _ _ (Same.refl _) tr (.tup na ha (by rw [List.append_nil]; exact t))
      · obtain ⟨s, tr', t', _⟩ := atT tr (t.app u) hp
        exact k _ _ s tr' t'
theorem T.get {v : V} {j : Nat} (t : T K M H v (.tuple ds)) (hj : j < ds.length) : ∃ a xs x, v = .ref a ∧ H a = some (.tup xs) ∧ xs[j]? = some x ∧ T K M H x ds[j] := by
  cases t with
  | @tup a xs _ na ha t =>
    have lx := t.len
    have hx : xs[j]? = some xs[j] := by simp [lx, hj]
    obtain ⟨d, hd, td⟩ := t.get hx
    refine ⟨a, xs, _, rfl, ha, hx, ?_⟩
    have e : d = ds[j] := by
      rw [List.getElem?_eq_getElem hj] at hd
      exact (Option.some.inj hd).symm
    rw [← e]
    exact td
end
/-! ### data that is small enough to be shown -/
structure Fine (w dp : Nat) (d : PyData) : Prop where
  show_ : d.showable = true
  short : d.leavesShort 60 = true
  weight : d.weight ≤ w
  depth : d.depth ≤ dp
theorem Fine.shown {w dp : Nat} {d : PyData} (f : Fine w dp d) (hw : w ≤ 200000) (hd : dp ≤ 100) : Shown d := by
  refine ⟨f.show_, ?_, Nat.le_trans f.depth hd⟩
  have h := PyData.shown_le 60 (by decide) d f.short
  have h2 : (60 + 2) * d.weight ≤ (60 + 2) * 200000 := Nat.mul_le_mul_left _ (Nat.le_trans f.weight hw)
  rw [sizeLine_eq]
  omega
theorem Fine.more {w dp w' dp' : Nat} {d : PyData} (f : Fine w dp d) (hw : w ≤ w') (hd : dp ≤ dp') : Fine w' dp' d := ⟨f.show_, f.short, Nat.le_trans f.weight hw, Nat.le_trans f.depth hd⟩
theorem fine_all {w dp : Nat} : ∀ {ds : List PyData}, (∀ d ∈ ds, Fine w dp d) → PyData.showableAll ds = true ∧ PyData.leavesShortAll 60 ds = true ∧ PyData.weightAll ds ≤ (w + 1) * ds.length ∧ PyData.depthAll ds ≤ dp
  | [], _ => ⟨rfl, rfl, Nat.le_refl _, Nat.zero_le _⟩
  | d :: ds, h => by
    obtain ⟨a, b, c, e⟩ := fine_all fun x hx => h x (List.mem_cons_of_mem _ hx)
    have f := h d List.mem_cons_self
    refine ⟨?_, ?_, ?_, ?_⟩
    · simp only [PyData.showableAll, f.show_, a, Bool.and_self]
    · simp only [PyData.leavesShortAll, f.short, b, Bool.and_self]
    · simp only [PyData.weightAll, List.length_cons, Nat.mul_add, Nat.mul_one]
      have := f.weight
      omega
    · simp only [PyData.depthAll]
      have := f.depth
      omega
theorem fine_tup {w dp n : Nat} {ds : List PyData} (h : ∀ d ∈ ds, Fine w dp d) (hn : ds.length ≤ n) : Fine ((w + 1) * n) (dp + 1) (.tuple ds) := by
  obtain ⟨a, b, c, e⟩ := fine_all h
  refine ⟨by simp only [PyData.showable, a], by simp only [PyData.leavesShort, b], ?_, ?_⟩
  · simp only [PyData.weight]
    exact Nat.le_trans c (Nat.mul_le_mul_left _ hn)
  · simp only [PyData.depth]
    omega
theorem fine_list {w dp n : Nat} {ds : List PyData} (h : ∀ d ∈ ds, Fine w dp d) (hn : ds.length ≤ n) : Fine ((w + 1) * n) (dp + 1) (.list ds) := by
  obtain ⟨a, b, c, e⟩ := fine_all h
  refine ⟨by simp only [PyData.showable, a], by simp only [PyData.leavesShort, b], ?_, ?_⟩
  · simp only [PyData.weight]
    exact Nat.le_trans c (Nat.mul_le_mul_left _ hn)
  · simp only [PyData.depth]
    omega
theorem fine_of {w dp : Nat} {d : PyData} (h : (d.showable && d.leavesShort 60 && decide (d.weight ≤ w) && decide (d.depth ≤ dp)) = true) : Fine w dp d := by
  simp only [Bool.and_eq_true, decide_eq_true_eq] at h
  exact ⟨h.1.1.1, h.1.1.2, h.1.2, h.2⟩
theorem fine_int {i : Int} (h : i.natAbs < 10 ^ 12) : Fine 40 0 (.int i) := by
  have h1 := PyData.shown_int_le h
  have h2 : i.natAbs.log2 < 40 := by
    by_cases z : i.natAbs = 0
    · rw [z]
      decide
    · exact (Nat.log2_lt z).mpr (Nat.lt_trans h (by decide))
  refine ⟨?_, ?_, ?_, Nat.le_refl _⟩
  · simp only [PyData.showable, decide_eq_true_eq]
    omega
  · simp only [PyData.leavesShort, decide_eq_true_eq]
    omega
  · simp only [PyData.weight]
    split <;> omega
theorem fine_bool (b : Bool) : Fine 0 0 (.bool b) := ⟨rfl, rfl, Nat.le_refl _, Nat.le_refl _⟩
theorem fine_none : Fine 0 0 .none := ⟨rfl, rfl, Nat.le_refl _, Nat.le_refl _⟩
/-- the parts of data that is fine -/
theorem Fine.items {w dp : Nat} {ds : List PyData} (f : Fine w dp (.tuple ds)) : ∀ d ∈ ds, Fine w (dp - 1) d := by
  have s : PyData.showableAll ds = true := by simpa only [PyData.showable] using f.show_
  have l : PyData.leavesShortAll 60 ds = true := by simpa only [PyData.leavesShort] using f.short
  have wt : PyData.weightAll ds ≤ w := f.weight
  have dt : PyData.depthAll ds + 1 ≤ dp := by simpa only [PyData.depth] using f.depth
  clear f
  induction ds with
  | nil => intro d hd; cases hd
  | cons x xs ih =>
    simp only [PyData.showableAll, Bool.and_eq_true] at s
    simp only [PyData.leavesShortAll, Bool.and_eq_true] at l
    simp only [PyData.weightAll] at wt
    simp only [PyData.depthAll] at dt
    intro d hd
    rcases List.mem_cons.mp hd with rfl | hd
    · exact ⟨s.1, l.1, by omega, by omega⟩
    · exact ih s.2 l.2 (by omega) (by omega) d hd
/-! ### rows of data that are fine together -/
structure FineL (w dp : Nat) (ds : List PyData) : Prop where
  show_ : PyData.showableAll ds = true
  short : PyData.leavesShortAll 60 ds = true
  weight : PyData.weightAll ds ≤ w
  depth : PyData.depthAll ds ≤ dp
theorem FineL.nil {dp : Nat} : FineL 0 dp [] := ⟨rfl, rfl, Nat.le_refl _, Nat.zero_le _⟩
theorem FineL.cons {w v dp : Nat} {d : PyData} {ds : List PyData} (f : Fine v dp d) (g : FineL w dp ds) : FineL (v + 1 + w) dp (d :: ds) := by
  refine ⟨?_, ?_, ?_, ?_⟩
  · simp only [PyData.showableAll, f.show_, g.show_, Bool.and_self]
  · simp only [PyData.leavesShortAll, f.short, g.short, Bool.and_self]
  · simp only [PyData.weightAll]
    have := f.weight
    have := g.weight
    omega
  · simp only [PyData.depthAll]
    have := f.depth
    have := g.depth
    omega
theorem FineL.head {w dp : Nat} {d : PyData} {ds : List PyData} (h : FineL w dp (d :: ds)) : Fine w dp d ∧ FineL w dp ds ∧ d.weight + 1 + PyData.weightAll ds ≤ w := by
  obtain ⟨a, b, c, e⟩ := h
  simp only [PyData.showableAll, Bool.and_eq_true] at a
  simp only [PyData.leavesShortAll, Bool.and_eq_true] at b
  simp only [PyData.weightAll] at c
  simp only [PyData.depthAll] at e
  exact ⟨⟨a.1, b.1, by omega, by omega⟩, ⟨a.2, b.2, by omega, by omega⟩, c⟩
theorem FineL.more {w dp w' dp' : Nat} {ds : List PyData} (f : FineL w dp ds) (hw : w ≤ w') (hd : dp ≤ dp') : FineL w' dp' ds := ⟨f.show_, f.short, Nat.le_trans f.weight hw, Nat.le_trans f.depth hd⟩
theorem FineL.app {v w dp : Nat} : ∀ {as bs : List PyData}, FineL v dp as → FineL w dp bs → FineL (v + w) dp (as ++ bs)
  | [], _, _, g => g.more (by omega) (Nat.le_refl _)
  | a :: as, bs, f, g => by
    obtain ⟨h1, h2, h3⟩ := f.head
    have h4 : FineL (PyData.weightAll as) dp as := ⟨h2.show_, h2.short, Nat.le_refl _, h2.depth⟩
    have h5 : Fine a.weight dp a := ⟨h1.show_, h1.short, Nat.le_refl _, h1.depth⟩
    exact (FineL.cons h5 (h4.app g)).more (by omega) (Nat.le_refl _)
theorem FineL.drop {w dp : Nat} : ∀ {ds : List PyData} (n : Nat), FineL w dp ds → FineL w dp (ds.drop n)
  | _, 0, f => f
  | [], _ + 1, f => f
  | _ :: ds, n + 1, f => f.head.2.1.drop n
theorem FineL.take {w dp : Nat} : ∀ {ds : List PyData} (n : Nat), FineL w dp ds → FineL w dp (ds.take n)
  | _, 0, f => FineL.nil.more (Nat.zero_le _) (Nat.le_refl _)
  | [], _ + 1, f => f
  | d :: ds, n + 1, f => by
    obtain ⟨h1, h2, h3⟩ := f.head
    have h4 : FineL (PyData.weightAll ds) dp ds := ⟨h2.show_, h2.short, Nat.le_refl _, h2.depth⟩
    have h5 : Fine d.weight dp d := ⟨h1.show_, h1.short, Nat.le_refl _, h1.depth⟩
    exact (FineL.cons h5 (h4.take n)).more (by omega) (Nat.le_refl _)
theorem FineL.cut {w dp : Nat} {ds : List PyData} (f : FineL w dp ds) (lo hi : Option Int) : FineL w dp (cutD ds lo hi) := (f.drop _).take _
theorem FineL.get {w dp : Nat} : ∀ {ds : List PyData} {d : PyData}, FineL w dp ds → d ∈ ds → Fine w dp d
  | _ :: _, d, f, h => by
    rcases List.mem_cons.mp h with rfl | h
    · exact f.head.1
    · exact f.head.2.1.get h
theorem FineL.len {w dp : Nat} {ds : List PyData} (f : FineL w dp ds) : ds.length ≤ w := by
  have : ds.length ≤ PyData.weightAll ds := by
    clear f
    induction ds with
    | nil => exact Nat.zero_le _
    | cons y ys ih => simp only [List.length_cons, PyData.weightAll]; omega
  exact Nat.le_trans this f.weight
theorem FineL.tup {w dp : Nat} {ds : List PyData} (f : FineL w dp ds) : Fine w (dp + 1) (.tuple ds) :=
  ⟨by simp only [PyData.showable, f.show_], by simp only [PyData.leavesShort, f.short], f.weight, by simp only [PyData.depth]; have := f.depth; omega⟩
theorem FineL.list {w dp : Nat} {ds : List PyData} (f : FineL w dp ds) : Fine w (dp + 1) (.list ds) :=
  ⟨by simp only [PyData.showable, f.show_], by simp only [PyData.leavesShort, f.short], f.weight, by simp only [PyData.depth]; have := f.depth; omega⟩
theorem Fine.row {w dp : Nat} {ds : List PyData} (f : Fine w dp (.tuple ds)) : FineL w (dp - 1) ds ∧ 1 ≤ dp := by
  have d := f.depth
  simp only [PyData.depth] at d
  exact ⟨⟨by simpa only [PyData.showable] using f.show_, by simpa only [PyData.leavesShort] using f.short, f.weight, by omega⟩, by omega⟩
theorem cut_take {ds : List PyData} {j : Nat} (h : j ≤ ds.length) : cutD ds none (some (j : Int)) = ds.take j := by
  unfold cutD
  rw [HT.sIx_nat, HT.sIx_none, List.drop_zero, Nat.sub_zero, Nat.min_eq_left h]
theorem cut_drop {ds : List PyData} {j : Nat} (h : j ≤ ds.length) : cutD ds (some (j : Int)) none = ds.drop j := by
  unfold cutD
  rw [HT.sIx_nat, HT.sIx_none, Nat.min_eq_left h]
  exact List.take_of_length_le (by rw [List.length_drop]; exact Nat.le_refl _)
theorem weight_split : ∀ {ds : List PyData} {j : Nat} (h : j < ds.length), PyData.weightAll (ds.take j) + (ds[j].weight + 1) + PyData.weightAll (ds.drop (j + 1)) = PyData.weightAll ds
  | d :: ds, 0, _ => by
    simp only [List.take_zero, PyData.weightAll, List.getElem_cons_zero, List.drop_succ_cons, List.drop_zero]
    omega
  | d :: ds, j + 1, h => by
    have := weight_split (ds := ds) (j := j) (by simpa using h)
    simp only [List.take_succ_cons, PyData.weightAll, List.getElem_cons_succ, List.drop_succ_cons]
    omega
end U

set_option Elab.async false
set_option linter.all false
set_option maxRecDepth 100000
set_option maxHeartbeats 2000000
namespace U
open PySem PySem.Spec PyProof.Rows L2

/-! ### enumerate(tuple) -/
section
open AutoSeq1 (wpAny_loadPart')
theorem enumNew {v : Value} {it0 : Obj} {C : Heap → Prop} (B : Begins v it0 C) :
    Meets (Builtin.«enumerate.__new__» ⟨[.type "enumerate", v], []⟩) (fun _ R z => C z.heap ∧
      R (.ok (.ret (.ref (z.heap.push it0).objs.size))) { z with heap := (z.heap.push it0).push { cls := .type "enumerate", data := .fields #[.none, .bool false, .ref z.heap.objs.size, rawInt 0, .none, .none] } }) :=
  .of_wp fun prog w A R z h => by
    obtain ⟨p0, g, d, k0, os⟩ := z
    obtain ⟨c0, h⟩ := h
    have isE := sub_enumerate
    have start : ∀ {A2 : Around} {E : Value → Shared → Prop} {Q : Value → Shared → Prop}, Q (.ref p0.objs.size) ⟨p0.push it0, g, d, k0, os⟩ → wpAny (model prog w) A2 (pyIter v) Q E ⟨p0, g, d, k0, os⟩ :=
      fun y => B.iter prog w _ _ ⟨p0, g, d, k0, os⟩ _ c0 y
    wp_walk using start
    refine wpAny_stack_any fun _ => wpAny_pure ?_
    split
    · rename_i c _ _ _ _ _
      by_cases hc : (c == Value.type "enumerate") = true
      · simp only [hc]
        wp_walk using start
        exact ⟨_, rfl, h⟩
      · simp only [Bool.not_eq_true] at hc
        simp only [hc]
        wp_walk using start
        exact ⟨_, rfl, h⟩
    · wp_walk using start
      exact ⟨_, rfl, h⟩
theorem enumMake {prog : Program} {w : World} {A : Around} {E : Value → Shared → Prop} {z : Shared} {v : Value} {it0 : Obj} {C : Heap → Prop} {Q : Value → Shared → Prop} (B : Begins v it0 C) (c0 : C z.heap)
    (h : ∀ h', IsEnum h' (z.heap.objs.size + 1) z.heap.objs.size 0 .none → h'.get? z.heap.objs.size = some it0 → (∀ b ob, z.heap.get? b = some ob → h'.get? b = some ob) → Q (.ref (z.heap.objs.size + 1)) { z with heap := h' }) :
    wpAny (model prog w) A (call (.type "enumerate") [v]) Q E z := by
  refine callType_new F.called_enumerate (by decide) (F.typeCall_enumerate_1 _) (F.newCall_enumerate_1 _) (fun ob => F.args_object_init_2 ob _) F.entry_enumerate_new (enumNew B) ⟨c0, ?_⟩
  have size1 : (z.heap.push it0).objs.size = z.heap.objs.size + 1 := Heap.size_push ..
  show _ ∧ _
  rw [size1]
  have made : IsEnum ((z.heap.push it0).push { cls := .type "enumerate", data := .fields #[.none, .bool false, .ref z.heap.objs.size, rawInt 0, .none, .none] }) (z.heap.objs.size + 1) z.heap.objs.size 0 .none := by
    have y := Heap.get?_push_size (z.heap.push it0) (o := { cls := .type "enumerate", data := .fields #[.none, .bool false, .ref z.heap.objs.size, rawInt 0, .none, .none] }) rfl
    rw [size1] at y
    exact y
  exact ⟨⟨_, made, rfl⟩, h _ made (Heap.get?_push_of_some _ (Heap.get?_push_size _ B.free)) fun b ob y => Heap.get?_push_of_some _ (Heap.get?_push_of_some _ y)⟩
end
/-- the tuple at a, each item in a new pair with its number -/
def ItE (K : PySem.W.Frag) (a : Addr) : It :=
  ⟨fun i H => ∃ (xs : List V) (x : V), SqT K H a xs ∧ xs[i]? = some x,
    fun i H v H' => ∃ (p : Addr) (x : V), v = .ref p ∧ H p = none ∧ H' = upd H p (.tup [.int (i : Nat), x]) ∧ ∀ xs, SqT K H a xs → xs[i]? = some x,
    fun i H => ∃ xs : List V, SqT K H a xs ∧ xs.length ≤ i⟩
theorem apart_iter {h : Heap} {a it : Addr} {i : Nat} {items : Array Value} (h1 : h.IsTupleIter it a i) (h2 : h.IsTuple a items) : a ≠ it := by
  rintro rfl
  obtain ⟨o, ho, hc, _⟩ := h1
  obtain ⟨o2, ho2, hc2, _⟩ := h2
  rw [ho] at ho2
  cases ho2
  have z : Value.type "tuple_iterator" = Value.type "tuple" := hc.symm.trans hc2
  injection z with z
  exact absurd z (by decide)
theorem turnE {P : Program} {w : World} {K : PySem.W.Frag} {elts : List Expr} {kk : Nat} {tpos : Pos} (a e it : Addr) :
    L2.Turn P w K (.Tuple elts kk tpos) (ItE K a) [e, it] e (fun i h => (∃ old, IsEnum h e it ((i : Nat) : Int) old) ∧ h.IsTupleIter it a i ∧ e ≠ it) where
  mem := List.mem_cons_self
  obj := fun i h st b hb => by
    obtain ⟨⟨old, he⟩, ⟨o, ho, _, hd⟩, _⟩ := st
    rcases List.mem_cons.mp hb with rfl | hb
    · exact ⟨_, he, fun _ q => nomatch q⟩
    · obtain rfl : b = it := by simpa using hb
      exact ⟨o, ho, fun _ q => by rw [hd] at q; cases q⟩
  keep := fun i h h' st k => ⟨st.1.imp fun _ he => k e (by simp) _ he, st.2.1.at fun o q => k it (by simp) o q, st.2.2⟩
  item := by
    rintro X rfl rfl rfl hc i pins s σ H E I hf ⟨⟨old, he⟩, hit, hne⟩ ⟨xs, x, hq, hx⟩
    obtain ⟨its, rv, p, hz⟩ := I.tuple hq
    obtain ⟨u, hu, ru⟩ := rv.get hx
    have p2 : s.heap.IsTuple a its.toArray := p
    have el : e < s.heap.objs.size := Heap.lt_size he
    have il : it < s.heap.objs.size := by obtain ⟨_, q, _⟩ := hit; exact Heap.lt_size q
    have hlt : i < its.toArray.size := by
      have := (List.getElem?_eq_some_iff.mp hu).1
      simpa using this
    have hea : e ≠ a := by
      rintro rfl
      obtain ⟨o2, ho2, hc2, _⟩ := p2
      rw [he] at ho2
      cases ho2
      have z : Value.type "enumerate" = Value.type "tuple" := hc2
      injection z with z
      exact absurd z (by decide)
    have D := Draws.tuple (prog := X.prog) (w := X.w) (A := X.A.in1) (I.ok.hd hc) it a (apart_iter hit p2) its.toArray
    refine wpAny_pyNext_enum_itemD D he ⟨hit, p2⟩ hlt hne (by simp [hne, hea]) fun y h' tk hy ho hst hT hsz hk => ?_
    have ey : y = u := by
      have h2 : its.toArray[i]? = some u := by simpa using hu
      exact Option.some.inj (hy.symm.trans h2)
    subst ey
    refine ⟨_, rfl, wpAny_letOwnedTupleGo_enum (s := { s with heap := h', toks := tk + 1 }) ho fun h'' he' sb => ?_⟩
    have hT2 := (sb.2 _ (Nat.ne_of_gt el)).trans hT
    have new : ObjOk X.prog X.w (upd H s.heap.objs.size (.tup [.int (i : Nat), x])) h'' s.heap.objs.size (.tup [.int (i : Nat), x]) :=
      ⟨(show 2 ≤ sizeLine by decide), [.int i tk, y], .cons ⟨_, rfl⟩ (.cons ru .nil), ⟨_, hT2, rfl, _, rfl⟩⟩
    have I1 : Inv X pins σ (upd H s.heap.objs.size (.tup [.int (i : Nat), x])) { s with heap := h'', toks := tk + 1 } :=
      I.turnedNew (ch := [e, it]) (fun b ob hb q => (sb.2 b (fun z => hb (by simp [z]))).trans (hk b ob (fun z => hb (by simp [z])) (fun z => hb (by simp [z])) q)) hf (Nat.le_refl _) new
    refine ⟨.ref s.heap.objs.size, _, I1, rfl, ⟨_, x, rfl, I.hok.fresh (Nat.le_refl _), rfl, fun ys hy => by rw [I.tuple_inj hy hq]; exact hx⟩, ⟨⟨y, ?_⟩, hst.1.at fun o q => (sb.2 it (Ne.symm hne)).trans q, hne⟩, fun b hb => ?_⟩
    · rw [show ((i + 1 : Nat) : Int) = (i : Int) + 1 by omega]
      exact he'
    · have lt : b < s.heap.objs.size := by
        rcases List.mem_cons.mp hb with rfl | hb
        · exact el
        · obtain rfl : b = it := by simpa using hb
          exact il
      rw [upd_ne (Nat.ne_of_lt lt)]
      exact (hf b hb).1
  done := by
    rintro X rfl rfl rfl hc i pins s σ H E I hf ⟨⟨old, he⟩, hit, hne⟩ ⟨xs, hq, hx⟩
    obtain ⟨its, rv, p, hz⟩ := I.tuple hq
    have p2 : s.heap.IsTuple a its.toArray := p
    obtain ⟨f0, f1, f2, f3, f4, f5⟩ := hf it (by simp)
    have hl := rv.length
    unfold pyNext
    have hT : s.TypeIs (.ref e) "enumerate" := ⟨_, he, rfl⟩
    have none_ : its.toArray[i]? = none := by
      rw [List.getElem?_toArray]
      exact List.getElem?_eq_none (by omega)
    refine wpAny_bind (wpAny_attempt (wpAny_callSpecial?_slot (name := Str.ofString "__next__") hT F.slot_enumerate_next (wpAny_call_entry F.slot_enumerate_next hT F.entry_enumerate_next ?_ (F.args_enumerate_next_1 _))))
    show wpAny _ _ (field (.ref e) 2 >>= _) _ _ _
    refine wpAny_bind (wpAny_field he rfl (x := .ref it) rfl (wpAny_bind (wpAny_nextOf_tuple_end (I.ok.hd hc) hit p2 none_ fun h' y eb hy => ?_)))
    obtain ⟨o, ho, hoc⟩ := hy
    refine wpAny_bind (wpAny_isInstance (T := "StopIteration") (b := true) ⟨o, ho, hoc⟩ isSubtype_stop (wpAny_pure ?_))
    exact ⟨rfl, I.turned (t' := s.toks) (fun b o hb q => eb b o hb q) f0 f1 f3 f4 f5⟩
  self := fun _ _ _ _ _ st h => by
    obtain ⟨⟨_, he⟩, _⟩ := st
    exact wpAny_pyIter_enum he h
def iEnumT (K : PySem.W.Frag) (ta : L2.TA) : TI := fun σ H R => ta σ H fun vs H1 => ∃ (a : Addr) (xs : List V), vs = [.ref a] ∧ SqT K H1 a xs ∧ R (ItE K a) H1
theorem kEnumT (K : PySem.W.Frag) {X : Cx} {e : Expr} {ta : L2.TA} {p pos tpos : Pos} {elts : List Expr} {kk : Nat} (hg : Gl X "enumerate") (hm : X.mg "enumerate" = none) (ha : PA X [e] ta) (hK : X.K = K := by rfl)
    (hs : starEach [e] X.env = [(false, eval e X.env)] := by rfl) : PI X (.Tuple elts kk tpos) (.Call (.Name "enumerate" p) [e] [] pos) (iEnumT K ta) := by
  subst hK
  refine ⟨fun pins s σ H R I h => ?_⟩
  refine Call_ (ld_blt I hg hm boot_enumerate (PyProof.Rows.callWith_type1 (thn (ha.run pos pins s σ H _ I h) fun us s1 ⟨vs, H1, I1, r1, a, xs, ev, hq, q⟩ => ?_) hs rfl))
  subst ev
  cases r1 with
  | cons r rr =>
    cases rr
    cases r
    obtain ⟨its, rv, p', hz⟩ := I1.tuple hq
    have p2 : s1.heap.IsTuple a its.toArray := p'
    refine enumMake (begins_tuple a its.toArray) p2 fun h' he hit hk => wpAny_pyIter_enum he ?_
    refine ⟨s1.heap.objs.size + 1, [s1.heap.objs.size + 1, s1.heap.objs.size], _, _, H1, rfl, I1.kept (t' := s1.toks) hk, turnE a (s1.heap.objs.size + 1) s1.heap.objs.size, ⟨⟨.none, he⟩, ⟨_, hit, rfl, rfl⟩, Nat.succ_ne_self _⟩, fun b hb => ?_, q⟩
    have le_ : s1.heap.objs.size ≤ b := by
      rcases List.mem_cons.mp hb with rfl | hb
      · exact Nat.le_add_right _ _
      · obtain rfl : b = s1.heap.objs.size := by simpa using hb
        exact Nat.le_refl _
    exact I1.fpOk le_ (I1.hok.fresh le_)
/-- a comprehension over such pairs, the tuple staying as it is -/
theorem lc_enumT {K : PySem.W.Frag} {a : Addr} {xs : List V} {g : TG} {tt : TT} {te : TE} {vs : List Nat} {σ : L2.St} {H1 : Hp} {D : Addr} {Qd : Hp → Prop} (Pv : Nat → Hp → Prop) (h0 : Pv 0 (upd H1 D (.lst []))) (hl : ∀ i H, i ≤ xs.length → Pv i H → SqT K H a xs)
    (hs : ∀ i x H p, xs[i]? = some x → Pv i H → H p = none → g (.ref p) (wipe σ vs) (upd H p (.tup [.int (i : Nat), x])) fun σ2 H2 => wipe σ2 vs = wipe σ vs ∧ tt σ2 H2 fun b H3 =>
      if b = true then te σ2 H3 fun y H4 => ∃ acc, H4 D = some (.lst acc) ∧ acc.length < sizeLine ∧ Pv (i + 1) (upd H4 D (.lst (acc ++ [y]))) else Pv (i + 1) H3) (hd : ∀ H, Pv xs.length H → Qd H) :
    ∃ W : Nat → Nat → Hp → Prop, (∃ m, W 0 m (upd H1 D (.lst []))) ∧ ∀ i m H, W i m H →
      ((ItE K a).stop i H ∧ Qd H) ∨ ((ItE K a).go i H ∧ ∃ Nx : Hp → Prop, (∀ H', Nx H' → ∃ m', m' < m ∧ W (i + 1) m' H') ∧ ∀ x H', (ItE K a).yld i H x H' → g x (wipe σ vs) H' fun σ2 H2 => wipe σ2 vs = wipe σ vs ∧ tt σ2 H2 fun b H3 =>
        if b = true then te σ2 H3 fun y H4 => ∃ acc, H4 D = some (.lst acc) ∧ acc.length < sizeLine ∧ Nx (upd H4 D (.lst (acc ++ [y]))) else Nx H3) := by
  refine ⟨fun i m H => m + i = xs.length ∧ Pv i H, ⟨xs.length, rfl, h0⟩, ?_⟩
  rintro i m H ⟨hm, pv⟩
  have q := hl i H (by omega) pv
  by_cases hlt : i < xs.length
  · refine .inr ⟨⟨xs, xs[i], q, by simp [hlt]⟩, Pv (i + 1), fun H' p' => ⟨m - 1, by omega, by omega, p'⟩, ?_⟩
    rintro v H' ⟨p, x, rfl, hp, rfl, hx⟩
    exact hs i x H p (hx xs q) pv hp
  · obtain rfl : i = xs.length := by omega
    exact .inl ⟨⟨xs, q, Nat.le_refl _⟩, hd H pv⟩
/-- the same over a list -/
theorem lc_enumL {K : PySem.W.Frag} {a : Addr} {xs : List V} {g : TG} {tt : TT} {te : TE} {vs : List Nat} {σ : L2.St} {H1 : Hp} {D : Addr} {Qd : Hp → Prop} (Pv : Nat → Hp → Prop) (h0 : Pv 0 (upd H1 D (.lst []))) (hl : ∀ i H, i ≤ xs.length → Pv i H → SqL K H a xs)
    (hs : ∀ i x H p, xs[i]? = some x → Pv i H → H p = none → g (.ref p) (wipe σ vs) (upd H p (.tup [.int (i : Nat), x])) fun σ2 H2 => wipe σ2 vs = wipe σ vs ∧ tt σ2 H2 fun b H3 =>
      if b = true then te σ2 H3 fun y H4 => ∃ acc, H4 D = some (.lst acc) ∧ acc.length < sizeLine ∧ Pv (i + 1) (upd H4 D (.lst (acc ++ [y]))) else Pv (i + 1) H3) (hd : ∀ H, Pv xs.length H → Qd H) :
    ∃ W : Nat → Nat → Hp → Prop, (∃ m, W 0 m (upd H1 D (.lst []))) ∧ ∀ i m H, W i m H →
      ((Ite K a).stop i H ∧ Qd H) ∨ ((Ite K a).go i H ∧ ∃ Nx : Hp → Prop, (∀ H', Nx H' → ∃ m', m' < m ∧ W (i + 1) m' H') ∧ ∀ x H', (Ite K a).yld i H x H' → g x (wipe σ vs) H' fun σ2 H2 => wipe σ2 vs = wipe σ vs ∧ tt σ2 H2 fun b H3 =>
        if b = true then te σ2 H3 fun y H4 => ∃ acc, H4 D = some (.lst acc) ∧ acc.length < sizeLine ∧ Nx (upd H4 D (.lst (acc ++ [y]))) else Nx H3) := by
  refine ⟨fun i m H => m + i = xs.length ∧ Pv i H, ⟨xs.length, rfl, h0⟩, ?_⟩
  rintro i m H ⟨hm, pv⟩
  have q := hl i H (by omega) pv
  by_cases hlt : i < xs.length
  · refine .inr ⟨⟨xs, xs[i], q, by simp [hlt]⟩, Pv (i + 1), fun H' p' => ⟨m - 1, by omega, by omega, p'⟩, ?_⟩
    rintro v H' ⟨p, x, rfl, hp, rfl, hx⟩
    exact hs i x H p (hx xs q) pv hp
  · obtain rfl : i = xs.length := by omega
    exact .inl ⟨⟨xs, q, Nat.le_refl _⟩, hd H pv⟩
section
variable {K : PySem.W.Frag} {M N : List Addr} {g : TG} {tt : TT} {te : TE} {vs : List Nat} {σ : L2.St} {H1 : Hp} {D : Addr} {Qd : Hp → Prop}
/-- lcT, and the new list is known to be there -/
theorem lcT2 {a : Addr} {xs : List V} {ds : List PyData} (J : Nat → Hp → Prop) (keep : PyData → Bool) (f : PyData → PyData → Prop) (ha : H1 a = some (.tup xs)) (na : a ∉ M) (ht : TA K M H1 xs ds) (hl : ds.length ≤ 100000)
    (hNM : ∀ b ∈ N, b ∈ M) (hN : ∀ b ∈ M, H1 b ≠ none) (hD : H1 D = none) (j0 : J 0 H1) (hJ : ∀ i H o, J i H → J i (upd H D o))
    (turn : ∀ i x d H, ds[i]? = some d → T K (D :: M) H x d → Ext N H1 H → J i H → H D ≠ none → ∀ (Ky : V → Hp → Prop) (Kn : Hp → Prop), (keep d = false → ∀ H', Ext N H H' → J (i + 1) H' → Kn H') →
      (keep d = true → ∀ H' y e, Ext N H H' → J (i + 1) H' → T K (D :: M) H' y e → f d e → Ky y H') → Turn g tt te vs σ x H Ky Kn)
    (hd : ∀ H ys es, Ext N H1 H → J ds.length H → H D = some (.lst ys) → TA K M H ys es → Paired f (ds.filter keep) es → Qd H) :
    ∃ W : Nat → Nat → Hp → Prop, (∃ m, W 0 m (upd H1 D (.lst []))) ∧ ∀ i m H, W i m H →
      ((Itt K a).stop i H ∧ Qd H) ∨ ((Itt K a).go i H ∧ ∃ Nx : Hp → Prop, (∀ H', Nx H' → ∃ m', m' < m ∧ W (i + 1) m' H') ∧ ∀ x H', (Itt K a).yld i H x H' → g x (wipe σ vs) H' fun σ2 H2 => wipe σ2 vs = wipe σ vs ∧ tt σ2 H2 fun b H3 =>
        if b = true then te σ2 H3 fun y H4 => ∃ acc, H4 D = some (.lst acc) ∧ acc.length < sizeLine ∧ Nx (upd H4 D (.lst (acc ++ [y]))) else Nx H3) := by
  have hDM : D ∉ M := fun z => hN D z hD
  have hDN : D ∉ N := fun z => hDM (hNM D z)
  have naN : a ∉ N := fun z => na (hNM a z)
  have hT : TA K (D :: M) H1 xs ds := ht.plus hD
  refine lc_tup (K := K) (a := a) (xs := xs) (fun i H => Sofar K (D :: M) N H1 D J keep f ds i H) ⟨[], [], Ext.new hD, hJ _ _ _ j0, upd_same, .nil, by simpa using Paired.nil⟩ (fun i H _ p => ?_) (fun i x H hx p => ?_) (fun H p => ?_)
  · obtain ⟨_, _, e, _⟩ := p
    exact SqT.of (e _ _ naN ha)
  · obtain ⟨d, hdi, td⟩ := hT.get hx
    have e := let ⟨_, _, e, _⟩ := p; e
    have j := let ⟨_, _, _, j, _⟩ := p; j
    have hy : H D ≠ none := let ⟨_, _, _, _, h, _⟩ := p; fun z => by rw [z] at h; cases h
    exact sofar_turn hl hNM hDN hDM hD hJ hdi p (turn i x d H hdi (td.ext (e.sub fun b hb => List.mem_cons_of_mem _ (hNM b hb))) e j hy)
  · obtain ⟨ys, es, e, j, h1, h2, h3⟩ := p
    rw [ht.len, List.take_length] at h3
    rw [ht.len] at j
    exact hd H ys es e j h1 (h2.off fun b hb => List.mem_cons_of_mem _ hb) h3
/-- lcL, and the new list is known to be there -/
theorem lcL2 {a : Addr} {xs : List V} {ds : List PyData} (J : Nat → Hp → Prop) (keep : PyData → Bool) (f : PyData → PyData → Prop) (ha : H1 a = some (.lst xs)) (na : a ∉ M) (ht : TA K M H1 xs ds) (hl : ds.length ≤ 100000)
    (hNM : ∀ b ∈ N, b ∈ M) (hN : ∀ b ∈ M, H1 b ≠ none) (hD : H1 D = none) (j0 : J 0 H1) (hJ : ∀ i H o, J i H → J i (upd H D o))
    (turn : ∀ i x d H, ds[i]? = some d → T K (D :: M) H x d → Ext N H1 H → J i H → H D ≠ none → ∀ (Ky : V → Hp → Prop) (Kn : Hp → Prop), (keep d = false → ∀ H', Ext N H H' → J (i + 1) H' → Kn H') →
      (keep d = true → ∀ H' y e, Ext N H H' → J (i + 1) H' → T K (D :: M) H' y e → f d e → Ky y H') → Turn g tt te vs σ x H Ky Kn)
    (hd : ∀ H ys es, Ext N H1 H → J ds.length H → H D = some (.lst ys) → TA K M H ys es → Paired f (ds.filter keep) es → Qd H) :
    ∃ W : Nat → Nat → Hp → Prop, (∃ m, W 0 m (upd H1 D (.lst []))) ∧ ∀ i m H, W i m H →
      ((Itl K a).stop i H ∧ Qd H) ∨ ((Itl K a).go i H ∧ ∃ Nx : Hp → Prop, (∀ H', Nx H' → ∃ m', m' < m ∧ W (i + 1) m' H') ∧ ∀ x H', (Itl K a).yld i H x H' → g x (wipe σ vs) H' fun σ2 H2 => wipe σ2 vs = wipe σ vs ∧ tt σ2 H2 fun b H3 =>
        if b = true then te σ2 H3 fun y H4 => ∃ acc, H4 D = some (.lst acc) ∧ acc.length < sizeLine ∧ Nx (upd H4 D (.lst (acc ++ [y]))) else Nx H3) := by
  have hDM : D ∉ M := fun z => hN D z hD
  have hDN : D ∉ N := fun z => hDM (hNM D z)
  have naN : a ∉ N := fun z => na (hNM a z)
  have hT : TA K (D :: M) H1 xs ds := ht.plus hD
  refine lc_list (K := K) (a := a) (xs := xs) (fun i H => Sofar K (D :: M) N H1 D J keep f ds i H) ⟨[], [], Ext.new hD, hJ _ _ _ j0, upd_same, .nil, by simpa using Paired.nil⟩ (fun i H _ p => ?_) (fun i x H hx p => ?_) (fun H p => ?_)
  · obtain ⟨_, _, e, _⟩ := p
    exact SqL.of (e _ _ naN ha)
  · obtain ⟨d, hdi, td⟩ := hT.get hx
    have e := let ⟨_, _, e, _⟩ := p; e
    have j := let ⟨_, _, _, j, _⟩ := p; j
    have hy : H D ≠ none := let ⟨_, _, _, _, h, _⟩ := p; fun z => by rw [z] at h; cases h
    exact sofar_turn hl hNM hDN hDM hD hJ hdi p (turn i x d H hdi (td.ext (e.sub fun b hb => List.mem_cons_of_mem _ (hNM b hb))) e j hy)
  · obtain ⟨ys, es, e, j, h1, h2, h3⟩ := p
    rw [ht.len, List.take_length] at h3
    rw [ht.len] at j
    exact hd H ys es e j h1 (h2.off fun b hb => List.mem_cons_of_mem _ hb) h3
/-- lcR, and the new list is known to be there -/
theorem lcR2 {n : Nat} (J : Nat → Hp → Prop) (keep : PyData → Bool) (f : PyData → PyData → Prop) (hl : n ≤ 100000)
    (hNM : ∀ b ∈ N, b ∈ M) (hN : ∀ b ∈ M, H1 b ≠ none) (hD : H1 D = none) (j0 : J 0 H1) (hJ : ∀ i H o, J i H → J i (upd H D o))
    (turn : ∀ (i : Nat) H, i < n → Ext N H1 H → J i H → H D ≠ none → ∀ (Ky : V → Hp → Prop) (Kn : Hp → Prop), (keep (.int (i : Int)) = false → ∀ H', Ext N H H' → J (i + 1) H' → Kn H') →
      (keep (.int (i : Int)) = true → ∀ H' y e, Ext N H H' → J (i + 1) H' → T K (D :: M) H' y e → f (.int (i : Int)) e → Ky y H') → Turn g tt te vs σ (.int (i : Int)) H Ky Kn)
    (hd : ∀ H ys es, Ext N H1 H → J n H → H D = some (.lst ys) → TA K M H ys es → Paired f (((List.range n).map fun i : Nat => PyData.int (i : Int)).filter keep) es → Qd H) :
    ∃ W : Nat → Nat → Hp → Prop, (∃ m, W 0 m (upd H1 D (.lst []))) ∧ ∀ i m H, W i m H →
      ((Itr 0 n).stop i H ∧ Qd H) ∨ ((Itr 0 n).go i H ∧ ∃ Nx : Hp → Prop, (∀ H', Nx H' → ∃ m', m' < m ∧ W (i + 1) m' H') ∧ ∀ x H', (Itr 0 n).yld i H x H' → g x (wipe σ vs) H' fun σ2 H2 => wipe σ2 vs = wipe σ vs ∧ tt σ2 H2 fun b H3 =>
        if b = true then te σ2 H3 fun y H4 => ∃ acc, H4 D = some (.lst acc) ∧ acc.length < sizeLine ∧ Nx (upd H4 D (.lst (acc ++ [y]))) else Nx H3) := by
  have hDM : D ∉ M := fun z => hN D z hD
  have hDN : D ∉ N := fun z => hDM (hNM D z)
  refine lc_range (lo := 0) (n := n) (fun i H => Sofar K (D :: M) N H1 D J keep f ((List.range n).map fun i : Nat => PyData.int (i : Int)) i H) ⟨[], [], Ext.new hD, hJ _ _ _ j0, upd_same, .nil, by simpa using Paired.nil⟩ (fun i H hi p => ?_) (fun H p => ?_)
  · have e := let ⟨_, _, e, _⟩ := p; e
    have j := let ⟨_, _, _, j, _⟩ := p; j
    have z : (0 : Int) + (i : Int) = (i : Int) := Int.zero_add _
    rw [z]
    have hy : H D ≠ none := let ⟨_, _, _, _, h, _⟩ := p; fun z => by rw [z] at h; cases h
    exact sofar_turn (d := .int (i : Int)) (by simpa using hl) hNM hDN hDM hD hJ (by simp [hi]) p (turn i H hi e j hy)
  · obtain ⟨ys, es, e, j, h1, h2, h3⟩ := p
    rw [List.take_of_length_le (by simp)] at h3
    exact hd H ys es e j h1 (h2.off fun b hb => List.mem_cons_of_mem _ hb) h3
end
end U

set_option Elab.async false
set_option linter.all false
set_option maxRecDepth 100000
set_option maxHeartbeats 4000000
namespace U
open PySem PySem.Spec PyProof.Rows L2
section
open AutoSeq1 (wpAny_loadPart')
theorem tupTimes1 (l : Addr) (its : Array Value) (n : Nat) (dd : Option Addr) (sl : Array (Option Value)) (u : Tok) :
    Meets (Builtin.«tuple.__mul__» ⟨[.ref l, .int 1 u], []⟩) (fun _ R z => z.heap.get? l = some { cls := .type "tuple", dict := dd, data := .seq its n, slots := sl } ∧ R (.ok (.ret (Value.ref l))) z) :=
  .of_wp fun prog w A R z h => by
    obtain ⟨p0, g, d, k0, os⟩ := z
    obtain ⟨hl, h⟩ := h
    have f1 := AutoSeq1.idx_int
    wp_walk using wpAny_loadPart' hl
    exact ⟨_, rfl, h⟩
end
/-- a tuple k times, k from 1 on; once is the tuple itself -/
def rTimes (K : PySem.W.Frag) : R2 := fun x y H Q => ∃ (l : Addr) (k : Int) (xs : List V), x = .ref l ∧ y = .int k ∧ SqT K H l xs ∧ xs ≠ [] ∧ 1 ≤ k ∧ k ≤ 1000 ∧ xs.length ≤ 1000 ∧ (k = 1 → Q (.ref l) H) ∧ (2 ≤ k → ∀ p, H p = none → Q (.ref p) (upd H p (.tup (List.replicate k.toNat xs).flatten)))
theorem op_times {X : Cx} : OpR X (binaryOp .Mult) (rTimes X.K) := by
  intro pins z σ H x y v u Q I rx ry h
  obtain ⟨l, k, xs, rfl, rfl, hT, hne, k1, k2, hz, q1, q2⟩ := h
  by_cases e : k = 1
  · subst e
    have q1 := q1 rfl
    have rx' : RelV (.ref l) v := rx
    cases rx
    obtain ⟨t, rfl⟩ := ry
    obtain ⟨its, r, ⟨⟨cls, dd, data, sl⟩, ho, hc, m, hd⟩, hs⟩ := I.tuple hT
    simp only at hc hd
    subst hc hd
    exact wpAny_binaryOp_repeat_ref (T := "tuple") (U := "int") (by decide) ⟨_, ho, rfl⟩ (fun z' => typeIs_int z' 1 t) noFill_tuple_mul F.fills_int_mul F.slot_int_rmul repeat_tuple F.slot_int_index.lookup
      (call_meets F.slot_int_rmul (typeIs_int z 1 t) F.entry_int_rmul (F.args_int_rmul_2 _ _) (int_rmul_tuple 1 t l its.toArray m dd sl)
        ⟨ho, rfl, ⟨_, ho, rfl⟩, call_meets F.slot_tuple_mul ⟨_, ho, rfl⟩ F.entry_tuple_mul (F.args_tuple_mul_2 _ _) (tupTimes1 l its.toArray m dd sl t) ⟨ho, ⟨.ref l, H, I, rx', q1⟩⟩⟩)
  · exact op_repT pins z σ H (.ref l) (.int k) v u Q I rx ry ⟨l, k, xs, rfl, rfl, hT, hne, by omega, k2, hz, q2 (by omega)⟩
theorem kTimes (K : PySem.W.Frag) {X : Cx} (h : X.K = K := by rfl) : OpR X (binaryOp .Mult) (rTimes K) := by subst h; exact op_times
end U

set_option Elab.async false
set_option linter.all false
set_option maxRecDepth 100000
set_option maxHeartbeats 2000000
namespace U
open PySem PySem.Spec PyProof.Rows L2

/-! ### places more -/
section
variable {K : PySem.W.Frag} {N N' : List Addr} {H : Hp}
mutual
theorem T.plusAll (s : ∀ b ∈ N', b ∈ N ∨ H b = none) : ∀ {v : V} {d : PyData}, T K N H v d → T K N' H v d
  | _, _, .non => .non
  | _, _, .bl b => .bl b
  | _, _, .int i => .int i
  | _, _, .str x => .str x
  | _, _, .lst n h t => .lst (fun z => (s _ z).elim n fun q => by rw [q] at h; cases h) h (TA.plusAll s t)
  | _, _, .tup n h t => .tup (fun z => (s _ z).elim n fun q => by rw [q] at h; cases h) h (TA.plusAll s t)
  | _, _, .dct n h t => .dct (fun z => (s _ z).elim n fun q => by rw [q] at h; cases h) h (TK.plusAll s t)
theorem TA.plusAll (s : ∀ b ∈ N', b ∈ N ∨ H b = none) : ∀ {vs : List V} {ds : List PyData}, TA K N H vs ds → TA K N' H vs ds
  | _, _, .nil => .nil
  | _, _, .cons h t => .cons (T.plusAll s h) (TA.plusAll s t)
theorem TK.plusAll (s : ∀ b ∈ N', b ∈ N ∨ H b = none) : ∀ {kvs : List (Key × V)} {es : List (PyData × PyData)}, TK K N H kvs es → TK K N' H kvs es
  | _, _, .nil => .nil
  | _, _, .cons h g t => .cons (T.plusAll s h) (T.plusAll s g) (TK.plusAll s t)
end
end

/-! ### worlds: the places that are written from outside, and what is known of them -/
structure Wd (γ : Type) where
  M : List Addr
  /-- N: the places that data keep off (the own ones and M) -/
  I : γ → List Addr → Hp → Prop
  loc : ∀ k N H H', (∀ b, b ∈ M → H' b = H b) → Ext N H H' → I k N H → I k N H'
  plus : ∀ k N N' H, (∀ b, b ∈ N' → b ∈ N ∨ H b = none) → (∀ b, b ∈ M → b ∈ N') → I k N H → I k N' H
  trk : ∀ k N H, I k N H → Trk M H
/-- nothing at M is written -/
def pureW (M : List Addr) (Hs : Hp) (t : Trk M Hs) : Wd Nat where
  M := M
  I := fun _ _ H => ∀ b, b ∈ M → H b = Hs b
  loc := fun _ _ _ _ e _ h b hb => (e b hb).trans (h b hb)
  plus := fun _ _ _ _ _ _ h => h
  trk := fun _ _ _ h b hb z => t b hb ((h b hb).symm.trans z)

inductive Slot where
  | no
  | dat (d : PyData)
  | own (ds : List PyData)
  | ownD (kvs : List (Key × PyData))
  | lck (kvs : List (Key × PyData))
  | raw (v : V)
  /-- an inner def -/
  | fn (mk : Addr → NdefX.NF)
  /-- a dict of its own whose keys are tuples: D tells its object -/
  | ownN (D : Addr → List (NestedKey × Addr × V) → HO) (kvs : List (NestedKey × PyData))
def Slot.isOwn : Slot → Bool | .own _ => true | .ownD _ => true | .lck _ => true | .ownN _ _ => true | _ => false
abbrev Rho := List Slot
inductive KD (K : PySem.W.Frag) (M : List Addr) (H : Hp) : List (Key × V) → List (Key × PyData) → Prop
  | nil : KD K M H [] []
  | cons {k : Key} {v : V} {d : PyData} {vs : List (Key × V)} {ds : List (Key × PyData)} : T K M H v d → KD K M H vs ds → KD K M H ((k, v) :: vs) ((k, d) :: ds)
theorem KD.map {K : PySem.W.Frag} {M M' : List Addr} {H H' : Hp} (f : ∀ v d, T K M H v d → T K M' H' v d) : ∀ {vs : List (Key × V)} {ds : List (Key × PyData)}, KD K M H vs ds → KD K M' H' vs ds
  | _, _, .nil => .nil
  | _, _, .cons h t => .cons (f _ _ h) (KD.map f t)
mutual
/-- a datum as a key -/
def nkey : PyData → Option NestedKey
  | .none => some .none
  | .bool b => some (.num (if b = true then 1 else 0))
  | .int i => some (.num i)
  | .str x => some (.text x)
  | .tuple ds => (nkeys ds).map .tup
  | _ => Option.none
def nkeys : List PyData → Option (List NestedKey)
  | [] => some []
  | d :: ds => match nkey d, nkeys ds with
    | some k, some ks => some (k :: ks)
    | _, _ => Option.none
end
inductive KN (K : PySem.W.Frag) (M : List Addr) (H : Hp) : List (NestedKey × Addr × V) → List (NestedKey × PyData) → Prop
  | nil : KN K M H [] []
  | cons {k : NestedKey} {a : Addr} {v : V} {e d : PyData} {xs : List (NestedKey × Addr × V)} {ds : List (NestedKey × PyData)} : nkey e = some k → k.depth ≤ 8 → T K M H (.ref a) e → T K M H v d → KN K M H xs ds → KN K M H ((k, a, v) :: xs) ((k, d) :: ds)
theorem KN.map {K : PySem.W.Frag} {M M' : List Addr} {H H' : Hp} (f : ∀ v d, T K M H v d → T K M' H' v d) : ∀ {xs : List (NestedKey × Addr × V)} {ds : List (NestedKey × PyData)}, KN K M H xs ds → KN K M' H' xs ds
  | _, _, .nil => .nil
  | _, _, .cons e dp h g t => .cons e dp (f _ _ h) (f _ _ g) (KN.map f t)
theorem TA.mapT {K : PySem.W.Frag} {M M' : List Addr} {H H' : Hp} (f : ∀ v d, T K M H v d → T K M' H' v d) : ∀ {vs : List V} {ds : List PyData}, TA K M H vs ds → TA K M' H' vs ds
  | _, _, .nil => .nil
  | _, _, .cons h t => .cons (f _ _ h) (TA.mapT f t)
def SlotOk (K : PySem.W.Frag) (N L : List Addr) (H : Hp) (o : Option (Option V)) : Slot → Prop
  | .no => True
  | .dat d => ∃ v, o = some (some v) ∧ T K N H v d
  | .own ds => ∃ l xs, o = some (some (.ref l)) ∧ l ∈ L ∧ H l = some (.lst xs) ∧ TA K N H xs ds
  | .ownD kvs => ∃ l vs, o = some (some (.ref l)) ∧ l ∈ L ∧ H l = some (.dK vs) ∧ KD K N H vs kvs
  | .lck kvs => ∃ l vs od, o = some (some (.ref l)) ∧ l ∈ L ∧ H l = some (.frz od (.dK vs)) ∧ KD K N H vs kvs
  | .raw v => o = some (some v)
  | .fn mk => ∃ f c, o = some (some (.ref f)) ∧ f ∉ N ∧ c ∉ N ∧ H f = some (NdefX.FnO f (mk c)) ∧ H c = some (LamX.CodeO c (mk c).qual)
  | .ownN D kvs => ∃ l xs, o = some (some (.ref l)) ∧ l ∈ L ∧ H l = some (D l xs) ∧ KN K N H xs kvs
/-- the slots and the heap as they are told: since H0 (whose own places are L0) -/
structure Stt (K : PySem.W.Frag) {γ : Type} (W : Wd γ) (L0 : List Addr) (H0 : Hp) (L : List Addr) (H : Hp) (σ : L2.St) (ρ : Rho) (k : γ) : Prop where
  base : Ext (L0 ++ W.M) H0 H
  fresh : ∀ l ∈ L, l ∈ L0 ∨ H0 l = none
  offM : ∀ l ∈ L, l ∉ W.M
  trk : Trk (L ++ W.M) H
  wd : W.I k (L ++ W.M) H
  len : ρ.length = σ.length
  slots : ∀ (i : Nat) (s : Slot), ρ[i]? = some s → SlotOk K (L ++ W.M) L H σ[i]? s
  dis : ∀ (i j : Nat) (s t : Slot), ρ[i]? = some s → ρ[j]? = some t → s.isOwn = true → t.isOwn = true → σ[i]? = σ[j]? → i = j

structure Later {γ : Type} (W : Wd γ) (L1 : List Addr) (H1 : Hp) (L : List Addr) (H : Hp) : Prop where
  ext : Ext (L1 ++ W.M) H1 H
  fresh : ∀ l ∈ L, l ∈ L1 ∨ H1 l = none
  trk : Trk (L ++ W.M) H
section
variable {K : PySem.W.Frag} {γ : Type} {W : Wd γ} {L0 L1 L L' : List Addr} {H0 H1 H H' : Hp} {σ σ' : L2.St} {ρ ρ' : Rho} {k k' : γ} {v : V} {d : PyData}
theorem Later.T (l : Later W L1 H1 L H) (t : T K (L1 ++ W.M) H1 v d) : T K (L ++ W.M) H v d := by
  have t1 : U.T K (L ++ (L1 ++ W.M)) H1 v d := t.plusAll fun b hb => by
    rcases List.mem_append.mp hb with hb | hb
    · rcases l.fresh b hb with h | h
      · exact .inl (List.mem_append_left _ h)
      · exact .inr h
    · exact .inl hb
  have t2 := t1.ext (l.ext.sub fun b hb => List.mem_append_right _ hb)
  exact t2.off fun b hb => by
    rcases List.mem_append.mp hb with hb | hb
    · exact List.mem_append_left _ hb
    · exact List.mem_append_right _ (List.mem_append_right _ hb)
theorem Stt.later (S : Stt K W L0 H0 L H σ ρ k) : Later W L0 H0 L H := ⟨S.base, S.fresh, S.trk⟩
theorem Stt.rebase (S : Stt K W L0 H0 L H σ ρ k) : Stt K W L H L H σ ρ k := ⟨Ext.refl _ _, fun _ h => .inl h, S.offM, S.trk, S.wd, S.len, S.slots, S.dis⟩
theorem Stt.back (S1 : Stt K W L0 H0 L1 H1 σ ρ k) (S : Stt K W L1 H1 L H σ' ρ' k') : Stt K W L0 H0 L H σ' ρ' k' := by
  have e : Ext (L0 ++ W.M) H0 H := fun b o nb hb => by
    refine S.base b o (fun z => ?_) (S1.base b o nb hb)
    rcases List.mem_append.mp z with z | z
    · rcases S1.fresh b z with q | q
      · exact nb (List.mem_append_left _ q)
      · rw [q] at hb; cases hb
    · exact nb (List.mem_append_right _ z)
  refine ⟨e, fun l hl => ?_, S.offM, S.trk, S.wd, S.len, S.slots, S.dis⟩
  rcases S.fresh l hl with q | q
  · exact S1.fresh l q
  · by_cases h0 : l ∈ L0
    · exact .inl h0
    · right
      cases h : H0 l with
      | none => rfl
      | some o =>
        have nb : l ∉ L0 ++ W.M := fun z => (List.mem_append.mp z).elim h0 (S.offM l hl)
        rw [S1.base l o nb h] at q
        cases q
theorem Stt.tM (S : Stt K W L0 H0 L H σ ρ k) (t : T K (L ++ W.M) H v d) : T K W.M H v d := t.off fun b hb => List.mem_append_right _ hb
/-- a heap in which the places of M alone have changed, or new ones have come -/
theorem Stt.ext (S : Stt K W L0 H0 L H σ ρ k) (e : Ext W.M H H') (wd : W.I k' (L ++ W.M) H') : Stt K W L0 H0 L H' σ ρ k' := by
  have e1 : Ext (L ++ W.M) H H' := e.sub fun b hb => List.mem_append_right _ hb
  refine ⟨S.base.trans (e.sub fun b hb => List.mem_append_right _ hb), S.fresh, S.offM, ?_, wd, S.len, fun i s hs => ?_, S.dis⟩
  · intro b hb
    rcases List.mem_append.mp hb with h | h
    · cases q : H b with
      | none => exact absurd q (S.trk b hb)
      | some o => rw [e b o (S.offM b h) q]; simp
    · exact W.trk _ _ _ wd b h
  · have q := S.slots i s hs
    cases s with
    | no => trivial
    | dat d =>
      obtain ⟨v, h1, h2⟩ := q
      exact ⟨v, h1, h2.ext e1⟩
    | own ds =>
      obtain ⟨l, xs, h1, h2, h3, h4⟩ := q
      exact ⟨l, xs, h1, h2, e l _ (S.offM l h2) h3, h4.ext e1⟩
    | ownD kvs =>
      obtain ⟨l, xs, h1, h2, h3, h4⟩ := q
      exact ⟨l, xs, h1, h2, e l _ (S.offM l h2) h3, h4.map fun _ _ t => t.ext e1⟩
    | lck kvs =>
      obtain ⟨l, xs, od, h1, h2, h3, h4⟩ := q
      exact ⟨l, xs, od, h1, h2, e l _ (S.offM l h2) h3, h4.map fun _ _ t => t.ext e1⟩
    | raw v => exact q
    | fn F =>
      obtain ⟨f, c, h1, h2, h3, h4, h5⟩ := q
      exact ⟨f, c, h1, h2, h3, e1 f _ h2 h4, e1 c _ h3 h5⟩
    | ownN D kvs =>
      obtain ⟨l, xs, h1, h2, h3, h4⟩ := q
      exact ⟨l, xs, h1, h2, e l _ (S.offM l h2) h3, h4.map fun _ _ t => t.ext e1⟩
theorem Stt.same (S : Stt K W L0 H0 L H σ ρ k) (e : Same H H') : Stt K W L0 H0 L H' σ ρ k := by
  refine S.ext (Ext.same e) (W.loc k _ H H' (fun b hb => ?_) (Ext.same e) S.wd)
  cases q : H b with
  | none => exact absurd q (W.trk _ _ _ S.wd b hb)
  | some o => exact e b o q
theorem Stt.new (S : Stt K W L0 H0 L H σ ρ k) {p : Addr} {o : HO} (hp : H p = none) : Stt K W L0 H0 L (upd H p o) σ ρ k := S.same (Same.new hp)
theorem Stt.nin (S : Stt K W L0 H0 L H σ ρ k) {p : Addr} (hp : H p = none) : p ∉ L ++ W.M := S.trk.new hp
/-- the world, when a new place becomes one's own -/
theorem Stt.wdNew (S : Stt K W L0 H0 L H σ ρ k) {p : Addr} {o : HO} (hp : H p = none) : W.I k (p :: L ++ W.M) (upd H p o) := by
  have npM : p ∉ W.M := fun z => S.nin hp (List.mem_append_right _ z)
  refine W.loc k _ H _ (fun b hb => ?_) (Ext.put (by simp)) (W.plus k (L ++ W.M) _ H (fun b hb => ?_) (fun b hb => List.mem_append_right _ hb) S.wd)
  · rw [upd_ne (by rintro rfl; exact npM hb)]
  · rcases List.mem_cons.mp hb with rfl | hb
    · exact .inr hp
    · exact .inl hb
/-- .. when own places are given away -/
theorem Stt.wdSub (S : Stt K W L0 H0 L H σ ρ k) {L' : List Addr} (h : ∀ b ∈ L', b ∈ L) : W.I k (L' ++ W.M) H :=
  W.plus k _ _ H (fun b hb => .inl ((List.mem_append.mp hb).elim (fun z => List.mem_append_left _ (h b z)) fun z => List.mem_append_right _ z)) (fun b hb => List.mem_append_right _ hb) S.wd
theorem Stt.wdM (S : Stt K W L0 H0 L H σ ρ k) : W.I k W.M H := S.wdSub (L' := []) fun _ h => nomatch h
/-- a slot takes a datum -/
theorem Stt.set (S : Stt K W L0 H0 L H σ ρ k) (i : Nat) (t : T K (L ++ W.M) H v d) : Stt K W L0 H0 L H (σ.set i (some v)) (ρ.set i (.dat d)) k := by
  refine ⟨S.base, S.fresh, S.offM, S.trk, S.wd, by rw [List.length_set, List.length_set]; exact S.len, fun j s hs => ?_, fun j l s t' hs ht h1 h2 h3 => ?_⟩
  · by_cases e : i = j
    · subst e
      rw [List.getElem?_set_self'] at hs
      cases q : ρ[i]? with
      | none => rw [q] at hs; cases hs
      | some u =>
        rw [q] at hs
        have hs' : Slot.dat d = s := by simpa using hs
        subst hs'
        have hl : i < σ.length := by rw [← S.len]; exact (List.getElem?_eq_some_iff.mp q).1
        exact ⟨v, by simp [hl], t⟩
    · rw [List.getElem?_set_ne e] at hs ⊢
      exact S.slots j s hs
  · have nj : i ≠ j := by
      rintro rfl
      rw [List.getElem?_set_self'] at hs
      cases q : ρ[i]? with
      | none => rw [q] at hs; cases hs
      | some u =>
        rw [q] at hs
        have hs' : Slot.dat d = s := by simpa using hs
        subst hs'
        cases h1
    have nl : i ≠ l := by
      rintro rfl
      rw [List.getElem?_set_self'] at ht
      cases q : ρ[i]? with
      | none => rw [q] at ht; cases ht
      | some u =>
        rw [q] at ht
        have hs' : Slot.dat d = t' := by simpa using ht
        subst hs'
        cases h2
    rw [List.getElem?_set_ne nj] at hs h3
    rw [List.getElem?_set_ne nl] at ht h3
    exact S.dis j l s t' hs ht h1 h2 h3
/-- a slot takes a thing as it is -/
theorem Stt.setRaw (S : Stt K W L0 H0 L H σ ρ k) (i : Nat) : Stt K W L0 H0 L H (σ.set i (some v)) (ρ.set i (.raw v)) k := by
  refine ⟨S.base, S.fresh, S.offM, S.trk, S.wd, by rw [List.length_set, List.length_set]; exact S.len, fun j s hs => ?_, fun j l s t' hs ht h1 h2 h3 => ?_⟩
  · by_cases e : i = j
    · subst e
      rw [List.getElem?_set_self'] at hs
      cases q : ρ[i]? with
      | none => rw [q] at hs; cases hs
      | some u =>
        rw [q] at hs
        have hs' : Slot.raw v = s := by simpa using hs
        subst hs'
        have hl : i < σ.length := by rw [← S.len]; exact (List.getElem?_eq_some_iff.mp q).1
        show (σ.set i (some v))[i]? = some (some v)
        simp [hl]
    · rw [List.getElem?_set_ne e] at hs ⊢
      exact S.slots j s hs
  · have nj : i ≠ j := by
      rintro rfl
      rw [List.getElem?_set_self'] at hs
      cases q : ρ[i]? with
      | none => rw [q] at hs; cases hs
      | some u =>
        rw [q] at hs
        have hs' : Slot.raw v = s := by simpa using hs
        subst hs'
        cases h1
    have nl : i ≠ l := by
      rintro rfl
      rw [List.getElem?_set_self'] at ht
      cases q : ρ[i]? with
      | none => rw [q] at ht; cases ht
      | some u =>
        rw [q] at ht
        have hs' : Slot.raw v = t' := by simpa using ht
        subst hs'
        cases h2
    rw [List.getElem?_set_ne nj] at hs h3
    rw [List.getElem?_set_ne nl] at ht h3
    exact S.dis j l s t' hs ht h1 h2 h3
/-- a slot takes a new list of its own, made at p -/
theorem Stt.setOwn (S : Stt K W L0 H0 L H σ ρ k) (i : Nat) {p : Addr} {o : HO} {s0 : Slot} (hi : s0.isOwn = true) (hp : H p = none)
    (hs0 : SlotOk K (p :: L ++ W.M) (p :: L) (upd H p o) (some (some (.ref p))) s0) : Stt K W L0 H0 (p :: L) (upd H p o) (σ.set i (some (.ref p))) (ρ.set i s0) k := by
  have np := S.nin hp
  have S1 := S.new (o := o) hp
  have npM : p ∉ W.M := fun z => np (List.mem_append_right _ z)
  have up : ∀ v d, T K (L ++ W.M) H v d → T K (p :: L ++ W.M) (upd H p o) v d := fun v d t => (t.plus hp).ext (Ext.put (by simp))
  have hf : H0 p = none ∨ p ∈ L0 := by
    by_cases h0 : p ∈ L0
    · exact .inr h0
    · left
      cases h : H0 p with
      | none => rfl
      | some o =>
        rw [S.base p o (fun z => (List.mem_append.mp z).elim h0 npM) h] at hp
        cases hp
  have old : ∀ j s, j ≠ i → (ρ.set i s0)[j]? = some s → SlotOk K (L ++ W.M) L H σ[j]? s := fun j s hj hs => by
    rw [List.getElem?_set_ne (fun e => hj e.symm)] at hs
    exact S.slots j s hs
  refine ⟨S1.base, fun l hl => ?_, fun l hl => ?_, ?_, S.wdNew hp, by rw [List.length_set, List.length_set]; exact S.len, fun j s hs => ?_, fun j l s t' hs ht h1 h2 h3 => ?_⟩
  · rcases List.mem_cons.mp hl with rfl | hl
    · exact hf.symm
    · exact S.fresh l hl
  · rcases List.mem_cons.mp hl with rfl | hl
    · exact npM
    · exact S.offM l hl
  · intro b hb z
    rcases List.mem_cons.mp hb with rfl | hb
    · rw [upd_same] at z; cases z
    · exact S1.trk b hb z
  · by_cases e : j = i
    · subst e
      rw [List.getElem?_set_self'] at hs
      cases q : ρ[j]? with
      | none => rw [q] at hs; cases hs
      | some u =>
        rw [q] at hs
        have hs' : s0 = s := by simpa using hs
        subst hs'
        have hl : j < σ.length := by rw [← S.len]; exact (List.getElem?_eq_some_iff.mp q).1
        have : (σ.set j (some (V.ref p)))[j]? = some (some (.ref p)) := by simp [hl]
        rw [this]
        exact hs0
    · have q := old j s e hs
      rw [List.getElem?_set_ne (fun z => e z.symm)]
      cases s with
      | no => trivial
      | dat d =>
        obtain ⟨v, h1, h2⟩ := q
        exact ⟨v, h1, up _ _ h2⟩
      | own ds =>
        obtain ⟨l, xs, h1, h2, h3, h4⟩ := q
        exact ⟨l, xs, h1, List.mem_cons_of_mem _ h2, by rw [upd_ne (ne_of_none h3 hp)]; exact h3, h4.mapT up⟩
      | ownD kvs =>
        obtain ⟨l, xs, h1, h2, h3, h4⟩ := q
        exact ⟨l, xs, h1, List.mem_cons_of_mem _ h2, by rw [upd_ne (ne_of_none h3 hp)]; exact h3, h4.map up⟩
      | lck kvs =>
        obtain ⟨l, xs, od, h1, h2, h3, h4⟩ := q
        exact ⟨l, xs, od, h1, List.mem_cons_of_mem _ h2, by rw [upd_ne (ne_of_none h3 hp)]; exact h3, h4.map up⟩
      | raw v => exact q
      | fn F =>
        obtain ⟨f, c, h1, h2, h3, h4, h5⟩ := q
        exact ⟨f, c, h1, fun z => (List.mem_cons.mp z).elim (ne_of_none h4 hp) h2, fun z => (List.mem_cons.mp z).elim (ne_of_none h5 hp) h3, by rw [upd_ne (ne_of_none h4 hp)]; exact h4, by rw [upd_ne (ne_of_none h5 hp)]; exact h5⟩
      | ownN D kvs =>
        obtain ⟨l, xs, h1, h2, h3, h4⟩ := q
        exact ⟨l, xs, h1, List.mem_cons_of_mem _ h2, by rw [upd_ne (ne_of_none h3 hp)]; exact h3, h4.map up⟩
  · have at_ : ∀ j s, j ≠ i → (ρ.set i s0)[j]? = some s → s.isOwn = true → (σ.set i (some (V.ref p)))[j]? ≠ some (some (V.ref p)) := fun j s hj hs ho z => by
      have q := old j s hj hs
      rw [List.getElem?_set_ne (fun z => hj z.symm)] at z
      cases s with
      | no => cases ho
      | dat d => cases ho
      | raw v => cases ho
      | fn F => cases ho
      | ownN D kvs =>
        obtain ⟨l, xs, h1, h2, h3, h4⟩ := q
        rw [z] at h1
        have e : p = l := by injection h1 with h1; injection h1 with h1; injection h1
        rw [← e, hp] at h3
        cases h3
      | own ds =>
        obtain ⟨l, xs, h1, h2, h3, h4⟩ := q
        rw [z] at h1
        have e : p = l := by injection h1 with h1; injection h1 with h1; injection h1
        rw [← e, hp] at h3
        cases h3
      | ownD kvs =>
        obtain ⟨l, xs, h1, h2, h3, h4⟩ := q
        rw [z] at h1
        have e : p = l := by injection h1 with h1; injection h1 with h1; injection h1
        rw [← e, hp] at h3
        cases h3
      | lck kvs =>
        obtain ⟨l, xs, od, h1, h2, h3, h4⟩ := q
        rw [z] at h1
        have e : p = l := by injection h1 with h1; injection h1 with h1; injection h1
        rw [← e, hp] at h3
        cases h3
    have self : ∀ s, (ρ.set i s0)[i]? = some s → (σ.set i (some (V.ref p)))[i]? = some (some (V.ref p)) := fun s hs => by
      rw [List.getElem?_set_self'] at hs
      cases q : ρ[i]? with
      | none => rw [q] at hs; cases hs
      | some u =>
        have hl : i < σ.length := by rw [← S.len]; exact (List.getElem?_eq_some_iff.mp q).1
        simp [hl]
    by_cases ej : j = i
    · by_cases el : l = i
      · rw [ej, el]
      · exfalso
        subst ej
        rw [self s hs] at h3
        exact at_ l t' el ht h2 h3.symm
    · by_cases el : l = i
      · exfalso
        subst el
        rw [self t' ht] at h3
        exact at_ j s ej hs h1 h3
      · rw [List.getElem?_set_ne (fun z => ej z.symm)] at hs h3
        rw [List.getElem?_set_ne (fun z => el z.symm)] at ht h3
        exact S.dis j l s t' hs ht h1 h2 h3
/-- a slot takes an inner def -/
theorem Stt.setFn (S : Stt K W L0 H0 L H σ ρ k) (i : Nat) {p c : Addr} {mk : Addr → NdefX.NF} (np : p ∉ L ++ W.M) (nc : c ∉ L ++ W.M) (hp : H p = some (NdefX.FnO p (mk c))) (hc : H c = some (LamX.CodeO c (mk c).qual)) : Stt K W L0 H0 L H (σ.set i (some (.ref p))) (ρ.set i (.fn mk)) k := by
  refine ⟨S.base, S.fresh, S.offM, S.trk, S.wd, by rw [List.length_set, List.length_set]; exact S.len, fun j s hs => ?_, fun j l s t' hs ht h1 h2 h3 => ?_⟩
  · by_cases e : i = j
    · subst e
      rw [List.getElem?_set_self'] at hs
      cases q : ρ[i]? with
      | none => rw [q] at hs; cases hs
      | some u =>
        rw [q] at hs
        have hs' : Slot.fn mk = s := by simpa using hs
        subst hs'
        have hl : i < σ.length := by rw [← S.len]; exact (List.getElem?_eq_some_iff.mp q).1
        exact ⟨p, c, by simp [hl], np, nc, hp, hc⟩
    · rw [List.getElem?_set_ne e] at hs ⊢
      exact S.slots j s hs
  · have nj : i ≠ j := by
      rintro rfl
      rw [List.getElem?_set_self'] at hs
      cases q : ρ[i]? with
      | none => rw [q] at hs; cases hs
      | some u =>
        rw [q] at hs
        have hs' : Slot.fn mk = s := by simpa using hs
        subst hs'
        cases h1
    have nl : i ≠ l := by
      rintro rfl
      rw [List.getElem?_set_self'] at ht
      cases q : ρ[i]? with
      | none => rw [q] at ht; cases ht
      | some u =>
        rw [q] at ht
        have hs' : Slot.fn mk = t' := by simpa using ht
        subst hs'
        cases h2
    rw [List.getElem?_set_ne nj] at hs h3
    rw [List.getElem?_set_ne nl] at ht h3
    exact S.dis j l s t' hs ht h1 h2 h3
/-- the own list (or dict) of a slot is written -/
theorem Stt.put (S : Stt K W L0 H0 L H σ ρ k) {i : Nat} {l : Addr} {o : HO} {s0 s1 : Slot} (hi : ρ[i]? = some s0) (ho : s0.isOwn = true) (h1 : s1.isOwn = true) (hσ : σ[i]? = some (some (.ref l))) (hl : l ∈ L)
    (hs1 : SlotOk K (L ++ W.M) L (upd H l o) (some (some (.ref l))) s1) : Stt K W L0 H0 L (upd H l o) σ (ρ.set i s1) k := by
  have nM := S.offM l hl
  have up : ∀ v d, T K (L ++ W.M) H v d → T K (L ++ W.M) (upd H l o) v d := fun v d t => t.ext (Ext.put (List.mem_append_left _ hl))
  have il : i < ρ.length := (List.getElem?_eq_some_iff.mp hi).1
  refine ⟨fun b u nb hb => ?_, S.fresh, S.offM, S.trk.upd, W.loc k _ H _ (fun b hb => ?_) (Ext.put (List.mem_append_left _ hl)) S.wd, by rw [List.length_set]; exact S.len, fun j s hs => ?_, fun j m s t' hs ht g1 g2 g3 => ?_⟩
  · have : b ≠ l := by
      rintro rfl
      rcases S.fresh b hl with q | q
      · exact nb (List.mem_append_left _ q)
      · rw [q] at hb; cases hb
    rw [upd_ne this]
    exact S.base b u nb hb
  · have : b ≠ l := by rintro rfl; exact nM hb
    rw [upd_ne this]
  · by_cases e : i = j
    · subst e
      rw [List.getElem?_set_self'] at hs
      rw [hi] at hs
      have hs' : s1 = s := by simpa using hs
      subst hs'
      rw [hσ]
      exact hs1
    · rw [List.getElem?_set_ne e] at hs
      have q := S.slots j s hs
      cases s with
      | no => trivial
      | dat d =>
        obtain ⟨v, h1, h2⟩ := q
        exact ⟨v, h1, up _ _ h2⟩
      | own ds =>
        obtain ⟨m, xs, q1, q2, q3, q4⟩ := q
        have : m ≠ l := by
          rintro rfl
          exact e (S.dis i j _ _ hi hs ho rfl (hσ.trans q1.symm))
        exact ⟨m, xs, q1, q2, by rw [upd_ne this]; exact q3, q4.mapT up⟩
      | ownD kvs =>
        obtain ⟨m, xs, q1, q2, q3, q4⟩ := q
        have : m ≠ l := by
          rintro rfl
          exact e (S.dis i j _ _ hi hs ho rfl (hσ.trans q1.symm))
        exact ⟨m, xs, q1, q2, by rw [upd_ne this]; exact q3, q4.map up⟩
      | lck kvs =>
        obtain ⟨m, xs, od, q1, q2, q3, q4⟩ := q
        have : m ≠ l := by
          rintro rfl
          exact e (S.dis i j _ _ hi hs ho rfl (hσ.trans q1.symm))
        exact ⟨m, xs, od, q1, q2, by rw [upd_ne this]; exact q3, q4.map up⟩
      | raw v => exact q
      | fn F =>
        obtain ⟨f, c, q1, q2, q3, q4, q5⟩ := q
        exact ⟨f, c, q1, q2, q3, by rw [upd_ne (by rintro rfl; exact q2 (List.mem_append_left _ hl))]; exact q4, by rw [upd_ne (by rintro rfl; exact q3 (List.mem_append_left _ hl))]; exact q5⟩
      | ownN D kvs =>
        obtain ⟨m, xs, q1, q2, q3, q4⟩ := q
        have : m ≠ l := by
          rintro rfl
          exact e (S.dis i j _ _ hi hs ho rfl (hσ.trans q1.symm))
        exact ⟨m, xs, q1, q2, by rw [upd_ne this]; exact q3, q4.map up⟩
  · have own_ : ∀ (j : Nat) (s : Slot), (ρ.set i s1)[j]? = some s → s.isOwn = true → ∃ s' : Slot, ρ[j]? = some s' ∧ s'.isOwn = true := fun j s hs hh => by
      by_cases e : i = j
      · subst e
        exact ⟨s0, hi, ho⟩
      · rw [List.getElem?_set_ne e] at hs
        exact ⟨s, hs, hh⟩
    obtain ⟨a, a1, a2⟩ := own_ j s hs g1
    obtain ⟨b, b1, b2⟩ := own_ m t' ht g2
    exact S.dis j m a b a1 b1 a2 b2 g3
/-- an own list becomes a datum -/
theorem Stt.freeze (S : Stt K W L0 H0 L H σ ρ k) {i : Nat} {ds : List PyData} (hi : ρ[i]? = some (.own ds)) : ∃ L' l, σ[i]? = some (some (.ref l)) ∧ T K (L' ++ W.M) H (.ref l) (.list ds) ∧ (∀ b ∈ L', b ∈ L) ∧ Stt K W L0 H0 L' H σ (ρ.set i (.dat (.list ds))) k := by
  obtain ⟨l, xs, e1, e2, e3, e4⟩ := S.slots i _ hi
  have sub : ∀ b ∈ L.filter (fun b => b ≠ l) ++ W.M, b ∈ L ++ W.M := fun b hb => by
    rcases List.mem_append.mp hb with hb | hb
    · exact List.mem_append_left _ (List.mem_filter.mp hb).1
    · exact List.mem_append_right _ hb
  have nl : l ∉ L.filter (fun b => b ≠ l) ++ W.M := fun hb => by
    rcases List.mem_append.mp hb with hb | hb
    · have := (List.mem_filter.mp hb).2
      simp at this
    · exact S.offM l e2 hb
  have tl : T K (L.filter (fun b => b ≠ l) ++ W.M) H (.ref l) (.list ds) := .lst nl e3 (e4.off sub)
  refine ⟨L.filter fun b => b ≠ l, l, e1, tl, fun b hb => (List.mem_filter.mp hb).1, S.base, fun b hb => S.fresh b (List.mem_filter.mp hb).1, fun b hb => S.offM b (List.mem_filter.mp hb).1, fun b hb => S.trk b (sub b hb), S.wdSub (fun b hb => (List.mem_filter.mp hb).1), by rw [List.length_set]; exact S.len, fun j s hs => ?_, fun j m s t' hs ht g1 g2 g3 => ?_⟩
  · by_cases e : i = j
    · subst e
      rw [List.getElem?_set_self', hi] at hs
      have hs' : Slot.dat (.list ds) = s := by simpa using hs
      subst hs'
      exact ⟨_, e1, tl⟩
    · rw [List.getElem?_set_ne e] at hs
      have q := S.slots j s hs
      cases s with
      | no => trivial
      | dat d =>
        obtain ⟨v, h1, h2⟩ := q
        exact ⟨v, h1, h2.off sub⟩
      | own ds' =>
        obtain ⟨m, xs, q1, q2, q3, q4⟩ := q
        have : m ≠ l := by
          rintro rfl
          exact e (S.dis i j _ _ hi hs rfl rfl (e1.trans q1.symm))
        exact ⟨m, xs, q1, List.mem_filter.mpr ⟨q2, by simpa using this⟩, q3, q4.off sub⟩
      | ownD kvs =>
        obtain ⟨m, xs, q1, q2, q3, q4⟩ := q
        have : m ≠ l := by
          rintro rfl
          exact e (S.dis i j _ _ hi hs rfl rfl (e1.trans q1.symm))
        exact ⟨m, xs, q1, List.mem_filter.mpr ⟨q2, by simpa using this⟩, q3, q4.map fun _ _ t => t.off sub⟩
      | lck kvs =>
        obtain ⟨m, xs, od, q1, q2, q3, q4⟩ := q
        have : m ≠ l := by
          rintro rfl
          exact e (S.dis i j _ _ hi hs rfl rfl (e1.trans q1.symm))
        exact ⟨m, xs, od, q1, List.mem_filter.mpr ⟨q2, by simpa using this⟩, q3, q4.map fun _ _ t => t.off sub⟩
      | raw v => exact q
      | fn F =>
        obtain ⟨f, c, q1, q2, q3, q4, q5⟩ := q
        exact ⟨f, c, q1, fun z => q2 (sub _ z), fun z => q3 (sub _ z), q4, q5⟩
      | ownN D kvs =>
        obtain ⟨m, xs, q1, q2, q3, q4⟩ := q
        have : m ≠ l := by
          rintro rfl
          exact e (S.dis i j _ _ hi hs rfl rfl (e1.trans q1.symm))
        exact ⟨m, xs, q1, List.mem_filter.mpr ⟨q2, by simpa using this⟩, q3, q4.map fun _ _ t => t.off sub⟩
  · have own_ : ∀ (j : Nat) (s : Slot), (ρ.set i (.dat (.list ds)))[j]? = some s → s.isOwn = true → ρ[j]? = some s := fun j s hs hh => by
      by_cases e : i = j
      · subst e
        rw [List.getElem?_set_self', hi] at hs
        have hs' : Slot.dat (.list ds) = s := by simpa using hs
        subst hs'
        cases hh
      · rw [List.getElem?_set_ne e] at hs
        exact hs
    exact S.dis j m s t' (own_ j s hs g1) (own_ m t' ht g2) g1 g2 g3
/-- slots forgotten -/
theorem Stt.weaken (S : Stt K W L0 H0 L H σ ρ k) {ρ' : Rho} (hl : ρ'.length = ρ.length) (h : ∀ (i : Nat) (s : Slot), ρ'[i]? = some s → s = .no ∨ ρ[i]? = some s) : Stt K W L0 H0 L H σ ρ' k := by
  refine ⟨S.base, S.fresh, S.offM, S.trk, S.wd, hl.trans S.len, fun i s hs => ?_, fun i j s t hs ht h1 h2 h3 => ?_⟩
  · rcases h i s hs with rfl | q
    · trivial
    · exact S.slots i s q
  · rcases h i s hs with rfl | q
    · cases h1
    · rcases h j t ht with rfl | q'
      · cases h2
      · exact S.dis i j s t q q' h1 h2 h3
end
end U

set_option Elab.async false
set_option linter.all false
set_option maxRecDepth 100000
set_option maxHeartbeats 2000000
namespace U
open PySem PySem.Spec PyProof.Rows L2

/-! ### expressions over data -/
def EvW (K : PySem.W.Frag) {γ : Type} (W : Wd γ) (te : TE) (ρ : Rho) (k : γ) (Φ : PyData → γ → Prop) : Prop :=
  ∀ (L0 : List Addr) (H0 : Hp) (L : List Addr) (H : Hp) (σ : L2.St), Stt K W L0 H0 L H σ ρ k → ∀ Q : VK, (∀ v d k' H2, Stt K W L0 H0 L H2 σ ρ k' → Ext W.M H H2 → T K (L ++ W.M) H2 v d → Φ d k' → Q v H2) → te σ H Q
def EvT (K : PySem.W.Frag) {γ : Type} (W : Wd γ) (tt : TT) (ρ : Rho) (k : γ) (Φ : Bool → γ → Prop) : Prop :=
  ∀ (L0 : List Addr) (H0 : Hp) (L : List Addr) (H : Hp) (σ : L2.St), Stt K W L0 H0 L H σ ρ k → ∀ Q : Bool → Hp → Prop, (∀ b k' H2, Stt K W L0 H0 L H2 σ ρ k' → Ext W.M H H2 → Φ b k' → Q b H2) → tt σ H Q
def EvA (K : PySem.W.Frag) {γ : Type} (W : Wd γ) (ta : L2.TA) (ρ : Rho) (k : γ) (Φ : List PyData → γ → Prop) : Prop :=
  ∀ (L0 : List Addr) (H0 : Hp) (L : List Addr) (H : Hp) (σ : L2.St), Stt K W L0 H0 L H σ ρ k → ∀ Q : List V → Hp → Prop, (∀ vs ds k' H2, Stt K W L0 H0 L H2 σ ρ k' → Ext W.M H H2 → TA K (L ++ W.M) H2 vs ds → Φ ds k' → Q vs H2) → ta σ H Q
def EvO (K : PySem.W.Frag) {γ : Type} (W : Wd γ) (to : TO) (ρ : Rho) (k : γ) (Φ : Option Int → γ → Prop) : Prop :=
  ∀ (L0 : List Addr) (H0 : Hp) (L : List Addr) (H : Hp) (σ : L2.St), Stt K W L0 H0 L H σ ρ k → ∀ Q : Option Int → Hp → Prop, (∀ o k' H2, Stt K W L0 H0 L H2 σ ρ k' → Ext W.M H H2 → Φ o k' → Q o H2) → to σ H Q
/-- operations on values -/
def RD (K : PySem.W.Frag) {γ : Type} (W : Wd γ) (r : R2) (x y : PyData) (ρ : Rho) (k : γ) (Φ : PyData → γ → Prop) : Prop :=
  ∀ (L0 : List Addr) (H0 : Hp) (L : List Addr) (H : Hp) (σ : L2.St) (vx vy : V), Stt K W L0 H0 L H σ ρ k → T K (L ++ W.M) H vx x → T K (L ++ W.M) H vy y → ∀ Q : VK, (∀ v d k' H2, Stt K W L0 H0 L H2 σ ρ k' → Ext W.M H H2 → T K (L ++ W.M) H2 v d → Φ d k' → Q v H2) → r vx vy H Q
def RU (K : PySem.W.Frag) {γ : Type} (W : Wd γ) (r : V → Hp → VK → Prop) (x : PyData) (ρ : Rho) (k : γ) (Φ : PyData → γ → Prop) : Prop :=
  ∀ (L0 : List Addr) (H0 : Hp) (L : List Addr) (H : Hp) (σ : L2.St) (vx : V), Stt K W L0 H0 L H σ ρ k → T K (L ++ W.M) H vx x → ∀ Q : VK, (∀ v d k' H2, Stt K W L0 H0 L H2 σ ρ k' → Ext W.M H H2 → T K (L ++ W.M) H2 v d → Φ d k' → Q v H2) → r vx H Q
def RCD (K : PySem.W.Frag) {γ : Type} (W : Wd γ) (r : List V → Hp → VK → Prop) (xs : List PyData) (ρ : Rho) (k : γ) (Φ : PyData → γ → Prop) : Prop :=
  ∀ (L0 : List Addr) (H0 : Hp) (L : List Addr) (H : Hp) (σ : L2.St) (vs : List V), Stt K W L0 H0 L H σ ρ k → TA K (L ++ W.M) H vs xs → ∀ Q : VK, (∀ v d k' H2, Stt K W L0 H0 L H2 σ ρ k' → Ext W.M H H2 → T K (L ++ W.M) H2 v d → Φ d k' → Q v H2) → r vs H Q
def RSl (K : PySem.W.Frag) {γ : Type} (W : Wd γ) (r : V → Option Int → Option Int → Hp → VK → Prop) (x : PyData) (lo hi : Option Int) (ρ : Rho) (k : γ) (Φ : PyData → γ → Prop) : Prop :=
  ∀ (L0 : List Addr) (H0 : Hp) (L : List Addr) (H : Hp) (σ : L2.St) (vx : V), Stt K W L0 H0 L H σ ρ k → T K (L ++ W.M) H vx x → ∀ Q : VK, (∀ v d k' H2, Stt K W L0 H0 L H2 σ ρ k' → Ext W.M H H2 → T K (L ++ W.M) H2 v d → Φ d k' → Q v H2) → r vx lo hi H Q
section
variable {K : PySem.W.Frag} {γ : Type} {W : Wd γ} {ρ : Rho} {k : γ} {Φ : PyData → γ → Prop} {ta tb tc te : TE} {tt tu : TT} {x y : PyData}
theorem eM {L M : List Addr} {H H' : Hp} (e : Ext M H H') : Ext (L ++ M) H H' := e.sub fun _ hb => List.mem_append_right _ hb

theorem ev_var {i : Nat} {d : PyData} (h : ρ[i]? = some (.dat d)) (q : Φ d k) : EvW K W (tVar i) ρ k Φ := fun _ _ _ H _ S _ c => by
  obtain ⟨v, e, t⟩ := S.slots i _ h
  exact ⟨v, e, c v d k H S (Ext.refl _ _) t q⟩
theorem ev_int {i : Int} (q : Φ (.int i) k) : EvW K W (tC (.int i)) ρ k Φ := fun _ _ _ H _ S _ c => c _ _ _ H S (Ext.refl _ _) (.int i) q
theorem ev_bl {b : Bool} (q : Φ (.bool b) k) : EvW K W (tC (.bl b)) ρ k Φ := fun _ _ _ H _ S _ c => c _ _ _ H S (Ext.refl _ _) (.bl b) q
theorem ev_non (q : Φ .none k) : EvW K W (tC .non) ρ k Φ := fun _ _ _ H _ S _ c => c _ _ _ H S (Ext.refl _ _) .non q
theorem ev_str {z : Str} (q : Φ (.str z) k) : EvW K W (tC (.str z)) ρ k Φ := fun _ _ _ H _ S _ c => c _ _ _ H S (Ext.refl _ _) (.str z) q
theorem ev_op {r : R2} (h : EvW K W ta ρ k fun x k1 => EvW K W tb ρ k1 fun y k2 => RD K W r x y ρ k2 Φ) : EvW K W (tOp r ta tb) ρ k Φ := fun L0 H0 L H σ S Q c =>
  h L0 H0 L H σ S _ fun v x k1 H1 S1 e1 t1 g => g L0 H0 L H1 σ S1 _ fun u y k2 H2 S2 e2 t2 g2 => g2 L0 H0 L H2 σ v u S2 (t1.ext (eM e2)) t2 Q fun w d k3 H3 S3 e3 t3 f => c w d k3 H3 S3 ((e1.trans e2).trans e3) t3 f
theorem ev_un {r : V → Hp → VK → Prop} (h : EvW K W ta ρ k fun x k1 => RU K W r x ρ k1 Φ) : EvW K W (tUn r ta) ρ k Φ := fun L0 H0 L H σ S Q c =>
  h L0 H0 L H σ S _ fun v x k1 H1 S1 e1 t1 g => g L0 H0 L H1 σ v S1 t1 Q fun w d k3 H3 S3 e3 t3 f => c w d k3 H3 S3 (e1.trans e3) t3 f
/-- a rule on values that leaves the heap -/
theorem rd_ {r : R2} {d : PyData} (q : Φ d k) (h : ∀ (N : List Addr) (H : Hp) (vx vy : V), T K N H vx x → T K N H vy y → ∀ Q : VK, (∀ v, T K N H v d → Q v H) → r vx vy H Q) : RD K W r x y ρ k Φ := fun L0 H0 L H σ vx vy S tx ty Q c =>
  h _ H vx vy tx ty Q fun v t => c v d k H S (Ext.refl _ _) t q
theorem ru_ {r : V → Hp → VK → Prop} {d : PyData} (q : Φ d k) (h : ∀ (N : List Addr) (H : Hp) (vx : V), T K N H vx x → ∀ Q : VK, (∀ v, T K N H v d → Q v H) → r vx H Q) : RU K W r x ρ k Φ := fun L0 H0 L H σ vx S tx Q c =>
  h _ H vx tx Q fun v t => c v d k H S (Ext.refl _ _) t q
theorem rc_ {r : List V → Hp → VK → Prop} {d : PyData} {xs : List PyData} (q : Φ d k) (h : ∀ (N : List Addr) (H : Hp) (vs : List V), TA K N H vs xs → ∀ Q : VK, (∀ v, T K N H v d → Q v H) → r vs H Q) : RCD K W r xs ρ k Φ := fun L0 H0 L H σ vs S tx Q c =>
  h _ H vs tx Q fun v t => c v d k H S (Ext.refl _ _) t q
/-- a rule on values that makes a new thing -/
theorem rdN {r : R2} {d : PyData} (q : Φ d k) (h : ∀ (N : List Addr) (H : Hp) (vx vy : V), Trk N H → T K N H vx x → T K N H vy y → ∀ Q : VK, (∀ v H2, Same H H2 → T K N H2 v d → Q v H2) → r vx vy H Q) : RD K W r x y ρ k Φ := fun L0 H0 L H σ vx vy S tx ty Q c =>
  h _ H vx vy S.trk tx ty Q fun v H2 s t => c v d k H2 (S.same s) (Ext.same s) t q
theorem rcN {r : List V → Hp → VK → Prop} {d : PyData} {xs : List PyData} (q : Φ d k) (h : ∀ (N : List Addr) (H : Hp) (vs : List V), Trk N H → TA K N H vs xs → ∀ Q : VK, (∀ v H2, Same H H2 → T K N H2 v d → Q v H2) → r vs H Q) : RCD K W r xs ρ k Φ := fun L0 H0 L H σ vs S tx Q c =>
  h _ H vs S.trk tx Q fun v H2 s t => c v d k H2 (S.same s) (Ext.same s) t q
theorem rslN {r : V → Option Int → Option Int → Hp → VK → Prop} {d : PyData} {lo hi : Option Int} (q : Φ d k) (h : ∀ (N : List Addr) (H : Hp) (vx : V), Trk N H → T K N H vx x → ∀ Q : VK, (∀ v H2, Same H H2 → T K N H2 v d → Q v H2) → r vx lo hi H Q) : RSl K W r x lo hi ρ k Φ := fun L0 H0 L H σ vx S tx Q c =>
  h _ H vx S.trk tx Q fun v H2 s t => c v d k H2 (S.same s) (Ext.same s) t q

/-! ints -/
theorem rd_I0 {g : Int → Int → Int} {i j : Int} (q : Φ (.int (g i j)) k) : RD K W (rI0 fun i j => .int (g i j)) (.int i) (.int j) ρ k Φ := rd_ q fun N H vx vy tx ty Q c => by
  cases tx
  cases ty
  exact ⟨i, j, rfl, rfl, c _ (.int _)⟩
theorem rd_add {i j : Int} (q : Φ (.int (i + j)) k) : RD K W (rI0 fun i j => .int (i + j)) (.int i) (.int j) ρ k Φ := rd_I0 (g := fun i j => i + j) q
theorem rd_sub {i j : Int} (q : Φ (.int (i - j)) k) : RD K W (rI0 fun i j => .int (i - j)) (.int i) (.int j) ρ k Φ := rd_I0 (g := fun i j => i - j) q
theorem rd_B0 {g : Int → Int → Bool} {i j : Int} (q : Φ (.bool (g i j)) k) : RD K W (rI0 fun i j => .bl (g i j)) (.int i) (.int j) ρ k Φ := rd_ q fun N H vx vy tx ty Q c => by
  cases tx
  cases ty
  exact ⟨i, j, rfl, rfl, c _ (.bl _)⟩
theorem rd_lt {i j : Int} (q : Φ (.bool (decide (i < j))) k) : RD K W (rI0 fun i j => .bl (decide (i < j))) (.int i) (.int j) ρ k Φ := rd_B0 (g := fun i j => decide (i < j)) q
theorem rd_le {i j : Int} (q : Φ (.bool (decide (i ≤ j))) k) : RD K W (rI0 fun i j => .bl (decide (i ≤ j))) (.int i) (.int j) ρ k Φ := rd_B0 (g := fun i j => decide (i ≤ j)) q
theorem rd_gt {i j : Int} (q : Φ (.bool (decide (j < i))) k) : RD K W (rI0 fun i j => .bl (decide (j < i))) (.int i) (.int j) ρ k Φ := rd_B0 (g := fun i j => decide (j < i)) q
theorem rd_ge {i j : Int} (q : Φ (.bool (decide (j ≤ i))) k) : RD K W (rI0 fun i j => .bl (decide (j ≤ i))) (.int i) (.int j) ρ k Φ := rd_B0 (g := fun i j => decide (j ≤ i)) q
theorem rd_I {C : Int → Int → Prop} {g : Int → Int → Int} {i j : Int} (hc : C i j) (q : Φ (.int (g i j)) k) : RD K W (rI C fun i j => .int (g i j)) (.int i) (.int j) ρ k Φ := rd_ q fun N H vx vy tx ty Q c => by
  cases tx
  cases ty
  exact ⟨i, j, rfl, rfl, hc, c _ (.int _)⟩
theorem rd_mul {i j : Int} (hc : CMul i j) (q : Φ (.int (i * j)) k) : RD K W (rI CMul fun i j => .int (i * j)) (.int i) (.int j) ρ k Φ := rd_I (g := fun i j => i * j) hc q
theorem rd_fdiv {i j : Int} (hc : CDiv i j) (q : Φ (.int (i / j)) k) : RD K W (rI CDiv fun i j => .int (i / j)) (.int i) (.int j) ρ k Φ := rd_I (g := fun i j => i / j) hc q
theorem rd_mod {i j : Int} (hc : 0 < j) (q : Φ (.int (i % j)) k) : RD K W (rI (fun _ j => 0 < j) fun i j => .int (i % j)) (.int i) (.int j) ρ k Φ := rd_I (C := fun _ j => 0 < j) (g := fun i j => i % j) hc q
theorem rd_pow {i j : Int} (hc : CPow i j) (q : Φ (.int (i ^ j.toNat)) k) : RD K W (rI CPow fun i j => .int (i ^ j.toNat)) (.int i) (.int j) ρ k Φ := rd_I (g := fun i j => i ^ j.toNat) hc q
theorem ru_neg {i : Int} (q : Φ (.int (-i)) k) : RU K W (rU fun i => .int (-i)) (.int i) ρ k Φ := ru_ q fun N H vx tx Q c => by
  cases tx
  exact ⟨i, rfl, c _ (.int _)⟩

/-! == of scalars -/
def eqS : PyData → PyData → Option Bool
  | .int a, .int b => some (decide (a = b))
  | .str a, .str b => some (decide (a = b))
  | .bool a, .bool b => some (decide (a = b))
  | .none, .none => some true
  | .none, .int _ => some false
  | .int _, .none => some false
  | .none, .str _ => some false
  | .str _, .none => some false
  | .str _, .int _ => some false
  | .int _, .str _ => some false
  | _, _ => none
theorem eqS_V {N : List Addr} {H : Hp} {vx vy : V} {b : Bool} (tx : T K N H vx x) (ty : T K N H vy y) (h : eqS x y = some b) : scal vx vy = true ∧ decide (vx = vy) = b := by
  cases tx <;> cases ty <;> simp only [eqS, Option.some.injEq, reduceCtorEq] at h <;> subst h <;> exact ⟨rfl, by simp⟩
theorem rd_eq {b : Bool} (h : eqS x y = some b) (q : Φ (.bool b) k) : RD K W rEq x y ρ k Φ := rd_ q fun N H vx vy tx ty Q c => by
  obtain ⟨h1, h2⟩ := eqS_V tx ty h
  exact ⟨h1, by rw [h2]; exact c _ (.bl b)⟩
theorem rd_ne {b : Bool} (h : eqS x y = some b) (q : Φ (.bool !b) k) : RD K W rNe x y ρ k Φ := rd_ q fun N H vx vy tx ty Q c => by
  obtain ⟨h1, h2⟩ := eqS_V tx ty h
  exact ⟨h1, by rw [h2]; exact c _ (.bl !b)⟩
theorem rd_eqI {i j : Int} (q : Φ (.bool (decide (i = j))) k) : RD K W rEq (.int i) (.int j) ρ k Φ := rd_eq (b := decide (i = j)) rfl q
theorem rd_neI {i j : Int} (q : Φ (.bool !(decide (i = j))) k) : RD K W rNe (.int i) (.int j) ρ k Φ := rd_ne (b := decide (i = j)) rfl q
theorem rd_eqX {i j : Str} (q : Φ (.bool (decide (i = j))) k) : RD K W rEq (.str i) (.str j) ρ k Φ := rd_eq (b := decide (i = j)) rfl q
theorem rd_neX {i j : Str} (q : Φ (.bool !(decide (i = j))) k) : RD K W rNe (.str i) (.str j) ρ k Φ := rd_ne (b := decide (i = j)) rfl q
def isNone : PyData → Bool | .none => true | _ => false
theorem isNone_V {N : List Addr} {H : Hp} {vx : V} (tx : T K N H vx x) : decide (vx = .non) = isNone x := by
  cases tx <;> simp [isNone]
theorem rd_isN (q : Φ (.bool (isNone x)) k) : RD K W (fun x y H Q => y = .non ∧ Q (.bl (decide (x = .non))) H) x .none ρ k Φ := rd_ q fun N H vx vy tx ty Q c => by
  cases ty
  exact ⟨rfl, by rw [isNone_V tx]; exact c _ (.bl _)⟩
theorem rd_notN (q : Φ (.bool !(isNone x)) k) : RD K W (fun x y H Q => y = .non ∧ Q (.bl (!decide (x = .non))) H) x .none ρ k Φ := rd_ q fun N H vx vy tx ty Q c => by
  cases ty
  exact ⟨rfl, by rw [isNone_V tx]; exact c _ (.bl _)⟩

/-! tests and logic -/
theorem et_test (h : EvW K W te ρ k fun d k1 => ∃ b, d = .bool b ∧ Ψ b k1) : EvT K W (tTest te) ρ k Ψ := fun L0 H0 L H σ S Q c =>
  h L0 H0 L H σ S _ fun v d k1 H1 S1 e1 t1 g => by
    obtain ⟨b, rfl, g⟩ := g
    cases t1
    exact ⟨b, rfl, c b k1 H1 S1 e1 g⟩
theorem et_B (h : EvW K W te ρ k fun d k1 => ∃ b, d = .bool b ∧ Ψ b k1) : EvT K W (tB te) ρ k Ψ := fun L0 H0 L H σ S Q c =>
  h L0 H0 L H σ S _ fun v d k1 H1 S1 e1 t1 g => by
    obtain ⟨b, rfl, g⟩ := g
    cases t1
    exact ⟨b, rfl, c b k1 H1 S1 e1 g⟩
variable {Ψ : Bool → γ → Prop}
theorem et_and (h : EvT K W tt ρ k fun b k1 => if b = true then EvT K W tu ρ k1 Ψ else Ψ false k1) : EvT K W (tAnd tt tu) ρ k Ψ := fun L0 H0 L H σ S Q c =>
  h L0 H0 L H σ S _ fun b k1 H1 S1 e1 g => by
    cases b with
    | true => exact (g : EvT K W tu ρ k1 Ψ) L0 H0 L H1 σ S1 Q fun b k2 H2 S2 e2 q => c b k2 H2 S2 (e1.trans e2) q
    | false => exact c false k1 H1 S1 e1 g
theorem et_or (h : EvT K W tt ρ k fun b k1 => if b = true then Ψ true k1 else EvT K W tu ρ k1 Ψ) : EvT K W (tOr tt tu) ρ k Ψ := fun L0 H0 L H σ S Q c =>
  h L0 H0 L H σ S _ fun b k1 H1 S1 e1 g => by
    cases b with
    | false => exact (g : EvT K W tu ρ k1 Ψ) L0 H0 L H1 σ S1 Q fun b k2 H2 S2 e2 q => c b k2 H2 S2 (e1.trans e2) q
    | true => exact c true k1 H1 S1 e1 g
theorem et_not (h : EvT K W tt ρ k fun b k1 => Ψ (!b) k1) : EvT K W (tNot tt) ρ k Ψ := fun L0 H0 L H σ S Q c =>
  h L0 H0 L H σ S _ fun b k1 H1 S1 e1 g => c (!b) k1 H1 S1 e1 g
theorem et_yes (q : Ψ true k) : EvT K W tYes ρ k Ψ := fun L0 H0 L H σ S Q c => c true k H S (Ext.refl _ _) q
theorem ev_andV (h : EvW K W ta ρ k fun d k1 => ∃ b, d = .bool b ∧ if b = true then EvW K W tb ρ k1 Φ else Φ (.bool false) k1) : EvW K W (tAndV ta tb) ρ k Φ := fun L0 H0 L H σ S Q c =>
  h L0 H0 L H σ S _ fun v d k1 H1 S1 e1 t1 g => by
    obtain ⟨b, rfl, g⟩ := g
    cases t1
    refine ⟨b, rfl, ?_⟩
    cases b with
    | true => exact (g : EvW K W tb ρ k1 Φ) L0 H0 L H1 σ S1 Q fun v d k2 H2 S2 e2 t q => c v d k2 H2 S2 (e1.trans e2) t q
    | false => exact c _ _ k1 H1 S1 e1 (.bl false) g
theorem ev_orV (h : EvW K W ta ρ k fun d k1 => ∃ b, d = .bool b ∧ if b = true then Φ (.bool true) k1 else EvW K W tb ρ k1 Φ) : EvW K W (tOrV ta tb) ρ k Φ := fun L0 H0 L H σ S Q c =>
  h L0 H0 L H σ S _ fun v d k1 H1 S1 e1 t1 g => by
    obtain ⟨b, rfl, g⟩ := g
    cases t1
    refine ⟨b, rfl, ?_⟩
    cases b with
    | false => exact (g : EvW K W tb ρ k1 Φ) L0 H0 L H1 σ S1 Q fun v d k2 H2 S2 e2 t q => c v d k2 H2 S2 (e1.trans e2) t q
    | true => exact c _ _ k1 H1 S1 e1 (.bl true) g
theorem ev_notV (h : EvW K W ta ρ k fun d k1 => ∃ b, d = .bool b ∧ Φ (.bool !b) k1) : EvW K W (tNotV ta) ρ k Φ := fun L0 H0 L H σ S Q c =>
  h L0 H0 L H σ S _ fun v d k1 H1 S1 e1 t1 g => by
    obtain ⟨b, rfl, g⟩ := g
    cases t1
    exact ⟨b, rfl, c _ _ k1 H1 S1 e1 (.bl !b) g⟩
theorem ev_if (h : EvT K W tt ρ k fun b k1 => if b = true then EvW K W ta ρ k1 Φ else EvW K W tb ρ k1 Φ) : EvW K W (tIf tt ta tb) ρ k Φ := fun L0 H0 L H σ S Q c =>
  h L0 H0 L H σ S _ fun b k1 H1 S1 e1 g => by
    cases b with
    | true => exact (g : EvW K W ta ρ k1 Φ) L0 H0 L H1 σ S1 Q fun v d k2 H2 S2 e2 t q => c v d k2 H2 S2 (e1.trans e2) t q
    | false => exact (g : EvW K W tb ρ k1 Φ) L0 H0 L H1 σ S1 Q fun v d k2 H2 S2 e2 t q => c v d k2 H2 S2 (e1.trans e2) t q
theorem ev_chain {r r' : R2} (h : EvW K W ta ρ k fun x k1 => EvW K W tb ρ k1 fun y k2 => RD K W r x y ρ k2 fun d k3 => ∃ b, d = .bool b ∧ if b = true then EvW K W tc ρ k3 fun z k4 => RD K W r' y z ρ k4 Φ else Φ (.bool false) k3) :
    EvW K W (tChain r r' ta tb tc) ρ k Φ := fun L0 H0 L H σ S Q c =>
  h L0 H0 L H σ S _ fun v x k1 H1 S1 e1 t1 g => g L0 H0 L H1 σ S1 _ fun u y k2 H2 S2 e2 t2 g2 => g2 L0 H0 L H2 σ v u S2 (t1.ext (eM e2)) t2 _ fun w d k3 H3 S3 e3 t3 f => by
    obtain ⟨b, rfl, f⟩ := f
    cases t3
    refine ⟨b, rfl, ?_⟩
    cases b with
    | false => exact c _ _ k3 H3 S3 ((e1.trans e2).trans e3) (.bl false) f
    | true =>
      exact (f : EvW K W tc ρ k3 _) L0 H0 L H3 σ S3 _ fun w z k4 H4 S4 e4 t4 g4 => g4 L0 H0 L H4 σ u w S4 ((t2.ext (eM e3)).ext (eM e4)) t4 Q fun v d k5 H5 S5 e5 t5 f5 => c v d k5 H5 S5 ((((e1.trans e2).trans e3).trans e4).trans e5) t5 f5

/-! arguments, displays -/
variable {Α : List PyData → γ → Prop} {tr : L2.TA}
theorem ea_nil (q : Α [] k) : EvA K W tNil ρ k Α := fun _ _ _ H _ S _ c => c [] [] k H S (Ext.refl _ _) .nil q
theorem ea_cons (h : EvW K W ta ρ k fun d k1 => EvA K W tr ρ k1 fun ds k2 => Α (d :: ds) k2) : EvA K W (tCons ta tr) ρ k Α := fun L0 H0 L H σ S Q c =>
  h L0 H0 L H σ S _ fun v d k1 H1 S1 e1 t1 g => g L0 H0 L H1 σ S1 _ fun vs ds k2 H2 S2 e2 t2 q => c _ _ k2 H2 S2 (e1.trans e2) (.cons (t1.ext (eM e2)) t2) q
theorem ev_tup (h : EvA K W tr ρ k fun ds k1 => ds.length ≤ 100000 ∧ Φ (.tuple ds) k1) : EvW K W (tTup tr) ρ k Φ := fun L0 H0 L H σ S Q c =>
  h L0 H0 L H σ S _ fun vs ds k1 H1 S1 e1 t1 g => ⟨Nat.le_trans (show vs.length ≤ 100000 by rw [t1.len]; exact g.1) (by decide), newT S1.trk t1 fun p H' hp s _ _ t => c _ _ k1 H' (S1.same s) (e1.trans (Ext.same s)) t g.2⟩
theorem ev_lst (h : EvA K W tr ρ k fun ds k1 => ds.length ≤ 100000 ∧ Φ (.list ds) k1) : EvW K W (tLst tr) ρ k Φ := fun L0 H0 L H σ S Q c =>
  h L0 H0 L H σ S _ fun vs ds k1 H1 S1 e1 t1 g => ⟨Nat.le_trans (show vs.length ≤ 100000 by rw [t1.len]; exact g.1) (by decide), newL S1.trk t1 fun p H' hp s _ _ t => c _ _ k1 H' (S1.same s) (e1.trans (Ext.same s)) t g.2⟩
theorem ev_dnew (q : Φ (.dict []) k) : EvW K W tDNewK ρ k Φ := fun L0 H0 L H σ S Q c => newD S.trk fun p H' hp s _ t => c _ _ k H' (S.same s) (Ext.same s) t q
/-! built-ins -/
theorem ev_cb {r : List V → Hp → VK → Prop} (h : EvA K W tr ρ k fun ds k1 => RCD K W r ds ρ k1 Φ) : EvW K W (tCB r tr) ρ k Φ := fun L0 H0 L H σ S Q c =>
  h L0 H0 L H σ S _ fun vs ds k1 H1 S1 e1 t1 g => g L0 H0 L H1 σ vs S1 t1 Q fun v d k2 H2 S2 e2 t2 q => c v d k2 H2 S2 (e1.trans e2) t2 q
theorem TA.one_ {N : List Addr} {H : Hp} {vs : List V} {d : PyData} (t : TA K N H vs [d]) : ∃ v, vs = [v] ∧ T K N H v d := by
  cases t with
  | cons h t => cases t; exact ⟨_, rfl, h⟩
theorem TA.two_ {N : List Addr} {H : Hp} {vs : List V} {d e : PyData} (t : TA K N H vs [d, e]) : ∃ v u, vs = [v, u] ∧ T K N H v d ∧ T K N H u e := by
  cases t with
  | cons h t => obtain ⟨u, rfl, h2⟩ := t.one_; exact ⟨_, _, rfl, h, h2⟩
theorem rc_lenS {z : Str} (hz : z.length ≤ 100000) (q : Φ (.int (z.length : Int)) k) : RCD K W (fun xs H Q => ∃ z, xs = [.str z] ∧ z.length ≤ sizeLine ∧ Q (.int z.length) H) [.str z] ρ k Φ := rc_ q fun N H vs t Q c => by
  obtain ⟨v, rfl, t1⟩ := t.one_
  cases t1
  exact ⟨z, rfl, Nat.le_trans hz (by decide), c _ (.int _)⟩
theorem rc_lenL {ds : List PyData} (q : Φ (.int (ds.length : Int)) k) : RCD K W (rLenQ K) [.list ds] ρ k Φ := rc_ q fun N H vs t Q c => by
  obtain ⟨v, rfl, t1⟩ := t.one_
  cases t1 with
  | lst n h t => exact ⟨_, _, rfl, .inl (SqL.of h), by rw [t.len]; exact c _ (.int _)⟩
theorem rc_lenT {ds : List PyData} (q : Φ (.int (ds.length : Int)) k) : RCD K W (rLenQ K) [.tuple ds] ρ k Φ := rc_ q fun N H vs t Q c => by
  obtain ⟨v, rfl, t1⟩ := t.one_
  cases t1 with
  | tup n h t => exact ⟨_, _, rfl, .inr (SqT.of h), by rw [t.len]; exact c _ (.int _)⟩
/-- len of what is known to have one -/
def lenD : PyData → Option Nat
  | .list ds => some ds.length
  | .tuple ds => some ds.length
  | .str z => some z.length
  | _ => none
theorem rc_lenA {n : Nat} (h : lenD x = some n) (hn : n ≤ 100000) (q : Φ (.int (n : Int)) k) : RCD K W (rLenA K) [x] ρ k Φ := rc_ q fun N H vs t Q c => by
  obtain ⟨v, rfl, t1⟩ := t.one_
  have hz : n ≤ sizeLine := Nat.le_trans hn (by decide)
  cases t1 with
  | lst _ ha t3 =>
    simp only [lenD, Option.some.injEq] at h
    subst h
    exact ⟨_, _, rfl, .inl ⟨_, SqL.of ha, t3.len.symm⟩, c _ (.int _)⟩
  | tup _ ha t3 =>
    simp only [lenD, Option.some.injEq] at h
    subst h
    exact ⟨_, _, rfl, .inr ⟨_, SqT.of ha, t3.len.symm⟩, c _ (.int _)⟩
  | str z =>
    simp only [lenD, Option.some.injEq] at h
    subst h
    exact ⟨_, _, rfl, ⟨hz, rfl⟩, c _ (.int _)⟩
  | _ => simp [lenD] at h
theorem rc_ord {c : Nat} (q : Φ (.int (c : Int)) k) : RCD K W (fun xs H Q => ∃ x, xs = [.str x] ∧ x.length = 1 ∧ Q (.int (x.cps.getD 0 0 : Nat)) H) [.str ⟨#[c]⟩] ρ k Φ := rc_ q fun N H vs t Q cc => by
  obtain ⟨v, rfl, t1⟩ := t.one_
  cases t1
  exact ⟨_, rfl, rfl, cc _ (.int _)⟩
theorem rc_abs {i : Int} (q : Φ (.int (if i < 0 then -i else i)) k) : RCD K W (fun xs H Q => ∃ i, xs = [.int i] ∧ Q (.int (if i < 0 then -i else i)) H) [.int i] ρ k Φ := rc_ q fun N H vs t Q c => by
  obtain ⟨v, rfl, t1⟩ := t.one_
  cases t1
  exact ⟨i, rfl, c _ (.int _)⟩
theorem rc_max2 {i j : Int} (q : Φ (.int (if j > i then j else i)) k) : RCD K W (fun xs H Q => ∃ i j, xs = [.int i, .int j] ∧ Q (.int (if j > i then j else i)) H) [.int i, .int j] ρ k Φ := rc_ q fun N H vs t Q c => by
  obtain ⟨v, u, rfl, t1, t2⟩ := t.two_
  cases t1
  cases t2
  exact ⟨i, j, rfl, c _ (.int _)⟩
theorem rc_min2 {i j : Int} (q : Φ (.int (if j < i then j else i)) k) : RCD K W (fun xs H Q => ∃ i j, xs = [.int i, .int j] ∧ Q (.int (if j < i then j else i)) H) [.int i, .int j] ρ k Φ := rc_ q fun N H vs t Q c => by
  obtain ⟨v, u, rfl, t1, t2⟩ := t.two_
  cases t1
  cases t2
  exact ⟨i, j, rfl, c _ (.int _)⟩
theorem rc_int1 {i : Int} (q : Φ (.int i) k) : RCD K W (fun xs H Q => (∃ i, xs = [.int i] ∧ Q (.int i) H) ∨ ∃ k, xs = [.bl k] ∧ Q (.int (if k then 1 else 0)) H) [.int i] ρ k Φ := rc_ q fun N H vs t Q c => by
  obtain ⟨v, rfl, t1⟩ := t.one_
  cases t1
  exact .inl ⟨i, rfl, c _ (.int _)⟩
theorem TA.ints_ {N : List Addr} {H : Hp} : ∀ {ns : List Int} {vs : List V}, TA K N H vs (ns.map .int) → vs = ns.map V.int
  | [], _, h => by cases h; rfl
  | n :: ns, _, h => by
    cases h with
    | cons h1 h2 =>
      cases h1
      rw [TA.ints_ h2]
      rfl
theorem TA.bools_ {N : List Addr} {H : Hp} : ∀ {ns : List Bool} {vs : List V}, TA K N H vs (ns.map .bool) → vs = ns.map V.bl
  | [], _, h => by cases h; rfl
  | n :: ns, _, h => by
    cases h with
    | cons h1 h2 =>
      cases h1
      rw [TA.bools_ h2]
      rfl
theorem TA.strs_ {N : List Addr} {H : Hp} : ∀ {ns : List Str} {vs : List V}, TA K N H vs (ns.map .str) → vs = ns.map V.str
  | [], _, h => by cases h; rfl
  | n :: ns, _, h => by
    cases h with
    | cons h1 h2 =>
      cases h1
      rw [TA.strs_ h2]
      rfl
theorem rc_sum {ds : List PyData} (ns : List Int) (h : ds = ns.map .int) (q : Φ (.int ns.sum) k) : RCD K W (rSum K) [.list ds] ρ k Φ := rc_ q fun N H vs t Q c => by
  subst h
  obtain ⟨v, rfl, t1⟩ := t.one_
  cases t1 with
  | lst n h t =>
    have e := t.ints_
    subst e
    exact ⟨_, ns, rfl, SqL.of h, c _ (.int _)⟩
theorem rc_all {ds : List PyData} (ns : List Bool) (h : ds = ns.map .bool) (q : Φ (.bool (ns.all id)) k) : RCD K W (rAll K) [.list ds] ρ k Φ := rc_ q fun N H vs t Q c => by
  subst h
  obtain ⟨v, rfl, t1⟩ := t.one_
  cases t1 with
  | lst n h t =>
    have e := t.bools_
    subst e
    exact ⟨_, ns, rfl, SqL.of h, c _ (.bl _)⟩
theorem rc_any {ds : List PyData} (ns : List Bool) (h : ds = ns.map .bool) (q : Φ (.bool (ns.any id)) k) : RCD K W (rAny K) [.list ds] ρ k Φ := rc_ q fun N H vs t Q c => by
  subst h
  obtain ⟨v, rfl, t1⟩ := t.one_
  cases t1 with
  | lst n h t =>
    have e := t.bools_
    subst e
    exact ⟨_, ns, rfl, SqL.of h, c _ (.bl _)⟩
theorem rc_tupL {ds : List PyData} (q : Φ (.tuple ds) k) : RCD K W (rTupOf K) [.list ds] ρ k Φ := rcN q fun N H vs tr t Q c => by
  obtain ⟨v, rfl, t1⟩ := t.one_
  cases t1 with
  | lst n h t => exact ⟨_, _, rfl, .inl ⟨SqL.of h, newT tr t fun p H' _ s _ _ t' => c _ _ s t'⟩⟩
theorem rc_tupT {ds : List PyData} (q : Φ (.tuple ds) k) : RCD K W (rTupOf K) [.tuple ds] ρ k Φ := rcN q fun N H vs tr t Q c => by
  obtain ⟨v, rfl, t1⟩ := t.one_
  cases t1 with
  | tup n h t => exact ⟨_, _, rfl, .inr ⟨SqT.of h, c _ _ (Same.refl _) (.tup n h t)⟩⟩
theorem rc_listL {ds : List PyData} (q : Φ (.list ds) k) : RCD K W (rListOf K) [.list ds] ρ k Φ := rcN q fun N H vs tr t Q c => by
  obtain ⟨v, rfl, t1⟩ := t.one_
  cases t1 with
  | lst n h t => exact ⟨_, _, rfl, .inl (SqL.of h), newL tr t fun p H' _ s _ _ t' => c _ _ s t'⟩
theorem rc_listT {ds : List PyData} (q : Φ (.list ds) k) : RCD K W (rListOf K) [.tuple ds] ρ k Φ := rcN q fun N H vs tr t Q c => by
  obtain ⟨v, rfl, t1⟩ := t.one_
  cases t1 with
  | tup n h t => exact ⟨_, _, rfl, .inr (SqT.of h), newL tr t fun p H' _ s _ _ t' => c _ _ s t'⟩
theorem rc_repr (h : Shown x) (q : Φ (.str x.shown) k) : RCD K W (rRepr K) [x] ρ k Φ := rc_ q fun N H vs t Q c => by
  obtain ⟨v, rfl, t1⟩ := t.one_
  exact ⟨v, N, x, rfl, t1, h, c _ (.str _)⟩
/-- isinstance(x, type) -/
theorem ev_isi {n : String} (h : EvW K W te ρ k fun d k1 => ∃ b, kitB (tyName d) n = some b ∧ Φ (.bool b) k1) : EvW K W (tCB (rIsi K) (tCons te (tCons (tC (.ty n)) tNil))) ρ k Φ := fun L0 H0 L H σ S Q c =>
  h L0 H0 L H σ S _ fun v d k1 H1 S1 e1 t1 g => by
    obtain ⟨b, hb, g⟩ := g
    exact isi_ t1 hb (c _ _ k1 H1 S1 e1 (.bl b) g)
/-! items, slices -/
theorem TA.at {N : List Addr} {H : Hp} {vs : List V} {ds : List PyData} (t : TA K N H vs ds) {j : Nat} {d : PyData} (h : ds[j]? = some d) : ∃ v, vs[j]? = some v ∧ T K N H v d := by
  have hj : j < vs.length := by rw [t.len]; exact (List.getElem?_eq_some_iff.mp h).1
  obtain ⟨e, h1, h2⟩ := t.get (i := j) (v := vs[j]) (by simp [hj])
  rw [h] at h1
  cases h1
  exact ⟨vs[j], by simp [hj], h2⟩
theorem rd_ixT {ds : List PyData} {i : Int} {j : Nat} {d : PyData} (hi : i = (j : Int)) (h : ds[j]? = some d) (q : Φ d k) : RD K W (rIxT K) (.tuple ds) (.int i) ρ k Φ := rd_ q fun N H vx vy tx ty Q c => by
  subst hi
  cases ty
  cases tx with
  | tup n ha t =>
    obtain ⟨v, h1, h2⟩ := t.at h
    exact ⟨_, _, _, v, rfl, rfl, SqT.of ha, atI_nat h1, c v h2⟩
theorem rd_ixL {ds : List PyData} {i : Int} {j : Nat} {d : PyData} (hi : i = (j : Int)) (h : ds[j]? = some d) (q : Φ d k) : RD K W (rIxL K) (.list ds) (.int i) ρ k Φ := rd_ q fun N H vx vy tx ty Q c => by
  subst hi
  cases ty
  cases tx with
  | lst n ha t =>
    obtain ⟨v, h1, h2⟩ := t.at h
    exact ⟨_, _, _, v, rfl, rfl, SqL.of ha, atI_nat h1, c v h2⟩
theorem rd_ixS {z : Str} {i : Int} {j c : Nat} (hz : z.length ≤ 100000) (hi : i = (j : Int)) (h : z.cps[j]? = some c) (q : Φ (.str ⟨#[c]⟩) k) : RD K W rIxS (.str z) (.int i) ρ k Φ := rd_ q fun N H vx vy tx ty Q cc => by
  subst hi
  cases ty
  cases tx
  exact ⟨z, _, c, rfl, rfl, Nat.le_trans hz (by decide), atI_nat (by simpa using h), cc _ (.str _)⟩
theorem ev_sl {r : V → Option Int → Option Int → Hp → VK → Prop} {tl th : TO} (h : EvW K W te ρ k fun x k1 => EvO K W tl ρ k1 fun lo k2 => EvO K W th ρ k2 fun hi k3 => RSl K W r x lo hi ρ k3 Φ) : EvW K W (tSl r te tl th) ρ k Φ := fun L0 H0 L H σ S Q c =>
  h L0 H0 L H σ S _ fun v x k1 H1 S1 e1 t1 g => g L0 H0 L H1 σ S1 _ fun lo k2 H2 S2 e2 g2 => g2 L0 H0 L H2 σ S2 _ fun hi k3 H3 S3 e3 g3 => g3 L0 H0 L H3 σ v S3 ((t1.ext (eM e2)).ext (eM e3)) Q fun w d k4 H4 S4 e4 t4 f => c w d k4 H4 S4 (((e1.trans e2).trans e3).trans e4) t4 f
variable {Ω : Option Int → γ → Prop}
theorem eo_none (q : Ω none k) : EvO K W tNoPart ρ k Ω := fun L0 H0 L H σ S Q c => c none k H S (Ext.refl _ _) q
theorem eo_some (h : EvW K W te ρ k fun d k1 => ∃ i, d = .int i ∧ Ω (some i) k1) : EvO K W (tPart te) ρ k Ω := fun L0 H0 L H σ S Q c =>
  h L0 H0 L H σ S _ fun v d k1 H1 S1 e1 t1 g => by
    obtain ⟨i, rfl, g⟩ := g
    cases t1
    exact ⟨i, rfl, c _ k1 H1 S1 e1 g⟩
theorem rsl_S {z : Str} {lo hi : Option Int} (hz : z.length ≤ 100000) (q : Φ (.str (cutS z lo hi)) k) : RSl K W rSlS (.str z) lo hi ρ k Φ := rslN q fun N H vx tr tx Q c => by
  cases tx
  exact ⟨z, rfl, Nat.le_trans hz (by decide), c _ _ (Same.refl _) (.str _)⟩
theorem rsl_T {ds : List PyData} {lo hi : Option Int} (q : Φ (.tuple (cutD ds lo hi)) k) : RSl K W (rSlA K) (.tuple ds) lo hi ρ k Φ := rslN q fun N H vx tr tx Q c => slA tr tx fun r H' s _ t => c r H' s t
theorem rsl_L {ds : List PyData} {lo hi : Option Int} (q : Φ (.list (cutD ds lo hi)) k) : RSl K W (rSlL K) (.list ds) lo hi ρ k Φ := rslN q fun N H vx tr tx Q c => by
  cases tx with
  | @lst a xs _ n ha t =>
    have lx := t.len
    have tc : TA K N H (cutV xs lo hi) (cutD ds lo hi) := by
      unfold cutV cutD
      rw [lx]
      exact (t.drop _).take _
    exact ⟨_, _, rfl, SqL.of ha, newL tr tc fun p H' _ s _ _ t' => c _ _ s t'⟩
/-! + of tuples, lists, texts -/
theorem rd_catT {ds es : List PyData} (hl : ds.length + es.length ≤ 100000) (q : Φ (.tuple (ds ++ es)) k) : RD K W (rCatA K) (.tuple ds) (.tuple es) ρ k Φ := rdN q fun N H vx vy tr tx ty Q c => catA tr tx ty hl fun r H' s _ t => c r H' s t
theorem rd_catL {ds es : List PyData} (hl : ds.length + es.length ≤ 100000) (q : Φ (.list (ds ++ es)) k) : RD K W rCat (.list ds) (.list es) ρ k Φ := rdN q fun N H vx vy tr tx ty Q c => by
  cases tx with
  | lst n ha t =>
    cases ty with
    | lst n2 hb t2 =>
      exact ⟨_, _, _, _, rfl, rfl, ha, hb, Nat.le_trans (show _ ≤ 100000 by rw [t.len, t2.len]; exact hl) (by decide), newL tr (t.app t2) fun p H' _ s _ _ t' => c _ _ s t'⟩
theorem rd_catS {a b : Str} (hl : a.length + b.length ≤ 100000) (q : Φ (.str (a ++ b)) k) : RD K W (fun x y H Q => ∃ i j, x = .str i ∧ y = .str j ∧ i.length + j.length ≤ sizeLine ∧ Q (.str (i ++ j)) H) (.str a) (.str b) ρ k Φ := rd_ q fun N H vx vy tx ty Q c => by
  cases tx
  cases ty
  exact ⟨a, b, rfl, rfl, Nat.le_trans hl (by decide), c _ (.str _)⟩
/-! own functions -/
theorem ev_call {sp : Sp} (h : EvA K W tr ρ k fun ds k1 => RCD K W (fun vs H Q => sp vs H Q E0) ds ρ k1 Φ) : EvW K W (tCall sp [] E0 tr) ρ k Φ := fun L0 H0 L H σ S Q c =>
  h L0 H0 L H σ S _ fun vs ds k1 H1 S1 e1 t1 g => by
    show sp (vs ++ []) H1 Q E0
    rw [List.append_nil]
    exact g L0 H0 L H1 σ vs S1 t1 Q fun v d k2 H2 S2 e2 t2 q => c v d k2 H2 S2 (e1.trans e2) t2 q
end
/-- a def that writes nothing: what its data give -/
def spP (K : PySem.W.Frag) (n : Nat) (R : List PyData → PyData → Prop) : Sp := fun vs H Q _ => ∃ (M : List Addr) (ds : List PyData) (r : PyData), TA K M H vs ds ∧ Trk M H ∧ ds.length = n ∧ R ds r ∧ ∀ v H', Same H H' → T K M H' v r → Q v H'
section
variable {K : PySem.W.Frag} {γ : Type} {W : Wd γ} {ρ : Rho} {k : γ} {Φ : PyData → γ → Prop}
theorem rc_pure {n : Nat} {R : List PyData → PyData → Prop} {ds : List PyData} {r : PyData} (hl : ds.length = n) (h : R ds r) (q : Φ r k) : RCD K W (fun vs H Q => spP K n R vs H Q E0) ds ρ k Φ := rcN q fun N H vs tr t Q c => ⟨N, ds, r, t, tr, hl, h, c⟩
end
end U

set_option Elab.async false
set_option linter.all false
set_option maxRecDepth 100000
set_option maxHeartbeats 2000000
namespace U
open PySem PySem.Spec PyProof.Rows L2

/-! ### statements over data -/
structure Ps (γ : Type) where
  nx : Rho → γ → Prop
  rt : PyData → γ → Prop
  bk : Rho → γ → Prop := fun _ _ => False
  ct : Rho → γ → Prop := fun _ _ => False
def SW (K : PySem.W.Frag) {γ : Type} (W : Wd γ) (ts : TS) (ρ : Rho) (k : γ) (P : Ps γ) : Prop :=
  ∀ (L0 : List Addr) (H0 : Hp) (L : List Addr) (H : Hp) (σ : L2.St) (D : Ends), Stt K W L0 H0 L H σ ρ k →
    (∀ L' H' σ' ρ' k', Stt K W L0 H0 L' H' σ' ρ' k' → P.nx ρ' k' → D.nx σ' H') →
    (∀ v d k' H', Ext (L0 ++ W.M) H0 H' → W.I k' W.M H' → T K W.M H' v d → P.rt d k' → D.rt v H') →
    (∀ L' H' σ' ρ' k', Stt K W L0 H0 L' H' σ' ρ' k' → P.bk ρ' k' → D.bk σ' H') →
    (∀ L' H' σ' ρ' k', Stt K W L0 H0 L' H' σ' ρ' k' → P.ct ρ' k' → D.ct σ' H') → ts D σ H
/-- targets: js the slots that they may store in -/
def TgW (K : PySem.W.Frag) {γ : Type} (W : Wd γ) (g : TG) (js : Nat → Prop) (d : PyData) (ρ : Rho) (Ψ : Rho → Prop) : Prop :=
  ∀ (L0 : List Addr) (H0 : Hp) (L : List Addr) (H : Hp) (σ : L2.St) (k : γ) (v : V), Stt K W L0 H0 L H σ ρ k → T K (L ++ W.M) H v d → ∀ Q : L2.St → Hp → Prop,
    (∀ σ' ρ', Stt K W L0 H0 L H σ' ρ' k → σ'.length = σ.length → (∀ i, ¬ js i → σ'[i]? = σ[i]?) → Ψ ρ' → Q σ' H) → g v σ H Q
def TgsW (K : PySem.W.Frag) {γ : Type} (W : Wd γ) (g : TGs) (js : Nat → Prop) (ds : List PyData) (ρ : Rho) (Ψ : Rho → Prop) : Prop :=
  ∀ (L0 : List Addr) (H0 : Hp) (L : List Addr) (H : Hp) (σ : L2.St) (k : γ) (vs : List V), Stt K W L0 H0 L H σ ρ k → TA K (L ++ W.M) H vs ds → ∀ Q : L2.St → Hp → Prop,
    (∀ σ' ρ', Stt K W L0 H0 L H σ' ρ' k → σ'.length = σ.length → (∀ i, ¬ js i → σ'[i]? = σ[i]?) → Ψ ρ' → Q σ' H) → g vs σ H Q
section
variable {K : PySem.W.Frag} {γ : Type} {W : Wd γ} {ρ : Rho} {k : γ} {js : Nat → Prop} {Ψ : Rho → Prop} {d : PyData} {ds : List PyData}
theorem tg_name {i : Nat} (hj : js i) (q : Ψ (ρ.set i (.dat d))) : TgW K W (gName i) js d ρ Ψ := fun L0 H0 L H σ k v S t Q c =>
  c _ _ (S.set i t) (by rw [List.length_set]) (fun j hn => by
    rw [List.getElem?_set_ne]
    rintro rfl
    exact hn hj) q
theorem tgs_nil (q : Ψ ρ) : TgsW K W gNil js [] ρ Ψ := fun L0 H0 L H σ k vs S t Q c => by
  cases t
  exact ⟨rfl, c _ _ S rfl (fun _ _ => rfl) q⟩
theorem tgs_cons {g : TG} {gs : TGs} (h : TgW K W g js d ρ fun ρ1 => TgsW K W gs js ds ρ1 Ψ) : TgsW K W (gCons g gs) js (d :: ds) ρ Ψ := fun L0 H0 L H σ k vs S t Q c => by
  cases t with
  | @cons v vs _ _ h1 h2 =>
    exact ⟨v, vs, rfl, h L0 H0 L H σ k v S h1 _ fun σ1 ρ1 S1 l1 a1 g1 => g1 L0 H0 L H σ1 k vs S1 h2 Q fun σ2 ρ2 S2 l2 a2 q => c σ2 ρ2 S2 (l2.trans l1) (fun i hi => (a2 i hi).trans (a1 i hi)) q⟩
theorem tg_tup {n : Nat} {gs : TGs} (hn : ds.length = n) (h : TgsW K W gs js ds ρ Ψ) : TgW K W (gTup K n gs) js (.tuple ds) ρ Ψ := fun L0 H0 L H σ k v S t Q c => by
  cases t with
  | tup nn ha t => exact ⟨_, _, rfl, SqT.of ha, by rw [t.len]; exact hn, h L0 H0 L H σ k _ S t Q c⟩
end
section
variable {K : PySem.W.Frag} {γ : Type} {W : Wd γ} {ρ : Rho} {k : γ} {P : Ps γ} {ta tb te ti : TE} {tt : TT} {a b : TS} {tr : L2.TA}
theorem sw_seq (h : SW K W a ρ k { P with nx := fun ρ1 k1 => SW K W b ρ1 k1 P }) : SW K W (tSeq a b) ρ k P := fun L0 H0 L H σ D S nx rt bk ct =>
  h L0 H0 L H σ { D with nx := b D } S (fun L' H' σ' ρ' k' S' g => by
    refine (g : SW K W b ρ' k' P) L0 H0 L' H' σ' D S' nx rt bk ct) rt bk ct
theorem sw_nx (q : P.nx ρ k) : SW K W tNext ρ k P := fun L0 H0 L H σ D S nx _ _ _ => nx _ _ _ _ _ S q
theorem sw_brk (q : P.bk ρ k) : SW K W tBreak ρ k P := fun L0 H0 L H σ D S _ _ bk _ => bk _ _ _ _ _ S q
theorem sw_ct (q : P.ct ρ k) : SW K W tCont ρ k P := fun L0 H0 L H σ D S _ _ _ ct => ct _ _ _ _ _ S q
theorem sw_ret (h : EvW K W te ρ k P.rt) : SW K W (tRet te) ρ k P := fun L0 H0 L H σ D S _ rt _ _ =>
  h L0 H0 L H σ S _ fun v d k' H2 S2 e t q => rt v d k' H2 S2.base S2.wdM (S2.tM t) q
theorem sw_retN (q : P.rt .none k) : SW K W tRetN ρ k P := fun L0 H0 L H σ D S _ rt _ _ => rt .non .none k H S.base S.wdM .non q
theorem sw_drop (h : EvW K W te ρ k fun _ k1 => P.nx ρ k1) : SW K W (tDrop te) ρ k P := fun L0 H0 L H σ D S nx _ _ _ =>
  h L0 H0 L H σ S _ fun v d k' H2 S2 e t q => nx _ _ _ _ _ S2 q
theorem sw_if (h : EvT K W tt ρ k fun b' k1 => if b' = true then SW K W a ρ k1 P else SW K W b ρ k1 P) : SW K W (tIfS tt a b) ρ k P := fun L0 H0 L H σ D S nx rt bk ct =>
  h L0 H0 L H σ S _ fun b' k1 H2 S2 e g => by
    cases b' with
    | true => exact (g : SW K W a ρ k1 P) L0 H0 L H2 σ D S2 nx rt bk ct
    | false => exact (g : SW K W b ρ k1 P) L0 H0 L H2 σ D S2 nx rt bk ct
theorem sw_asg {g : TG} (h : EvW K W te ρ k fun d k1 => TgW K W g (fun _ => True) d ρ fun ρ1 => P.nx ρ1 k1) : SW K W (tAsg te g) ρ k P := fun L0 H0 L H σ D S nx _ _ _ =>
  h L0 H0 L H σ S _ fun v d k1 H1 S1 e t g => g L0 H0 L H1 σ k1 v S1 t _ fun σ2 ρ2 S2 _ _ q => nx _ _ _ _ _ S2 q
theorem sw_set {i : Nat} (h : EvW K W te ρ k fun d k1 => P.nx (ρ.set i (.dat d)) k1) : SW K W (tAsg te (gName i)) ρ k P := sw_asg fun L0 H0 L H σ S Q c => h L0 H0 L H σ S Q fun v d k1 H1 S1 e t q => c v d k1 H1 S1 e t (tg_name trivial q)
theorem sw_par {i j : Nat} (h : EvA K W tr ρ k fun ds k1 => ∃ d e, ds = [d, e] ∧ P.nx ((ρ.set i (.dat d)).set j (.dat e)) k1) : SW K W (tPar i j tr) ρ k P := fun L0 H0 L H σ D S nx _ _ _ =>
  h L0 H0 L H σ S _ fun vs ds k1 H1 S1 e1 t g => by
    obtain ⟨d, e, rfl, q⟩ := g
    obtain ⟨v, u, rfl, t1, t2⟩ := t.two_
    exact ⟨v, u, rfl, nx _ _ _ _ _ ((S1.set i t1).set j t2) q⟩
/-- x = [..], a list of its own -/
theorem sw_own {i : Nat} (h : EvA K W tr ρ k fun ds k1 => ds.length ≤ 100000 ∧ P.nx (ρ.set i (.own ds)) k1) : SW K W (tAsg (tLst tr) (gName i)) ρ k P := fun L0 H0 L H σ D S nx _ _ _ =>
  h L0 H0 L H σ S _ fun vs ds k1 H1 S1 e1 t g => ⟨Nat.le_trans (show vs.length ≤ 100000 by rw [t.len]; exact g.1) (by decide), fun p hp => nx _ _ _ _ _ (S1.setOwn i (s0 := .own ds) rfl hp ⟨p, vs, rfl, by simp, upd_same, (t.plus hp).ext (Ext.put (by simp))⟩) g.2⟩
theorem sw_ownD {i : Nat} (q : P.nx (ρ.set i (.ownD [])) k) : SW K W (tAsg tDNewK (gName i)) ρ k P := fun L0 H0 L H σ D S nx _ _ _ =>
  fun p hp => nx _ _ _ _ _ (S.setOwn i (s0 := .ownD []) rfl hp ⟨p, [], rfl, by simp, upd_same, .nil⟩) q
theorem tyList {K : PySem.W.Frag} {H : Hp} {l : Addr} {xs : List V} (h : H l = some (.lst xs)) : tyV K "list" (.ref l) H := .inl ⟨rfl, xs, SqL.of h⟩
/-- x.append(e) -/
theorem sw_append {i : Nat} (h : EvW K W te ρ k fun d k1 => ∃ ds, ρ[i]? = some (.own ds) ∧ ds.length < 100000 ∧ P.nx (ρ.set i (.own (ds ++ [d]))) k1) (h0 : ∃ ds, ρ[i]? = some (.own ds)) :
    SW K W (tDrop (tBM K "list" rAppend (tVar i) (tCons te tNil))) ρ k P := fun L0 H0 L H σ D S nx _ _ _ => by
  obtain ⟨ds0, h0⟩ := h0
  obtain ⟨l, xs, e1, e2, e3, e4⟩ := S.slots i _ h0
  refine ⟨.ref l, e1, tyList e3, h L0 H0 L H σ S _ fun v d k1 H1 S1 _ t g => ?_⟩
  obtain ⟨ds, h1, hl, q⟩ := g
  obtain ⟨l', ys, f1, f2, f3, f4⟩ := S1.slots i _ h1
  have el : l = l' := by rw [e1] at f1; injection f1 with f1; injection f1 with f1; injection f1
  subst el
  refine ⟨l, ys, v, rfl, rfl, f3, Nat.lt_of_le_of_lt (show ys.length ≤ 99999 by rw [f4.len]; omega) (by decide), ?_⟩
  exact nx _ _ _ _ _ (S1.put (s1 := .own (ds ++ [d])) h1 rfl rfl f1 f2 ⟨l, ys ++ [v], rfl, f2, upd_same, (f4.app (.one t)).ext (Ext.put (List.mem_append_left _ f2))⟩) q
/-- x.extend(e), e a new list -/
theorem sw_extend {i : Nat} (h : EvW K W te ρ k fun d k1 => ∃ ds es, d = .list es ∧ ρ[i]? = some (.own ds) ∧ ds.length + es.length ≤ 100000 ∧ P.nx (ρ.set i (.own (ds ++ es))) k1) (h0 : ∃ ds, ρ[i]? = some (.own ds)) :
    SW K W (tDrop (tBM K "list" rExtend (tVar i) (tCons te tNil))) ρ k P := fun L0 H0 L H σ D S nx _ _ _ => by
  obtain ⟨ds0, h0⟩ := h0
  obtain ⟨l, xs, e1, e2, e3, e4⟩ := S.slots i _ h0
  refine ⟨.ref l, e1, tyList e3, h L0 H0 L H σ S _ fun v d k1 H1 S1 _ t g => ?_⟩
  obtain ⟨ds, es, rfl, h1, hl, q⟩ := g
  obtain ⟨l', ys, f1, f2, f3, f4⟩ := S1.slots i _ h1
  have el : l = l' := by rw [e1] at f1; injection f1 with f1; injection f1 with f1; injection f1
  subst el
  cases t with
  | @lst b zs _ nb hb tz =>
    refine ⟨l, b, ys, zs, rfl, rfl, f3, hb, Nat.le_trans (show ys.length + zs.length ≤ 100000 by rw [f4.len, tz.len]; exact hl) (by decide), ?_⟩
    exact nx _ _ _ _ _ (S1.put (s1 := .own (ds ++ es)) h1 rfl rfl f1 f2 ⟨l, ys ++ zs, rfl, f2, upd_same, (f4.app tz).ext (Ext.put (List.mem_append_left _ f2))⟩) q
/-- x[j] = e -/
theorem TA.set {N : List Addr} {H : Hp} : ∀ {vs : List V} {ds : List PyData} (j : Nat) {v : V} {d : PyData}, TA K N H vs ds → T K N H v d → TA K N H (vs.set j v) (ds.set j d)
  | _, _, _, _, _, .nil, _ => .nil
  | _, _, 0, _, _, .cons _ t, h => .cons h t
  | _, _, j + 1, _, _, .cons g t, h => .cons g (TA.set j t h)
theorem sw_setL {i : Nat} (h : EvW K W te ρ k fun d k1 => EvW K W ti ρ k1 fun x k2 => ∃ ds j, x = .int ((j : Nat) : Int) ∧ ρ[i]? = some (.own ds) ∧ j < ds.length ∧ P.nx (ρ.set i (.own (ds.set j d))) k2) (h0 : ∃ ds, ρ[i]? = some (.own ds)) :
    SW K W (tAsg te (gSub (tVar i) ti rSetL)) ρ k P := fun L0 H0 L H σ D S nx _ _ _ =>
  h L0 H0 L H σ S _ fun v d k1 H1 S1 _ t g => by
    obtain ⟨ds0, h0⟩ := h0
    obtain ⟨l, xs, e1, e2, e3, e4⟩ := S1.slots i _ h0
    refine ⟨.ref l, e1, g L0 H0 L H1 σ S1 _ fun vi x k2 H2 S2 ee2 t2 g2 => ?_⟩
    obtain ⟨ds, j, rfl, h1, hj, q⟩ := g2
    obtain ⟨l', ys, f1, f2, f3, f4⟩ := S2.slots i _ h1
    have el : l = l' := by rw [e1] at f1; injection f1 with f1; injection f1 with f1; injection f1
    subst el
    cases t2
    refine ⟨l, ys, (j : Int), j, rfl, rfl, f3, ?_, ?_⟩
    · have : j < ys.length := by rw [f4.len]; exact hj
      unfold ixN
      rw [if_pos (by omega), if_pos (by omega)]
      simp
    · exact nx _ _ _ _ _ (S2.put (s1 := .own (ds.set j d)) h1 rfl rfl f1 f2 ⟨l, ys.set j v, rfl, f2, upd_same, (TA.set j f4 (t.ext (eM ee2))).ext (Ext.put (List.mem_append_left _ f2))⟩) q
/-- x += e (ints) -/
theorem sw_aug {i : Nat} {f : Int → Int → Int} (h0 : ∃ x, ρ[i]? = some (.dat (.int x))) (h : EvW K W te ρ k fun d k1 => ∃ x y, ρ[i]? = some (.dat (.int x)) ∧ d = .int y ∧ P.nx (ρ.set i (.dat (.int (f x y)))) k1) : SW K W (tAug i te (ipI f)) ρ k P := fun L0 H0 L H σ D S nx _ _ _ => by
  obtain ⟨x0, h0⟩ := h0
  obtain ⟨v, e1, t1⟩ := S.slots i _ h0
  refine ⟨v, e1, h L0 H0 L H σ S _ fun u d k1 H1 S1 _ t g => ?_⟩
  obtain ⟨x, y, h1, rfl, q⟩ := g
  rw [h0] at h1
  cases h1
  cases t1
  cases t
  exact ⟨x0, y, rfl, rfl, nx _ _ _ _ _ (S1.set i (.int _)) q⟩
/-- an own list is one of the data from here on -/
theorem sw_freeze (i : Nat) {ds : List PyData} (hi : ρ[i]? = some (.own ds)) (h : SW K W a (ρ.set i (.dat (.list ds))) k P) : SW K W a ρ k P := fun L0 H0 L H σ D S nx rt bk ct => by
  obtain ⟨L', l, _, _, _, S'⟩ := S.freeze hi
  exact h L0 H0 L' H σ D S' nx rt bk ct
theorem sw_weak {ρ' : Rho} (hl : ρ'.length = ρ.length) (hw : ∀ (i : Nat) (s : Slot), ρ'[i]? = some s → s = .no ∨ ρ[i]? = some s) (h : SW K W a ρ' k P) : SW K W a ρ k P := fun L0 H0 L H σ D S nx rt bk ct =>
  h L0 H0 L H σ D (S.weaken hl hw) nx rt bk ct
theorem SW.mono {P' : Ps γ} (h : SW K W a ρ k P') (h1 : ∀ ρ k, P'.nx ρ k → P.nx ρ k) (h2 : ∀ d k, P'.rt d k → P.rt d k) (h3 : ∀ ρ k, P'.bk ρ k → P.bk ρ k) (h4 : ∀ ρ k, P'.ct ρ k → P.ct ρ k) : SW K W a ρ k P := fun L0 H0 L H σ D S nx rt bk ct =>
  h L0 H0 L H σ D S (fun _ _ _ _ _ S' q => nx _ _ _ _ _ S' (h1 _ _ q)) (fun _ _ _ _ e w t q => rt _ _ _ _ e w t (h2 _ _ q)) (fun _ _ _ _ _ S' q => bk _ _ _ _ _ S' (h3 _ _ q)) (fun _ _ _ _ _ S' q => ct _ _ _ _ _ S' (h4 _ _ q))
/-- two statements, what holds between them -/
theorem sw_mid (J : Rho → γ → Prop) (h1 : SW K W a ρ k { P with nx := J }) (h2 : ∀ ρ1 k1, J ρ1 k1 → SW K W b ρ1 k1 P) : SW K W (tSeq a b) ρ k P := sw_seq (h1.mono (P := { P with nx := fun ρ1 k1 => SW K W b ρ1 k1 P }) h2 (fun _ _ q => q) (fun _ _ q => q) (fun _ _ q => q))
/-- while -/
theorem sw_while (J : Nat → Rho → γ → Prop) (m0 : Nat) (h0 : J m0 ρ k)
    (hs : ∀ m ρ1 k1, J m ρ1 k1 → EvT K W tt ρ1 k1 fun b' k2 => if b' = true then SW K W b ρ1 k2 { P with nx := fun ρ2 k3 => ∃ m', m' < m ∧ J m' ρ2 k3, ct := fun ρ2 k3 => ∃ m', m' < m ∧ J m' ρ2 k3, bk := P.nx } else P.nx ρ1 k2) :
    SW K W (tWhile tt b) ρ k P := fun L0 H0 L H σ D S nx rt bk ct => by
  refine ⟨fun m σ' H' => ∃ L' ρ' k', Stt K W L0 H0 L' H' σ' ρ' k' ∧ J m ρ' k', ⟨m0, L, ρ, k, S, h0⟩, ?_⟩
  rintro m σ1 H1 ⟨L1, ρ1, k1, S1, j1⟩
  refine hs m ρ1 k1 j1 L0 H0 L1 H1 σ1 S1 _ fun b' k2 H2 S2 _ g => ?_
  cases b' with
  | false => exact nx _ _ _ _ _ S2 g
  | true =>
    refine ⟨fun σ' H' => ∃ m', m' < m ∧ ∃ L' ρ' k', Stt K W L0 H0 L' H' σ' ρ' k' ∧ J m' ρ' k', fun σ' H' ⟨m', hm, w⟩ => ⟨m', hm, w⟩, ?_⟩
    exact (g : SW K W b ρ1 k2 _) L0 H0 L1 H2 σ1 _ S2 (fun L' H' σ' ρ' k' S' ⟨m', hm, j'⟩ => ⟨m', hm, L', ρ', k', S', j'⟩) rt (fun L' H' σ' ρ' k' S' q => nx _ _ _ _ _ S' q) (fun L' H' σ' ρ' k' S' ⟨m', hm, j'⟩ => ⟨m', hm, L', ρ', k', S', j'⟩)
end

/-! ### walks -/
structure WalkD (K : PySem.W.Frag) {γ : Type} (W : Wd γ) (J : It) (n : Nat) (f : Nat → PyData) (L1 : List Addr) (H1 : Hp) : Prop where
  goes : ∀ i L H, i < n → Later W L1 H1 L H → J.go i H
  stops : ∀ L H, Later W L1 H1 L H → J.stop n H
  yields : ∀ i L H x H', i < n → Later W L1 H1 L H → J.yld i H x H' → Same H H' ∧ T K (L ++ W.M) H' x (f i)
def EvI (K : PySem.W.Frag) {γ : Type} (W : Wd γ) (wi : TI) (ρ : Rho) (k : γ) (Ω : Nat → (Nat → PyData) → γ → Prop) : Prop :=
  ∀ (L0 : List Addr) (H0 : Hp) (L : List Addr) (H : Hp) (σ : L2.St), Stt K W L0 H0 L H σ ρ k → ∀ R : It → Hp → Prop, (∀ J n f k' H2, Stt K W L0 H0 L H2 σ ρ k' → Ext W.M H H2 → WalkD K W J n f L H2 → Ω n f k' → R J H2) → wi σ H R
/-- the same for a comprehension: off M all stands meanwhile -/
structure WalkX (K : PySem.W.Frag) {γ : Type} (W : Wd γ) (J : It) (n : Nat) (f : Nat → PyData) (L1 : List Addr) (H1 : Hp) : Prop where
  goes : ∀ i L H, i < n → Later W L1 H1 L H → Ext W.M H1 H → J.go i H
  stops : ∀ L H, Later W L1 H1 L H → Ext W.M H1 H → J.stop n H
  yields : ∀ i L H x H', i < n → Later W L1 H1 L H → Ext W.M H1 H → J.yld i H x H' → Same H H' ∧ T K (L ++ W.M) H' x (f i)
def EvX (K : PySem.W.Frag) {γ : Type} (W : Wd γ) (wi : TI) (ρ : Rho) (k : γ) (Ω : Nat → (Nat → PyData) → γ → Prop) : Prop :=
  ∀ (L0 : List Addr) (H0 : Hp) (L : List Addr) (H : Hp) (σ : L2.St), Stt K W L0 H0 L H σ ρ k → ∀ R : It → Hp → Prop, (∀ J n f k' H2, Stt K W L0 H0 L H2 σ ρ k' → Ext W.M H H2 → WalkX K W J n f L H2 → Ω n f k' → R J H2) → wi σ H R
theorem EvI.x {K : PySem.W.Frag} {γ : Type} {W : Wd γ} {wi : TI} {ρ : Rho} {k : γ} {Ω : Nat → (Nat → PyData) → γ → Prop} (h : EvI K W wi ρ k Ω) : EvX K W wi ρ k Ω := fun L0 H0 L H σ S R c =>
  h L0 H0 L H σ S R fun J n f k' H2 S2 e wd q => c J n f k' H2 S2 e ⟨fun i L H hi l _ => wd.goes i L H hi l, fun L H l _ => wd.stops L H l, fun i L H x H' hi l _ y => wd.yields i L H x H' hi l y⟩ q
def itemD (ds : List PyData) (i : Nat) : PyData := ds[i]?.getD .none
section
variable {K : PySem.W.Frag} {γ : Type} {W : Wd γ} {ρ : Rho} {k : γ} {te : TE} {tr : L2.TA} {Ω : Nat → (Nat → PyData) → γ → Prop}
theorem Later.same {L1 L : List Addr} {H1 H H' : Hp} (l : Later W L1 H1 L H) (e : Same H H') : Later W L1 H1 L H' := ⟨l.ext.trans (Ext.same e), l.fresh, l.trk.same e⟩
theorem TA.itemD {N : List Addr} {H : Hp} {xs : List V} {ds : List PyData} {i : Nat} {x : V} (t : TA K N H xs ds) (h : xs[i]? = some x) : T K N H x (itemD ds i) := by
  obtain ⟨d, h1, h2⟩ := t.get h
  unfold U.itemD
  rw [h1]
  exact h2
/-- a list's items, when the list is one of the data -/
theorem later_seq {L1 L : List Addr} {H1 H : Hp} {a : Addr} {ds : List PyData} (l : Later W L1 H1 L H) (t : T K (L1 ++ W.M) H1 (.ref a) (.list ds)) : ∃ xs, H a = some (.lst xs) ∧ TA K (L ++ W.M) H xs ds := by
  cases l.T t with
  | lst n h t => exact ⟨_, h, t⟩
theorem later_tup {L1 L : List Addr} {H1 H : Hp} {a : Addr} {ds : List PyData} (l : Later W L1 H1 L H) (t : T K (L1 ++ W.M) H1 (.ref a) (.tuple ds)) : ∃ xs, H a = some (.tup xs) ∧ TA K (L ++ W.M) H xs ds := by
  cases l.T t with
  | tup n h t => exact ⟨_, h, t⟩
theorem walkD_list {L1 : List Addr} {H1 : Hp} {a : Addr} {ds : List PyData} (t : T K (L1 ++ W.M) H1 (.ref a) (.list ds)) : WalkD K W (Itl K a) ds.length (itemD ds) L1 H1 := by
  refine ⟨fun i L H hi l => ?_, fun L H l => ?_, fun i L H x H' hi l y => ?_⟩
  · obtain ⟨xs, h, t⟩ := later_seq l t
    exact ⟨xs, xs[i]'(by rw [t.len]; exact hi), SqL.of h, by simp [t.len, hi]⟩
  · obtain ⟨xs, h, t⟩ := later_seq l t
    exact ⟨xs, SqL.of h, Nat.le_of_eq t.len⟩
  · obtain ⟨xs, h, t⟩ := later_seq l t
    obtain ⟨rfl, y⟩ := y
    exact ⟨Same.refl _, t.itemD (y xs (SqL.of h))⟩
theorem walkD_tup {L1 : List Addr} {H1 : Hp} {a : Addr} {ds : List PyData} (t : T K (L1 ++ W.M) H1 (.ref a) (.tuple ds)) : WalkD K W (Itt K a) ds.length (itemD ds) L1 H1 := by
  refine ⟨fun i L H hi l => ?_, fun L H l => ?_, fun i L H x H' hi l y => ?_⟩
  · obtain ⟨xs, h, t⟩ := later_tup l t
    exact ⟨xs, xs[i]'(by rw [t.len]; exact hi), SqT.of h, by simp [t.len, hi]⟩
  · obtain ⟨xs, h, t⟩ := later_tup l t
    exact ⟨xs, SqT.of h, Nat.le_of_eq t.len⟩
  · obtain ⟨xs, h, t⟩ := later_tup l t
    obtain ⟨rfl, y⟩ := y
    exact ⟨Same.refl _, t.itemD (y xs (SqT.of h))⟩
theorem ei_list (h : EvW K W te ρ k fun d k1 => ∃ ds, d = .list ds ∧ Ω ds.length (itemD ds) k1) : EvI K W (iList K te) ρ k Ω := fun L0 H0 L H σ S R c =>
  h L0 H0 L H σ S _ fun v d k1 H1 S1 e t g => by
    obtain ⟨ds, rfl, q⟩ := g
    have w := fun a => walkD_list (K := K) (W := W) (L1 := L) (H1 := H1) (a := a) (ds := ds)
    cases t with
    | @lst a xs _ n ha tt => exact ⟨a, rfl, ⟨xs, SqL.of ha⟩, c _ _ _ k1 H1 S1 e (w a (.lst n ha tt)) q⟩
theorem ei_tup (h : EvW K W te ρ k fun d k1 => ∃ ds, d = .tuple ds ∧ Ω ds.length (itemD ds) k1) : EvI K W (iTup K te) ρ k Ω := fun L0 H0 L H σ S R c =>
  h L0 H0 L H σ S _ fun v d k1 H1 S1 e t g => by
    obtain ⟨ds, rfl, q⟩ := g
    have w := fun a => walkD_tup (K := K) (W := W) (L1 := L) (H1 := H1) (a := a) (ds := ds)
    cases t with
    | @tup a xs _ n ha tt => exact ⟨a, rfl, ⟨xs, SqT.of ha⟩, c _ _ _ k1 H1 S1 e (w a (.tup n ha tt)) q⟩
theorem walkD_range {lo : Int} {n : Nat} {L1 : List Addr} {H1 : Hp} : WalkD K W (Itr lo n) n (fun i => .int (lo + (i : Nat))) L1 H1 :=
  ⟨fun i L H hi _ => hi, fun L H _ => Nat.le_refl _, fun i L H x H' hi _ y => by
    obtain ⟨rfl, rfl⟩ := y
    exact ⟨Same.refl _, .int _⟩⟩
theorem ei_rng1 (h : EvA K W tr ρ k fun ds k1 => ∃ j : Int, ds = [.int j] ∧ -(2 ^ 62) ≤ j ∧ j < 2 ^ 62 ∧ Ω j.toNat (fun i => .int (i : Nat)) k1) : EvI K W (iRng1 tr) ρ k Ω := fun L0 H0 L H σ S R c =>
  h L0 H0 L H σ S _ fun vs ds k1 H1 S1 e t g => by
    obtain ⟨j, rfl, h1, h2, q⟩ := g
    obtain ⟨v, rfl, t1⟩ := t.one_
    cases t1
    refine ⟨j, rfl, h1, h2, c _ _ (fun i => .int (0 + (i : Nat))) k1 H1 S1 e walkD_range ?_⟩
    have : (fun i : Nat => PyData.int (0 + (i : Nat))) = fun i : Nat => PyData.int (i : Nat) := by funext i; rw [Int.zero_add]
    rw [this]
    exact q
theorem ei_rng2 (h : EvA K W tr ρ k fun ds k1 => ∃ a b : Int, ds = [.int a, .int b] ∧ (-(2 ^ 62) ≤ a ∧ a < 2 ^ 62 ∧ -(2 ^ 62) ≤ b ∧ b < 2 ^ 62) ∧ Ω (b - a).toNat (fun i => .int (a + (i : Nat))) k1) : EvI K W (iRng2 tr) ρ k Ω := fun L0 H0 L H σ S R c =>
  h L0 H0 L H σ S _ fun vs ds k1 H1 S1 e t g => by
    obtain ⟨a, b, rfl, h1, q⟩ := g
    obtain ⟨v, u, rfl, t1, t2⟩ := t.two_
    cases t1
    cases t2
    exact ⟨a, b, rfl, h1, c _ _ _ k1 H1 S1 e walkD_range q⟩
theorem ei_str (h : EvW K W te ρ k fun d k1 => ∃ z : Str, d = .str z ∧ Ω z.cps.size (fun i => .str ⟨#[z.cps[i]?.getD 0]⟩) k1) : EvI K W (iStr te) ρ k Ω := fun L0 H0 L H σ S R c =>
  h L0 H0 L H σ S _ fun v d k1 H1 S1 e t g => by
    obtain ⟨z, rfl, q⟩ := g
    cases t
    refine ⟨z, rfl, c _ _ _ k1 H1 S1 e ⟨fun i L H hi _ => hi, fun L H _ => Nat.le_refl _, fun i L H x H' hi _ y => ?_⟩ q⟩
    obtain ⟨rfl, cc, h1, rfl⟩ := y
    refine ⟨Same.refl _, ?_⟩
    show T K _ _ _ (.str ⟨#[z.cps[i]?.getD 0]⟩)
    rw [h1]
    exact .str _
/-- enumerate(list), enumerate(tuple) -/
theorem pair_new {L : List Addr} {H : Hp} {p : Addr} {i : Nat} {x : V} {d : PyData} (tr : Trk (L ++ W.M) H) (hp : H p = none) (t : T K (L ++ W.M) H x d) : T K (L ++ W.M) (upd H p (.tup [.int (i : Nat), x])) (.ref p) (.tuple [.int (i : Nat), d]) :=
  .tup (tr.new hp) upd_same (.cons (.int _) (.one (t.ext (Ext.new hp))))
theorem ei_enumL (h : EvA K W tr ρ k fun es k1 => ∃ ds, es = [.list ds] ∧ Ω ds.length (fun i => .tuple [.int (i : Nat), itemD ds i]) k1) : EvI K W (iEnum K tr) ρ k Ω := fun L0 H0 L H σ S R c =>
  h L0 H0 L H σ S _ fun vs es k1 H1 S1 e t g => by
    obtain ⟨ds, rfl, q⟩ := g
    obtain ⟨v, rfl, t1⟩ := t.one_
    have w : ∀ a, T K (L ++ W.M) H1 (.ref a) (.list ds) → WalkD K W (Ite K a) ds.length (fun i => .tuple [.int (i : Nat), itemD ds i]) L H1 := fun a t => by
      refine ⟨fun i L H hi l => ?_, fun L H l => ?_, fun i L H x H' hi l y => ?_⟩
      · obtain ⟨xs, h, t⟩ := later_seq l t
        exact (walk_enum (xs := xs)).goes i H (by rw [t.len]; exact hi) (SqL.of h)
      · obtain ⟨xs, h, t⟩ := later_seq l t
        have := (walk_enum (K := K) (a := a) (xs := xs)).stops H (SqL.of h)
        rw [t.len] at this
        exact this
      · obtain ⟨xs, h, t⟩ := later_seq l t
        obtain ⟨p, u, z, rfl, hp, rfl, e1, e2⟩ := (walk_enum (K := K) (a := a) (xs := xs)).yields i H x H' (by rw [t.len]; exact hi) (SqL.of h) y
        cases e1
        exact ⟨Same.new hp, pair_new l.trk hp (t.itemD e2)⟩
    cases t1 with
    | @lst a xs _ n ha tt => exact ⟨a, xs, rfl, SqL.of ha, c _ _ _ k1 H1 S1 e (w a (.lst n ha tt)) q⟩
theorem ei_enumT (h : EvA K W tr ρ k fun es k1 => ∃ ds, es = [.tuple ds] ∧ Ω ds.length (fun i => .tuple [.int (i : Nat), itemD ds i]) k1) : EvI K W (iEnumT K tr) ρ k Ω := fun L0 H0 L H σ S R c =>
  h L0 H0 L H σ S _ fun vs es k1 H1 S1 e t g => by
    obtain ⟨ds, rfl, q⟩ := g
    obtain ⟨v, rfl, t1⟩ := t.one_
    have w : ∀ a, T K (L ++ W.M) H1 (.ref a) (.tuple ds) → WalkD K W (ItE K a) ds.length (fun i => .tuple [.int (i : Nat), itemD ds i]) L H1 := fun a t => by
      refine ⟨fun i L H hi l => ?_, fun L H l => ?_, fun i L H x H' hi l y => ?_⟩
      · obtain ⟨xs, h, t⟩ := later_tup l t
        exact ⟨xs, xs[i]'(by rw [t.len]; exact hi), SqT.of h, by simp [t.len, hi]⟩
      · obtain ⟨xs, h, t⟩ := later_tup l t
        exact ⟨xs, SqT.of h, Nat.le_of_eq t.len⟩
      · obtain ⟨xs, h, t⟩ := later_tup l t
        obtain ⟨p, z, rfl, hp, rfl, e1⟩ := y
        exact ⟨Same.new hp, pair_new l.trk hp (t.itemD (e1 xs (SqT.of h)))⟩
    cases t1 with
    | @tup a xs _ n ha tt => exact ⟨a, xs, rfl, SqT.of ha, c _ _ _ k1 H1 S1 e (w a (.tup n ha tt)) q⟩
end
section
variable {K : PySem.W.Frag} {γ : Type} {W : Wd γ} {ρ : Rho} {k : γ} {P : Ps γ} {g : TG} {b : TS} {wi : TI}
theorem sw_for (h : EvI K W wi ρ k fun n f k1 => ∃ J : Nat → Rho → γ → Prop, J 0 ρ k1 ∧
      (∀ i ρ1 k2, i < n → J i ρ1 k2 → TgW K W g (fun _ => True) (f i) ρ1 fun ρ2 => SW K W b ρ2 k2 { P with nx := J (i + 1), ct := J (i + 1), bk := P.nx }) ∧ ∀ ρ1 k2, J n ρ1 k2 → P.nx ρ1 k2) : SW K W (tFor wi g b) ρ k P := fun L0 H0 L H σ D S nx rt bk ct =>
  h L0 H0 L H σ S _ fun J n f k1 H1 S1 e wd g => by
    obtain ⟨Jv, j0, turn, done⟩ := g
    refine ⟨fun i m σ' H' => m = n - i ∧ i ≤ n ∧ ∃ L' ρ' k', Stt K W L H1 L' H' σ' ρ' k' ∧ Jv i ρ' k', ⟨n, rfl, Nat.zero_le _, L, ρ, k1, S1.rebase, j0⟩, ?_⟩
    rintro i m σ2 H2 ⟨rfl, hi, L2, ρ2, k2, S2, j2⟩
    have l2 := S2.later
    by_cases hlt : i < n
    · refine .inr ⟨wd.goes i L2 H2 hlt l2, fun σ' H' => ∃ L' ρ' k', Stt K W L H1 L' H' σ' ρ' k' ∧ Jv (i + 1) ρ' k', fun σ' H' ⟨L', ρ', k', S', j'⟩ => ⟨n - (i + 1), by omega, rfl, hlt, L', ρ', k', S', j'⟩, fun x H' y => ?_⟩
      obtain ⟨sm, tx⟩ := wd.yields i L2 H2 x H' hlt l2 y
      refine turn i ρ2 k2 hlt j2 L H1 L2 H' σ2 k2 x (S2.same sm) tx _ fun σ3 ρ3 S3 _ _ body => ?_
      refine (body : SW K W b ρ3 k2 _) L H1 L2 H' σ3 _ S3 (fun L' H' σ' ρ' k' S' q => ⟨L', ρ', k', S', q⟩) (fun v d k' H' ex wi t q => ?_) (fun L' H' σ' ρ' k' S' q => nx _ _ _ _ _ (S1.back S') q) (fun L' H' σ' ρ' k' S' q => ⟨L', ρ', k', S', q⟩)
      refine rt v d k' H' (fun b o nb hb => ?_) wi t q
      refine ex b o (fun z => ?_) (S1.base b o nb hb)
      rcases List.mem_append.mp z with z | z
      · rcases S1.fresh b z with r | r
        · exact nb (List.mem_append_left _ r)
        · rw [r] at hb; cases hb
      · exact nb (List.mem_append_right _ z)
    · have ei : i = n := by omega
      subst ei
      exact .inl ⟨wd.stops L2 H2 l2, nx _ _ _ _ _ (S1.back S2) (done ρ2 k2 j2)⟩
end

/-! ### comprehensions -/
def wipeR (ρ : Rho) : List Nat → Rho
  | [] => ρ
  | v :: vs => (wipeR ρ vs).set v .no
theorem wipeR_length (ρ : Rho) : ∀ vs : List Nat, (wipeR ρ vs).length = ρ.length
  | [] => rfl
  | v :: vs => by unfold wipeR; rw [List.length_set, wipeR_length ρ vs]
theorem wipe_get (σ : L2.St) (i : Nat) : ∀ vs : List Nat, (wipe σ vs)[i]? = if i ∈ vs then σ[i]?.map fun _ => none else σ[i]?
  | [] => by simp [wipe]
  | v :: vs => by
    unfold wipe
    by_cases e : v = i
    · subst e
      rw [List.getElem?_set_self', wipe_get σ v vs]
      simp only [List.mem_cons, true_or, if_true]
      split <;> cases σ[v]? <;> rfl
    · rw [List.getElem?_set_ne e, wipe_get σ i vs]
      simp only [List.mem_cons, Ne.symm e, false_or]
theorem wipeR_get (ρ : Rho) (i : Nat) : ∀ vs : List Nat, (wipeR ρ vs)[i]? = if i ∈ vs then ρ[i]?.map fun _ => .no else ρ[i]?
  | [] => by simp [wipeR]
  | v :: vs => by
    unfold wipeR
    by_cases e : v = i
    · subst e
      rw [List.getElem?_set_self', wipeR_get ρ v vs]
      simp only [List.mem_cons, true_or, if_true]
      split <;> cases ρ[v]? <;> rfl
    · rw [List.getElem?_set_ne e, wipeR_get ρ i vs]
      simp only [List.mem_cons, Ne.symm e, false_or]
theorem wipe_of {σ σ2 : L2.St} {vs : List Nat} (hl : σ2.length = (wipe σ vs).length) (h : ∀ i, i ∉ vs → σ2[i]? = (wipe σ vs)[i]?) : wipe σ2 vs = wipe σ vs := by
  apply List.ext_getElem?
  intro i
  rw [wipe_get, wipe_get]
  by_cases hi : i ∈ vs
  · rw [if_pos hi, if_pos hi]
    rw [wipe_length] at hl
    by_cases hj : i < σ.length
    · simp [hj, hl]
    · simp [hj, hl]
  · rw [if_neg hi, if_neg hi, h i hi, wipe_get, if_neg hi]
section
variable {K : PySem.W.Frag} {γ : Type} {W : Wd γ} {L0 L : List Addr} {H0 H H' : Hp} {σ : L2.St} {ρ : Rho} {k : γ} {p : Addr} {o : HO}
theorem Stt.wipe (S : Stt K W L0 H0 L H σ ρ k) (vs : List Nat) : Stt K W L0 H0 L H (wipe σ vs) (wipeR ρ vs) k := by
  refine ⟨S.base, S.fresh, S.offM, S.trk, S.wd, by rw [wipeR_length, wipe_length]; exact S.len, fun i s hs => ?_, fun i j s t hs ht h1 h2 h3 => ?_⟩
  · rw [wipeR_get] at hs
    rw [wipe_get]
    by_cases hi : i ∈ vs
    · rw [if_pos hi] at hs
      cases q : ρ[i]? with
      | none => rw [q] at hs; cases hs
      | some u =>
        rw [q] at hs
        cases hs
        trivial
    · rw [if_neg hi] at hs ⊢
      exact S.slots i s hs
  · have off : ∀ (i : Nat) (s : Slot), (wipeR ρ vs)[i]? = some s → s.isOwn = true → i ∉ vs ∧ ρ[i]? = some s := fun i s hs ho => by
      rw [wipeR_get] at hs
      by_cases hi : i ∈ vs
      · rw [if_pos hi] at hs
        cases q : ρ[i]? with
        | none => rw [q] at hs; cases hs
        | some u =>
          rw [q] at hs
          cases hs
          cases ho
      · rw [if_neg hi] at hs
        exact ⟨hi, hs⟩
    obtain ⟨a1, a2⟩ := off i s hs h1
    obtain ⟨b1, b2⟩ := off j t ht h2
    rw [wipe_get, wipe_get, if_neg a1, if_neg b1] at h3
    exact S.dis i j s t a2 b2 h1 h2 h3
/-- no slot's own thing stands at p -/
def NoAt (ρ : Rho) (σ : L2.St) (p : Addr) : Prop := ∀ (i : Nat) (s : Slot), ρ[i]? = some s → s.isOwn = true → σ[i]? ≠ some (some (.ref p))
theorem Stt.hide (S : Stt K W L0 H0 L H σ ρ k) (hp : H p = none) : Stt K W L0 H0 (p :: L) (upd H p o) σ ρ k ∧ NoAt ρ σ p := by
  have np := S.nin hp
  have S1 := S.new (o := o) hp
  have npM : p ∉ W.M := fun z => np (List.mem_append_right _ z)
  have up : ∀ v d, T K (L ++ W.M) H v d → T K (p :: L ++ W.M) (upd H p o) v d := fun v d t => (t.plus hp).ext (Ext.put (by simp))
  refine ⟨⟨S1.base, fun l hl => ?_, fun l hl => ?_, ?_, S.wdNew hp, S.len, fun j s hs => ?_, S.dis⟩, fun i s hs ho z => ?_⟩
  · rcases List.mem_cons.mp hl with rfl | hl
    · by_cases h0 : l ∈ L0
      · exact .inl h0
      · right
        cases h : H0 l with
        | none => rfl
        | some o =>
          rw [S.base l o (fun z => (List.mem_append.mp z).elim h0 npM) h] at hp
          cases hp
    · exact S.fresh l hl
  · rcases List.mem_cons.mp hl with rfl | hl
    · exact npM
    · exact S.offM l hl
  · intro b hb z
    rcases List.mem_cons.mp hb with rfl | hb
    · rw [upd_same] at z; cases z
    · exact S1.trk b hb z
  · have q := S.slots j s hs
    cases s with
    | no => trivial
    | dat d =>
      obtain ⟨v, h1, h2⟩ := q
      exact ⟨v, h1, up _ _ h2⟩
    | own ds =>
      obtain ⟨l, xs, h1, h2, h3, h4⟩ := q
      exact ⟨l, xs, h1, List.mem_cons_of_mem _ h2, by rw [upd_ne (ne_of_none h3 hp)]; exact h3, h4.mapT up⟩
    | ownD kvs =>
      obtain ⟨l, xs, h1, h2, h3, h4⟩ := q
      exact ⟨l, xs, h1, List.mem_cons_of_mem _ h2, by rw [upd_ne (ne_of_none h3 hp)]; exact h3, h4.map up⟩
    | lck kvs =>
      obtain ⟨l, xs, od, h1, h2, h3, h4⟩ := q
      exact ⟨l, xs, od, h1, List.mem_cons_of_mem _ h2, by rw [upd_ne (ne_of_none h3 hp)]; exact h3, h4.map up⟩
    | raw v => exact q
    | fn F =>
      obtain ⟨f, c, h1, h2, h3, h4, h5⟩ := q
      exact ⟨f, c, h1, fun z => (List.mem_cons.mp z).elim (ne_of_none h4 hp) h2, fun z => (List.mem_cons.mp z).elim (ne_of_none h5 hp) h3, by rw [upd_ne (ne_of_none h4 hp)]; exact h4, by rw [upd_ne (ne_of_none h5 hp)]; exact h5⟩
    | ownN D kvs =>
      obtain ⟨l, xs, h1, h2, h3, h4⟩ := q
      exact ⟨l, xs, h1, List.mem_cons_of_mem _ h2, by rw [upd_ne (ne_of_none h3 hp)]; exact h3, h4.map up⟩
  · have q := S.slots i s hs
    cases s with
    | no => cases ho
    | dat d => cases ho
    | raw v => cases ho
    | fn F => cases ho
    | ownN D kvs =>
      obtain ⟨l, xs, h1, h2, h3, h4⟩ := q
      rw [z] at h1
      have e : p = l := by injection h1 with h1; injection h1 with h1; injection h1
      rw [← e, hp] at h3
      cases h3
    | own ds =>
      obtain ⟨l, xs, h1, h2, h3, h4⟩ := q
      rw [z] at h1
      have e : p = l := by injection h1 with h1; injection h1 with h1; injection h1
      rw [← e, hp] at h3
      cases h3
    | ownD kvs =>
      obtain ⟨l, xs, h1, h2, h3, h4⟩ := q
      rw [z] at h1
      have e : p = l := by injection h1 with h1; injection h1 with h1; injection h1
      rw [← e, hp] at h3
      cases h3
    | lck kvs =>
      obtain ⟨l, xs, od, h1, h2, h3, h4⟩ := q
      rw [z] at h1
      have e : p = l := by injection h1 with h1; injection h1 with h1; injection h1
      rw [← e, hp] at h3
      cases h3
theorem Stt.putHid (S : Stt K W L0 H0 (p :: L) H σ ρ k) (n : NoAt ρ σ p) : Stt K W L0 H0 (p :: L) (upd H p o) σ ρ k := by
  have up : ∀ v d, T K (p :: L ++ W.M) H v d → T K (p :: L ++ W.M) (upd H p o) v d := fun v d t => t.ext (Ext.put (by simp))
  have nM := S.offM p (by simp)
  refine ⟨fun b u nb hb => ?_, S.fresh, S.offM, S.trk.upd, W.loc k _ H _ (fun b hb => ?_) (Ext.put (by simp)) S.wd, S.len, fun j s hs => ?_, S.dis⟩
  · have : b ≠ p := by
      rintro rfl
      rcases S.fresh b (by simp) with q | q
      · exact nb (List.mem_append_left _ q)
      · rw [q] at hb; cases hb
    rw [upd_ne this]
    exact S.base b u nb hb
  · have : b ≠ p := by rintro rfl; exact nM hb
    rw [upd_ne this]
  · have q := S.slots j s hs
    have ns := n j s hs
    cases s with
    | no => trivial
    | dat d =>
      obtain ⟨v, h1, h2⟩ := q
      exact ⟨v, h1, up _ _ h2⟩
    | own ds =>
      obtain ⟨l, xs, h1, h2, h3, h4⟩ := q
      have : l ≠ p := by rintro rfl; exact ns rfl h1
      exact ⟨l, xs, h1, h2, by rw [upd_ne this]; exact h3, h4.mapT up⟩
    | ownD kvs =>
      obtain ⟨l, xs, h1, h2, h3, h4⟩ := q
      have : l ≠ p := by rintro rfl; exact ns rfl h1
      exact ⟨l, xs, h1, h2, by rw [upd_ne this]; exact h3, h4.map up⟩
    | lck kvs =>
      obtain ⟨l, xs, od, h1, h2, h3, h4⟩ := q
      have : l ≠ p := by rintro rfl; exact ns rfl h1
      exact ⟨l, xs, od, h1, h2, by rw [upd_ne this]; exact h3, h4.map up⟩
    | raw v => exact q
    | fn F =>
      obtain ⟨f, c, h1, h2, h3, h4, h5⟩ := q
      exact ⟨f, c, h1, h2, h3, by rw [upd_ne (by rintro rfl; exact h2 (by simp))]; exact h4, by rw [upd_ne (by rintro rfl; exact h3 (by simp))]; exact h5⟩
    | ownN D kvs =>
      obtain ⟨l, xs, h1, h2, h3, h4⟩ := q
      have : l ≠ p := by rintro rfl; exact ns rfl h1
      exact ⟨l, xs, h1, h2, by rw [upd_ne this]; exact h3, h4.map up⟩
theorem Stt.unhide (S : Stt K W L0 H0 (p :: L) H σ ρ k) (n : NoAt ρ σ p) : Stt K W L0 H0 L H σ ρ k := by
  have sub : ∀ b ∈ L ++ W.M, b ∈ p :: L ++ W.M := fun b hb => List.mem_cons_of_mem _ hb
  refine ⟨S.base, fun l hl => S.fresh l (List.mem_cons_of_mem _ hl), fun l hl => S.offM l (List.mem_cons_of_mem _ hl), fun b hb => S.trk b (sub b hb), S.wdSub (fun b hb => List.mem_cons_of_mem _ hb), S.len, fun j s hs => ?_, S.dis⟩
  have q := S.slots j s hs
  have ns := n j s hs
  cases s with
  | no => trivial
  | dat d =>
    obtain ⟨v, h1, h2⟩ := q
    exact ⟨v, h1, h2.off sub⟩
  | own ds =>
    obtain ⟨l, xs, h1, h2, h3, h4⟩ := q
    have : l ≠ p := by rintro rfl; exact ns rfl h1
    exact ⟨l, xs, h1, (List.mem_cons.mp h2).resolve_left this, h3, h4.off sub⟩
  | ownD kvs =>
    obtain ⟨l, xs, h1, h2, h3, h4⟩ := q
    have : l ≠ p := by rintro rfl; exact ns rfl h1
    exact ⟨l, xs, h1, (List.mem_cons.mp h2).resolve_left this, h3, h4.map fun _ _ t => t.off sub⟩
  | lck kvs =>
    obtain ⟨l, xs, od, h1, h2, h3, h4⟩ := q
    have : l ≠ p := by rintro rfl; exact ns rfl h1
    exact ⟨l, xs, od, h1, (List.mem_cons.mp h2).resolve_left this, h3, h4.map fun _ _ t => t.off sub⟩
  | raw v => exact q
  | fn F =>
    obtain ⟨f, c, h1, h2, h3, h4, h5⟩ := q
    exact ⟨f, c, h1, fun z => h2 (sub _ z), fun z => h3 (sub _ z), h4, h5⟩
  | ownN D kvs =>
    obtain ⟨l, xs, h1, h2, h3, h4⟩ := q
    have : l ≠ p := by rintro rfl; exact ns rfl h1
    exact ⟨l, xs, h1, (List.mem_cons.mp h2).resolve_left this, h3, h4.map fun _ _ t => t.off sub⟩
end
section
variable {K : PySem.W.Frag} {γ : Type} {W : Wd γ} {ρ : Rho} {k : γ} {Φ : PyData → γ → Prop} {g : TG} {tt : TT} {te : TE} {wi : TI} {vs : List Nat}
theorem ev_lcX (h : EvX K W wi ρ k fun n f k1 => n ≤ 100000 ∧ ∃ J : Nat → List PyData → γ → Prop, J 0 [] k1 ∧
      (∀ i acc k2, i < n → J i acc k2 → TgW K W g (fun i => i ∈ vs) (f i) (wipeR ρ vs) fun ρ2 => EvT K W tt ρ2 k2 fun b k3 => if b = true then EvW K W te ρ2 k3 fun d k4 => J (i + 1) (acc ++ [d]) k4 else J (i + 1) acc k3) ∧
      ∀ acc k2, acc.length ≤ n → J n acc k2 → Φ (.list acc) k2) : EvW K W (tLc wi g tt te vs) ρ k Φ := fun L0 H0 L H σ S Q c =>
  h L0 H0 L H σ S _ fun J n f k1 H1 S1 e wd g => by
    obtain ⟨hn, Jv, j0, turn, done⟩ := g
    intro D hD
    obtain ⟨Sd, nD⟩ := S1.hide (o := .lst []) hD
    have nin := S1.nin hD
    refine ⟨fun i m H2 => m = n - i ∧ i ≤ n ∧ ∃ acc k2 ys, Stt K W L0 H0 (D :: L) H2 σ ρ k2 ∧ Ext W.M H1 H2 ∧ H2 D = some (.lst ys) ∧ TA K (D :: L ++ W.M) H2 ys acc ∧ acc.length ≤ i ∧ Jv i acc k2,
      ⟨n, rfl, Nat.zero_le _, [], k1, [], Sd, Ext.new hD, upd_same, .nil, Nat.le_refl _, j0⟩, ?_⟩
    rintro i m H2 ⟨rfl, hi, acc, k2, ys, S2, e2, hy, ty, ha, j2⟩
    have l2 : Later W L H1 (D :: L) H2 := ⟨e2.sub fun b hb => List.mem_append_right _ hb, fun l hl => (List.mem_cons.mp hl).elim (fun q => .inr (by rw [q]; exact hD)) fun q => .inl q, S2.trk⟩
    by_cases hlt : i < n
    · refine .inr ⟨wd.goes i _ H2 hlt l2 e2, fun H' => ∃ acc k2 ys, Stt K W L0 H0 (D :: L) H' σ ρ k2 ∧ Ext W.M H1 H' ∧ H' D = some (.lst ys) ∧ TA K (D :: L ++ W.M) H' ys acc ∧ acc.length ≤ i + 1 ∧ Jv (i + 1) acc k2,
        fun H' ⟨acc, k2, ys, a1, a2, a3, a4, a5, a6⟩ => ⟨n - (i + 1), by omega, rfl, hlt, acc, k2, ys, a1, a2, a3, a4, a5, a6⟩, fun x H' y => ?_⟩
      obtain ⟨sm, tx⟩ := wd.yields i _ H2 x H' hlt l2 e2 y
      have S3 := S2.same sm
      refine turn i acc k2 hlt j2 L0 H0 (D :: L) H' _ k2 x (S3.wipe vs) tx _ fun σ3 ρ3 S4 hl4 ag tst => ⟨wipe_of hl4 ag, ?_⟩
      refine (tst : EvT K W tt ρ3 k2 _) L0 H0 (D :: L) H' σ3 S4 _ fun b k3 H3 S5 e5 g5 => ?_
      have dM : D ∉ W.M := fun z => nin (List.mem_append_right _ z)
      cases b with
      | false =>
        refine ⟨acc, k3, ys, S3.ext e5 S5.wd, (e2.trans (Ext.same sm)).trans e5, e5 _ _ dM (sm _ _ hy), (ty.same sm).ext (eM e5), by omega, g5⟩
      | true =>
        refine (g5 : EvW K W te ρ3 k3 _) L0 H0 (D :: L) H3 σ3 S5 _ fun v d k4 H4 S6 e6 t6 g6 => ?_
        have e56 := e5.trans e6
        have hy4 : H4 D = some (.lst ys) := e56 _ _ dM (sm _ _ hy)
        have lz : ys.length ≤ 99999 := by rw [ty.len]; omega
        refine ⟨ys, hy4, Nat.lt_of_le_of_lt lz (by decide), acc ++ [d], k4, ys ++ [v], (S3.ext e56 S6.wd).putHid nD, ?_, upd_same, ?_, by rw [List.length_append]; exact Nat.add_le_add_right ha 1, g6⟩
        · intro b o nb hb
          rw [upd_ne (ne_of_none hb hD)]
          exact ((e2.trans (Ext.same sm)).trans e56) b o nb hb
        · exact ((((ty.same sm).ext (eM e56)).app (.one t6))).ext (Ext.put (by simp))
    · have ei : i = n := by omega
      subst ei
      refine .inl ⟨wd.stops _ H2 l2 e2, c (.ref D) (.list acc) k2 H2 (S2.unhide nD) (e.trans e2) (.lst nin hy (ty.off fun b hb => List.mem_cons_of_mem _ hb)) (done acc k2 ha j2)⟩
theorem ev_lc (h : EvI K W wi ρ k fun n f k1 => n ≤ 100000 ∧ ∃ J : Nat → List PyData → γ → Prop, J 0 [] k1 ∧
      (∀ i acc k2, i < n → J i acc k2 → TgW K W g (fun i => i ∈ vs) (f i) (wipeR ρ vs) fun ρ2 => EvT K W tt ρ2 k2 fun b k3 => if b = true then EvW K W te ρ2 k3 fun d k4 => J (i + 1) (acc ++ [d]) k4 else J (i + 1) acc k3) ∧
      ∀ acc k2, acc.length ≤ n → J n acc k2 → Φ (.list acc) k2) : EvW K W (tLc wi g tt te vs) ρ k Φ := ev_lcX h.x
/-- a comprehension whose parts draw nothing -/
theorem lc_pure {n : Nat} {f : Nat → PyData} {k1 : γ} (keep : Nat → Bool) (el : Nat → PyData) (hn : n ≤ 100000)
    (turn : ∀ i, i < n → TgW K W g (fun i => i ∈ vs) (f i) (wipeR ρ vs) fun ρ2 => EvT K W tt ρ2 k1 fun b k3 => b = keep i ∧ k3 = k1 ∧ (keep i = true → EvW K W te ρ2 k1 fun d k4 => d = el i ∧ k4 = k1))
    (q : Φ (.list (((List.range n).filter keep).map el)) k1) :
    n ≤ 100000 ∧ ∃ J : Nat → List PyData → γ → Prop, J 0 [] k1 ∧
      (∀ i acc k2, i < n → J i acc k2 → TgW K W g (fun i => i ∈ vs) (f i) (wipeR ρ vs) fun ρ2 => EvT K W tt ρ2 k2 fun b k3 => if b = true then EvW K W te ρ2 k3 fun d k4 => J (i + 1) (acc ++ [d]) k4 else J (i + 1) acc k3) ∧
      ∀ acc k2, acc.length ≤ n → J n acc k2 → Φ (.list acc) k2 := by
  refine ⟨hn, fun i acc k2 => acc = ((List.range i).filter keep).map el ∧ k2 = k1, ⟨rfl, rfl⟩, ?_, ?_⟩
  · rintro i acc k2 hi ⟨rfl, rfl⟩ L0 H0 L H σ kk v S t Q c
    refine turn i hi L0 H0 L H σ kk v S t Q fun σ' ρ' S' hl ag ev => c σ' ρ' S' hl ag ?_
    intro L0 H0 L H σ S Q c
    refine ev L0 H0 L H σ S Q fun b k3 H2 S2 e ⟨hb, hk, he⟩ => ?_
    subst hb
    subst hk
    refine c _ _ H2 S2 e ?_
    cases hkeep : keep i with
    | false => exact ⟨by rw [List.range_succ, List.filter_append]; simp [hkeep], rfl⟩
    | true =>
      intro L0 H0 L H σ S Q c
      refine he hkeep L0 H0 L H σ S Q fun v d k4 H2 S2 e t ⟨hd, hk⟩ => c v d k4 H2 S2 e t ⟨?_, hk⟩
      rw [List.range_succ, List.filter_append, hd]
      simp [hkeep]
  · rintro acc k2 _ ⟨rfl, rfl⟩
    exact q
theorem ev_lcP (keep : Nat → Bool) (el : Nat → PyData) (h : EvI K W wi ρ k fun n f k1 => n ≤ 100000 ∧
      (∀ i, i < n → TgW K W g (fun i => i ∈ vs) (f i) (wipeR ρ vs) fun ρ2 => EvT K W tt ρ2 k1 fun b k3 => b = keep i ∧ k3 = k1 ∧ (keep i = true → EvW K W te ρ2 k1 fun d k4 => d = el i ∧ k4 = k1)) ∧
      Φ (.list (((List.range n).filter keep).map el)) k1) : EvW K W (tLc wi g tt te vs) ρ k Φ :=
  ev_lc fun L0 H0 L H σ S R c => h L0 H0 L H σ S R fun J n f k' H2 S2 e wd ⟨h1, h2, h3⟩ => c J n f k' H2 S2 e wd (lc_pure keep el h1 h2 h3)
theorem ev_lcXP (keep : Nat → Bool) (el : Nat → PyData) (h : EvX K W wi ρ k fun n f k1 => n ≤ 100000 ∧
      (∀ i, i < n → TgW K W g (fun i => i ∈ vs) (f i) (wipeR ρ vs) fun ρ2 => EvT K W tt ρ2 k1 fun b k3 => b = keep i ∧ k3 = k1 ∧ (keep i = true → EvW K W te ρ2 k1 fun d k4 => d = el i ∧ k4 = k1)) ∧
      Φ (.list (((List.range n).filter keep).map el)) k1) : EvW K W (tLc wi g tt te vs) ρ k Φ :=
  ev_lcX fun L0 H0 L H σ S R c => h L0 H0 L H σ S R fun J n f k' H2 S2 e wd ⟨h1, h2, h3⟩ => c J n f k' H2 S2 e wd (lc_pure keep el h1 h2 h3)
theorem range_itemD (ds : List PyData) : (List.range ds.length).map (itemD ds) = ds := by
  apply List.ext_getElem?
  intro i
  rw [List.getElem?_map]
  by_cases hi : i < ds.length
  · rw [List.getElem?_range hi]
    simp [itemD, hi]
  · simp [hi]
end

/-! ### defs -/
def rest0 (N : List Str) (ds : List PyData) : Rho := ds.map Slot.dat ++ List.replicate (N.length - ds.length) .no
theorem start_len {N : List Str} {vs : List V} : (start N vs).length = vs.length + (N.length - vs.length) := by
  unfold L2.start
  simp
theorem start_get {N : List Str} {vs : List V} {i : Nat} {v : V} (h : vs[i]? = some v) : (start N vs)[i]? = some (some v) := by
  unfold L2.start
  rw [List.getElem?_append_left (by simpa using (List.getElem?_eq_some_iff.mp h).1)]
  simp [h]
theorem stt_start {K : PySem.W.Frag} {γ : Type} {W : Wd γ} {N : List Str} {vs : List V} {ds : List PyData} {H : Hp} {k : γ} (t : TA K W.M H vs ds) (wd : W.I k W.M H) : Stt K W [] H [] H (start N vs) (rest0 N ds) k := by
  have get_ : ∀ (i : Nat) (s : Slot), (rest0 N ds)[i]? = some s → s = .no ∨ ∃ d, ds[i]? = some d ∧ s = .dat d := fun i s hs => by
    unfold rest0 at hs
    by_cases hi : i < ds.length
    · rw [List.getElem?_append_left (by simpa using hi)] at hs
      rw [List.getElem?_map] at hs
      obtain ⟨d, h1, h2⟩ := Option.map_eq_some_iff.mp hs
      exact .inr ⟨d, h1, h2.symm⟩
    · rw [List.getElem?_append_right (by simpa using hi)] at hs
      exact .inl (List.eq_of_mem_replicate (List.mem_of_getElem? hs))
  refine ⟨Ext.refl _ _, (fun l hl => nomatch hl), (fun l hl => nomatch hl), W.trk k _ H wd, wd, ?_, fun i s hs => ?_, fun i j s u hs hu h1 _ _ => ?_⟩
  · rw [start_len]
    unfold rest0
    have := t.len
    simp [this]
  · rcases get_ i s hs with rfl | ⟨d, hd, rfl⟩
    · trivial
    · obtain ⟨v, h1, h2⟩ := t.at hd
      exact ⟨v, start_get h1, h2⟩
  · rcases get_ i s hs with rfl | ⟨d, hd, rfl⟩ <;> cases h1
/-- the body of a def that writes nothing -/
theorem spP.ok {K : PySem.W.Frag} {R : List PyData → PyData → Prop} {n : Nat} {N : List Str} {vs : List V} {H : Hp} {Q : VK} {E : XK} {t : TS} (h : spP K n R vs H Q E)
    (hb : ∀ (W : Wd Nat) (ds : List PyData) (r : PyData), R ds r → SW K W t (rest0 N ds) 0 ⟨fun _ _ => r = .none, fun d _ => d = r, fun _ _ => False, fun _ _ => False⟩) : t { nx := fun _ H' => Q .non H', rt := Q } (start N vs) H := by
  obtain ⟨M, ds, r, ta, tr, _, hr, q⟩ := h
  have fin : ∀ k' H', Ext ([] ++ (pureW M H tr).M) H H' → (pureW M H tr).I k' M H' → Same H H' := fun k' H' e wi b o hb => by
    by_cases hm : b ∈ M
    · rw [wi b hm]; exact hb
    · exact e b o hm hb
  refine hb (pureW M H tr) ds r hr [] H [] H (start N vs) _ (stt_start ta fun b _ => rfl) (fun L' H' σ' ρ' k' S' e => ?_) (fun v d k' H' e wi t' hd => ?_) (fun _ _ _ _ _ _ z => z.elim) (fun _ _ _ _ _ _ z => z.elim)
  · subst e
    exact q .non H' (fin k' H' S'.base S'.wdM) .non
  · subst hd
    exact q v H' (fin k' H' e wi) t'
theorem spP.len {K : PySem.W.Frag} {R : List PyData → PyData → Prop} {n : Nat} {vs : List V} {H : Hp} {Q : VK} {E : XK} (h : spP K n R vs H Q E) : vs.length = n := by
  obtain ⟨M, ds, r, ta, tr, hl, hR, q⟩ := h
  rw [ta.len]
  exact hl
end U

set_option Elab.async false
set_option linter.all false
set_option maxRecDepth 100000
set_option maxHeartbeats 4000000
namespace U
open PySem PySem.Spec PyProof.Rows L2
/-! ### enumerate(text) -/
def ItES (z : Str) : It :=
  ⟨fun i _ => i < z.cps.size,
    fun i H v H' => ∃ (p : Addr) (c : Nat), v = .ref p ∧ H p = none ∧ H' = upd H p (.tup [.int (i : Nat), .str ⟨#[c]⟩]) ∧ z.cps[i]? = some c,
    fun i _ => z.cps.size ≤ i⟩
theorem turnES {P : Program} {w : World} {K : PySem.W.Frag} {elts : List Expr} {kk : Nat} {tpos : Pos} (z : Str) (tz : Tok) (e it : Addr) :
    L2.Turn P w K (.Tuple elts kk tpos) (ItES z) [e, it] e (fun i h => (∃ old, IsEnum h e it ((i : Nat) : Int) old) ∧ h.IsStrIter it (strIterType z) z tz i ∧ e ≠ it) where
  mem := List.mem_cons_self
  obj := fun i h st b hb => by
    obtain ⟨⟨old, he⟩, ⟨o, ho, _, hd⟩, _⟩ := st
    rcases List.mem_cons.mp hb with rfl | hb
    · exact ⟨_, he, fun _ q => nomatch q⟩
    · obtain rfl : b = it := by simpa using hb
      exact ⟨o, ho, fun _ q => by rw [hd] at q; cases q⟩
  keep := fun i h h' st k => ⟨st.1.imp fun _ he => k e (by simp) _ he, let ⟨o, ho, r⟩ := st.2.1; ⟨o, k it (by simp) o ho, r⟩, st.2.2⟩
  item := by
    rintro X rfl rfl rfl hc i pins s σ H E I hf ⟨⟨old, he⟩, hit, hne⟩ hlt
    have el : e < s.heap.objs.size := Heap.lt_size he
    have il : it < s.heap.objs.size := by obtain ⟨_, q, _⟩ := hit; exact Heap.lt_size q
    have D := Draws.text (prog := X.prog) (w := X.w) (A := X.A.in1) (I.ok.hd hc) it z tz
    refine wpAny_pyNext_enum_itemD D he hit hlt hne (by simpa using hne) fun y h' tk hy ho hst hT hsz hk => ?_
    obtain ⟨c, u, hcx, rfl⟩ := hy
    refine ⟨_, rfl, wpAny_letOwnedTupleGo_enum (s := { s with heap := h', toks := tk + 1 }) ho fun h'' he' sb => ?_⟩
    have hT2 := (sb.2 _ (Nat.ne_of_gt el)).trans hT
    have new : ObjOk X.prog X.w (upd H s.heap.objs.size (.tup [.int (i : Nat), .str ⟨#[c]⟩])) h'' s.heap.objs.size (.tup [.int (i : Nat), .str ⟨#[c]⟩]) :=
      ⟨(show 2 ≤ sizeLine by decide), [.int i tk, .str ⟨#[c]⟩ u], .cons ⟨_, rfl⟩ (.cons ⟨_, rfl⟩ .nil), ⟨_, hT2, rfl, _, rfl⟩⟩
    have I1 : Inv X pins σ (upd H s.heap.objs.size (.tup [.int (i : Nat), .str ⟨#[c]⟩])) { s with heap := h'', toks := tk + 1 } :=
      I.turnedNew (ch := [e, it]) (fun b ob hb q => (sb.2 b (fun z => hb (by simp [z]))).trans (hk b ob (fun z => hb (by simp [z])) (fun z => hb (by simp [z])) q)) hf (Nat.le_refl _) new
    refine ⟨.ref s.heap.objs.size, _, I1, rfl, ⟨_, c, rfl, I.hok.fresh (Nat.le_refl _), rfl, hcx⟩, ⟨⟨.str ⟨#[c]⟩ u, ?_⟩, let ⟨o, ho, r⟩ := hst; ⟨o, (sb.2 it (Ne.symm hne)).trans ho, r⟩, hne⟩, fun b hb => ?_⟩
    · rw [show ((i + 1 : Nat) : Int) = (i : Int) + 1 by omega]
      exact he'
    · have lt : b < s.heap.objs.size := by
        rcases List.mem_cons.mp hb with rfl | hb
        · exact el
        · obtain rfl : b = it := by simpa using hb
          exact il
      rw [upd_ne (Nat.ne_of_lt lt)]
      exact (hf b hb).1
  done := by
    rintro X rfl rfl rfl hc i pins s σ H E I hf ⟨⟨old, he⟩, hit, hne⟩ hx
    obtain ⟨f0, f1, f2, f3, f4, f5⟩ := hf it (by simp)
    unfold pyNext
    have hT : s.TypeIs (.ref e) "enumerate" := ⟨_, he, rfl⟩
    refine wpAny_bind (wpAny_attempt (wpAny_callSpecial?_slot (name := Str.ofString "__next__") hT F.slot_enumerate_next (wpAny_call_entry F.slot_enumerate_next hT F.entry_enumerate_next ?_ (F.args_enumerate_next_1 _))))
    show wpAny _ _ (field (.ref e) 2 >>= _) _ _ _
    have none_ : z.cps[i]? = none := Array.getElem?_eq_none hx
    cases ha : z.cps.all (· < 128)
    · simp only [strIterType, ha, Bool.false_eq_true, if_false] at hit
      refine wpAny_bind (wpAny_field he rfl (x := .ref it) rfl (wpAny_bind (wpAny_nextOf_wide_end (I.ok.hd hc) hit none_ fun h' y eb hy => ?_)))
      obtain ⟨o, ho, hoc⟩ := hy
      refine wpAny_bind (wpAny_isInstance (T := "StopIteration") (b := true) ⟨o, ho, hoc⟩ isSubtype_stop (wpAny_pure ?_))
      exact ⟨rfl, I.turned (t' := s.toks) (fun b o hb q => eb b o hb q) f0 f1 f3 f4 f5⟩
    · simp only [strIterType, ha, if_true] at hit
      refine wpAny_bind (wpAny_field he rfl (x := .ref it) rfl (wpAny_bind (wpAny_nextOf_ascii_end (I.ok.hd hc) hit none_ fun h' y eb hy => ?_)))
      obtain ⟨o, ho, hoc⟩ := hy
      refine wpAny_bind (wpAny_isInstance (T := "StopIteration") (b := true) ⟨o, ho, hoc⟩ isSubtype_stop (wpAny_pure ?_))
      exact ⟨rfl, I.turned (t' := s.toks) (fun b o hb q => eb b o hb q) f0 f1 f3 f4 f5⟩
  self := fun _ _ _ _ _ st h => by
    obtain ⟨⟨_, he⟩, _⟩ := st
    exact wpAny_pyIter_enum he h
def iEnumS (ta : L2.TA) : TI := fun σ H R => ta σ H fun vs H1 => ∃ z : Str, vs = [.str z] ∧ R (ItES z) H1
theorem pi_enumS {X : Cx} {e : Expr} {ta : L2.TA} {p pos tpos : Pos} {elts : List Expr} {kk : Nat} (hg : Gl X "enumerate") (hm : X.mg "enumerate" = none) (ha : PA X [e] ta)
    (hs : starEach [e] X.env = [(false, eval e X.env)] := by rfl) : PI X (.Tuple elts kk tpos) (.Call (.Name "enumerate" p) [e] [] pos) (iEnumS ta) := by
  refine ⟨fun pins s σ H R I h => ?_⟩
  refine Call_ (ld_blt I hg hm boot_enumerate (PyProof.Rows.callWith_type1 (thn (ha.run pos pins s σ H _ I h) fun us s1 ⟨vs, H1, I1, r1, z, ev, q⟩ => ?_) hs rfl))
  subst ev
  cases r1 with
  | cons r rr =>
    cases rr
    obtain ⟨t, rfl⟩ := r
    refine enumMake (begins_text z t) trivial fun h' he hit hk => wpAny_pyIter_enum he ?_
    refine ⟨s1.heap.objs.size + 1, [s1.heap.objs.size + 1, s1.heap.objs.size], _, _, H1, rfl, I1.kept (t' := s1.toks) hk, turnES z t (s1.heap.objs.size + 1) s1.heap.objs.size, ⟨⟨.none, he⟩, ⟨_, hit, rfl, rfl⟩, Nat.succ_ne_self _⟩, fun b hb => ?_, q⟩
    have le_ : s1.heap.objs.size ≤ b := by
      rcases List.mem_cons.mp hb with rfl | hb
      · exact Nat.le_add_right _ _
      · obtain rfl : b = s1.heap.objs.size := by simpa using hb
        exact Nat.le_refl _
    exact I1.fpOk le_ (I1.hok.fresh le_)
theorem ei_enumS {K : PySem.W.Frag} {γ : Type} {W : Wd γ} {ρ : Rho} {k : γ} {tr : L2.TA} {Ω : Nat → (Nat → PyData) → γ → Prop} (h : EvA K W tr ρ k fun es k1 => ∃ z : Str, es = [.str z] ∧ Ω z.cps.size (fun i => .tuple [.int (i : Nat), .str ⟨#[z.cps[i]?.getD 0]⟩]) k1) : EvI K W (iEnumS tr) ρ k Ω := fun L0 H0 L H σ S R c =>
  h L0 H0 L H σ S _ fun vs es k1 H1 S1 e t g => by
    obtain ⟨z, rfl, q⟩ := g
    obtain ⟨v, rfl, t1⟩ := t.one_
    cases t1
    refine ⟨z, rfl, c _ _ _ k1 H1 S1 e ⟨fun i L H hi _ => hi, fun L H _ => Nat.le_refl _, fun i L H x H' hi l y => ?_⟩ q⟩
    obtain ⟨p, cc, rfl, hp, rfl, h1⟩ := y
    refine ⟨Same.new hp, ?_⟩
    show T K _ _ _ (.tuple [_, .str ⟨#[z.cps[i]?.getD 0]⟩])
    rw [h1]
    exact .tup (l.trk.new hp) upd_same (.cons (.int _) (.one (.str _)))
end U

set_option Elab.async false
set_option linter.all false
set_option maxRecDepth 100000
set_option maxHeartbeats 2000000
namespace U
open PySem PySem.Spec PyProof.Rows L2
/-! ### words as rows of letters -/
def txt (ws : List Nat) : Str := ⟨(ws.map (97 + ·)).toArray⟩
theorem txt_size (ws : List Nat) : (txt ws).cps.size = ws.length := by simp [txt]
theorem txt_len (ws : List Nat) : (txt ws).length = ws.length := txt_size ws
theorem txt_get (ws : List Nat) (i : Nat) : (txt ws).cps[i]? = ws[i]?.map (97 + ·) := by simp [txt]
theorem txt_app (a b : List Nat) : txt a ++ txt b = txt (a ++ b) := by
  show Str.mk _ = Str.mk _
  simp [txt]
theorem txt_inj {a b : List Nat} (h : txt a = txt b) : a = b := by
  unfold txt at h
  have h2 : (a.map (97 + ·)).toArray = (b.map (97 + ·)).toArray := by injection h
  have h3 : a.map (97 + ·) = b.map (97 + ·) := by simpa using congrArg Array.toList h2
  exact (List.map_inj_right (fun x y e => by omega)).mp h3
theorem txt_dec (a b : List Nat) : decide (txt a = txt b) = decide (a = b) := by
  by_cases h : a = b
  · simp [h]
  · rw [decide_eq_false h, decide_eq_false fun e => h (txt_inj e)]
theorem txt_cut (ws : List Nat) (lo hi : Option Int) : cutS (txt ws) lo hi = txt ((ws.drop (HT.sIx ws.length 0 lo)).take (HT.sIx ws.length ws.length hi - HT.sIx ws.length 0 lo)) := by
  unfold cutS
  rw [txt_len]
  show Str.mk _ = Str.mk _
  congr 1
  simp [txt, List.map_take, List.map_drop]
theorem txt_take (ws : List Nat) {n : Nat} (h : n ≤ ws.length) : cutS (txt ws) none (some (n : Int)) = txt (ws.take n) := by
  rw [txt_cut, HT.sIx_nat, HT.sIx_none, List.drop_zero, Nat.sub_zero, Nat.min_eq_left h]
theorem txt_drop (ws : List Nat) {n : Nat} (h : n ≤ ws.length) : cutS (txt ws) (some (n : Int)) none = txt (ws.drop n) := by
  rw [txt_cut, HT.sIx_nat, HT.sIx_none, Nat.min_eq_left h, List.take_of_length_le (by rw [List.length_drop]; omega)]
theorem txt_mem (ws : List Nat) (c : Nat) : decide ((97 + c) ∈ (txt ws).cps.toList) = decide (c ∈ ws) := by
  have : (97 + c ∈ (txt ws).cps.toList) ↔ c ∈ ws := by
    unfold txt
    simp only [List.mem_map]
    exact ⟨fun ⟨d, hd, e⟩ => by rwa [show d = c by omega] at hd, fun h => ⟨c, h, rfl⟩⟩
  by_cases h : c ∈ ws
  · rw [decide_eq_true h, decide_eq_true (this.mpr h)]
  · rw [decide_eq_false h, decide_eq_false fun q => h (this.mp q)]
theorem txt_nil : Str.ofString "" = txt [] := rfl
theorem txt_abcd : Str.ofString "abcd" = txt [0, 1, 2, 3] := by decide +kernel
theorem occ_abcd {c : Nat} (h : c < 4) : Builtin.Str.occurrences (Str.ofString "abcd") ⟨#[97 + c]⟩ 0 (Str.ofString "abcd").length 1 = [c] := by
  have : c = 0 ∨ c = 1 ∨ c = 2 ∨ c = 3 := by omega
  rcases this with rfl | rfl | rfl | rfl <;> decide +kernel
theorem join_txt (l : List (List Nat)) : Txt.join (Str.ofString "") (l.map txt) = txt l.flatten := by
  have e0 : (Str.ofString "").cps = #[] := rfl
  have fold : ∀ (l : List (List Nat)) (acc : Array Nat), (l.map txt).foldl (fun acc p => acc ++ (Str.ofString "").cps ++ p.cps) acc = acc ++ (l.flatten.map (97 + ·)).toArray := by
    intro l
    induction l with
    | nil => intro acc; simp
    | cons x xs ih =>
      intro acc
      rw [List.map_cons, List.foldl_cons, ih, e0]
      simp [txt]
  cases l with
  | nil => rfl
  | cons x xs =>
    show Str.mk _ = Str.mk _
    congr 1
    show (((x :: xs).map txt).drop 1).foldl _ _ = _
    rw [List.map_cons, List.drop_succ_cons, List.drop_zero, fold]
    simp [txt]
/-- truth of data -/
def truD : PyData → Bool
  | .none => false
  | .bool b => b
  | .int i => i != 0
  | .str z => z.length != 0
  | .list ds => !ds.isEmpty
  | .tuple ds => !ds.isEmpty
  | .dict es => !es.isEmpty
section
variable {K : PySem.W.Frag} {γ : Type} {W : Wd γ} {ρ : Rho} {k : γ} {Φ : PyData → γ → Prop} {ta tb tc te : TE} {tt tu : TT} {x y : PyData} {Ψ : Bool → γ → Prop}
theorem TA.emp {N : List Addr} {H : Hp} {vs : List V} {ds : List PyData} (t : TA K N H vs ds) : ds.isEmpty = vs.isEmpty := by cases t <;> rfl
theorem TK.emp {N : List Addr} {H : Hp} {vs : List (Key × V)} {ds : List (PyData × PyData)} (t : TK K N H vs ds) : ds.isEmpty = vs.isEmpty := by cases t <;> rfl
def sizeOk : PyData → Prop | .str z => z.length ≤ 100000 | _ => True
theorem et_truth (h : EvW K W te ρ k fun d k1 => sizeOk d ∧ Ψ (truD d) k1) : EvT K W (fun σ H Q => te σ H fun x H' => ∃ k, TruV K x H' k ∧ Q k H') ρ k Ψ := fun L0 H0 L H σ S Q c =>
  h L0 H0 L H σ S _ fun v d k1 H1 S1 e1 t1 g => by
    have q : Q (truD d) H1 := c _ _ _ S1 e1 g.2
    refine ⟨truD d, ?_, q⟩
    cases t1 with
    | non => exact rfl
    | bl b => exact rfl
    | int i => exact rfl
    | str z =>
      refine ⟨Nat.le_trans g.1 (by decide), ?_⟩
      show (z.length != 0) = _
      by_cases hz : z.length = 0
      · rw [hz]; rfl
      · have h2 : (z.length : Int) ≠ 0 := by omega
        rw [bne_iff_ne.mpr hz, bne_iff_ne.mpr h2]
    | lst n h t => exact .inl ⟨_, SqL.of h, by show (!List.isEmpty _) = _; rw [t.emp]⟩
    | tup n h t => exact .inr (.inl ⟨_, SqT.of h, by show (!List.isEmpty _) = _; rw [t.emp]⟩)
    | dct n h t => exact .inr (.inr ⟨_, h, by show (!List.isEmpty _) = _; rw [t.emp]⟩)
theorem rd_inS {c : Nat} {z : Str} (q : Φ (.bool (decide (c ∈ z.cps.toList))) k) : RD K W (fun x y H Q => ∃ (c : Nat) (z : Str), x = .str ⟨#[c]⟩ ∧ y = .str z ∧ Q (.bl (decide (c ∈ z.cps.toList))) H) (.str ⟨#[c]⟩) (.str z) ρ k Φ := rd_ q fun N H vx vy tx ty Q cc => by
  cases tx
  cases ty
  exact ⟨c, z, rfl, rfl, cc _ (.bl _)⟩
theorem rd_ninS {c : Nat} {z : Str} (q : Φ (.bool (!decide (c ∈ z.cps.toList))) k) : RD K W (fun x y H Q => ∃ (c : Nat) (z : Str), x = .str ⟨#[c]⟩ ∧ y = .str z ∧ Q (.bl (!decide (c ∈ z.cps.toList))) H) (.str ⟨#[c]⟩) (.str z) ρ k Φ := rd_ q fun N H vx vy tx ty Q cc => by
  cases tx
  cases ty
  exact ⟨c, z, rfl, rfl, cc _ (.bl _)⟩
/-- sep.join(list of texts) -/
theorem sum_le {l : List Str} {a : Nat} (h : ∀ z ∈ l, z.length ≤ a) : (l.map (·.length)).sum ≤ l.length * a := by
  induction l with
  | nil => simp
  | cons x xs ih =>
    have h1 := h x List.mem_cons_self
    have h2 := ih fun z hz => h z (List.mem_cons_of_mem _ hz)
    rw [List.map_cons, List.sum_cons, List.length_cons, Nat.add_mul]
    omega
def rJoin (K : PySem.W.Frag) : V → List V → Hp → VK → Prop := fun x xs H Q => ∃ a p, ∃ ys : List Str, x = .str a ∧ xs = [.ref p] ∧ (SqL K H p (ys.map V.str) ∨ SqT K H p (ys.map V.str)) ∧ (ys.map (·.length)).sum + ys.length * a.length ≤ 16777216 ∧ Q (.str (Txt.join a ys)) H
theorem kJoin (K : PySem.W.Frag) {X : Cx} {e : Expr} {to te : TE} (p : PE X e (tM1 (fun x xs H Q => ∃ a p, ∃ ys : List Str, x = .str a ∧ xs = [.ref p] ∧ (SqL X.K H p (ys.map V.str) ∨ SqT X.K H p (ys.map V.str)) ∧ (ys.map (·.length)).sum + ys.length * a.length ≤ 16777216 ∧ Q (.str (Txt.join a ys)) H) to te)) (h : X.K = K := by rfl) : PE X e (tM1 (rJoin K) to te) := by subst h; exact p
theorem ev_join (h : EvW K W ta ρ k fun a k1 => ∃ s : Str, a = .str s ∧ EvW K W tb ρ k1 fun d k2 => ∃ ys : List Str, d = .list (ys.map .str) ∧ (ys.map (·.length)).sum + ys.length * s.length ≤ 16777216 ∧ Φ (.str (Txt.join s ys)) k2) :
    EvW K W (tM1 (rJoin K) ta tb) ρ k Φ := fun L0 H0 L H σ S Q c =>
  h L0 H0 L H σ S _ fun v a k1 H1 S1 e1 t1 g => by
    obtain ⟨s, rfl, g⟩ := g
    cases t1
    refine ⟨⟨s, rfl⟩, g L0 H0 L H1 σ S1 _ fun u d k2 H2 S2 e2 t2 g2 => ?_⟩
    obtain ⟨ys, rfl, hz, q⟩ := g2
    cases t2 with
    | lst n ha t =>
      have e := t.strs_
      subst e
      exact ⟨s, _, ys, rfl, rfl, .inl (SqL.of ha), hz, c _ _ k2 H2 S2 (e1.trans e2) (.str _) q⟩
/-- "abcd".index(letter) -/
theorem ev_index (h : EvW K W tb ρ k fun d k2 => ∃ c : Nat, d = .str ⟨#[97 + c]⟩ ∧ c < 4 ∧ Φ (.int (c : Int)) k2) :
    EvW K W (tBM K "str" (fun x xs H Q => ∃ a b i rest, x = .str a ∧ xs = [.str b] ∧ Builtin.Str.occurrences a b 0 a.length 1 = i :: rest ∧ Q (.int (i : Nat)) H) (tC (.str (Str.ofString "abcd"))) (tCons tb tNil)) ρ k Φ := fun L0 H0 L H σ S Q c => by
  refine ⟨rfl, h L0 H0 L H σ S _ fun u d k2 H2 S2 e2 t2 g2 => ?_⟩
  obtain ⟨n, rfl, hn, q⟩ := g2
  cases t2
  exact ⟨_, _, n, [], rfl, rfl, occ_abcd hn, c _ _ k2 H2 S2 e2 (.int _) q⟩
/-! ### reading a list of one's own -/
theorem Stt.own_at {L0 L : List Addr} {H0 H : Hp} {σ : L2.St} {i : Nat} {ds : List PyData} (S : Stt K W L0 H0 L H σ ρ k) (h : ρ[i]? = some (.own ds)) : ∃ l xs, σ[i]? = some (some (.ref l)) ∧ H l = some (.lst xs) ∧ TA K (L ++ W.M) H xs ds := by
  obtain ⟨l, xs, h1, _, h3, h4⟩ := S.slots i _ h
  exact ⟨l, xs, h1, h3, h4⟩
theorem ev_ownLen {i : Nat} {ds : List PyData} (h : ρ[i]? = some (.own ds)) (q : Φ (.int (ds.length : Int)) k) : EvW K W (tCB (rLenQ K) (tCons (tVar i) tNil)) ρ k Φ := fun L0 H0 L H σ S Q c => by
  obtain ⟨l, xs, h1, h3, h4⟩ := S.own_at h
  exact ⟨_, h1, _, _, rfl, .inl (SqL.of h3), by rw [h4.len]; exact c _ _ k H S (Ext.refl _ _) (.int _) q⟩
theorem ev_ownIx {i : Nat} {ds : List PyData} (h : ρ[i]? = some (.own ds)) (hb : EvW K W tb ρ k fun x k1 => ∃ j : Nat, x = .int (j : Int) ∧ ∃ d, ds[j]? = some d ∧ Φ d k1) : EvW K W (tOp (rIxL K) (tVar i) tb) ρ k Φ := fun L0 H0 L H σ S Q c => by
  obtain ⟨l, xs, h1, h3, h4⟩ := S.own_at h
  refine ⟨_, h1, hb L0 H0 L H σ S _ fun v x k1 H1 S1 e1 t1 g => ?_⟩
  obtain ⟨j, rfl, d, hd, q⟩ := g
  cases t1
  obtain ⟨l', ys, g1, g3, g4⟩ := S1.own_at h
  rw [h1] at g1
  have e : l = l' := by injection g1 with g1; injection g1 with g1; injection g1
  subst e
  obtain ⟨v, e1', t⟩ := g4.at hd
  exact ⟨_, _, _, v, rfl, rfl, SqL.of g3, atI_nat e1', c v d k1 H1 S1 e1 t q⟩
theorem et_ownTruth {i : Nat} {ds : List PyData} (h : ρ[i]? = some (.own ds)) (q : Ψ (!ds.isEmpty) k) : EvT K W (fun σ H Q => (tVar i) σ H fun x H' => ∃ k, TruV K x H' k ∧ Q k H') ρ k Ψ := fun L0 H0 L H σ S Q c => by
  obtain ⟨l, xs, h1, h3, h4⟩ := S.own_at h
  exact ⟨_, h1, !ds.isEmpty, .inl ⟨_, SqL.of h3, by rw [h4.emp]⟩, c _ _ _ S (Ext.refl _ _) q⟩
end
/-! ### the deck -/
structure Deck (H : Hp) (p q : Addr) (n : Nat) : Prop where
  top : H p = some (.lst [.ref q, .int (n : Int)])
  cells : ∃ cs : List Int, H q = some (.lst (cs.map V.int)) ∧ (∀ c ∈ cs, 0 ≤ c) ∧ cs.length ≤ 63
theorem Deck.ne {H : Hp} {p q : Addr} {n : Nat} (d : Deck H p q n) : p ≠ q := by
  obtain ⟨cs, h, _⟩ := d.cells
  refine ne_of d.top h ?_
  intro e
  have e1 : [V.ref q, V.int (n : Int)] = cs.map V.int := HO.lst.inj e
  cases cs with
  | nil => cases e1
  | cons c cs =>
    have e2 := (List.cons.inj e1).1
    cases e2
theorem Deck.of {H H' : Hp} {p q : Addr} {n : Nat} (d : Deck H p q n) (hp : H' p = H p) (hq : H' q = H q) : Deck H' p q n := by
  obtain ⟨cs, h, r⟩ := d.cells
  exact ⟨hp.trans d.top, cs, hq.trans h, r⟩
/-- a world with a deck, at most k numbers drawn -/
def deckW (M : List Addr) (p q : Addr) (Hs : Hp) (t : Trk M Hs) (hp : p ∈ M) (hq : q ∈ M) : Wd Nat where
  M := M
  I := fun k _ H => (∃ n, n ≤ k ∧ Deck H p q n) ∧ ∀ b, b ∈ M → b ≠ p → b ≠ q → H b = Hs b
  plus := fun _ _ _ _ _ _ h => h
  loc := fun k _ H H' e _ h => ⟨let ⟨n, hn, d⟩ := h.1; ⟨n, hn, d.of (e p hp) (e q hq)⟩, fun b hb h1 h2 => (e b hb).trans (h.2 b hb h1 h2)⟩
  trk := fun k _ H h b hb z => by
    obtain ⟨⟨n, _, d⟩, r⟩ := h
    by_cases h1 : b = p
    · rw [h1, d.top] at z; cases z
    · by_cases h2 : b = q
      · obtain ⟨cs, hc, _⟩ := d.cells
        rw [h2, hc] at z; cases z
      · rw [r b hb h1 h2] at z
        exact t b hb z
/-- a def whose first argument is the deck: c numbers are drawn at most, what it gives has G -/
def spD (K : PySem.W.Frag) (n0 : Nat) (R : List PyData → Nat → (PyData → Prop) → Prop) : Sp := fun vs H Q _ => ∃ (M : List Addr) (p q : Addr) (n : Nat) (us : List V) (ds : List PyData) (c : Nat) (G : PyData → Prop),
  vs = .ref p :: us ∧ Deck H p q n ∧ p ∈ M ∧ q ∈ M ∧ TA K M H us ds ∧ Trk M H ∧ ds.length + 1 = n0 ∧ R ds c G ∧ n + c ≤ 1000000000 ∧
  ∀ v d H' n', Deck H' p q n' → n' ≤ n + c → Ext [p, q] H H' → T K M H' v d → G d → Q v H'
/-- a world that has the deck -/
class HasD (W : Wd Nat) (p q : outParam Addr) : Prop where
  memp : p ∈ W.M
  memq : q ∈ W.M
  get : ∀ k N H, W.I k N H → ∃ n, n ≤ k ∧ Deck H p q n
  put : ∀ k k' N H H' n', p ∈ N → q ∈ N → W.I k N H → Ext [p, q] H H' → Deck H' p q n' → n' ≤ k' → W.I k' N H'
instance {M : List Addr} {p q : Addr} {Hs : Hp} {t : Trk M Hs} {hp : p ∈ M} {hq : q ∈ M} : HasD (deckW M p q Hs t hp hq) p q where
  memp := hp
  memq := hq
  get := fun k N H h => h.1
  put := fun k k' N H H' n' _ _ h e d hn => ⟨⟨n', hn, d⟩, fun b hb h1 h2 => by
    have hh := h.2 b hb h1 h2
    cases z : H b with
    | none => exact absurd z ((deckW M p q Hs t hp hq).trk k N H h b hb)
    | some o =>
      rw [← hh, z]
      exact e b o (by simp [h1, h2]) z⟩
section
variable {K : PySem.W.Frag} {W : Wd Nat} {p q : Addr} {ρ : Rho} {k : Nat} {Φ : PyData → Nat → Prop} {tr : L2.TA}
theorem ev_callD [hd : HasD W p q] {n0 : Nat} {R : List PyData → Nat → (PyData → Prop) → Prop} {i : Nat} (h0 : ρ[i]? = some (.raw (.ref p)))
    (h : EvA K W tr ρ k fun ds k1 => ds.length + 1 = n0 ∧ ∃ c G, R ds c G ∧ k1 + c ≤ 1000000000 ∧ ∀ d, G d → Φ d (k1 + c)) : EvW K W (tCall (spD K n0 R) [] E0 (tCons (tVar i) tr)) ρ k Φ := fun L0 H0 L H σ S Q c => by
  refine ⟨.ref p, S.slots i _ h0, h L0 H0 L H σ S _ fun vs ds k1 H1 S1 e1 ta g => ?_⟩
  obtain ⟨hl, cc, G, hR, hk, g⟩ := g
  obtain ⟨n, hn, dk⟩ := hd.get _ _ _ S1.wd
  have pN : p ∈ L ++ W.M := List.mem_append_right _ hd.memp
  have qN : q ∈ L ++ W.M := List.mem_append_right _ hd.memq
  refine ⟨L ++ W.M, p, q, n, vs, ds, cc, G, by simp, dk, pN, qN, ta, S1.trk, hl, hR, by omega, fun v d H' n' dk' hn' e t' gd => ?_⟩
  have eM' : Ext W.M H1 H' := e.sub fun b hb => by
    rcases List.mem_cons.mp hb with rfl | hb
    · exact hd.memp
    · have : b = q := by simpa using hb
      rw [this]; exact hd.memq
  exact c v d _ H' (S1.ext eM' (hd.put k1 (k1 + cc) _ _ _ n' pN qN S1.wd e dk' (by omega))) (e1.trans eM') t' (g d gd)
end
/-- the start of a def whose first argument is the deck -/
def rest1 (N : List Str) (p : Addr) (ds : List PyData) : Rho := .raw (.ref p) :: (ds.map Slot.dat ++ List.replicate (N.length - (ds.length + 1)) .no)
theorem stt_startD {K : PySem.W.Frag} {γ : Type} {W : Wd γ} {N : List Str} {vs : List V} {ds : List PyData} {H : Hp} {k : γ} {p : Addr} (t : TA K W.M H vs ds) (wd : W.I k W.M H) : Stt K W [] H [] H (L2.start N (.ref p :: vs)) (rest1 N p ds) k := by
  have get_ : ∀ (i : Nat) (s : Slot), (rest1 N p ds)[i]? = some s → s = .no ∨ (i = 0 ∧ s = .raw (.ref p)) ∨ ∃ d j, i = j + 1 ∧ ds[j]? = some d ∧ s = .dat d := fun i s hs => by
    unfold rest1 at hs
    cases i with
    | zero => right; left; exact ⟨rfl, by simpa using hs.symm⟩
    | succ i =>
      rw [List.getElem?_cons_succ] at hs
      by_cases hi : i < ds.length
      · rw [List.getElem?_append_left (by simpa using hi)] at hs
        rw [List.getElem?_map] at hs
        obtain ⟨d, h1, h2⟩ := Option.map_eq_some_iff.mp hs
        exact .inr (.inr ⟨d, i, rfl, h1, h2.symm⟩)
      · rw [List.getElem?_append_right (by simpa using hi)] at hs
        exact .inl (List.eq_of_mem_replicate (List.mem_of_getElem? hs))
  refine ⟨Ext.refl _ _, (fun l hl => nomatch hl), (fun l hl => nomatch hl), W.trk k _ H wd, wd, ?_, fun i s hs => ?_, fun i j s u hs hu h1 _ _ => ?_⟩
  · rw [start_len]
    unfold rest1
    have := t.len
    simp only [List.length_cons, List.length_append, List.length_map, List.length_replicate, this]
    omega
  · rcases get_ i s hs with rfl | ⟨rfl, rfl⟩ | ⟨d, j, rfl, hd, rfl⟩
    · trivial
    · exact start_get (by simp)
    · obtain ⟨v, h1, h2⟩ := t.at hd
      exact ⟨v, start_get (by simpa using h1), h2⟩
  · rcases get_ i s hs with rfl | ⟨rfl, rfl⟩ | ⟨d, j, rfl, hd, rfl⟩ <;> cases h1
theorem spD.ok {K : PySem.W.Frag} {n0 : Nat} {R : List PyData → Nat → (PyData → Prop) → Prop} {N : List Str} {vs : List V} {H : Hp} {Q : VK} {E : XK} {t : TS} (h : spD K n0 R vs H Q E)
    (hb : ∀ (M : List Addr) (p q : Addr) (hp : p ∈ M) (hq : q ∈ M) (Hs : Hp) (tr : Trk M Hs) (ds : List PyData) (c n : Nat) (G : PyData → Prop), R ds c G → n + c ≤ 1000000000 →
      SW K (deckW M p q Hs tr hp hq) t (rest1 N p ds) n ⟨fun _ k => G .none ∧ k ≤ n + c, fun d k => G d ∧ k ≤ n + c, fun _ _ => False, fun _ _ => False⟩) : t { nx := fun _ H' => Q .non H', rt := Q } (L2.start N vs) H := by
  obtain ⟨M, p, q, n, us, ds, c, G, rfl, dk, hp, hq, ta, tr, _, hR, hn, qq⟩ := h
  have wd0 : (deckW M p q H tr hp hq).I n M H := ⟨⟨n, Nat.le_refl _, dk⟩, fun b _ _ _ => rfl⟩
  have fin : ∀ k' H', Ext ([] ++ (deckW M p q H tr hp hq).M) H H' → (deckW M p q H tr hp hq).I k' M H' → k' ≤ n + c → ∃ n', Deck H' p q n' ∧ n' ≤ n + c ∧ Ext [p, q] H H' := fun k' H' e wi hk => by
    obtain ⟨⟨n', hn', dk'⟩, oth⟩ := wi
    refine ⟨n', dk', by omega, fun b o nb hb => ?_⟩
    have h1 : b ≠ p := fun z => nb (by simp [z])
    have h2 : b ≠ q := fun z => nb (by simp [z])
    by_cases hm : b ∈ M
    · rw [oth b hm h1 h2]; exact hb
    · exact e b o hm hb
  refine hb M p q hp hq H tr ds c n G hR hn [] H [] H _ _ (stt_startD ta wd0) (fun L' H' σ' ρ' k' S' g => ?_) (fun v d k' H' e wi t' hd => ?_) (fun _ _ _ _ _ _ z => z.elim) (fun _ _ _ _ _ _ z => z.elim)
  · obtain ⟨n', a, b, e⟩ := fin k' H' S'.base S'.wdM g.2
    exact qq .non .none H' n' a b e .non g.1
  · obtain ⟨n', a, b, e⟩ := fin k' H' e wi hd.2
    exact qq v d H' n' a b e t' hd.1
theorem spD.len {K : PySem.W.Frag} {R : List PyData → Nat → (PyData → Prop) → Prop} {n : Nat} {vs : List V} {H : Hp} {Q : VK} {E : XK} (h : spD K n R vs H Q E) : vs.length = n := by
  obtain ⟨M, p, q, n', us, ds, c, G, rfl, dk, hp, hq, ta, tr, hl, hR, hn, qq⟩ := h
  rw [List.length_cons, ta.len]
  exact hl
end U

set_option Elab.async false
set_option linter.all false
set_option maxRecDepth 100000
set_option maxHeartbeats 2000000
namespace U
open PySem PySem.Spec PyProof.Rows L2
abbrev nI (n : Nat) : PyData := .int (n : Int)
abbrev nX (ws : List Nat) : PyData := .str (txt ws)
theorem at_map {α β : Type} {f : α → β} {us : List α} {i : Nat} {u : α} (h : us[i]? = some u) : (us.map f)[i]? = some (f u) := by rw [List.getElem?_map, h]; rfl
theorem itemD_map {α : Type} {f : α → PyData} {xs : List α} {j : Nat} (h : j < xs.length) : itemD (xs.map f) j = f xs[j] := by simp [itemD, h]
theorem cut_to (ws : List Nat) (n : Nat) : cutS (txt ws) none (some (n : Int)) = txt (ws.take n) := by
  by_cases h : n ≤ ws.length
  · exact txt_take ws h
  · rw [txt_cut, HT.sIx_nat, HT.sIx_none, List.drop_zero, Nat.sub_zero, Nat.min_eq_right (by omega), List.take_length, List.take_of_length_le (by omega)]
theorem cut_from (ws : List Nat) (n : Nat) : cutS (txt ws) (some (n : Int)) none = txt (ws.drop n) := by
  by_cases h : n ≤ ws.length
  · exact txt_drop ws h
  · rw [txt_cut, HT.sIx_nat, HT.sIx_none, Nat.min_eq_right (by omega), List.drop_length, List.drop_eq_nil_of_le (by omega), List.take_nil]
theorem if_split {P Q : Prop} {c : Bool} (h1 : c = true → P) (h2 : c = false → Q) : if c = true then P else Q := by
  cases c with
  | true => exact iteT (h1 rfl)
  | false => exact iteF (h2 rfl)
section
variable {K : PySem.W.Frag} {γ : Type} {W : Wd γ} {ρ : Rho} {k : γ} {Φ : PyData → γ → Prop}
theorem rd_ixT0 {a : PyData} {ds : List PyData} (q : Φ a k) : RD K W (rIxT K) (.tuple (a :: ds)) (.int 0) ρ k Φ := rd_ixT (j := 0) rfl rfl q
theorem rd_ixT1 {a b : PyData} {ds : List PyData} (q : Φ b k) : RD K W (rIxT K) (.tuple (a :: b :: ds)) (.int 1) ρ k Φ := rd_ixT (j := 1) rfl rfl q
theorem rd_ixT2 {a b c : PyData} {ds : List PyData} (q : Φ c k) : RD K W (rIxT K) (.tuple (a :: b :: c :: ds)) (.int 2) ρ k Φ := rd_ixT (j := 2) rfl rfl q
theorem rd_ixTm {α : Type} {f : α → PyData} {xs : List α} {x : α} {j : Nat} (h : xs[j]? = some x) (q : Φ (f x) k) : RD K W (rIxT K) (.tuple (xs.map f)) (.int (j : Int)) ρ k Φ := rd_ixT (j := j) rfl (at_map h) q
theorem rd_ixX {ws : List Nat} {j : Nat} (hz : ws.length ≤ 100000) (h : j < ws.length) (q : Φ (.str ⟨#[97 + ws[j]]⟩) k) : RD K W rIxS (nX ws) (.int (j : Int)) ρ k Φ := rd_ixS (j := j) (c := 97 + ws[j]) (by rw [txt_len]; exact hz) rfl (by rw [txt_get]; simp [h]) q
theorem rc_lenX {ws : List Nat} (hz : ws.length ≤ 100000) (q : Φ (nI ws.length) k) : RCD K W (fun xs H Q => ∃ z, xs = [.str z] ∧ z.length ≤ sizeLine ∧ Q (.int z.length) H) [nX ws] ρ k Φ := rc_lenS (by rw [txt_len]; exact hz) (by rw [txt_len]; exact q)
theorem rsl_to {ws : List Nat} {n : Nat} (hz : ws.length ≤ 100000) (q : Φ (nX (ws.take n)) k) : RSl K W rSlS (nX ws) none (some (n : Int)) ρ k Φ := rsl_S (by rw [txt_len]; exact hz) (by rw [cut_to]; exact q)
theorem rsl_from {ws : List Nat} {n : Nat} (hz : ws.length ≤ 100000) (q : Φ (nX (ws.drop n)) k) : RSl K W rSlS (nX ws) (some (n : Int)) none ρ k Φ := rsl_S (by rw [txt_len]; exact hz) (by rw [cut_from]; exact q)
theorem rd_inX {c : Nat} {ws : List Nat} (q : Φ (.bool (decide (c ∈ ws))) k) : RD K W (fun x y H Q => ∃ (c : Nat) (z : Str), x = .str ⟨#[c]⟩ ∧ y = .str z ∧ Q (.bl (decide (c ∈ z.cps.toList))) H) (.str ⟨#[97 + c]⟩) (nX ws) ρ k Φ := rd_inS (by rw [txt_mem]; exact q)
theorem rd_ninX {c : Nat} {ws : List Nat} (q : Φ (.bool (!decide (c ∈ ws))) k) : RD K W (fun x y H Q => ∃ (c : Nat) (z : Str), x = .str ⟨#[c]⟩ ∧ y = .str z ∧ Q (.bl (!decide (c ∈ z.cps.toList))) H) (.str ⟨#[97 + c]⟩) (nX ws) ρ k Φ := rd_ninS (by rw [txt_mem]; exact q)
theorem rd_eqXX {a b : List Nat} (q : Φ (.bool (decide (a = b))) k) : RD K W rEq (nX a) (nX b) ρ k Φ := rd_eqX (by rw [txt_dec]; exact q)
theorem rd_neXX {a b : List Nat} (q : Φ (.bool (!decide (a = b))) k) : RD K W rNe (nX a) (nX b) ρ k Φ := rd_neX (by rw [txt_dec]; exact q)
end
/-! ### the deck's defs -/
theorem Deck.ext {H H' : Hp} {p q : Addr} {n : Nat} {M : List Addr} (d : Deck H p q n) (e : Ext M H H') (hp : p ∉ M) (hq : q ∉ M) : Deck H' p q n := by
  obtain ⟨cs, h, r⟩ := d.cells
  exact ⟨e _ _ hp d.top, cs, e _ _ hq h, r⟩
theorem Deck.same {H H' : Hp} {p q : Addr} {n : Nat} (d : Deck H p q n) (e : Same H H') : Deck H' p q n := d.ext (M := []) (Ext.same e) (by simp) (by simp)
def spDraw : Sp := fun vs H Q _ => ∃ (p q : Addr) (n : Nat) (many : Int), vs = [.ref p, .int many] ∧ Deck H p q n ∧ n ≤ 1000000000 ∧ 0 < many ∧ many ≤ 1000000000 ∧
  ∀ (H' : Hp) (r : Int), Deck H' p q (n + 1) → Ext [p, q] H H' → 0 ≤ r → r < many → Q (.int r) H'
def spDeck (K : PySem.W.Frag) : Sp := fun vs H Q _ => ∃ (a : Addr) (ns : List Int), vs = [.ref a] ∧ SqL K H a (ns.map V.int) ∧ ns.length ≤ 63 ∧
  ∀ (H' : Hp) (p q : Addr), H p = none → H q = none → Deck H' p q 0 → Same H H' → Q (.ref p) H'
def R_draw (ds : List PyData) (c : Nat) (G : PyData → Prop) : Prop := ∃ many : Int, ds = [.int many] ∧ 0 < many ∧ many ≤ 1000000000 ∧ c = 1 ∧ G = fun d => ∃ r : Nat, (r : Int) < many ∧ d = nI r
theorem FnOk.less {P : Program} {w : World} {K : PySem.W.Frag} {mg : Str → Option Value} {base : Heap} {k : Nat} {f : Addr} {fd : FuncData} {ps : List Str} {sp sp' : Sp} (F : FnOk P w K mg base CX0 k f fd ps sp) (h : ∀ vs H Q E, sp' vs H Q E → sp vs H Q E) : FnOk P w K mg base CX0 k f fd ps sp' :=
  ⟨fun vs H Q E g => F.len vs H Q E (h _ _ _ _ g), fun A o s H a us vs Q E hr e hb r g => F.run A o s H a us vs Q E hr e hb r (h _ _ _ _ g)⟩
section
variable {K : PySem.W.Frag} {W : Wd Nat} {p q : Addr} {ρ : Rho} {k : Nat} {Φ : PyData → Nat → Prop} {ta : L2.TA}
/-- a number drawn -/
theorem ev_draw [hd : HasD W p q] {i : Nat} (h0 : ρ[i]? = some (.raw (.ref p))) (h : EvA K W ta ρ k fun ds k1 => ∃ many : Int, ds = [.int many] ∧ 0 < many ∧ many ≤ 1000000000 ∧ k1 + 1 ≤ 1000000000 ∧ ∀ r : Nat, (r : Int) < many → Φ (nI r) (k1 + 1)) :
    EvW K W (tCall (spD K 2 R_draw) [] E0 (tCons (tVar i) ta)) ρ k Φ := ev_callD h0 fun L0 H0 L H σ S Q c => h L0 H0 L H σ S Q fun vs ds k1 H2 S2 e2 t2 g => c vs ds k1 H2 S2 e2 t2 (by
  obtain ⟨many, rfl, g0, g1, g2, g3⟩ := g
  exact ⟨rfl, 1, _, ⟨many, rfl, g0, g1, rfl, rfl⟩, g2, fun d ⟨r, hr, e⟩ => by rw [e]; exact g3 r hr⟩)
end
def R_one (ds : List PyData) (c : Nat) (G : PyData → Prop) : Prop := c = 1 ∧ ((∃ es, (ds = [.list es] ∨ ds = [.tuple es]) ∧ es ≠ [] ∧ es.length ≤ 1000 ∧ G = fun d => d ∈ es) ∨
  ∃ ws : List Nat, ds = [.str (txt ws)] ∧ ws ≠ [] ∧ ws.length ≤ 1000 ∧ G = fun d => ∃ x ∈ ws, d = .str (txt [x]))
def OneOk (Ψ : PyData → Prop) : PyData → Prop
  | .list es => es ≠ [] ∧ es.length ≤ 1000 ∧ ∀ d, d ∈ es → Ψ d
  | .tuple es => es ≠ [] ∧ es.length ≤ 1000 ∧ ∀ d, d ∈ es → Ψ d
  | .str z => ∃ ws, z = txt ws ∧ ws ≠ [] ∧ ws.length ≤ 1000 ∧ ∀ x, x ∈ ws → Ψ (.str (txt [x]))
  | _ => False
section
variable {K : PySem.W.Frag} {W : Wd Nat} {p q : Addr} {ρ : Rho} {k : Nat} {Φ : PyData → Nat → Prop} {ta : L2.TA}
/-- one of some -/
theorem ev_one [hd : HasD W p q] {i : Nat} (h0 : ρ[i]? = some (.raw (.ref p))) (h : EvA K W ta ρ k fun ds k1 => ∃ x, ds = [x] ∧ k1 + 1 ≤ 1000000000 ∧ OneOk (fun d => Φ d (k1 + 1)) x) :
    EvW K W (tCall (spD K 2 R_one) [] E0 (tCons (tVar i) ta)) ρ k Φ := ev_callD h0 fun L0 H0 L H σ S Q c => h L0 H0 L H σ S Q fun vs ds k1 H2 S2 e2 t2 g => c vs ds k1 H2 S2 e2 t2 (by
  obtain ⟨x, rfl, g0, g1⟩ := g
  refine ⟨rfl, 1, ?_⟩
  cases x with
  | list es => exact ⟨_, ⟨rfl, .inl ⟨es, .inl rfl, g1.1, g1.2.1, rfl⟩⟩, g0, g1.2.2⟩
  | tuple es => exact ⟨_, ⟨rfl, .inl ⟨es, .inr rfl, g1.1, g1.2.1, rfl⟩⟩, g0, g1.2.2⟩
  | str z =>
    obtain ⟨ws, rfl, a, b, g⟩ := g1
    exact ⟨_, ⟨rfl, .inr ⟨ws, rfl, a, b, rfl⟩⟩, g0, fun d ⟨y, hy, e⟩ => by rw [e]; exact g y hy⟩
  | _ => exact g1.elim)
end
section
variable {K : PySem.W.Frag} {γ : Type} {W : Wd γ} {ρ : Rho} {k : γ} {Φ : PyData → γ → Prop} {x y : PyData}
/-- an item of what may be a list, a tuple or a text -/
def nthD (x : PyData) (j : Nat) : Option PyData := match x with
  | .list es => es[j]?
  | .tuple es => es[j]?
  | .str z => z.cps[j]?.map fun c => .str ⟨#[c]⟩
  | _ => none
theorem rd_ixQ {i : Int} {j : Nat} {d : PyData} (hi : i = (j : Int)) (hz : sizeOk x) (h : nthD x j = some d) (q : Φ d k) : RD K W (rIx K) x (.int i) ρ k Φ := rd_ q fun N H vx vy tx ty Q c => by
  subst hi
  cases ty
  cases tx with
  | lst n ha t =>
    obtain ⟨v, h1, h2⟩ := t.at h
    exact .inl ⟨_, _, _, v, rfl, rfl, SqL.of ha, atI_nat h1, c v h2⟩
  | tup n ha t =>
    obtain ⟨v, h1, h2⟩ := t.at h
    exact .inr (.inl ⟨_, _, _, v, rfl, rfl, SqT.of ha, atI_nat h1, c v h2⟩)
  | str z =>
    obtain ⟨cc, h1, rfl⟩ := Option.map_eq_some_iff.mp h
    exact .inr (.inr ⟨z, _, cc, rfl, rfl, Nat.le_trans hz (by decide), atI_nat (by simpa using h1), c _ (.str _)⟩)
  | _ => cases h
end

theorem fine_X {n : Nat} {ws : List Nat} (h : ∀ c ∈ ws, c < 1000) (hn : ws.length ≤ n) : Fine n 0 (nX ws) := by
  refine ⟨rfl, ?_, by show (txt ws).cps.size ≤ n; rw [txt_size]; exact hn, Nat.le_refl _⟩
  show ((txt ws).cps.toList.all fun c => decide (c < 16 ^ 8)) = true
  rw [List.all_eq_true]
  intro c hc
  obtain ⟨d, hd, rfl⟩ : ∃ d ∈ ws, c = 97 + d := by
    unfold txt at hc
    simp only [List.mem_map] at hc
    obtain ⟨d, hd, e⟩ := hc
    exact ⟨d, hd, e.symm⟩
  have := h d hd
  have h2 : (1100 : Nat) < 16 ^ 8 := by decide
  exact decide_eq_true (by omega)
section
variable {K : PySem.W.Frag} {γ : Type} {W : Wd γ} {ρ : Rho} {k : γ} {Φ : PyData → γ → Prop}
theorem rd_neX0 {a : List Nat} (q : Φ (.bool (!decide (a = []))) k) : RD K W rNe (nX a) (.str (Str.ofString "")) ρ k Φ := by rw [txt_nil]; exact rd_neXX q
theorem rd_eqX0 {a : List Nat} (q : Φ (.bool (decide (a = []))) k) : RD K W rEq (nX a) (.str (Str.ofString "")) ρ k Φ := by rw [txt_nil]; exact rd_eqXX q
end
/-! ### slots forgotten -/
inductive Le : Rho → Rho → Prop
  | nil : Le [] []
  | no {s : Slot} {a b : Rho} : Le a b → Le (.no :: a) (s :: b)
  | same {s : Slot} {a b : Rho} : Le a b → Le (s :: a) (s :: b)
theorem Le.refl : ∀ (a : Rho), Le a a
  | [] => .nil
  | _ :: a => .same (Le.refl a)
theorem Le.len : ∀ {a b : Rho}, Le a b → a.length = b.length
  | _, _, .nil => rfl
  | _, _, .no h => by rw [List.length_cons, List.length_cons, h.len]
  | _, _, .same h => by rw [List.length_cons, List.length_cons, h.len]
theorem Le.get : ∀ {a b : Rho}, Le a b → ∀ (i : Nat) (s : Slot), a[i]? = some s → s = .no ∨ b[i]? = some s
  | _, _, .nil, i, s, h => by simp at h
  | _, _, .no g, 0, s, h => by simp at h; exact .inl h.symm
  | _, _, .no g, i + 1, s, h => by simpa using g.get i s (by simpa using h)
  | _, _, .same g, 0, s, h => by simp at h; exact .inr (by simp [h])
  | _, _, .same g, i + 1, s, h => by simpa using g.get i s (by simpa using h)
section
variable {K : PySem.W.Frag} {γ : Type} {W : Wd γ} {ρ : Rho} {k : γ} {P : Ps γ} {g : TG} {a b : TS} {wi : TI} {tt : TT}
theorem Stt.le {L0 L : List Addr} {H0 H : Hp} {σ : L2.St} {ρ0 : Rho} (S : Stt K W L0 H0 L H σ ρ k) (l : Le ρ0 ρ) : Stt K W L0 H0 L H σ ρ0 k := S.weaken l.len l.get
theorem sw_wk (h : SW K W a ρ k { P with nx := fun ρ' k' => ∃ ρ0, Le ρ0 ρ' ∧ P.nx ρ0 k' }) : SW K W a ρ k P := fun L0 H0 L H σ D S nx rt bk ct =>
  h L0 H0 L H σ D S (fun L' H' σ' ρ' k' S' ⟨ρ0, l, q⟩ => nx L' H' σ' ρ0 k' (S'.le l) q) rt bk ct
theorem sw_le {ρ0 : Rho} (l : Le ρ0 ρ) (h : SW K W a ρ0 k P) : SW K W a ρ k P := fun L0 H0 L H σ D S nx rt bk ct => h L0 H0 L H σ D (S.le l) nx rt bk ct
theorem tg_le {js : Nat → Prop} {d : PyData} {Ψ : Rho → Prop} {ρ0 : Rho} (l : Le ρ0 ρ) (h : TgW K W g js d ρ0 Ψ) : TgW K W g js d ρ Ψ := fun L0 H0 L H σ k v S t Q c => h L0 H0 L H σ k v (S.le l) t Q c
/-- for, slots forgotten at each turn -/
theorem sw_forW (h : EvI K W wi ρ k fun n f k1 => ∃ J : Nat → Rho → γ → Prop, (∃ ρ0, Le ρ0 ρ ∧ J 0 ρ0 k1) ∧
      (∀ i ρ1 k2, i < n → J i ρ1 k2 → TgW K W g (fun _ => True) (f i) ρ1 fun ρ2 => SW K W b ρ2 k2 { P with nx := fun ρ' k' => ∃ ρ0, Le ρ0 ρ' ∧ J (i + 1) ρ0 k', ct := fun ρ' k' => ∃ ρ0, Le ρ0 ρ' ∧ J (i + 1) ρ0 k', bk := P.nx }) ∧ ∀ ρ1 k2, J n ρ1 k2 → P.nx ρ1 k2) : SW K W (tFor wi g b) ρ k P :=
  sw_wk (sw_for fun L0 H0 L H σ S R c => h L0 H0 L H σ S R fun J n f k' H2 S2 e wd ⟨Jv, j0, turn, done⟩ => c J n f k' H2 S2 e wd
    ⟨fun i ρ k => ∃ ρ0, Le ρ0 ρ ∧ Jv i ρ0 k, j0, fun i ρ1 k2 hi ⟨ρ0, l, j⟩ => tg_le l (fun L0 H0 L H σ k v S t Q c => turn i ρ0 k2 hi j L0 H0 L H σ k v S t Q fun σ' ρ' S' a b body => c σ' ρ' S' a b
      (body.mono (fun _ _ q => q) (fun _ _ q => q) (fun ρ k q => ⟨ρ, Le.refl ρ, q⟩) (fun _ _ q => q))), fun ρ1 k2 ⟨ρ0, l, j⟩ => ⟨ρ0, l, done ρ0 k2 j⟩⟩)
end
/-! ### a law -/
def spLaw (K : PySem.W.Frag) : Sp := fun vs H Q _ => ∃ (a : Addr) (ns : List Int), vs = [.ref a] ∧ SqL K H a (ns.map V.int) ∧ ns.length ≤ 63 ∧ ∀ H', Q (.bl true) H'
theorem spLaw.len {K : PySem.W.Frag} {vs : List V} {H : Hp} {Q : VK} {E : XK} (h : spLaw K vs H Q E) : vs.length = 1 := by
  obtain ⟨_, _, rfl, _⟩ := h
  rfl
theorem spLaw.ok {K : PySem.W.Frag} {N : List Str} {vs : List V} {H : Hp} {Q : VK} {E : XK} {rest : TS} (n : Nat) (hN : N.length = n + 2) (h : spLaw K vs H Q E)
    (hb : ∀ (M : List Addr) (p q : Addr) (hp : p ∈ M) (hq : q ∈ M) (Hs : Hp) (tr : Trk M Hs), SW K (deckW M p q Hs tr hp hq) rest (.no :: .raw (.ref p) :: List.replicate n .no) 0 ⟨fun _ _ => False, fun d _ => d = .bool true, fun _ _ => False, fun _ _ => False⟩) :
    tSeq (tAsg (tCall (spDeck K) [] E0 (tCons (tVar 0) tNil)) (gName 1)) rest { nx := fun _ H' => Q .non H', rt := Q } (L2.start N vs) H := by
  obtain ⟨a, ns, rfl, hS, hl, k⟩ := h
  refine ⟨.ref a, start_get (by simp), a, ns, rfl, hS, hl, fun H' p q hp0 hq0 dk sm => ?_⟩
  have tr : Trk [p, q] H' := fun b hb z => by
    rcases List.mem_cons.mp hb with rfl | hb
    · rw [dk.top] at z; cases z
    · have : b = q := by simpa using hb
      subst this
      obtain ⟨cs, hc, _⟩ := dk.cells
      rw [hc] at z; cases z
  have es : L2.start N [.ref a] = some (.ref a) :: none :: List.replicate n none := by
    unfold L2.start
    rw [hN]
    show some (V.ref a) :: List.replicate (n + 1) none = _
    rfl
  show rest _ ((L2.start N [.ref a]).set 1 (some (.ref p))) H'
  rw [es]
  have S : Stt K (deckW [p, q] p q H' tr (by simp) (by simp)) [] H' [] H' (some (.ref a) :: some (.ref p) :: List.replicate n none) (.no :: .raw (.ref p) :: List.replicate n .no) 0 := by
    have get_ : ∀ (i : Nat) (s : Slot), (Slot.no :: Slot.raw (.ref p) :: List.replicate n Slot.no)[i]? = some s → s = .no ∨ (i = 1 ∧ s = .raw (.ref p)) := fun i s hs => by
      match i, hs with
      | 0, hs => left; simpa using hs.symm
      | 1, hs => right; exact ⟨rfl, by simpa using hs.symm⟩
      | i + 2, hs => left; exact List.eq_of_mem_replicate (List.mem_of_getElem? (by simpa using hs))
    refine ⟨Ext.refl _ _, (fun l hl => nomatch hl), (fun l hl => nomatch hl), tr, ⟨⟨0, Nat.le_refl _, dk⟩, fun b _ _ _ => rfl⟩, by simp, fun i s hs => ?_, fun i j s u hs hu h1 _ _ => ?_⟩
    · rcases get_ i s hs with rfl | ⟨rfl, rfl⟩
      · trivial
      · rfl
    · rcases get_ i s hs with rfl | ⟨rfl, rfl⟩ <;> cases h1
  refine hb [p, q] p q (by simp) (by simp) H' tr [] H' [] H' _ _ S (fun _ _ _ _ _ _ z => z.elim) (fun v d k' H2 _ _ t e => ?_) (fun _ _ _ _ _ _ z => z.elim) (fun _ _ _ _ _ _ z => z.elim)
  subst e
  cases t
  exact k H2
abbrev sp_law (K : PySem.W.Frag) : Sp := spLaw K
theorem sp_law_end {K : PySem.W.Frag} {H : Hp} {a : Addr} {ns : List Int} (hl : ns.length ≤ 63) (hS : SqL K H a (ns.map V.int)) : sp_law K [.ref a] H (fun v _ => v = .bl true) E0 := ⟨a, ns, rfl, hS, hl, fun _ => rfl⟩
end U

set_option Elab.async false
set_option linter.all false
set_option maxRecDepth 100000
set_option maxHeartbeats 2000000
namespace U
open PySem PySem.Spec PyProof.Rows L2
/-! ### dicts of one's own -/
def keyD : Key → PyData
  | .inl i => .int i
  | .inr x => .str x
def lookD (kvs : List (Key × PyData)) (k : Key) : Option PyData := (kvs.find? fun kv => decide (kv.1 = k)).map (·.2)
def putD (kvs : List (Key × PyData)) (k : Key) (d : PyData) : List (Key × PyData) := if (kvs.any fun kv => decide (kv.1 = k)) = true then kvs.map (fun kv => if kv.1 = k then (kv.1, d) else kv) else kvs ++ [(k, d)]
theorem lookD_cons (p : Key × PyData) (kvs : List (Key × PyData)) (j : Key) : lookD (p :: kvs) j = if p.1 = j then some p.2 else lookD kvs j := by
  unfold lookD
  by_cases e : p.1 = j <;> simp [e]
theorem lookD_any (kvs : List (Key × PyData)) (k : Key) : (kvs.any fun kv => decide (kv.1 = k)) = (lookD kvs k).isSome := by
  induction kvs with
  | nil => rfl
  | cons p r ih =>
    rw [List.any_cons, lookD_cons, ih]
    by_cases e : p.1 = k <;> simp [e]
theorem lookD_map (k j : Key) (d : PyData) (kvs : List (Key × PyData)) : lookD (kvs.map fun kv => if kv.1 = k then (kv.1, d) else kv) j = (lookD kvs j).map fun x => if j = k then d else x := by
  induction kvs with
  | nil => rfl
  | cons p r ih =>
    rw [List.map_cons, lookD_cons, lookD_cons, ih]
    by_cases e : p.1 = k
    · rw [if_pos e]
      by_cases f : p.1 = j
      · rw [if_pos f, if_pos f, Option.map_some, if_pos (f.symm.trans e)]
      · rw [if_neg f, if_neg f]
    · rw [if_neg e]
      by_cases f : p.1 = j
      · rw [if_pos f, if_pos f, Option.map_some, if_neg (fun z => e (f.trans z))]
      · rw [if_neg f, if_neg f]
theorem lookD_app (k j : Key) (d : PyData) (kvs : List (Key × PyData)) (h : lookD kvs k = none) : lookD (kvs ++ [(k, d)]) j = if j = k then some d else lookD kvs j := by
  induction kvs with
  | nil =>
    rw [List.nil_append, lookD_cons]
    by_cases e : k = j
    · rw [if_pos e, if_pos e.symm]
    · rw [if_neg e, if_neg (fun z => e z.symm)]
  | cons p r ih =>
    rw [lookD_cons] at h
    by_cases e : p.1 = k
    · rw [if_pos e] at h; cases h
    · rw [if_neg e] at h
      rw [List.cons_append, lookD_cons, lookD_cons, ih h]
      by_cases f : p.1 = j
      · rw [if_pos f, if_pos f, if_neg (fun z => e (f.trans z))]
      · rw [if_neg f, if_neg f]
theorem lookD_put (kvs : List (Key × PyData)) (k j : Key) (d : PyData) : lookD (putD kvs k d) j = if j = k then some d else lookD kvs j := by
  unfold putD
  rw [lookD_any]
  cases h : lookD kvs k with
  | none => simp only [Option.isSome_none, Bool.false_eq_true, if_false]; exact lookD_app k j d kvs h
  | some x =>
    simp only [Option.isSome_some, if_true]
    rw [lookD_map]
    by_cases e : j = k
    · subst e; simp [h]
    · cases lookD kvs j <;> simp [e]
theorem length_putD (kvs : List (Key × PyData)) (k : Key) (d : PyData) : (putD kvs k d).length ≤ kvs.length + 1 := by
  unfold putD
  split <;> simp
theorem keys_putD (kvs : List (Key × PyData)) (k : Key) (d : PyData) (h : lookD kvs k = none) : putD kvs k d = kvs ++ [(k, d)] := by
  unfold putD
  rw [lookD_any, h]
  simp
section
variable {K : PySem.W.Frag} {N : List Addr} {H : Hp}
theorem keyD_T {v : V} {key : Key} (t : T K N H v (keyD key)) : v = kV key := by
  cases key with
  | inl i => cases t; rfl
  | inr x => cases t; rfl
theorem T_keyD (key : Key) : T K N H (kV key) (keyD key) := by
  cases key with
  | inl i => exact .int i
  | inr x => exact .str x
theorem KD.len {vs : List (Key × V)} {ds : List (Key × PyData)} (h : KD K N H vs ds) : vs.length = ds.length := by
  induction h with
  | nil => rfl
  | cons _ _ ih => rw [List.length_cons, List.length_cons, ih]
theorem KD.look {vs : List (Key × V)} {ds : List (Key × PyData)} (h : KD K N H vs ds) (key : Key) : (valV vs key = none ∧ lookD ds key = none) ∨ ∃ v d, valV vs key = some v ∧ lookD ds key = some d ∧ T K N H v d := by
  induction h with
  | nil => exact .inl ⟨rfl, rfl⟩
  | @cons k v d vs ds t h ih =>
    unfold valV lookD at ih ⊢
    by_cases e : k = key
    · right
      refine ⟨v, d, ?_, ?_, t⟩ <;> simp [e]
    · simp only [List.find?_cons, decide_eq_false e]
      exact ih
theorem KD.at {vs : List (Key × V)} {ds : List (Key × PyData)} (h : KD K N H vs ds) : ∀ (i : Nat) (key : Key) (v : V), vs[i]? = some (key, v) → ∃ d, ds[i]? = some (key, d) := by
  induction h with
  | nil => intro i key v e; simp at e
  | @cons k v d vs ds t h ih =>
    intro i key u e
    cases i with
    | zero =>
      simp only [List.getElem?_cons_zero, Option.some.injEq, Prod.mk.injEq] at e
      exact ⟨d, by simp [e.1]⟩
    | succ i => simpa using ih i key u (by simpa using e)
end
section
variable {K : PySem.W.Frag} {N : List Addr} {H : Hp}
theorem KD.anyk {vs : List (Key × V)} {ds : List (Key × PyData)} (h : KD K N H vs ds) (key : Key) : (vs.any fun kv => decide (kv.1 = key)) = ds.any fun kv => decide (kv.1 = key) := by
  induction h with
  | nil => rfl
  | cons _ _ ih => rw [List.any_cons, List.any_cons, ih]
theorem KD.put {vs : List (Key × V)} {ds : List (Key × PyData)} (h : KD K N H vs ds) (key : Key) {v : V} {d : PyData} (t : T K N H v d) : KD K N H (putK vs key v) (putD ds key d) := by
  unfold putK putD
  rw [h.anyk]
  split
  · rename_i hh; clear hh
    induction h with
    | nil => exact .nil
    | @cons k x y vs ds tx h ih =>
      rw [List.map_cons, List.map_cons]
      by_cases e : k = key
      · simp only [e, if_true]; exact .cons t ih
      · simp only [e, if_false]; exact .cons tx ih
  · rename_i hh; clear hh
    induction h with
    | nil => exact .cons t .nil
    | cons tx h ih => exact .cons tx ih
end
section
variable {K : PySem.W.Frag} {γ : Type} {W : Wd γ} {ρ : Rho} {k : γ} {Φ : PyData → γ → Prop} {P : Ps γ} {ty tv te : TE} {i : Nat} {kvs : List (Key × PyData)}
/-- the dict of a slot, locked or not -/
def DSlot (kvs : List (Key × PyData)) (s : Slot) : Prop := s = .ownD kvs ∨ s = .lck kvs
theorem Stt.dict {L0 L : List Addr} {H0 H : Hp} {σ : L2.St} {s : Slot} (S : Stt K W L0 H0 L H σ ρ k) (h : ρ[i]? = some s) (hd : DSlot kvs s) : ∃ l vs, σ[i]? = some (some (.ref l)) ∧ l ∈ L ∧ Rd H l (.dK vs) ∧ KD K (L ++ W.M) H vs kvs := by
  have q := S.slots i s h
  rcases hd with rfl | rfl
  · obtain ⟨l, vs, h1, h2, h3, h4⟩ := q
    exact ⟨l, vs, h1, h2, .inl h3, h4⟩
  · obtain ⟨l, vs, od, h1, h2, h3, h4⟩ := q
    exact ⟨l, vs, h1, h2, .inr ⟨od, h3⟩, h4⟩
theorem ref_eq {o : Option (Option V)} {a b : Addr} (h1 : o = some (some (.ref a))) (h2 : o = some (some (.ref b))) : a = b := by
  rw [h1] at h2
  injection h2 with h2; injection h2 with h2; injection h2
/-- d[k], there -/
theorem ev_dget {s : Slot} (h0 : ρ[i]? = some s) (hd : DSlot kvs s) (h : EvW K W ty ρ k fun x k1 => ∃ key d, x = keyD key ∧ lookD kvs key = some d ∧ Φ d k1) : EvW K W (tDGet (tVar i) ty) ρ k Φ := fun L0 H0 L H σ S Q c => by
  obtain ⟨l, vs, e1, e2, e3, e4⟩ := S.dict h0 hd
  refine ⟨_, e1, h L0 H0 L H σ S _ fun v x k1 H1 S1 e t g => ?_⟩
  obtain ⟨key, d, rfl, hl, q⟩ := g
  obtain ⟨l', vs', f1, f2, f3, f4⟩ := S1.dict h0 hd
  obtain rfl := ref_eq e1 f1
  rcases f4.look key with ⟨_, z⟩ | ⟨u, d', h1, h2, h3⟩
  · rw [z] at hl; cases hl
  · rw [h2] at hl
    cases hl
    exact ⟨l, u, rfl, .inl ⟨vs', key, f3, keyD_T t, h1.symm⟩, c u d k1 H1 S1 e h3 q⟩
/-- d.get(k) -/
theorem ev_dget1 {s : Slot} (h0 : ρ[i]? = some s) (hd : DSlot kvs s) (h : EvW K W ty ρ k fun x k1 => ∃ key, x = keyD key ∧ Φ ((lookD kvs key).getD .none) k1) : EvW K W (tDGet1 (tVar i) ty) ρ k Φ := fun L0 H0 L H σ S Q c => by
  obtain ⟨l, vs, e1, e2, e3, e4⟩ := S.dict h0 hd
  refine ⟨_, e1, l, rfl, .inl ⟨vs, e3⟩, h L0 H0 L H σ S _ fun v x k1 H1 S1 e t g => ?_⟩
  obtain ⟨key, rfl, q⟩ := g
  obtain ⟨l', vs', f1, f2, f3, f4⟩ := S1.dict h0 hd
  obtain rfl := ref_eq e1 f1
  rcases f4.look key with ⟨h1, z⟩ | ⟨u, d', h1, h2, h3⟩
  · refine ⟨none, .inl ⟨vs', key, f3, keyD_T t, h1.symm⟩, c .non .none k1 H1 S1 e .non ?_⟩
    rw [z] at q
    exact q
  · refine ⟨some u, .inl ⟨vs', key, f3, keyD_T t, h1.symm⟩, c u d' k1 H1 S1 e h3 ?_⟩
    rw [h2] at q
    exact q
/-- k in d -/
theorem ev_din {s : Slot} (h0 : ρ[i]? = some s) (hd : DSlot kvs s) (h : EvW K W ty ρ k fun x k1 => ∃ key, x = keyD key ∧ Φ (.bool (lookD kvs key).isSome) k1) : EvW K W (tDIn ty (tVar i)) ρ k Φ := fun L0 H0 L H σ S Q c =>
  h L0 H0 L H σ S _ fun v x k1 H1 S1 e t g => by
    obtain ⟨key, rfl, q⟩ := g
    obtain ⟨l', vs', f1, f2, f3, f4⟩ := S1.dict h0 hd
    rcases f4.look key with ⟨h1, z⟩ | ⟨u, d', h1, h2, h3⟩
    · refine ⟨_, f1, l', none, rfl, .inl ⟨vs', key, f3, keyD_T t, h1.symm⟩, c _ _ k1 H1 S1 e (.bl _) ?_⟩
      rw [z] at q
      exact q
    · refine ⟨_, f1, l', some u, rfl, .inl ⟨vs', key, f3, keyD_T t, h1.symm⟩, c _ _ k1 H1 S1 e (.bl _) ?_⟩
      rw [h2] at q
      exact q
theorem ev_dnin {s : Slot} (h0 : ρ[i]? = some s) (hd : DSlot kvs s) (h : EvW K W ty ρ k fun x k1 => ∃ key, x = keyD key ∧ Φ (.bool (!(lookD kvs key).isSome)) k1) : EvW K W (tDNotIn ty (tVar i)) ρ k Φ := fun L0 H0 L H σ S Q c =>
  h L0 H0 L H σ S _ fun v x k1 H1 S1 e t g => by
    obtain ⟨key, rfl, q⟩ := g
    obtain ⟨l', vs', f1, f2, f3, f4⟩ := S1.dict h0 hd
    rcases f4.look key with ⟨h1, z⟩ | ⟨u, d', h1, h2, h3⟩
    · refine ⟨_, f1, l', none, rfl, .inl ⟨vs', key, f3, keyD_T t, h1.symm⟩, c _ _ k1 H1 S1 e (.bl _) ?_⟩
      rw [z] at q
      exact q
    · refine ⟨_, f1, l', some u, rfl, .inl ⟨vs', key, f3, keyD_T t, h1.symm⟩, c _ _ k1 H1 S1 e (.bl _) ?_⟩
      rw [h2] at q
      exact q
/-- d[k] = v -/
theorem sw_dput (h0 : ρ[i]? = some (.ownD kvs)) (h : EvW K W tv ρ k fun d k1 => EvW K W ty ρ k1 fun x k2 => ∃ key, x = keyD key ∧ kvs.length < 100000 ∧ P.nx (ρ.set i (.ownD (putD kvs key d))) k2) : SW K W (sDPut (tVar i) ty tv) ρ k P := fun L0 H0 L H σ D S nx _ _ _ =>
  h L0 H0 L H σ S _ fun v d k1 H1 S1 ee t g => by
    obtain ⟨l, vs, e1, e2, e3, e4⟩ := S1.slots i _ h0
    refine ⟨_, e1, g L0 H0 L H1 σ S1 _ fun u x k2 H2 S2 ee2 t2 g2 => ?_⟩
    obtain ⟨key, rfl, hl, q⟩ := g2
    obtain ⟨l', vs', f1, f2, f3, f4⟩ := S2.slots i _ h0
    obtain rfl := ref_eq e1 f1
    refine ⟨l, _, rfl, .inl ⟨vs', key, f3, keyD_T t2, Nat.lt_of_le_of_lt (show vs'.length ≤ 99999 by rw [f4.len]; omega) (by decide), rfl⟩, ?_⟩
    exact nx _ _ _ _ _ (S2.put (s1 := .ownD (putD kvs key d)) h0 rfl rfl f1 f2 ⟨l, _, rfl, f2, upd_same, (f4.put key (t.ext (eM ee2))).map fun _ _ t => t.ext (Ext.put (List.mem_append_left _ f2))⟩) q
/-- x = {k: v} -/
theorem sw_disp1 {tk : TE} {key : Key} (htk : tk = tC (kV key)) (h : EvW K W tv ρ k fun d k1 => P.nx (ρ.set i (.ownD [(key, d)])) k1) : SW K W (tAsg (tDisp [(tk, tv)]) (gName i)) ρ k P := fun L0 H0 L H σ D S nx _ _ _ => by
  intro p hp
  subst htk
  obtain ⟨S1, nat⟩ := S.hide (o := .dK []) hp
  refine h L0 H0 (p :: L) _ σ S1 _ fun v d k1 H1 S2 e t g => ?_
  have npM : p ∉ W.M := fun z => S.nin hp (List.mem_append_right _ z)
  have hp1 : H1 p = some (.dK []) := e p _ npM upd_same
  refine ⟨hp1, [(key, v)], rfl, (show 1 ≤ 15 by decide), ?_⟩
  have S3 := S2.putHid (o := .dK [(key, v)]) nat
  have tv' : T K (p :: L ++ W.M) (upd H1 p (.dK [(key, v)])) v d := t.ext (Ext.put (by simp))
  have eqs : (mergeK [] [(key, v)]) = [(key, v)] := rfl
  rw [eqs]
  have il : ∀ {s : Slot}, (ρ.set i (.ownD [(key, d)]))[i]? = some s → s = .ownD [(key, d)] ∧ i < σ.length := fun {s} hs => by
    rw [List.getElem?_set_self'] at hs
    cases q : ρ[i]? with
    | none => rw [q] at hs; cases hs
    | some u =>
      rw [q] at hs
      have hs' : Slot.ownD [(key, d)] = s := by simpa using hs
      exact ⟨hs'.symm, by rw [← S.len]; exact (List.getElem?_eq_some_iff.mp q).1⟩
  refine nx _ _ _ _ _ ⟨S3.base, S3.fresh, S3.offM, S3.trk, S3.wd, by rw [List.length_set, List.length_set]; exact S.len, fun j s hs => ?_, fun j m s u hs hu h1 h2 h3 => ?_⟩ g
  · by_cases ej : j = i
    · subst ej
      obtain ⟨rfl, hl⟩ := il hs
      have : (σ.set j (some (V.ref p)))[j]? = some (some (.ref p)) := by simp [hl]
      rw [this]
      exact ⟨p, _, rfl, by simp, upd_same, .cons tv' .nil⟩
    · rw [List.getElem?_set_ne (fun z => ej z.symm)] at hs ⊢
      exact S3.slots j s hs
  · by_cases ej : j = i
    · by_cases em : m = i
      · rw [ej, em]
      · exfalso
        subst ej
        obtain ⟨_, hl⟩ := il hs
        rw [List.getElem?_set_ne (fun z => em z.symm)] at hu h3
        rw [show (σ.set j (some (V.ref p)))[j]? = some (some (.ref p)) by simp [hl]] at h3
        exact nat m u hu h2 h3.symm
    · by_cases em : m = i
      · exfalso
        subst em
        obtain ⟨_, hl⟩ := il hu
        rw [List.getElem?_set_ne (fun z => ej z.symm)] at hs h3
        rw [show (σ.set m (some (V.ref p)))[m]? = some (some (.ref p)) by simp [hl]] at h3
        exact nat j s hs h1 h3
      · rw [List.getElem?_set_ne (fun z => ej z.symm)] at hs h3
        rw [List.getElem?_set_ne (fun z => em z.symm)] at hu h3
        exact S3.dis j m s u hs hu h1 h2 h3
/-- a comprehension over the keys: the dict is locked meanwhile -/
theorem ev_lock (h0 : ρ[i]? = some (.ownD kvs)) (h : EvW K W te (ρ.set i (.lck kvs)) k Φ) : EvW K W (tLockE te) ρ k Φ := fun L0 H0 L H σ S Q c => by
  obtain ⟨l, vs, e1, e2, e3, e4⟩ := S.slots i _ h0
  refine ⟨l, .dK vs, e3, trivial, fun od => ?_⟩
  have nM := S.offM l e2
  have S1 : Stt K W L0 H0 L (upd H l (.frz od (.dK vs))) σ (ρ.set i (.lck kvs)) k := S.put (s1 := .lck kvs) h0 rfl rfl e1 e2 ⟨l, vs, od, rfl, e2, upd_same, e4.map fun _ _ t => t.ext (Ext.put (List.mem_append_left _ e2))⟩
  refine h L0 H0 L _ σ S1 _ fun v d k1 H1 S2 e t q => ?_
  have h1 : H1 l = some (.frz od (.dK vs)) := e l _ nM upd_same
  refine ⟨h1, ?_⟩
  have hi1 : (ρ.set i (.lck kvs))[i]? = some (.lck kvs) := by simp [(List.getElem?_eq_some_iff.mp h0).1]
  have f4 : KD K (L ++ W.M) H1 vs kvs := e4.map fun _ _ t => (t.ext (Ext.put (List.mem_append_left _ e2))).ext (eM e)
  have S3 := S2.put (o := .dK vs) (s1 := .ownD kvs) hi1 rfl rfl e1 e2 ⟨l, vs, rfl, e2, upd_same, f4.map fun _ _ t => t.ext (Ext.put (List.mem_append_left _ e2))⟩
  have back : (ρ.set i (.lck kvs)).set i (.ownD kvs) = ρ := by
    rw [List.set_set]
    apply List.ext_getElem?
    intro j
    by_cases ej : i = j
    · subst ej
      rw [List.getElem?_set_self', h0]
      rfl
    · rw [List.getElem?_set_ne ej]
  rw [back] at S3
  refine c v d k1 _ S3 (fun b o nb hb => ?_) (t.ext (Ext.put (List.mem_append_left _ e2))) q
  by_cases eb : b = l
  · subst eb
    rw [upd_same, ← hb, e3]
  · rw [upd_ne eb]
    refine e b o nb ?_
    rw [upd_ne eb]
    exact hb
/-- x = [.. for k in d ..] -/
theorem sw_lockA {j : Nat} (hij : i ≠ j) (h0 : ρ[i]? = some (.ownD kvs)) (h : EvW K W te (ρ.set i (.lck kvs)) k fun d k1 => P.nx (ρ.set j (.dat d)) k1) : SW K W (tLock (tAsg te (gName j))) ρ k P := fun L0 H0 L H σ D S nx _ _ _ => by
  obtain ⟨l, vs, e1, e2, e3, e4⟩ := S.slots i _ h0
  refine ⟨l, .dK vs, e3, trivial, fun od => ?_⟩
  have nM := S.offM l e2
  have S1 : Stt K W L0 H0 L (upd H l (.frz od (.dK vs))) σ (ρ.set i (.lck kvs)) k := S.put (s1 := .lck kvs) h0 rfl rfl e1 e2 ⟨l, vs, od, rfl, e2, upd_same, e4.map fun _ _ t => t.ext (Ext.put (List.mem_append_left _ e2))⟩
  refine h L0 H0 L _ σ S1 _ fun v d k1 H1 S2 e t q => ?_
  have h1 : H1 l = some (.frz od (.dK vs)) := e l _ nM upd_same
  refine ⟨h1, ?_⟩
  have hi1 : (ρ.set i (.lck kvs))[i]? = some (.lck kvs) := by simp [(List.getElem?_eq_some_iff.mp h0).1]
  have f4 : KD K (L ++ W.M) H1 vs kvs := e4.map fun _ _ t => (t.ext (Ext.put (List.mem_append_left _ e2))).ext (eM e)
  have S3 := S2.put (o := .dK vs) (s1 := .ownD kvs) hi1 rfl rfl e1 e2 ⟨l, vs, rfl, e2, upd_same, f4.map fun _ _ t => t.ext (Ext.put (List.mem_append_left _ e2))⟩
  have back : (ρ.set i (.lck kvs)).set i (.ownD kvs) = ρ := by
    rw [List.set_set]
    apply List.ext_getElem?
    intro j
    by_cases ej : i = j
    · subst ej
      rw [List.getElem?_set_self', h0]
      rfl
    · rw [List.getElem?_set_ne ej]
  rw [back] at S3
  exact nx _ _ _ _ _ (S3.set j (t.ext (Ext.put (List.mem_append_left _ e2)))) q
theorem ex_keys {Ω : Nat → (Nat → PyData) → γ → Prop} (h0 : ρ[i]? = some (.lck kvs)) (q : Ω kvs.length (fun j => (kvs[j]?.map fun p => keyD p.1).getD .none) k) : EvX K W (iKeys (tVar i)) ρ k Ω := fun L0 H0 L H σ S R c => by
  obtain ⟨l, vs, od, e1, e2, e3, e4⟩ := S.slots i _ h0
  have nM := S.offM l e2
  have hl := e4.len
  refine ⟨_, e1, l, od, rfl, .inl ⟨vs, e3, c _ _ _ k H S (Ext.refl _ _) ?_ q⟩⟩
  refine ⟨fun i' L' H' hi _ e => ⟨e l _ nM e3, by rw [hl]; exact hi⟩, fun L' H' _ e => ⟨e l _ nM e3, Nat.le_of_eq hl⟩, fun i' L' H' x H'' hi _ e y => ?_⟩
  obtain ⟨rfl, key, v, h1, rfl⟩ := y
  obtain ⟨d, h2⟩ := e4.at i' key v h1
  refine ⟨Same.refl _, ?_⟩
  show T K _ _ _ ((kvs[i']?.map fun p => keyD p.1).getD .none)
  rw [h2]
  exact T_keyD key
theorem rc_min {ds : List PyData} (ns : List Int) (h : ds = ns.map .int) (hl : 0 < ns.length) (q : ∀ m, m ∈ ns → (∀ y, y ∈ ns → m ≤ y) → Φ (.int m) k) : RCD K W (rMin K) [.list ds] ρ k Φ := fun L0 H0 L H σ vs S t Q c => by
  subst h
  obtain ⟨v, rfl, t1⟩ := t.one_
  cases t1 with
  | lst n ha t2 =>
    have e := t2.ints_
    subst e
    exact ⟨_, ns, rfl, SqL.of ha, hl, fun m h1 h2 => c _ _ k H S (Ext.refl _ _) (.int m) (q m h1 h2)⟩
theorem rc_max {ds : List PyData} (ns : List Int) (h : ds = ns.map .int) (hl : 0 < ns.length) (q : ∀ m, m ∈ ns → (∀ y, y ∈ ns → y ≤ m) → Φ (.int m) k) : RCD K W (rMax K) [.list ds] ρ k Φ := fun L0 H0 L H σ vs S t Q c => by
  subst h
  obtain ⟨v, rfl, t1⟩ := t.one_
  cases t1 with
  | lst n ha t2 =>
    have e := t2.ints_
    subst e
    exact ⟨_, ns, rfl, SqL.of ha, hl, fun m h1 h2 => c _ _ k H S (Ext.refl _ _) (.int m) (q m h1 h2)⟩
theorem ev_joinT (h : EvW K W te ρ k fun a k1 => ∃ s : Str, a = .str s ∧ EvW K W ty ρ k1 fun d k2 => ∃ ys : List Str, d = .tuple (ys.map .str) ∧ (ys.map (·.length)).sum + ys.length * s.length ≤ 16777216 ∧ Φ (.str (Txt.join s ys)) k2) :
    EvW K W (tM1 (rJoin K) te ty) ρ k Φ := fun L0 H0 L H σ S Q c =>
  h L0 H0 L H σ S _ fun v a k1 H1 S1 e1 t1 g => by
    obtain ⟨s, rfl, g⟩ := g
    cases t1
    refine ⟨⟨s, rfl⟩, g L0 H0 L H1 σ S1 _ fun u d k2 H2 S2 e2 t2 g2 => ?_⟩
    obtain ⟨ys, rfl, hz, q⟩ := g2
    cases t2 with
    | tup n ha t =>
      have e := t.strs_
      subst e
      exact ⟨s, _, ys, rfl, rfl, .inr (SqT.of ha), hz, c _ _ k2 H2 S2 (e1.trans e2) (.str _) q⟩
/-- a text among texts -/
theorem inV_str (z : Str) : ∀ l : List Str, inV (.str z) (l.map V.str) = decide (z ∈ l)
  | [] => by simp [inV]
  | x :: xs => by
    have ih := inV_str z xs
    unfold inV at ih ⊢
    rw [List.map_cons, List.any_cons, ih]
    show ((x == z) || _) = _
    by_cases e : z = x
    · subst e; simp
    · have e2 : ¬ x = z := fun q => e q.symm
      simp [e, e2]
theorem flat_strs : ∀ l : List Str, (l.map V.str).all flatV = true
  | [] => rfl
  | _ :: xs => by rw [List.map_cons, List.all_cons, flat_strs xs]; rfl
theorem rd_inStrsT {z : Str} {l : List Str} (q : Φ (.bool (decide (z ∈ l))) k) : RD K W (rIn K false) (.str z) (.tuple (l.map .str)) ρ k Φ := rd_ q fun N H vx vy tx ty Q c => by
  cases tx
  cases ty with
  | tup n ha t =>
    have e := t.strs_
    subst e
    exact ⟨_, _, rfl, .inr (SqT.of ha), rfl, flat_strs l, by simp only [Bool.false_eq_true, if_false]; rw [inV_str]; exact c _ (.bl _)⟩
/-- == [] -/
theorem rd_eqNilL {ds : List PyData} (q : Φ (.bool ds.isEmpty) k) : RD K W (rNil K false) (.list ds) (.list []) ρ k Φ := rd_ q fun N H vx vy tx ty Q c => by
  cases tx with
  | lst n ha t =>
    cases ty with
    | lst n2 hb t2 =>
      cases t2
      exact ⟨_, _, _, rfl, rfl, .inl ⟨SqL.of ha, SqL.of hb⟩, by simp only [Bool.false_eq_true, if_false]; rw [← t.emp]; exact c _ (.bl _)⟩
theorem rd_neNilL {ds : List PyData} (q : Φ (.bool (!ds.isEmpty)) k) : RD K W (rNil K true) (.list ds) (.list []) ρ k Φ := rd_ q fun N H vx vy tx ty Q c => by
  cases tx with
  | lst n ha t =>
    cases ty with
    | lst n2 hb t2 =>
      cases t2
      exact ⟨_, _, _, rfl, rfl, .inl ⟨SqL.of ha, SqL.of hb⟩, by simp only [if_true]; rw [← t.emp]; exact c _ (.bl _)⟩
theorem rd_eqNilT {ds : List PyData} (q : Φ (.bool ds.isEmpty) k) : RD K W (rNil K false) (.tuple ds) (.tuple []) ρ k Φ := rd_ q fun N H vx vy tx ty Q c => by
  cases tx with
  | tup n ha t =>
    cases ty with
    | tup n2 hb t2 =>
      cases t2
      exact ⟨_, _, _, rfl, rfl, .inr ⟨SqT.of ha, SqT.of hb⟩, by simp only [Bool.false_eq_true, if_false]; rw [← t.emp]; exact c _ (.bl _)⟩
theorem rd_neNilT {ds : List PyData} (q : Φ (.bool (!ds.isEmpty)) k) : RD K W (rNil K true) (.tuple ds) (.tuple []) ρ k Φ := rd_ q fun N H vx vy tx ty Q c => by
  cases tx with
  | tup n ha t =>
    cases ty with
    | tup n2 hb t2 =>
      cases t2
      exact ⟨_, _, _, rfl, rfl, .inr ⟨SqT.of ha, SqT.of hb⟩, by simp only [if_true]; rw [← t.emp]; exact c _ (.bl _)⟩
end
end U

set_option Elab.async false
set_option linter.all false
set_option maxRecDepth 100000
set_option maxHeartbeats 2000000
namespace U
open PySem PySem.Spec PyProof.Rows L2 NdefX LamX

/-! ### things that are called, and cells that are lent to them -/
/-- what a call of the thing at f promises -/
structure CloOk (P : Program) (w : World) (K : PySem.W.Frag) (mg : Str → Option Value) (base : Heap) (k : Nat) (f : Addr) (sp : Sp) : Prop where
  run : ∀ (A : Around) (outer : List Env) (s : Shared) (H : Hp) (us : List Value) (vs : List V) (Q : VK) (E : XK), Room k A → Env0 P w K mg base A outer s H → Vals vs us → sp vs H Q E →
    codeAny (model P w) A (.call (.ref f) ⟨us, []⟩) (CR CX0 outer P w H s Q E) s
theorem CloOk.more {P : Program} {w : World} {K : PySem.W.Frag} {mg : Str → Option Value} {base : Heap} {j k : Nat} {f : Addr} {sp : Sp} (C : CloOk P w K mg base j f sp) (h : j ≤ k) : CloOk P w K mg base k f sp :=
  ⟨fun A o s H us vs Q E hr => C.run A o s H us vs Q E (hr.mono h)⟩
theorem CloOk.imp {P : Program} {w : World} {K : PySem.W.Frag} {mg : Str → Option Value} {base : Heap} {k : Nat} {f : Addr} {sp sp' : Sp} (C : CloOk P w K mg base k f sp) (h : ∀ vs H Q E, sp' vs H Q E → sp vs H Q E) : CloOk P w K mg base k f sp' :=
  ⟨fun A o s H us vs Q E hr e r q => C.run A o s H us vs Q E hr e r (h _ _ _ _ q)⟩
def IsFn (H : Hp) (f : Addr) : Prop := ∃ F, H f = some (FnO f F)

def offL (cs : List Addr) (H : Hp) : Hp := fun b => if b ∈ cs then none else H b
def backL (cs : List Addr) (H H' : Hp) : Hp := fun b => if b ∈ cs then H b else H' b
theorem offL_in {cs : List Addr} {H : Hp} {b : Addr} (h : b ∈ cs) : offL cs H b = none := if_pos h
theorem offL_out {cs : List Addr} {H : Hp} {b : Addr} (h : b ∉ cs) : offL cs H b = H b := if_neg h
theorem backL_in {cs : List Addr} {H H' : Hp} {b : Addr} (h : b ∈ cs) : backL cs H H' b = H b := if_pos h
theorem backL_out {cs : List Addr} {H H' : Hp} {b : Addr} (h : b ∉ cs) : backL cs H H' b = H' b := if_neg h
theorem offL_none {cs : List Addr} {H : Hp} {b : Addr} (h : H b = none) : offL cs H b = none := by
  by_cases hb : b ∈ cs
  · exact offL_in hb
  · rw [offL_out hb]; exact h
theorem offL_some {cs : List Addr} {H : Hp} {b : Addr} {o : HO} (h : offL cs H b = some o) : b ∉ cs ∧ H b = some o := by
  by_cases hb : b ∈ cs
  · rw [offL_in hb] at h; cases h
  · rw [offL_out hb] at h; exact ⟨hb, h⟩
/-- the cells at cs stand in H, known and not written -/
def LentC (cs : List Addr) (H : Hp) : Prop := ∀ c ∈ cs, ∃ o v, H c = some (.frz o (.own 0)) ∧ o.data = .cell v
theorem LentC.not {cs : List Addr} {H : Hp} (l : LentC cs H) {b : Addr} {u : HO} (h : H b = some u) (hu : ∀ o, u ≠ .frz o (.own 0)) : b ∉ cs := fun hb => by
  obtain ⟨o, v, e, _⟩ := l b hb
  rw [h] at e
  exact hu o (Option.some.inj e)
theorem LentC.ne {cs : List Addr} {H : Hp} (l : LentC cs H) {b : Addr} (h : H b = none) : b ∉ cs := fun hb => by
  obtain ⟨o, v, e, _⟩ := l b hb
  rw [h] at e
  cases e
theorem hok_off {P : Program} {w : World} {cs : List Addr} {H : Hp} {h : Heap} (hok : HOk P w H h) (l : LentC cs H) : HOk P w (offL cs H) h := fun b u q => by
  obtain ⟨nb, q'⟩ := offL_some q
  exact (hok b u q').stay (fun _ _ _ r => r) (fun c r => by rw [offL_out (l.not r fun o z => by cases z)]; exact r) fun c xs r => by rw [offL_out (l.not r fun o z => by cases z)]; exact r
/-- .. for the function F, fr its captured names, ws what they hold -/
structure Lent (cl : List (Str × Addr)) (fr : List Str) (ws : List (Option V)) (cs : List Addr) (H : Hp) : Prop where
  len : ws.length = fr.length
  mem : ∀ y c, cl.lookup y = some c → c ∈ cs
  all : LentC cs H
  inj : ∀ x y c, cl.lookup x = some c → cl.lookup y = some c → x = y
  has : ∀ (i : Nat) (y : Str), fr[i]? = some y → ∃ c, cl.lookup y = some c ∧ ∀ v, ws[i]? = some (some v) → ∃ u o, L2.RelV v u ∧ H c = some (.frz o (.own 0)) ∧ o.data = .cell (some u)
theorem Lent.of {cl : List (Str × Addr)} {fr : List Str} {ws : List (Option V)} {cs : List Addr} {H H' : Hp} (l : Lent cl fr ws cs H) (e : ∀ c ∈ cs, H' c = H c) : Lent cl fr ws cs H' :=
  ⟨l.len, l.mem, fun c hc => by rw [e c hc]; exact l.all c hc, l.inj, fun i y h => by
    obtain ⟨c, h1, h2⟩ := l.has i y h
    exact ⟨c, h1, fun v hv => by rw [e c (l.mem _ _ h1)]; exact h2 v hv⟩⟩
theorem Lent.cells {P : Program} {w : World} {cl : List (Str × Addr)} {fr : List Str} {ws : List (Option V)} {cs : List Addr} {H : Hp} {h : Heap} (l : Lent cl fr ws cs H) (hok : HOk P w H h) : CellsAt cl fr ws h (offL cs H) := by
  refine ⟨l.len, fun y c e => ⟨offL_in (l.mem y c e), ?_⟩, l.inj, fun i y e => ?_⟩
  · obtain ⟨o, v, e1, e2⟩ := l.all c (l.mem y c e)
    exact ⟨v, o, (hok c _ e1).1, e2⟩
  · obtain ⟨c, h1, h2⟩ := l.has i y e
    refine ⟨c, h1, fun v hv => ?_⟩
    obtain ⟨u, o, r, e1, e2⟩ := h2 v hv
    exact ⟨u, r, o, (hok c _ e1).1, e2⟩
/-- an inner def's promise, told where its cells are lent -/
def lentSp (f : Addr) (F : NF) (fr : List Str) (spn : List (Option V) → Sp) : Sp := fun vs H Q E => H f = some (FnO f F) ∧ H F.c = some (CodeO F.c F.qual) ∧ ∃ cs ws, Lent F.cl fr ws cs H ∧ spn ws vs (offL cs H) (fun v H' => (∀ c ∈ cs, H' c = none) → Q v (backL cs H H')) E
section
variable {P : Program} {w : World} {K : PySem.W.Frag} {mg : Str → Option Value} {base : Heap} {k : Nat} {f : Addr} {F : NF} {ps fr : List Str} {spn : List (Option V) → Sp}
theorem clo_of (Fn : NOk P w K mg base CX0 k f F ps fr spn) : CloOk P w K mg base k f (lentSp f F fr spn) := by
  refine ⟨fun A outer s H us vs Q E hr e0 r q => ?_⟩
  obtain ⟨hf, hco, cs, ws, l, q⟩ := q
  have nfr : ∀ b ∈ frs outer, b ∉ cs := fun b hb => l.all.ne (e0.frf b hb)
  have e1 : Env0 P w K mg base A outer s (offL cs H) := ⟨e0.frames, e0.mod, fun b o e => ⟨(e0.bs b o e).1, offL_none (e0.bs b o e).2⟩, e0.bsz, e0.funs, fun b hb => offL_none (e0.frf b hb), hok_off e0.hok l.all, e0.bare⟩
  have hf1 : offL cs H f = some (FnO f F) := by rw [offL_out (l.all.not hf fun o z => by unfold FnO at z; cases z)]; exact hf
  have hc1 : offL cs H F.c = some (CodeO F.c F.qual) := by rw [offL_out (l.all.not hco fun o z => by unfold CodeO at z; cases z)]; exact hco
  refine codeAny_mono (Fn.run A outer s (offL cs H) us vs ws _ E hr e1 hf1 hc1 (l.cells e0.hok) r q) fun res s' h => ?_
  match res, h with
  | .error _, h => exact False.elim h
  | .ok .next, h => exact False.elim h
  | .ok .brk, h => exact False.elim h
  | .ok .cont, h => exact False.elim h
  | .ok (.ret u), h =>
    obtain ⟨v, H', os, bare, un, hok, rv, q⟩ := h
    have cell : ∀ c ∈ cs, ∃ o v, H c = some (.frz o (.own 0)) ∧ o.data = .cell v ∧ s.heap.get? c = some o ∧ s'.heap.get? c = some o ∧ H' c = none := fun c hc => by
      obtain ⟨o, v, e1, e2⟩ := l.all c hc
      have g := (e0.hok c _ e1).1
      exact ⟨o, v, e1, e2, g, un.keep c o g (offL_in hc) (fun z => nfr c z hc) (by simp), un.free c o g (offL_in hc) (by simp)⟩
    refine ⟨v, backL cs H H', os, bare, ⟨fun b o e n hb hx => un.keep b o e (offL_none n) hb hx, fun b o e n hb hx => un.slot b o e (offL_none n) hb hx, fun b o e n hx => ?_, fun b o e hx => un.there b o e hx, fun b xs e => ?_, fun b o u e => ?_, fun b ps e => ?_⟩, fun b u e => ?_, rv, q fun c hc => ?_⟩
    · rw [backL_out (l.all.ne n)]
      exact un.free b o e (offL_none n) hx
    · have nb := l.all.not e fun o z => by cases z
      rw [backL_out nb]
      exact un.tups b xs (by rw [offL_out nb]; exact e)
    · by_cases hb : b ∈ cs
      · rw [backL_in hb]; exact e
      · rw [backL_out hb]
        exact un.frzs b o u (by rw [offL_out hb]; exact e)
    · have nb := l.all.not e fun o z => by cases z
      rw [backL_out nb]
      exact un.tbls b ps (by rw [offL_out nb]; exact e)
    · by_cases hb : b ∈ cs
      · rw [backL_in hb] at e
        obtain ⟨o, v, e1, e2, g1, g2, _⟩ := cell b hb
        rw [e1] at e
        cases e
        exact ⟨g2, o, g2⟩
      · rw [backL_out hb] at e
        refine (hok b u e).stay (fun _ _ _ r => r) (fun c r => ?_) fun c xs r => ?_
        · have nc : c ∉ cs := fun z => by
            obtain ⟨_, _, _, _, _, _, n⟩ := cell c z
            rw [n] at r; cases r
          rw [backL_out nc]; exact r
        · have nc : c ∉ cs := fun z => by
            obtain ⟨_, _, _, _, _, _, n⟩ := cell c z
            rw [n] at r; cases r
          rw [backL_out nc]; exact r
    · obtain ⟨_, _, _, _, _, _, n⟩ := cell c hc
      exact n
end

/-! ### f(..), f a parameter that holds such a thing -/
def tCallC (f : Addr) (i : Nat) (sp : Sp) (t : L2.TA) : TE := fun σ H Q => σ[i]? = some (some (.ref f)) ∧ IsFn H f ∧ t σ H fun vs H1 => IsFn H1 f ∧ sp vs H1 Q E0
section
variable {X : Cx} {i j k : Nat} {x : Str} {sp : Sp} {t : L2.TA} {e : Expr} {es : List Expr} {p pos : Pos} {f : Addr}
theorem pe_callC (C : CloOk X.prog X.w X.K X.mg X.base k f sp) (hr : Room k X.A) (hN : X.N[i]? = some x) (hv : Vis X.env.scope x) (ha : PA X (e :: es) t)
    (hd : (x == ("__debug__" : Str)) = false := by decide) (hcd : (x == ("__classdict__" : Str)) = false := by decide)
    (he : starEach (e :: es) X.env = (false, eval e X.env) :: starEach es X.env := by rfl) (hpl : (backTo pos (starEach es X.env)).any (·.1) = false := by rfl) :
    PE X (.Call (.Name x p) (e :: es) [] pos) (tCallC f i sp t) := by
  refine ⟨fun pins s σ H Q I h => ?_⟩
  obtain ⟨hs, ⟨F, hf⟩, ht⟩ := h
  refine wpAny_Call_Name_kw (thn ((pe_var (pos := p) hN hv hd hcd).run pins s σ H (fun v H1 => v = .ref f ∧ H1 = H) I ⟨.ref f, hs, rfl, rfl⟩) fun u s1 ⟨v, H1, I1, r1, q1⟩ => ?_)
  obtain ⟨ev, eH⟩ := q1
  subst ev
  rw [eH] at I1
  obtain rfl : u = Value.ref f := r1
  refine PySem.W.callWith_F (first := []) (fnAt_of I1 hf) (thn (ha.run pos pins s1 σ H _ I1 ht) fun us s2 ⟨vs, H2, I2, r, ⟨F2, h1⟩, q⟩ => ⟨fnAt_of I2 h1, ?_⟩) he hpl
  show wpAny _ _ (call (.ref f) us) _ _ _
  refine wpAny_call (codeAny_mono (C.run X.A X.stack s2 H2 us vs Q E0 hr I2.env0 r q) fun r s' hq => ?_)
  cases r with
  | error e => exact False.elim hq
  | ok fl =>
    cases fl with
    | ret u => exact I2.after hq
    | next => exact False.elim hq
    | brk => exact False.elim hq
    | cont => exact False.elim hq
end

/-! ### a def that is handed inner defs: the frame's cells are lent while it runs -/
def tCallL (l : List (List (Str × Addr) × List Str × List Nat)) (sp : Sp) (t : L2.TA) : TE := fun σ H Q => t σ H fun vs H1 => ∀ (cs : List Addr) (H2 : Hp), (∀ b, b ∉ cs → H2 b = H1 b) → (∀ c ∈ cs, H1 c = none) → LentC cs H2 →
  (∀ p ∈ l, Lent p.1 p.2.1 (p.2.2.map (slotAt σ)) cs H2) → sp vs H2 (fun v H' => (∀ c ∈ cs, H' c = H2 c) → Q v (offL cs H')) E0
section
variable {X : Cx} {k : Nat} {f : Addr} {fd : FuncData} {ps : List Str} {sp : Sp} {x : Str} {p pos : Pos} {e : Expr} {es : List Expr} {t : L2.TA} {l : List (List (Str × Addr) × List Str × List Nat)}
theorem pe_callL (hfn : ∀ y, X.fn y = true) (F : FnOk X.prog X.w X.K X.mg X.base CX0 k f fd ps sp) (hr : Room k X.A) (hg : Gl X x) (hm : X.mg x = some (.ref f)) (hk : PySem.W.keepIn X.K (.ref f) = true) (hb : Binds X.K fd ps [])
    (cp : X.Ok → ∀ p ∈ l, Caps X p.1 p.2.1 p.2.2) (ha : PA X (e :: es) t) (hdb : (x == ("__debug__" : Str)) = false := by decide) (he : starEach (e :: es) X.env = (false, eval e X.env) :: starEach es X.env := by rfl) (hpl : (backTo pos (starEach es X.env)).any (·.1) = false := by rfl) :
    PE X (.Call (.Name x p) (e :: es) [] pos) (tCallL l sp t) := by
  constructor
  intro pins s σ H Q I h
  apply wpAny_Call_Name_kw
  apply ld_glob I hg hm _ hdb
  apply PySem.W.callWith_K (h₀ := X.base) I.ok.mod.kin hk _ he hpl
  refine thn (ha.run pos pins s σ H _ I h) ?_
  rintro us s1 ⟨vs, H1, I1, r, q⟩
  refine ⟨I1.kIn, ?_⟩
  -- the cells
  generalize hcs : (X.env.cells.filterMap fun p => X.env.cells.lookup p.1) = cs at *
  have inCs : ∀ y c, X.env.cells.lookup y = some c → c ∈ cs := fun y c z => by
    rw [← hcs]
    exact List.mem_filterMap.mpr ⟨(y, c), PySem.mem_of_lookup z, z⟩
  have ofCs : ∀ c ∈ cs, ∃ y, X.env.cells.lookup y = some c := fun c hc => by
    rw [← hcs] at hc
    obtain ⟨p, _, hp⟩ := List.mem_filterMap.mp hc
    exact ⟨_, hp⟩
  have free : ∀ c ∈ cs, H1 c = none := fun c hc => by
    obtain ⟨y, hy⟩ := ofCs c hc
    exact I1.freeC y c hy
  have big : ∀ c ∈ cs, X.s_0.heap.objs.size ≤ c := fun c hc => by
    obtain ⟨y, hy⟩ := ofCs c hc
    exact I1.ok.cab y c (hfn y) hy
  have isC : ∀ c ∈ cs, ∃ o v, s1.heap.get? c = some o ∧ o.data = .cell v := fun c hc => by
    obtain ⟨y, hy⟩ := ofCs c hc
    obtain ⟨v, o, h1, h2⟩ := I1.cell y c hy
    exact ⟨o, v, h1, h2⟩
  generalize hH2 : (fun b => if b ∈ cs then (s1.heap.get? b).map (fun o => HO.frz o (.own 0)) else H1 b : Hp) = H2
  have out2 : ∀ b, b ∉ cs → H2 b = H1 b := fun b hb => by rw [← hH2]; exact if_neg hb
  have in2 : ∀ c o, c ∈ cs → s1.heap.get? c = some o → H2 c = some (.frz o (.own 0)) := fun c o hc e => by
    rw [← hH2]
    show (if c ∈ cs then _ else _) = _
    rw [if_pos hc, e]
    rfl
  have lentC : LentC cs H2 := fun c hc => by
    obtain ⟨o, v, h1, h2⟩ := isC c hc
    exact ⟨o, v, in2 c o hc h1, h2⟩
  have nfr : ∀ b ∈ frs X.stack, b ∉ cs := fun b hb hc => by
    rcases List.mem_cons.mp (I1.stkSub b hb) with z | z
    · obtain ⟨y, hy⟩ := ofCs b hc
      exact I1.cne y b hy z
    · obtain ⟨_, o, ho, _⟩ := I1.ok.funs.mem z
      exact absurd (Heap.lt_size ho) (Nat.not_lt.mpr (big b hc))
  have hok2 : HOk X.prog X.w H2 s1.heap := fun b u q => by
    by_cases hb : b ∈ cs
    · obtain ⟨o, v, h1, h2⟩ := isC b hb
      rw [in2 b o hb h1] at q
      cases q
      exact ⟨h1, o, h1⟩
    · rw [out2 b hb] at q
      have up : ∀ c v, H1 c = some v → H2 c = some v := fun c v z => by
        rw [out2 c fun hc => by rw [free c hc] at z; cases z]
        exact z
      exact (I1.hok b u q).stay (fun _ _ _ r => r) (fun c r => up c _ r) fun c xs r => up c _ r
  have e1 := I1.env0
  have e2 : Env0 X.prog X.w X.K X.mg X.base X.A X.stack s1 H2 := by
    refine ⟨e1.frames, e1.mod, fun b o e => ⟨(e1.bs b o e).1, ?_⟩, e1.bsz, e1.funs, fun b hb => ?_, hok2, e1.bare⟩
    · rw [out2 b fun hc => absurd (Heap.lt_size e) (Nat.not_lt.mpr (Nat.le_trans I1.ok.bsz (big b hc)))]
      exact (e1.bs b o e).2
    · rw [out2 b (nfr b hb)]
      exact e1.frf b hb
  have lents : ∀ p ∈ l, Lent p.1 p.2.1 (p.2.2.map (slotAt σ)) cs H2 := fun p hp => by
    have C := cells_of I1 (cp I1.ok p hp)
    refine ⟨C.len, fun y c z => inCs y c ((cp I1.ok p hp).sub y c z), lentC, C.inj, fun i y hy => ?_⟩
    obtain ⟨c, h1, h2⟩ := C.has i y hy
    refine ⟨c, h1, fun v hv => ?_⟩
    obtain ⟨u, ru, o, g1, g2⟩ := h2 v hv
    exact ⟨u, o, ru, in2 c o (inCs y c ((cp I1.ok p hp).sub y c h1)) g1, g2⟩
  have q2 := q cs H2 out2 free lentC lents
  have nargs : (us ++ []).length = ps.length := by
    rw [List.append_nil, ← r.length]
    exact F.len _ _ _ _ q2
  have bd := hb s1 us I1.kIn nargs
  rw [List.append_nil] at bd
  apply wpAny_call
  refine codeAny_mono (F.run X.A X.stack s1 H2 ⟨us, []⟩ us vs _ E0 hr e2 bd r q2) ?_
  intro res s' hres
  match res, hres with
  | .error _, hres => exact False.elim hres
  | .ok .next, hres => exact False.elim hres
  | .ok .brk, hres => exact False.elim hres
  | .ok .cont, hres => exact False.elim hres
  | .ok (.ret u), hres =>
    obtain ⟨v, H', os, bare, un, hok, rv, q⟩ := hres
    have stay : ∀ c ∈ cs, H' c = H2 c := fun c hc => by
      obtain ⟨o, v, h1, h2⟩ := isC c hc
      rw [in2 c o hc h1]
      exact un.frzs c o _ (in2 c o hc h1)
    refine I1.after ⟨v, offL cs H', os, bare, ⟨fun b o e n hb hx => ?_, fun b o e n hb hx => ?_, fun b o e n hx => ?_, fun b o e hx => un.there b o e hx, fun b xs e => ?_, fun b o u e => ?_, fun b ps e => ?_⟩, hok_off hok fun c hc => ?_, rv, q stay⟩
    · by_cases hc : b ∈ cs
      · have z := stay b hc
        rw [in2 b o hc e] at z
        exact (hok b _ z).1
      · exact un.keep b o e (by rw [out2 b hc]; exact n) hb hx
    · exact un.slot b o e (by rw [out2 b (nfr b hb)]; exact n) hb hx
    · by_cases hc : b ∈ cs
      · exact offL_in hc
      · exact offL_none (un.free b o e (by rw [out2 b hc]; exact n) hx)
    · have hc : b ∉ cs := fun z => by rw [free b z] at e; cases e
      rw [offL_out hc]
      exact un.tups b xs (by rw [out2 b hc]; exact e)
    · have hc : b ∉ cs := fun z => by rw [free b z] at e; cases e
      rw [offL_out hc]
      exact un.frzs b o u (by rw [out2 b hc]; exact e)
    · have hc : b ∉ cs := fun z => by rw [free b z] at e; cases e
      rw [offL_out hc]
      exact un.tbls b ps (by rw [out2 b hc]; exact e)
    · rw [stay c hc]
      exact lentC c hc
end
end U

set_option Elab.async false
set_option linter.all false
set_option maxRecDepth 100000
set_option maxHeartbeats 2000000
namespace U
open PySem PySem.Spec PyProof.Rows L2 NdefX LamX

/-! ### off places that hold no data -/
def NoData : Option HO → Prop
  | some (.lst _) => False
  | some (.tup _) => False
  | some (.dK _) => False
  | _ => True
section
variable {K : PySem.W.Frag} {N N' : List Addr} {H : Hp}
mutual
theorem T.plusX (s : ∀ b ∈ N', b ∈ N ∨ NoData (H b)) : ∀ {v : V} {d : PyData}, T K N H v d → T K N' H v d
  | _, _, .non => .non
  | _, _, .bl b => .bl b
  | _, _, .int i => .int i
  | _, _, .str x => .str x
  | _, _, .lst n h t => .lst (fun z => (s _ z).elim n fun q => by rw [h] at q; exact q) h (TA.plusX s t)
  | _, _, .tup n h t => .tup (fun z => (s _ z).elim n fun q => by rw [h] at q; exact q) h (TA.plusX s t)
  | _, _, .dct n h t => .dct (fun z => (s _ z).elim n fun q => by rw [h] at q; exact q) h (TK.plusX s t)
theorem TA.plusX (s : ∀ b ∈ N', b ∈ N ∨ NoData (H b)) : ∀ {vs : List V} {ds : List PyData}, TA K N H vs ds → TA K N' H vs ds
  | _, _, .nil => .nil
  | _, _, .cons h t => .cons (T.plusX s h) (TA.plusX s t)
theorem TK.plusX (s : ∀ b ∈ N', b ∈ N ∨ NoData (H b)) : ∀ {kvs : List (Key × V)} {es : List (PyData × PyData)}, TK K N H kvs es → TK K N' H kvs es
  | _, _, .nil => .nil
  | _, _, .cons h g t => .cons (T.plusX s h) (T.plusX s g) (TK.plusX s t)
end
end

/-! ### boxes: a thing at l that is written -/
structure Box (l : Addr) (γ : Type) where
  B : γ → List Addr → Hp → Prop
  loc : ∀ k N H H', H' l = H l → Ext N H H' → B k N H → B k N H'
  plus : ∀ k N N' H, (∀ b, b ∈ N' → b ∈ N ∨ NoData (H b)) → B k N H → B k N' H
  trk : ∀ k N H, B k N H → H l ≠ none
  nofrz : ∀ k N H, B k N H → ∀ o u, H l ≠ some (.frz o u)
def listBox (K : PySem.W.Frag) (l : Addr) : Box l (List PyData) where
  B := fun ds N H => ∃ xs, H l = some (.lst xs) ∧ TA K N H xs ds
  loc := fun _ _ _ _ e x ⟨xs, h, t⟩ => ⟨xs, e.trans h, t.ext x⟩
  plus := fun _ _ _ _ s ⟨xs, h, t⟩ => ⟨xs, h, t.plusX s⟩
  trk := fun _ _ _ ⟨_, h, _⟩ z => by rw [h] at z; cases z
  nofrz := fun _ _ _ ⟨_, h, _⟩ o u z => by rw [h] at z; cases z
theorem KN.mapT {K : PySem.W.Frag} {M M' : List Addr} {H H' : Hp} (f : ∀ v d, T K M H v d → T K M' H' v d) {xs : List (NestedKey × Addr × V)} {ds : List (NestedKey × PyData)} (h : KN K M H xs ds) : KN K M' H' xs ds := h.map f
/-- D tells a dict's object -/
structure IsDN (D : Addr → List (NestedKey × Addr × V) → HO) : Prop where
  nofrz : ∀ l xs o u, D l xs ≠ .frz o u
def nestBox (K : PySem.W.Frag) (D : Addr → List (NestedKey × Addr × V) → HO) (hD : IsDN D) (l : Addr) : Box l (List (NestedKey × PyData)) where
  B := fun kvs N H => ∃ xs, H l = some (D l xs) ∧ KN K N H xs kvs
  loc := fun _ _ _ _ e x ⟨xs, h, t⟩ => ⟨xs, e.trans h, t.map fun _ _ t => t.ext x⟩
  plus := fun _ _ _ _ s ⟨xs, h, t⟩ => ⟨xs, h, t.map fun _ _ t => t.plusX s⟩
  trk := fun _ _ _ ⟨_, h, _⟩ z => by rw [h] at z; cases z
  nofrz := fun _ _ _ ⟨_, h, _⟩ o u z => by rw [h] at z; exact hD.nofrz _ _ _ _ (Option.some.inj z)
/-- nothing is written -/
def stillBox (l : Addr) (o : HO) (ho : ∀ c u, o ≠ .frz c u) : Box l Unit where
  B := fun _ _ H => H l = some o
  loc := fun _ _ _ _ e _ h => e.trans h
  plus := fun _ _ _ _ _ h => h
  trk := fun _ _ _ h z => by rw [h] at z; cases z
  nofrz := fun _ _ _ h c u z => by rw [h] at z; exact ho _ _ (Option.some.inj z)
/-- the world of a box: nothing else at M is written; caps: what else is known -/
def boxW (K : PySem.W.Frag) {l : Addr} {γ : Type} (M : List Addr) (Hs : Hp) (tr : Trk M Hs) (hl : l ∈ M) (bx : Box l γ) (caps : List (V × PyData)) : Wd γ where
  M := M
  I := fun k N H => (∀ b, b ∈ M → b ≠ l → H b = Hs b) ∧ bx.B k N H ∧ ∀ p ∈ caps, T K N H p.1 p.2
  loc := fun k N H H' e x ⟨h1, h2, h3⟩ => ⟨fun b hb n => (e b hb).trans (h1 b hb n), bx.loc k N H H' (e l hl) x h2, fun p hp => (h3 p hp).ext x⟩
  plus := fun k N N' H s _ ⟨h1, h2, h3⟩ => ⟨h1, bx.plus k N N' H (fun b hb => (s b hb).imp_right fun z => by rw [z]; trivial) h2, fun p hp => (h3 p hp).plusAll s⟩
  trk := fun k N H ⟨h1, h2, _⟩ b hb z => by
    by_cases e : b = l
    · rw [e] at z; exact bx.trk k N H h2 z
    · rw [h1 b hb e] at z; exact tr b hb z

/-! ### what a call of a thing promises, in a world -/
def cloSp (K : PySem.W.Frag) {γ : Type} (W : Wd γ) (n : Nat) (R : γ → List PyData → (PyData → γ → Prop) → Prop) : Sp := fun vs H Q _ => ∃ (N : List Addr) (k : γ) (ds : List PyData) (Φ : PyData → γ → Prop),
  (∀ b ∈ W.M, b ∈ N) ∧ Trk N H ∧ W.I k N H ∧ TA K N H vs ds ∧ ds.length = n ∧ R k ds Φ ∧ ∀ v d k' H', Ext W.M H H' → W.I k' N H' → T K N H' v d → Φ d k' → Q v H'
section
variable {K : PySem.W.Frag} {γ : Type} {W : Wd γ} {ρ : Rho} {k : γ} {Φ : PyData → γ → Prop} {tr : L2.TA} {f : Addr} {i n : Nat} {R : γ → List PyData → (PyData → γ → Prop) → Prop}
theorem ev_callC (h0 : ρ[i]? = some (.raw (.ref f))) (hf : ∀ k N H, W.I k N H → IsFn H f) (h : EvA K W tr ρ k fun ds k1 => ds.length = n ∧ R k1 ds Φ) : EvW K W (tCallC f i (cloSp K W n R) tr) ρ k Φ := fun L0 H0 L H σ S Q c =>
  ⟨S.slots i _ h0, hf _ _ _ S.wd, h L0 H0 L H σ S _ fun vs ds k1 H1 S1 e1 ta ⟨hl, hR⟩ => ⟨hf _ _ _ S1.wd, L ++ W.M, k1, ds, Φ, (fun b hb => List.mem_append_right _ hb), S1.trk, S1.wd, ta, hl, hR, fun v d k' H' e wi t q => c v d k' H' (S1.ext e wi) (e1.trans e) t q⟩⟩
end

/-! ### inner defs: the captured names stand behind the parameters; the box, where there is one, behind them -/
def spB (K : PySem.W.Frag) {γ : Type} (n : Nat) (Bx : (l : Addr) → Box l γ) (R : γ → List PyData → (PyData → γ → Prop) → Prop) : Sp := fun vs H Q _ => ∃ (N : List Addr) (l : Addr) (us : List V) (k : γ) (ds : List PyData) (Φ : PyData → γ → Prop),
  vs = us ++ [.ref l] ∧ l ∈ N ∧ Trk N H ∧ (Bx l).B k N H ∧ TA K N H us ds ∧ ds.length + 1 = n ∧ R k ds Φ ∧ ∀ v d k' H', (Bx l).B k' N H' → Ext [l] H H' → T K N H' v d → Φ d k' → Q v H'
/-- an inner def's promise by one of a plain def that takes the captured names behind the parameters -/
def spN (n : Nat) (sp : Sp) : List (Option V) → Sp := fun ws vs H Q E => vs.length = n ∧ ∃ us : List V, ws = us.map some ∧ sp (vs ++ us) H Q E
theorem startF_eq {N : List Str} {vs us : List V} : startF N vs (us.map some) = L2.start N (vs ++ us) := by
  unfold startF L2.start
  rw [List.map_append, List.append_assoc, List.length_map, List.length_append, Nat.sub_sub]
section
variable {K : PySem.W.Frag} {γ : Type} {l : Addr} {M : List Addr} {Hs : Hp} {tr : Trk M Hs} {hl : l ∈ M} {bx : Box l γ} {caps : List (V × PyData)} {f : Addr} {F : NF} {fr : List Str} {n : Nat} {cs : List Addr} {cws : List V} {cds : List PyData}
/-- at a call: what the stripped heap is -/
theorem box_off {N : List Addr} {H : Hp} {k : γ} (hcs : ∀ c ∈ cs, c ∈ M) (hlc : l ∉ cs) (lent : LentC cs Hs) (hM : ∀ b ∈ M, b ∈ N) (trk : Trk N H) (wi : (boxW K M Hs tr hl bx caps).I k N H) :
    LentC cs H ∧ Ext N H (offL cs H) ∧ Trk (N.filter fun b => decide (b ∉ cs)) (offL cs H) ∧ bx.B k (N.filter fun b => decide (b ∉ cs)) (offL cs H) ∧ ∀ vs ds, TA K N H vs ds → TA K (N.filter fun b => decide (b ∉ cs)) (offL cs H) vs ds := by
  have sub : ∀ b ∈ N.filter (fun b => decide (b ∉ cs)), b ∈ N := fun b hb => (List.mem_filter.mp hb).1
  have ex : Ext N H (offL cs H) := fun b o nb hb => by rw [offL_out fun z => nb (hM b (hcs b z))]; exact hb
  refine ⟨fun c hc => ?_, ex, fun b hb z => ?_, bx.plus k N _ _ (fun b hb => .inl (sub b hb)) (bx.loc k N H _ (offL_out hlc) ex wi.2.1), fun vs ds t => (t.ext ex).off sub⟩
  · rw [wi.1 c (hcs c hc) fun e => hlc (e ▸ hc)]
    exact lent c hc
  · have nc : b ∉ cs := by simpa using (List.mem_filter.mp hb).2
    rw [offL_out nc] at z
    exact trk b (sub b hb) z
/-- behind it: what the whole heap is -/
theorem box_back {N : List Addr} {H H' : Hp} {k k' : γ} (hcs : ∀ c ∈ cs, c ∈ M) (hlc : l ∉ cs) (hM : ∀ b ∈ M, b ∈ N) (wi : (boxW K M Hs tr hl bx caps).I k N H) (e : Ext [l] (offL cs H) H') (nn : ∀ c ∈ cs, H' c = none)
    (hb : bx.B k' (N.filter fun b => decide (b ∉ cs)) H') : Ext M H (backL cs H H') ∧ (boxW K M Hs tr hl bx caps).I k' N (backL cs H H') ∧ ∀ v d, T K (N.filter fun b => decide (b ∉ cs)) H' v d → T K N (backL cs H H') v d := by
  have up : ∀ b, b ∈ N → b ∈ N.filter (fun b => decide (b ∉ cs)) ∨ H' b = none := fun b hb => by
    by_cases hc : b ∈ cs
    · exact .inr (nn b hc)
    · exact .inl (List.mem_filter.mpr ⟨hb, by simpa using hc⟩)
  have exB : Ext N H' (backL cs H H') := fun b o nb h => by rw [backL_out fun z => nb (hM b (hcs b z))]; exact h
  have stays : ∀ b o, b ≠ l → H b = some o → backL cs H H' b = some o := fun b o nl h => by
    by_cases hc : b ∈ cs
    · rw [backL_in hc]; exact h
    · rw [backL_out hc]
      exact e b o (by simp [nl]) (by rw [offL_out hc]; exact h)
  have exM : Ext M H (backL cs H H') := fun b o nb h => stays b o (fun z => nb (z ▸ hl)) h
  refine ⟨exM, ⟨fun b hb nl => ?_, bx.loc k' N H' _ (backL_out hlc) exB (bx.plus k' _ N H' (fun b hb => (up b hb).imp_right fun z => by rw [z]; trivial) hb), fun p hp => (wi.2.2 p hp).ext (exM.sub hM)⟩, fun v d t => (t.plusAll up).ext exB⟩
  have w1 := wi.1 b hb nl
  cases q : H b with
  | none => exact absurd q ((boxW K M Hs tr hl bx caps).trk k N H wi b hb)
  | some o => rw [stays b o nl q, ← q, w1]
theorem clo_box {Bx : (l : Addr) → Box l γ} {R : γ → List PyData → (PyData → γ → Prop) → Prop} (ebx : bx = Bx l) (hcs : ∀ c ∈ cs, c ∈ M) (hf : f ∈ M) (hfl : f ≠ l) (hlc : l ∉ cs) (ef : Hs f = some (FnO f F)) (hcM : F.c ∈ M) (hcl : F.c ≠ l) (ec : Hs F.c = some (CodeO F.c F.qual)) (lent : Lent F.cl fr ((cws ++ [V.ref l]).map some) cs Hs) (caps_ : ∀ k N H, (boxW K M Hs tr hl bx caps).I k N H → TA K N H cws cds) :
    ∀ vs H Q E, cloSp K (boxW K M Hs tr hl bx caps) n (fun k ds Φ => R k (ds ++ cds) Φ) vs H Q E → lentSp f F fr (spN n (spB K (n + cds.length + 1) Bx R)) vs H Q E := by
  subst ebx
  rintro vs H Q E ⟨N, k, ds, Φ, hM, trk, wi, ta, hn, hR, q⟩
  have hM' : ∀ b ∈ M, b ∈ N := hM
  obtain ⟨lc, ex, tk, hb, tta⟩ := box_off hcs hlc lent.all hM' trk wi
  refine ⟨(wi.1 f hf hfl).trans ef, (wi.1 _ hcM hcl).trans ec, cs, (cws ++ [V.ref l]).map some, lent.of fun c hc => wi.1 c (hcs c hc) fun e => hlc (e ▸ hc), ta.len.trans hn, cws ++ [V.ref l], rfl, N.filter (fun b => decide (b ∉ cs)), l, vs ++ cws, k, ds ++ cds, Φ, by rw [List.append_assoc], List.mem_filter.mpr ⟨hM' l hl, by simpa using hlc⟩, tk, hb,
    tta _ _ (ta.app (caps_ k N H wi)), by rw [List.length_append, hn], hR, fun v d k' H' hb' e t hq nn => ?_⟩
  obtain ⟨a, b, c⟩ := box_back hcs hlc hM' wi e nn hb'
  exact q v d k' _ a b (c v d t) hq
theorem clo_pure {R : List PyData → PyData → Prop} (hcs : ∀ c ∈ cs, c ∈ M) (hf : f ∈ M) (ef : ∀ k N H, (boxW K M Hs tr hl bx caps).I k N H → H f = some (FnO f F) ∧ H F.c = some (CodeO F.c F.qual)) (hlc : l ∉ cs) (lent : Lent F.cl fr (cws.map some) cs Hs) (caps_ : ∀ k N H, (boxW K M Hs tr hl bx caps).I k N H → TA K N H cws cds) :
    ∀ vs H Q E, cloSp K (boxW K M Hs tr hl bx caps) n (fun k ds Φ => ∃ r, R (ds ++ cds) r ∧ Φ r k) vs H Q E → lentSp f F fr (spN n (spP K (n + cds.length) R)) vs H Q E := by
  rintro vs H Q E ⟨N, k, ds, Φ, hM, trk, wi, ta, hn, ⟨r, hR, hr⟩, q⟩
  have hM' : ∀ b ∈ M, b ∈ N := hM
  obtain ⟨lc, ex, tk, hb, tta⟩ := box_off hcs hlc lent.all hM' trk wi
  refine ⟨(ef k N H wi).1, (ef k N H wi).2, cs, cws.map some, lent.of fun c hc => wi.1 c (hcs c hc) fun e => hlc (e ▸ hc), ta.len.trans hn, cws, rfl, N.filter (fun b => decide (b ∉ cs)), ds ++ cds, r, tta _ _ (ta.app (caps_ k N H wi)), tk, by rw [List.length_append, hn], hR, fun v H' sm t nn => ?_⟩
  have el : H' l = offL cs H l := by
    cases z : offL cs H l with
    | none => exact absurd z (tk l (List.mem_filter.mpr ⟨hM' l hl, by simpa using hlc⟩))
    | some o => exact sm l o z
  obtain ⟨a, b, c⟩ := box_back (k' := k) hcs hlc hM' wi (Ext.same sm) nn (bx.loc k _ _ _ el (Ext.same sm) hb)
  exact q v r k _ a b (c v r t) hr
end
end U

set_option Elab.async false
set_option linter.all false
set_option maxRecDepth 100000
set_option maxHeartbeats 2000000
namespace U
open PySem PySem.Spec PyProof.Rows L2 NdefX LamX

/-! ### arguments that are data or inner defs -/
inductive AY (K : PySem.W.Frag) (N : List Addr) (H : Hp) : List V → List (PyData ⊕ (Addr → NF)) → Prop
  | nil : AY K N H [] []
  | dat {v : V} {d : PyData} {vs : List V} {as : List (PyData ⊕ (Addr → NF))} : T K N H v d → AY K N H vs as → AY K N H (v :: vs) (.inl d :: as)
  | fn {f c : Addr} {F : Addr → NF} {vs : List V} {as : List (PyData ⊕ (Addr → NF))} : f ∉ N → c ∉ N → H f = some (FnO f (F c)) → H c = some (CodeO c (F c).qual) → AY K N H vs as → AY K N H (.ref f :: vs) (.inr F :: as)
theorem AY.ext {K : PySem.W.Frag} {N : List Addr} {H H' : Hp} (e : Ext N H H') : ∀ {vs : List V} {as : List (PyData ⊕ (Addr → NF))}, AY K N H vs as → AY K N H' vs as
  | _, _, .nil => .nil
  | _, _, .dat h t => .dat (h.ext e) (AY.ext e t)
  | _, _, .fn n m h g t => .fn n m (e _ _ n h) (e _ _ m g) (AY.ext e t)
def EvY (K : PySem.W.Frag) {γ : Type} (W : Wd γ) (ta : L2.TA) (ρ : Rho) (k : γ) (Φ : List (PyData ⊕ (Addr → NF)) → γ → Prop) : Prop :=
  ∀ (L0 : List Addr) (H0 : Hp) (L : List Addr) (H : Hp) (σ : L2.St), Stt K W L0 H0 L H σ ρ k → ∀ Q : List V → Hp → Prop, (∀ vs as k' H2, Stt K W L0 H0 L H2 σ ρ k' → Ext W.M H H2 → AY K (L ++ W.M) H2 vs as → Φ as k' → Q vs H2) → ta σ H Q
section
variable {K : PySem.W.Frag} {γ : Type} {W : Wd γ} {ρ : Rho} {k : γ} {tr : L2.TA} {te : TE} {Α : List (PyData ⊕ (Addr → NF)) → γ → Prop}
theorem ey_nil (q : Α [] k) : EvY K W tNil ρ k Α := fun _ _ _ H _ S _ c => c [] [] k H S (Ext.refl _ _) .nil q
theorem ey_dat (h : EvW K W te ρ k fun d k1 => EvY K W tr ρ k1 fun as k2 => Α (.inl d :: as) k2) : EvY K W (tCons te tr) ρ k Α := fun L0 H0 L H σ S Q c =>
  h L0 H0 L H σ S _ fun v d k1 H1 S1 e1 t1 g => g L0 H0 L H1 σ S1 _ fun vs as k2 H2 S2 e2 t2 q => c _ _ k2 H2 S2 (e1.trans e2) (.dat (t1.ext (eM e2)) t2) q
theorem ey_fn {i : Nat} {F : Addr → NF} (h0 : ρ[i]? = some (.fn F)) (h : EvY K W tr ρ k fun as k2 => Α (.inr F :: as) k2) : EvY K W (tCons (tVar i) tr) ρ k Α := fun L0 H0 L H σ S Q c => by
  obtain ⟨f, cc, e, nf, ncc, hf, hcc⟩ := S.slots i _ h0
  exact ⟨.ref f, e, h L0 H0 L H σ S _ fun vs as k2 H2 S2 e2 t2 q => c _ _ k2 H2 S2 e2 (.fn nf ncc (e2 f _ (fun z => nf (List.mem_append_right _ z)) hf) (e2 cc _ (fun z => ncc (List.mem_append_right _ z)) hcc) t2) q⟩
end

/-! ### the promise of a def that takes data and things that are called -/
inductive AX (K : PySem.W.Frag) (N : List Addr) (H : Hp) : List V → List (PyData ⊕ Addr) → Prop
  | nil : AX K N H [] []
  | dat {v : V} {d : PyData} {vs : List V} {as : List (PyData ⊕ Addr)} : T K N H v d → AX K N H vs as → AX K N H (v :: vs) (.inl d :: as)
  | fn {f : Addr} {vs : List V} {as : List (PyData ⊕ Addr)} : AX K N H vs as → AX K N H (.ref f :: vs) (.inr f :: as)
theorem AX.len {K : PySem.W.Frag} {N : List Addr} {H : Hp} : ∀ {vs : List V} {as : List (PyData ⊕ Addr)}, AX K N H vs as → vs.length = as.length
  | _, _, .nil => rfl
  | _, _, .dat _ t => by rw [List.length_cons, List.length_cons, t.len]
  | _, _, .fn t => by rw [List.length_cons, List.length_cons, t.len]
def spX (K : PySem.W.Frag) (n : Nat) (R : List (PyData ⊕ Addr) → (γ : Type) → Wd γ → γ → (PyData → γ → Prop) → Prop) : Sp := fun vs H Q _ => ∃ (γ : Type) (W : Wd γ) (k : γ) (as : List (PyData ⊕ Addr)) (Φ : PyData → γ → Prop),
  AX K W.M H vs as ∧ as.length = n ∧ W.I k W.M H ∧ R as γ W k Φ ∧ ∀ v d k' H', Ext W.M H H' → W.I k' W.M H' → T K W.M H' v d → Φ d k' → Q v H'
theorem spX.len {K : PySem.W.Frag} {n : Nat} {R : List (PyData ⊕ Addr) → (γ : Type) → Wd γ → γ → (PyData → γ → Prop) → Prop} {vs : List V} {H : Hp} {Q : VK} {E : XK} (h : spX K n R vs H Q E) : vs.length = n := by
  obtain ⟨γ, W, k, as, Φ, ax, hn, _⟩ := h
  rw [ax.len, hn]
def slotX : PyData ⊕ Addr → Slot | .inl d => .dat d | .inr f => .raw (.ref f)
def restX (N : List Str) (as : List (PyData ⊕ Addr)) : Rho := as.map slotX ++ List.replicate (N.length - as.length) .no
theorem AX.get {K : PySem.W.Frag} {N : List Addr} {H : Hp} : ∀ {vs : List V} {as : List (PyData ⊕ Addr)} {i : Nat} {a : PyData ⊕ Addr}, AX K N H vs as → as[i]? = some a → ∃ v, vs[i]? = some v ∧ ∀ L, SlotOk K N L H (some (some v)) (slotX a)
  | _, _, 0, _, .dat h t, e => by
    cases (by simpa using e : _ = _)
    exact ⟨_, rfl, fun L => ⟨_, rfl, h⟩⟩
  | _, _, 0, _, .fn t, e => by
    cases (by simpa using e : _ = _)
    exact ⟨_, rfl, fun L => rfl⟩
  | _, _, i + 1, _, .dat h t, e => by
    rw [List.getElem?_cons_succ] at e
    obtain ⟨v, a, b⟩ := AX.get t e
    exact ⟨v, by rw [List.getElem?_cons_succ]; exact a, b⟩
  | _, _, i + 1, _, .fn t, e => by
    rw [List.getElem?_cons_succ] at e
    obtain ⟨v, a, b⟩ := AX.get t e
    exact ⟨v, by rw [List.getElem?_cons_succ]; exact a, b⟩
theorem stt_startX {K : PySem.W.Frag} {γ : Type} {W : Wd γ} {N : List Str} {vs : List V} {as : List (PyData ⊕ Addr)} {H : Hp} {k : γ} (t : AX K W.M H vs as) (wd : W.I k W.M H) : Stt K W [] H [] H (L2.start N vs) (restX N as) k := by
  have get_ : ∀ (i : Nat) (s : Slot), (restX N as)[i]? = some s → s = .no ∨ ∃ a, as[i]? = some a ∧ s = slotX a := fun i s hs => by
    unfold restX at hs
    by_cases hi : i < as.length
    · rw [List.getElem?_append_left (by simpa using hi), List.getElem?_map] at hs
      obtain ⟨d, h1, h2⟩ := Option.map_eq_some_iff.mp hs
      exact .inr ⟨d, h1, h2.symm⟩
    · rw [List.getElem?_append_right (by simpa using hi)] at hs
      exact .inl (List.eq_of_mem_replicate (List.mem_of_getElem? hs))
  have no_ : ∀ a : PyData ⊕ Addr, (slotX a).isOwn = false := fun a => by cases a <;> rfl
  refine ⟨Ext.refl _ _, (fun l hl => nomatch hl), (fun l hl => nomatch hl), W.trk k _ H wd, wd, ?_, fun i s hs => ?_, fun i j s u hs hu h1 _ _ => ?_⟩
  · rw [start_len]
    unfold restX
    have := t.len
    simp [this]
  · rcases get_ i s hs with rfl | ⟨a, ha, rfl⟩
    · trivial
    · obtain ⟨v, h1, h2⟩ := t.get ha
      have := h2 []
      rw [start_get h1]
      exact this
  · rcases get_ i s hs with rfl | ⟨a, ha, rfl⟩
    · cases h1
    · rw [no_] at h1; cases h1
theorem spX.ok {K : PySem.W.Frag} {γ : Type} {W : Wd γ} {N : List Str} {vs : List V} {as : List (PyData ⊕ Addr)} {H : Hp} {k : γ} {Φ : PyData → γ → Prop} {Q : VK} {t : TS} (ax : AX K W.M H vs as) (wi : W.I k W.M H)
    (q : ∀ v d k' H', Ext W.M H H' → W.I k' W.M H' → T K W.M H' v d → Φ d k' → Q v H')
    (hb : SW K W t (restX N as) k ⟨fun _ k' => Φ .none k', Φ, fun _ _ => False, fun _ _ => False⟩) : t { nx := fun _ H' => Q .non H', rt := Q } (L2.start N vs) H :=
  hb [] H [] H _ _ (stt_startX ax wi) (fun L' H' σ' ρ' k' S' g => q .non .none k' H' S'.base S'.wdM .non g) (fun v d k' H' e wi t' g => q v d k' H' e wi t' g) (fun _ _ _ _ _ _ z => z.elim) (fun _ _ _ _ _ _ z => z.elim)

/-! ### the call in the maker -/
/-- a thing that is tracked, and no data -/
def IsNd (H : Hp) (b : Addr) : Prop := ∃ φ, H b = some (.ext φ)
section
variable {K : PySem.W.Frag} {N cs fs : List Addr} {H1 H2 : Hp}
/-- what the lent heap is -/
theorem lend_trk (trk : Trk N H1) (out : ∀ b, b ∉ cs → H2 b = H1 b) (lent : LentC cs H2) (fn : ∀ f ∈ fs, IsNd H1 f) (free : ∀ c ∈ cs, H1 c = none) : Trk (cs ++ (fs ++ N)) H2 := fun b hb z => by
  by_cases hc : b ∈ cs
  · obtain ⟨o, v, e, _⟩ := lent b hc
    rw [e] at z; cases z
  · rw [out b hc] at z
    rcases List.mem_append.mp hb with h | h
    · exact hc h
    · rcases List.mem_append.mp h with h | h
      · obtain ⟨F, e⟩ := fn b h
        rw [e] at z; cases z
      · exact trk b h z
theorem lend_up (out : ∀ b, b ∉ cs → H2 b = H1 b) (free : ∀ c ∈ cs, H1 c = none) (fn : ∀ f ∈ fs, IsNd H1 f) {v : V} {d : PyData} (t : T K N H1 v d) : T K (cs ++ (fs ++ N)) H2 v d := by
  have t1 : T K (cs ++ (fs ++ N)) H1 v d := t.plusX fun b hb => by
    rcases List.mem_append.mp hb with h | h
    · exact .inr (by rw [free b h]; trivial)
    · rcases List.mem_append.mp h with h | h
      · obtain ⟨F, e⟩ := fn b h
        exact .inr (by rw [e]; trivial)
      · exact .inl h
  exact t1.ext fun b o nb h => by rw [out b fun z => nb (List.mem_append_left _ z)]; exact h
theorem lend_upA (out : ∀ b, b ∉ cs → H2 b = H1 b) (free : ∀ c ∈ cs, H1 c = none) (fn : ∀ f ∈ fs, IsNd H1 f) : ∀ {vs : List V} {ds : List PyData}, TA K N H1 vs ds → TA K (cs ++ (fs ++ N)) H2 vs ds
  | _, _, .nil => .nil
  | _, _, .cons h t => .cons (lend_up out free fn h) (lend_upA out free fn t)
end
/-- which thing stands for which inner def -/
inductive Mt (isf : Addr → (Addr → NF) → Prop) : List (PyData ⊕ (Addr → NF)) → List (PyData ⊕ Addr) → Prop
  | nil : Mt isf [] []
  | dat {d : PyData} {as : List (PyData ⊕ (Addr → NF))} {ax : List (PyData ⊕ Addr)} : Mt isf as ax → Mt isf (.inl d :: as) (.inl d :: ax)
  | fn {f : Addr} {F : Addr → NF} {as : List (PyData ⊕ (Addr → NF))} {ax : List (PyData ⊕ Addr)} : isf f F → Mt isf as ax → Mt isf (.inr F :: as) (.inr f :: ax)
theorem AY.x {K : PySem.W.Frag} {N : List Addr} {H : Hp} : ∀ {vs : List V} {as : List (PyData ⊕ (Addr → NF))}, AY K N H vs as →
    ∃ (ax : List (PyData ⊕ Addr)) (fs : List Addr), Mt (fun f F => ∃ c, f ∈ fs ∧ c ∈ fs ∧ H f = some (FnO f (F c)) ∧ H c = some (CodeO c (F c).qual)) as ax ∧ (∀ f ∈ fs, f ∉ N ∧ IsNd H f) ∧ AX K N H vs ax := by
  have mono : ∀ {as : List (PyData ⊕ (Addr → NF))} {ax : List (PyData ⊕ Addr)} {p q : Addr → (Addr → NF) → Prop}, (∀ f F, p f F → q f F) → Mt p as ax → Mt q as ax := by
    intro as ax p q h m
    induction m with
    | nil => exact .nil
    | dat _ ih => exact .dat ih
    | fn h1 _ ih => exact .fn (h _ _ h1) ih
  intro vs as h
  induction h with
  | nil => exact ⟨[], [], .nil, (fun _ h => nomatch h), .nil⟩
  | dat h t ih =>
    obtain ⟨ax, fs, m, a, x⟩ := ih
    exact ⟨_, fs, .dat m, a, .dat h x⟩
  | @fn f c F vs as n nc e ec t ih =>
    obtain ⟨ax, fs, m, a, x⟩ := ih
    refine ⟨_, f :: c :: fs, .fn ⟨c, by simp, by simp, e, ec⟩ (mono (fun g G ⟨c', z1, z2, z3⟩ => ⟨c', List.mem_cons_of_mem _ (List.mem_cons_of_mem _ z1), List.mem_cons_of_mem _ (List.mem_cons_of_mem _ z2), z3⟩) m), fun g hg => ?_, .fn x⟩
    rcases List.mem_cons.mp hg with rfl | hg
    · exact ⟨n, _, e⟩
    · rcases List.mem_cons.mp hg with rfl | hg
      · exact ⟨nc, _, ec⟩
      · exact a g hg
theorem Mt.mem {isf : Addr → (Addr → NF) → Prop} : ∀ {as : List (PyData ⊕ (Addr → NF))} {ax : List (PyData ⊕ Addr)}, Mt isf as ax → ∀ F, Sum.inr F ∈ as → ∃ f, isf f F
  | _, _, .nil, F, h => nomatch h
  | _, _, .dat t, F, h => by
    rcases List.mem_cons.mp h with e | h
    · cases e
    · exact t.mem F h
  | _, _, .fn h1 t, F, h => by
    rcases List.mem_cons.mp h with e | h
    · cases e; exact ⟨_, h1⟩
    · exact t.mem F h
theorem AX.lend {K : PySem.W.Frag} {N cs fs : List Addr} {H1 H2 : Hp} (out : ∀ b, b ∉ cs → H2 b = H1 b) (free : ∀ c ∈ cs, H1 c = none) (fn : ∀ f ∈ fs, IsNd H1 f) : ∀ {vs : List V} {ax : List (PyData ⊕ Addr)}, AX K N H1 vs ax → AX K (cs ++ (fs ++ N)) H2 vs ax
  | _, _, .nil => .nil
  | _, _, .dat h t => .dat (lend_up out free fn h) (AX.lend out free fn t)
  | _, _, .fn t => .fn (AX.lend out free fn t)
/-- the data that stand in slots -/
def capsOf (σ : L2.St) (ρ : Rho) : List (V × PyData) := (List.range σ.length).filterMap fun j => match σ[j]?, ρ[j]? with
  | some (some v), some (Slot.dat d) => some (v, d)
  | _, _ => none
theorem caps_mem {σ : L2.St} {ρ : Rho} {j : Nat} {v : V} {d : PyData} (h1 : σ[j]? = some (some v)) (h2 : ρ[j]? = some (.dat d)) : (v, d) ∈ capsOf σ ρ :=
  List.mem_filterMap.mpr ⟨j, List.mem_range.mpr (List.getElem?_eq_some_iff.mp h1).1, by rw [h1, h2]⟩
theorem caps_T {K : PySem.W.Frag} {γ : Type} {W : Wd γ} {L0 L : List Addr} {H0 H : Hp} {σ : L2.St} {ρ : Rho} {k : γ} (S : Stt K W L0 H0 L H σ ρ k) : ∀ p ∈ capsOf σ ρ, T K (L ++ W.M) H p.1 p.2 := fun p hp => by
  obtain ⟨j, _, hj⟩ := List.mem_filterMap.mp hp
  cases h1 : σ[j]? with
  | none => rw [h1] at hj; simp at hj
  | some o =>
    cases h2 : ρ[j]? with
    | none => rw [h1, h2] at hj; simp at hj
    | some s =>
      cases o with
      | none => rw [h1, h2] at hj; simp at hj
      | some v =>
        cases s <;> (rw [h1, h2] at hj; simp at hj)
        subst hj
        obtain ⟨u, e, t⟩ := S.slots j _ h2
        rw [h1] at e
        cases e
        exact t
theorem slotAt_of {σ : L2.St} {j : Nat} {v : V} (h : σ[j]? = some (some v)) : NdefX.slotAt σ j = some v := by
  unfold NdefX.slotAt
  rw [h]
theorem caps_js {K : PySem.W.Frag} {γ : Type} {W : Wd γ} {L0 L : List Addr} {H0 H : Hp} {σ : L2.St} {ρ : Rho} {k : γ} (S : Stt K W L0 H0 L H σ ρ k) : ∀ (js : List Nat) (cds : List PyData), js.map (fun j => ρ[j]?) = cds.map (fun d => some (Slot.dat d)) →
    ∃ cws : List V, js.map (NdefX.slotAt σ) = cws.map some ∧ ∀ (N : List Addr) (H : Hp), (∀ p ∈ capsOf σ ρ, T K N H p.1 p.2) → TA K N H cws cds
  | [], [], _ => ⟨[], rfl, fun _ _ _ => .nil⟩
  | [], _ :: _, h => by simp at h
  | _ :: _, [], h => by simp at h
  | j :: js, d :: cds, h => by
    simp only [List.map_cons, List.cons.injEq] at h
    obtain ⟨cws, e, t⟩ := caps_js S js cds h.2
    obtain ⟨v, h1, _⟩ := S.slots j _ h.1
    exact ⟨v :: cws, by rw [List.map_cons, List.map_cons, e, slotAt_of h1], fun N H c => .cons (c _ (caps_mem h1 h.1)) (t N H c)⟩

section
variable {K : PySem.W.Frag} {γ : Type} {W : Wd γ} {ρ : Rho} {k : γ} {Φ : PyData → γ → Prop} {tr : L2.TA} {l : List (List (Str × Addr) × List Str × List Nat)} {n : Nat} {R : List (PyData ⊕ Addr) → (γ : Type) → Wd γ → γ → (PyData → γ → Prop) → Prop}
/-- what a pure inner def is to the def that it is handed to -/
def PureAt (K : PySem.W.Frag) {δ : Type} (Wc : Wd δ) (f : Addr) (F : NF) (fr : List Str) (cds : List PyData) : Prop :=
  ∀ (n : Nat) (R0 : List PyData → PyData → Prop) (vs : List V) (H : Hp) (Q : VK) (E : XK), cloSp K Wc n (fun k ds Φ => ∃ r, R0 (ds ++ cds) r ∧ Φ r k) vs H Q E → lentSp f F fr (spN n (spP K (n + cds.length) R0)) vs H Q E
/-- .. one with a box -/
def BoxAt (K : PySem.W.Frag) {δ : Type} (Bx : (l : Addr) → Box l δ) (Wc : Wd δ) (f : Addr) (F : NF) (fr : List Str) (cds : List PyData) : Prop :=
  ∀ (n : Nat) (R0 : δ → List PyData → (PyData → δ → Prop) → Prop) (vs : List V) (H : Hp) (Q : VK) (E : XK), cloSp K Wc n (fun k ds Φ => R0 k (ds ++ cds) Φ) vs H Q E → lentSp f F fr (spN n (spB K (n + cds.length + 1) Bx R0)) vs H Q E
/-- the call, where no inner def writes -/
theorem ev_callLP (h : EvY K W tr ρ k fun as k1 => (∃ F, Sum.inr F ∈ as) ∧ as.length = n ∧ ∀ (ax : List (PyData ⊕ Addr)) (Wc : Wd Unit) (isf : Addr → (Addr → NF) → Prop), Mt isf as ax →
      (∀ f F, isf f F → ∀ k N H, Wc.I k N H → IsFn H f) → (∀ p ∈ l, ∀ cds, p.2.2.map (fun j => ρ[j]?) = cds.map (fun d => some (Slot.dat d)) → ∀ f F, isf f F → (∀ c, (F c).cl = p.1 ∧ (F c).c = c) → ∃ c, PureAt K Wc f (F c) p.2.1 cds) →
      R ax Unit Wc () fun d _ => Φ d k1) : EvW K W (tCallL l (spX K n R) tr) ρ k Φ := fun L0 H0 L H σ S Q c =>
  h L0 H0 L H σ S _ fun vs as k1 H1 S1 e1 ay g => by
    obtain ⟨⟨F0, hF0⟩, hn, g⟩ := g
    intro cs H2 out free lentC lents
    obtain ⟨ax, fs, mt, hfs, axx⟩ := ay.x
    obtain ⟨f0, c0, hf0, _, ef0, _⟩ := mt.mem F0 hF0
    have isFn : ∀ f ∈ fs, IsNd H1 f := fun f hf => (hfs f hf).2
    have trk2 := lend_trk S1.trk out lentC isFn free
    have nc : ∀ b o, H1 b = some o → b ∉ cs := fun b o e z => by rw [free b z] at e; cases e
    have hl0 : f0 ∈ cs ++ (fs ++ (L ++ W.M)) := List.mem_append_right _ (List.mem_append_left _ hf0)
    have e20 : H2 f0 = some (FnO f0 (F0 c0)) := by rw [out f0 (nc f0 _ ef0)]; exact ef0
    have caps2 : ∀ p ∈ capsOf σ ρ, T K (cs ++ (fs ++ (L ++ W.M))) H2 p.1 p.2 := fun p hp => lend_up out free isFn (caps_T S1 p hp)
    have len_ : ax.length = as.length := by
      clear g hn hF0 caps2 e20 axx ay
      induction mt with
      | nil => rfl
      | dat _ ih => simp [ih]
      | fn _ _ ih => simp [ih]
    refine ⟨Unit, boxW K (cs ++ (fs ++ (L ++ W.M))) H2 trk2 hl0 (stillBox f0 (FnO f0 (F0 c0)) fun c u z => by unfold FnO at z; cases z) (capsOf σ ρ), (), ax, fun d _ => Φ d k1, AX.lend out free isFn axx, len_.trans hn, ⟨fun _ _ _ => rfl, e20, caps2⟩, ?_, fun v d k' H' e wi t q => ?_⟩
    · have at_ : ∀ b ∈ fs, ∀ o, H1 b = some o → ∀ k N H, (boxW K (cs ++ (fs ++ (L ++ W.M))) H2 trk2 hl0 (stillBox f0 (FnO f0 (F0 c0)) fun c u z => by unfold FnO at z; cases z) (capsOf σ ρ)).I k N H → H b = some o := fun b hb o ho k N H wi => by
        by_cases ef : b = f0
        · subst ef
          rw [ef0] at ho
          rw [wi.2.1, ho]
        · rw [wi.1 b (List.mem_append_right _ (List.mem_append_left _ hb)) ef, out b (nc b _ ho)]
          exact ho
      refine g ax _ _ mt (fun f F ⟨c, hf, _, ef, _⟩ k N H wi => ⟨_, at_ f hf _ ef k N H wi⟩) fun p hp cds ecd f F ⟨c, hf, hc, ef, ec⟩ hF => ⟨c, ?_⟩
      obtain ⟨cws, ecw, tcw⟩ := caps_js S1 p.2.2 cds ecd
      have lp := lents p hp
      rw [ecw, ← (hF c).1] at lp
      exact fun m R0 => clo_pure (fun c hc => List.mem_append_left _ hc) (List.mem_append_right _ (List.mem_append_left _ hf)) (fun k N H wi => ⟨at_ f hf _ ef k N H wi, by rw [(hF c).2]; exact at_ c hc _ ec k N H wi⟩) (nc f0 _ ef0) lp fun k N H wi => tcw N H wi.2.2
    · intro stay
      have all : ∀ b ∈ cs ++ (fs ++ (L ++ W.M)), H' b = H2 b := fun b hb => by
        by_cases eb : b = f0
        · rw [eb, e20]; exact wi.2.1
        · exact wi.1 b hb eb
      have same : Same H1 (offL cs H') := fun b o hb => by
        have hc := nc b o hb
        rw [offL_out hc]
        have h2 : H2 b = some o := by rw [out b hc]; exact hb
        by_cases hm : b ∈ cs ++ (fs ++ (L ++ W.M))
        · rw [all b hm]; exact h2
        · exact e b o hm h2
      refine c v d k1 _ (S1.same same) (e1.trans (Ext.same same)) ?_ q
      have t1 : T K (cs ++ (fs ++ (L ++ W.M))) (offL cs H') v d := t.ext fun b o nb hb => by rw [offL_out fun z => nb (List.mem_append_left _ z)]; exact hb
      exact t1.off fun b hb => List.mem_append_right _ (List.mem_append_right _ hb)
/-- return the call's value, where an inner def writes the own thing of slot i -/
theorem sw_retLB {P : Ps γ} {δ : Type} {i : Nat} {s0 : Slot} {kb : δ} (hi : ρ[i]? = some s0) (ho : s0.isOwn = true) (Bx : (l : Addr) → Box l δ)
    (hbx : ∀ (o : Option (Option V)) (L N : List Addr) (H : Hp), SlotOk K N L H o s0 → ∃ l, o = some (some (.ref l)) ∧ l ∈ L ∧ (Bx l).B kb N H)
    (h : EvY K W tr ρ k fun as k1 => as.length = n ∧ ∀ (ax : List (PyData ⊕ Addr)) (Wc : Wd δ) (isf : Addr → (Addr → NF) → Prop), Mt isf as ax →
      (∀ f F, isf f F → ∀ k N H, Wc.I k N H → IsFn H f) → (∀ p ∈ l, ∀ cds, p.2.2.map (fun j => ρ[j]?) = cds.map (fun d => some (Slot.dat d)) → ∀ f F, isf f F → (∀ c, (F c).cl = p.1 ∧ (F c).c = c) → ∃ c, PureAt K Wc f (F c) p.2.1 cds) →
      (∀ p ∈ l, ∀ js cds, p.2.2 = js ++ [i] → js.map (fun j => ρ[j]?) = cds.map (fun d => some (Slot.dat d)) → ∀ f F, isf f F → (∀ c, (F c).cl = p.1 ∧ (F c).c = c) → ∃ c, BoxAt K Bx Wc f (F c) p.2.1 cds) →
      R ax δ Wc kb fun d _ => P.rt d k1) : SW K W (tRet (tCallL l (spX K n R) tr)) ρ k P := fun L0 H0 L H σ D S nx rt bk ct =>
  h L0 H0 L H σ S _ fun vs as k1 H1 S1 e1 ay g => by
    obtain ⟨hn, g⟩ := g
    intro cs H2 out free lentC lents
    obtain ⟨ax, fs, mt, hfs, axx⟩ := ay.x
    obtain ⟨b0, es, hbL, hB1⟩ := hbx _ _ _ _ (S1.slots i _ hi)
    have isFn : ∀ f ∈ fs, IsNd H1 f := fun f hf => (hfs f hf).2
    have trk2 := lend_trk S1.trk out lentC isFn free
    have nc : ∀ b o, H1 b = some o → b ∉ cs := fun b o e z => by rw [free b z] at e; cases e
    have bN : b0 ∈ L ++ W.M := List.mem_append_left _ hbL
    have bM : b0 ∉ W.M := S1.offM b0 hbL
    have bcs : b0 ∉ cs := fun z => (Bx b0).trk _ _ _ hB1 (free b0 z)
    have hl0 : b0 ∈ cs ++ (fs ++ (L ++ W.M)) := List.mem_append_right _ (List.mem_append_right _ bN)
    have caps2 : ∀ p ∈ capsOf σ ρ, T K (cs ++ (fs ++ (L ++ W.M))) H2 p.1 p.2 := fun p hp => lend_up out free isFn (caps_T S1 p hp)
    have ex12 : Ext (L ++ W.M) H1 H2 := fun b o _ e => by rw [out b (nc b o e)]; exact e
    have hB2 : (Bx b0).B kb (cs ++ (fs ++ (L ++ W.M))) H2 := (Bx b0).plus kb _ _ H2 (fun b hb => by
      rcases List.mem_append.mp hb with hb | hb
      · obtain ⟨o, v, e, _⟩ := lentC b hb
        exact .inr (by rw [e]; trivial)
      · rcases List.mem_append.mp hb with hb | hb
        · obtain ⟨F, e⟩ := isFn b hb
          exact .inr (by rw [out b (nc b _ e), e]; trivial)
        · exact .inl hb) ((Bx b0).loc kb _ H1 H2 (out b0 bcs) ex12 hB1)
    have len_ : ax.length = as.length := by
      clear g hn axx ay
      induction mt with
      | nil => rfl
      | dat _ ih => simp [ih]
      | fn _ _ ih => simp [ih]
    refine ⟨δ, boxW K (cs ++ (fs ++ (L ++ W.M))) H2 trk2 hl0 (Bx b0) (capsOf σ ρ), kb, ax, fun d _ => P.rt d k1, AX.lend out free isFn axx, len_.trans hn, ⟨fun _ _ _ => rfl, hB2, caps2⟩, ?_, fun v d k' H' e wi t q => ?_⟩
    · have fne : ∀ b ∈ fs, b ≠ b0 := fun b hb z => (hfs b hb).1 (z ▸ bN)
      have fe2 : ∀ b o, H1 b = some o → H2 b = some o := fun b o ho => by
        rw [out b (nc b _ ho)]
        exact ho
      have at_ : ∀ b ∈ fs, ∀ o, H1 b = some o → ∀ k N H, (boxW K (cs ++ (fs ++ (L ++ W.M))) H2 trk2 hl0 (Bx b0) (capsOf σ ρ)).I k N H → H b = some o := fun b hb o ho k N H wi => by
        rw [wi.1 b (List.mem_append_right _ (List.mem_append_left _ hb)) (fne b hb)]
        exact fe2 b o ho
      refine g ax _ _ mt (fun f F ⟨c, hf, _, ef, _⟩ k N H wi => ⟨_, at_ f hf _ ef k N H wi⟩) (fun p hp cds ecd f F ⟨c, hf, hc, ef, ec⟩ hF => ⟨c, ?_⟩) fun p hp js cds ejs ecd f F ⟨c, hf, hc, ef, ec⟩ hF => ⟨c, ?_⟩
      · obtain ⟨cws, ecw, tcw⟩ := caps_js S1 p.2.2 cds ecd
        have lp := lents p hp
        rw [ecw, ← (hF c).1] at lp
        exact fun m R0 => clo_pure (fun c hc => List.mem_append_left _ hc) (List.mem_append_right _ (List.mem_append_left _ hf)) (fun k N H wi => ⟨at_ f hf _ ef k N H wi, by rw [(hF c).2]; exact at_ c hc _ ec k N H wi⟩) bcs lp fun k N H wi => tcw N H wi.2.2
      · obtain ⟨cws, ecw, tcw⟩ := caps_js S1 js cds ecd
        have lp := lents p hp
        rw [ejs, List.map_append, ecw, List.map_cons, List.map_nil, slotAt_of es, ← (hF c).1] at lp
        have lp' : Lent (F c).cl p.2.1 ((cws ++ [V.ref b0]).map some) cs H2 := by
          rw [List.map_append]
          exact lp
        exact fun m R0 => clo_box rfl (fun c hc => List.mem_append_left _ hc) (List.mem_append_right _ (List.mem_append_left _ hf)) (fne f hf) bcs (fe2 f _ ef) (by rw [(hF c).2]; exact List.mem_append_right _ (List.mem_append_left _ hc)) (by rw [(hF c).2]; exact fne c hc) (by rw [(hF c).2]; exact fe2 c _ ec) lp' fun k N H wi => tcw N H wi.2.2
    · intro stay
      have same : ∀ b o, b ≠ b0 → H1 b = some o → offL cs H' b = some o := fun b o nb hb => by
        have hc := nc b o hb
        rw [offL_out hc]
        have h2 : H2 b = some o := by rw [out b hc]; exact hb
        by_cases hm : b ∈ cs ++ (fs ++ (L ++ W.M))
        · rw [wi.1 b hm nb]; exact h2
        · exact e b o hm h2
      have exL : Ext (L ++ W.M) H1 (offL cs H') := fun b o nb hb => same b o (fun z => nb (z ▸ bN)) hb
      refine rt v d k1 _ (fun b o nb hb => ?_) ?_ ?_ q
      · refine same b o (fun z => ?_) (S1.base b o nb hb)
        subst z
        rcases S1.fresh b hbL with q | q
        · exact nb (List.mem_append_left _ q)
        · rw [q] at hb; cases hb
      · refine W.plus k1 (L ++ W.M) _ _ (fun b hb => .inl (List.mem_append_right _ hb)) (fun _ hb => hb) (W.loc k1 _ H1 _ (fun b hb => ?_) exL S1.wd)
        have nb : b ≠ b0 := fun z => bM (z ▸ hb)
        cases q : H1 b with
        | none => exact absurd q (S1.trk b (List.mem_append_right _ hb))
        | some o => exact same b o nb q
      · have t1 : T K (cs ++ (fs ++ (L ++ W.M))) (offL cs H') v d := t.ext fun b o nb hb => by rw [offL_out fun z => nb (List.mem_append_left _ z)]; exact hb
        exact t1.off fun b hb => List.mem_append_right _ (List.mem_append_right _ (List.mem_append_right _ hb))
theorem own_box {ds : List PyData} (o : Option (Option V)) (L N : List Addr) (H : Hp) (h : SlotOk K N L H o (.own ds)) : ∃ l, o = some (some (.ref l)) ∧ l ∈ L ∧ (listBox K l).B ds N H := by
  obtain ⟨l, xs, h1, h2, h3, h4⟩ := h
  exact ⟨l, h1, h2, xs, h3, h4⟩
theorem ownN_box {D : Addr → List (NestedKey × Addr × V) → HO} (hD : IsDN D) {kvs : List (NestedKey × PyData)} (o : Option (Option V)) (L N : List Addr) (H : Hp) (h : SlotOk K N L H o (.ownN D kvs)) : ∃ l, o = some (some (.ref l)) ∧ l ∈ L ∧ (nestBox K D hD l).B kvs N H := by
  obtain ⟨l, xs, h1, h2, h3, h4⟩ := h
  exact ⟨l, h1, h2, xs, h3, h4⟩
end
end U

set_option Elab.async false
set_option linter.all false
set_option maxRecDepth 100000
set_option maxHeartbeats 2000000
namespace U
open PySem PySem.Spec PyProof.Rows L2

/-! ### data that are keys -/
section
variable {P : Program} {w : World} {K : PySem.W.Frag} {N : List Addr} {H : Hp} {h : Heap}
mutual
theorem T.nested (hok : HOk P w H h) : ∀ {v : V} {d : PyData} {k : NestedKey} {u : Value}, T K N H v d → nkey d = some k → RelV v u → NestedIs h k u
  | _, _, _, u, .non, e, r => by
    simp only [nkey, Option.some.injEq] at e
    subst e
    cases (show u = Value.none from r)
    exact .none
  | _, _, _, u, .bl b, e, r => by
    simp only [nkey, Option.some.injEq] at e
    subst e
    cases (show u = Value.bool b from r)
    exact .bool rfl
  | _, _, _, u, .int i, e, r => by
    simp only [nkey, Option.some.injEq] at e
    subst e
    obtain ⟨t, rfl⟩ := (show ∃ t, u = Value.int i t from r)
    exact .int i t
  | _, _, _, u, .str x, e, r => by
    simp only [nkey, Option.some.injEq] at e
    subst e
    obtain ⟨t, rfl⟩ := (show ∃ t, u = Value.str x t from r)
    exact .text x t
  | _, _, _, u, .tup (a := a) (xs := xs) n ha t, e, r => by
    simp only [nkey, Option.map_eq_some_iff] at e
    obtain ⟨ks, ek, rfl⟩ := e
    cases (show u = Value.ref a from r)
    obtain ⟨_, its, rs, o, h1, h2, m, h3⟩ := (show ObjOk P w H h a (.tup xs) from hok a _ ha)
    exact .tup h1 h2 h3 (TA.nested hok t ek rs)
  | _, _, _, _, .lst _ _ _, e, _ => by simp [nkey] at e
  | _, _, _, _, .dct _ _ _, e, _ => by simp [nkey] at e
theorem TA.nested (hok : HOk P w H h) : ∀ {vs : List V} {ds : List PyData} {ks : List NestedKey} {us : List Value}, TA K N H vs ds → nkeys ds = some ks → Vals vs us → NestedAll h ks us
  | _, _, _, _, .nil, e, r => by
    simp only [nkeys, Option.some.injEq] at e
    subst e
    cases r
    exact .nil
  | _, _, _, _, .cons (d := d) (ds := ds) hd t, e, r => by
    cases r with
    | cons r1 r2 =>
      cases e1 : nkey d with
      | none => simp [nkeys, e1] at e
      | some k =>
        cases e2 : nkeys ds with
        | none => simp [nkeys, e1, e2] at e
        | some ks' =>
          simp only [nkeys, e1, e2, Option.some.injEq] at e
          subst e
          exact .cons (T.nested hok hd e1 r1) (TA.nested hok t e2 r2)
end
end

/-! ### the dict's object -/
abbrev NR : List (NestedKey × Addr × V) → List (NestedKey × Addr × Value) → Prop := Paired fun p q => p.1 = q.1 ∧ p.2.1 = q.2.1 ∧ RelV p.2.2 q.2.2
def DN (P : Program) (w : World) (l : Addr) (xs : List (NestedKey × Addr × V)) : HO := .ext fun h => xs.length ≤ sizeLine ∧ (l == sysModules) = false ∧ ∃ us, NR xs us ∧
  ∃ o es ep, h.get? l = some o ∧ o.ExactDict ∧ o.data = .dict es ep ∧ es.toList = us.map (entryOfKey (nestedKind P w)) ∧ (us.map (·.1)).Nodup
theorem isDN (P : Program) (w : World) : IsDN (DN P w) := ⟨fun l xs o u z => by unfold DN at z; cases z⟩
def valN (xs : List (NestedKey × Addr × V)) (k : NestedKey) : Option V := (xs.find? fun x => decide (x.1 = k)).map (·.2.2)
def putNV (xs : List (NestedKey × Addr × V)) (k : NestedKey) (b : Addr) (v : V) : List (NestedKey × Addr × V) := if (valN xs k).isSome then xs.map (fun x => if x.1 = k then (x.1, x.2.1, v) else x) else xs ++ [(k, b, v)]
def lookN (kvs : List (NestedKey × PyData)) (k : NestedKey) : Option PyData := (kvs.find? fun x => decide (x.1 = k)).map (·.2)
def putN (kvs : List (NestedKey × PyData)) (k : NestedKey) (d : PyData) : List (NestedKey × PyData) := if (lookN kvs k).isSome then kvs.map (fun x => if x.1 = k then (x.1, d) else x) else kvs ++ [(k, d)]
theorem NR.val {xs : List (NestedKey × Addr × V)} {us : List (NestedKey × Addr × Value)} (r : NR xs us) (k : NestedKey) : (valN xs k = none ∧ atKey us k = none) ∨ ∃ v u b, valN xs k = some v ∧ atKey us k = some (b, u) ∧ RelV v u := by
  induction r with
  | nil => exact .inl ⟨rfl, rfl⟩
  | @cons p q ps qs h t ih =>
    by_cases e : q.1 = k
    · have e' : p.1 = k := h.1.trans e
      exact .inr ⟨p.2.2, q.2.2, q.2.1, by simp [valN, e'], by simp [atKey, e], h.2.2⟩
    · have e' : ¬ p.1 = k := fun z => e (h.1.symm.trans z)
      have a : valN (p :: ps) k = valN ps k := by simp [valN, e']
      have b : atKey (q :: qs) k = atKey qs k := by simp [atKey, e]
      rw [a, b]
      exact ih
theorem NR.some_eq {xs : List (NestedKey × Addr × V)} {us : List (NestedKey × Addr × Value)} (r : NR xs us) (k : NestedKey) : (atKey us k).isSome = (valN xs k).isSome := by
  rcases r.val k with ⟨a, b⟩ | ⟨v, u, b, h1, h2, _⟩
  · rw [a, b]; rfl
  · rw [h1, h2]; rfl
theorem NR.put {xs : List (NestedKey × Addr × V)} {us : List (NestedKey × Addr × Value)} (r : NR xs us) (k : NestedKey) (b : Addr) {v : V} {u : Value} (rv : RelV v u) : NR (putNV xs k b v) (storedH us k b u) := by
  unfold putNV storedH
  rw [r.some_eq k]
  by_cases q : (valN xs k).isSome = true
  · rw [if_pos q, if_pos q]
    clear q
    induction r with
    | nil => exact .nil
    | @cons p q ps qs h t ih =>
      rw [List.map_cons, List.map_cons]
      refine .cons ?_ ih
      unfold putAt
      by_cases e : q.1 = k
      · rw [if_pos e, if_pos (h.1.trans e)]
        exact ⟨h.1, h.2.1, rv⟩
      · rw [if_neg e, if_neg fun z => e (h.1.symm.trans z)]
        exact h
  · rw [if_neg q, if_neg q]
    exact Paired.snoc r ⟨rfl, rfl, rv⟩
theorem putNV_len (xs : List (NestedKey × Addr × V)) (k : NestedKey) (b : Addr) (v : V) : (putNV xs k b v).length ≤ xs.length + 1 := by
  unfold putNV
  split <;> simp
section
variable {K : PySem.W.Frag} {N : List Addr} {H : Hp}
theorem KN.len : ∀ {xs : List (NestedKey × Addr × V)} {kvs : List (NestedKey × PyData)}, KN K N H xs kvs → xs.length = kvs.length
  | _, _, .nil => rfl
  | _, _, .cons _ _ _ _ t => by rw [List.length_cons, List.length_cons, t.len]
theorem KN.look {xs : List (NestedKey × Addr × V)} {kvs : List (NestedKey × PyData)} (t : KN K N H xs kvs) (k : NestedKey) : (valN xs k = none ∧ lookN kvs k = none) ∨ ∃ v d, valN xs k = some v ∧ lookN kvs k = some d ∧ T K N H v d := by
  induction t with
  | nil => exact .inl ⟨rfl, rfl⟩
  | @cons k' a v e d xs ds _ _ _ tv t ih =>
    by_cases e : k' = k
    · exact .inr ⟨v, d, by simp [valN, e], by simp [lookN, e], tv⟩
    · have a1 : valN ((k', a, v) :: xs) k = valN xs k := by simp [valN, e]
      have a2 : lookN ((k', d) :: ds) k = lookN ds k := by simp [lookN, e]
      rw [a1, a2]
      exact ih
theorem KN.snoc {k : NestedKey} {a : Addr} {v : V} {e d : PyData} (h1 : nkey e = some k) (h2 : k.depth ≤ 8) (h3 : T K N H (.ref a) e) (h4 : T K N H v d) : ∀ {xs : List (NestedKey × Addr × V)} {kvs : List (NestedKey × PyData)}, KN K N H xs kvs → KN K N H (xs ++ [(k, a, v)]) (kvs ++ [(k, d)])
  | _, _, .nil => .cons h1 h2 h3 h4 .nil
  | _, _, .cons a b c d t => .cons a b c d (KN.snoc h1 h2 h3 h4 t)
theorem KN.put {xs : List (NestedKey × Addr × V)} {kvs : List (NestedKey × PyData)} (t : KN K N H xs kvs) {k : NestedKey} {a : Addr} {v : V} {e d : PyData} (h1 : nkey e = some k) (h2 : k.depth ≤ 8) (h3 : T K N H (.ref a) e) (h4 : T K N H v d) : KN K N H (putNV xs k a v) (putN kvs k d) := by
  unfold putNV putN
  have e : (valN xs k).isSome = (lookN kvs k).isSome := by
    rcases t.look k with ⟨a, b⟩ | ⟨v, d, a, b, _⟩ <;> rw [a, b] <;> rfl
  rw [e]
  by_cases q : (lookN kvs k).isSome = true
  · rw [if_pos q, if_pos q]
    clear q e
    induction t with
    | nil => exact .nil
    | @cons k' a' v' e' d' xs ds b1 b2 b3 b4 t ih =>
      rw [List.map_cons, List.map_cons]
      by_cases e : k' = k
      · rw [if_pos e, if_pos e]
        exact .cons b1 b2 b3 h4 ih
      · rw [if_neg e, if_neg e]
        exact .cons b1 b2 b3 b4 ih
  · rw [if_neg q, if_neg q]
    exact KN.snoc h1 h2 h3 h4 t
end

/-! ### the operations: of dicts of the kit's kinds, or of these -/
/-- y is the key k -/
def KeyY (K : PySem.W.Frag) (H : Hp) (y : V) (k : NestedKey) : Prop := ∃ N b e, y = .ref b ∧ T K N H (.ref b) e ∧ nkey e = some k ∧ k.depth ≤ 8
def NGet (P : Program) (w : World) (K : PySem.W.Frag) (H : Hp) (a : Addr) (y : V) (r : Option V) : Prop := DGet H a y r ∨ ∃ N xs kvs k, H a = some (DN P w a xs) ∧ KN K N H xs kvs ∧ KeyY K H y k ∧ r = valN xs k
def NPut (P : Program) (w : World) (K : PySem.W.Frag) (H : Hp) (a : Addr) (y v : V) (H' : Hp) : Prop := DPut H a y v H' ∨ ∃ N xs kvs k b, H a = some (DN P w a xs) ∧ KN K N H xs kvs ∧ y = .ref b ∧ KeyY K H y k ∧ xs.length < sizeLine ∧ H' = upd H a (DN P w a (putNV xs k b v))
section
variable {X : Cx} {pins : List (Addr × Obj)} {σ : L2.St} {H H' : Hp} {s : Shared} {a : Addr} {y v : V} {u r : Value} {o : Option V} {A : Around} {E : Value → Shared → Prop} {K : PySem.W.Frag}
theorem dn_at {N : List Addr} {xs : List (NestedKey × Addr × V)} {kvs : List (NestedKey × PyData)} (I : Inv X pins σ H s) (e : H a = some (DN X.prog X.w a xs)) (t : KN K N H xs kvs) :
    xs.length ≤ sizeLine ∧ (a == sysModules) = false ∧ ∃ us, NR xs us ∧ s.heap.DictOfH (nestedKind X.prog X.w) a us := by
  obtain ⟨⟨z, hd, us, rel, ob, es, ep, h1, h2, h3, h4, h5⟩, _, _⟩ := I.hok a _ e
  refine ⟨z, hd, us, rel, ob, es, ep, h1, h2, h3, h4, fun x hx => ?_, h5⟩
  have key : ∀ {xs : List (NestedKey × Addr × V)} {us : List (NestedKey × Addr × Value)} {kvs : List (NestedKey × PyData)}, NR xs us → KN K N H xs kvs → ∀ x ∈ us, (nestedKind X.prog X.w).is s.heap x.1 x.2.1 := by
    intro xs us kvs r
    induction r generalizing kvs with
    | nil => intro _ x hx; exact nomatch hx
    | @cons p q ps qs h t ih =>
      intro kn x hx
      cases kn with
      | @cons k' a' v' e' d' _ ds b1 b2 b3 b4 t' =>
        rcases List.mem_cons.mp hx with rfl | hx
        · have h1 : k' = x.1 := h.1
          have h2 : a' = x.2.1 := h.2.1
          subst h1 h2
          exact ⟨T.nested I.hok b3 b1 rfl, b2⟩
        · exact ih t' x hx
  exact key rel t x hx
theorem key_at {k : NestedKey} (I : Inv X pins σ H s) (ky : KeyY K H y k) (ry : RelV y u) : ∃ b, u = .ref b ∧ y = .ref b ∧ (nestedKind X.prog X.w).is s.heap k b := by
  obtain ⟨N, b, e, rfl, t, hk, hd⟩ := ky
  cases (show u = Value.ref b from ry)
  exact ⟨b, rfl, rfl, T.nested I.hok t hk rfl, hd⟩
theorem nroom (hu : A.units + 9 < cLine) : (nestedKind X.prog X.w).room A.in1 := by
  show A.in1.units + 8 < cLine
  rw [Around.in1_units]
  omega
theorem n_getItem {Q : Value → Shared → Prop} (hu : A.units + 9 < cLine) (I : Inv X pins σ H s) (g : NGet X.prog X.w K H a y (some v)) (ry : RelV y u) (h : ∀ w' s', Inv X pins σ H s' → RelV v w' → Q w' s') :
    wpAny (model X.prog X.w) A (getItem (.ref a) u) Q E s := by
  rcases g with g | ⟨N, xs, kvs, k, e, t, ky, l⟩
  · exact d_getItem (by omega) I g ry h
  · obtain ⟨b, rfl, _, hk⟩ := key_at I ky ry
    obtain ⟨z, hd, us, rel, dd⟩ := dn_at I e t
    rcases rel.val k with ⟨q, _⟩ | ⟨v', u', b', h1, h2, rv⟩
    · rw [q] at l; cases l
    · rw [h1] at l
      cases l
      exact wpAny_getItem_heap (nroom hu) hk dd h2 (h u' _ (I.tok _) rv)
theorem n_in {Q : Value → Shared → Prop} (hu : A.units + 9 < cLine) (I : Inv X pins σ H s) (g : NGet X.prog X.w K H a y o) (ry : RelV y u) (h : ∀ s', Inv X pins σ H s' → Q (.bool o.isSome) s') :
    wpAny (model X.prog X.w) A (compareOp .In u (.ref a)) Q E s := by
  rcases g with g | ⟨N, xs, kvs, k, e, t, ky, l⟩
  · exact d_in (by omega) I g ry h
  · obtain ⟨b, rfl, _, hk⟩ := key_at I ky ry
    obtain ⟨z, hd, us, rel, dd⟩ := dn_at I e t
    refine wpAny_in_heap (nroom hu) hk hd dd ?_
    rw [rel.some_eq k, ← l]
    exact h _ (I.tok _)
theorem n_notIn {Q : Value → Shared → Prop} (hu : A.units + 9 < cLine) (I : Inv X pins σ H s) (g : NGet X.prog X.w K H a y o) (ry : RelV y u) (h : ∀ s', Inv X pins σ H s' → Q (.bool (!o.isSome)) s') :
    wpAny (model X.prog X.w) A (compareOp .NotIn u (.ref a)) Q E s := by
  rcases g with g | ⟨N, xs, kvs, k, e, t, ky, l⟩
  · exact d_notIn (by omega) I g ry h
  · obtain ⟨b, rfl, _, hk⟩ := key_at I ky ry
    obtain ⟨z, hd, us, rel, dd⟩ := dn_at I e t
    refine wpAny_notIn_heap (nroom hu) hk hd dd ?_
    rw [rel.some_eq k, ← l]
    exact h _ (I.tok _)
theorem dn_new {P : Program} {w : World} {H' : Hp} {h' : Heap} {xs : List (NestedKey × Addr × V)} {us : List (NestedKey × Addr × Value)} (z : xs.length ≤ sizeLine) (hd : (a == sysModules) = false) (rel : NR xs us) (dd : h'.DictOfH (nestedKind P w) a us) :
    ObjOk P w H' h' a (DN P w a xs) := by
  obtain ⟨ob, es, ep, h1, h2, h3, h4, h5, h6⟩ := dd
  exact ⟨⟨z, hd, us, rel, ob, es, ep, h1, h2, h3, h4, h6⟩, ⟨_, h1⟩, fun g1 g2 ⟨c1, c2, us', r', ob', es', ep', d1, d2⟩ k => ⟨c1, c2, us', r', ob', es', ep', k _ d1, d2⟩⟩
theorem n_setItem {Q : Unit → Shared → Prop} (hu : A.units + 9 < cLine) (I : Inv X pins σ H s) (g : NPut X.prog X.w K H a y v H') (ry : RelV y u) (rv : RelV v r) (h : ∀ s', Inv X pins σ H' s' → Q () s') :
    wpAny (model X.prog X.w) A (setItem (.ref a) u r) Q E s := by
  rcases g with g | ⟨N, xs, kvs, k, b, e, t, rfl, ky, l, eH⟩
  · exact d_setItem (by omega) I g ry rv h
  · subst eH
    obtain ⟨b', rfl, eb, hk⟩ := key_at I ky ry
    cases eb
    obtain ⟨z, hd, us, rel, dd⟩ := dn_at I e t
    have hz : us.length ≤ sizeLine := by rw [← rel.length]; exact z
    refine wpAny_setItem_heap (hsz := hz) (nroom hu) hk dd fun h' dd' hs => h _ ?_
    have he : ∃ q, h'.get? a = some q := let ⟨q, _, _, hq, _⟩ := dd'; ⟨q, hq⟩
    have hl : (putNV xs k b v).length ≤ sizeLine := by have := putNV_len xs k b v; omega
    exact d_write I (by rw [e]; exact True.intro) hs he (dn_new hl hd (rel.put k b rv) dd')
theorem ndict_typeIs (I : Inv X pins σ H s) (g : NGet X.prog X.w K H a y o) : s.TypeIs (.ref a) "dict" := by
  rcases g with g | ⟨N, xs, kvs, k, e, t, ky, l⟩
  · exact dict_typeIs I g
  · obtain ⟨_, _, us, _, dd⟩ := dn_at I e t
    exact dd.typeIs
end
def tNGet (P : Program) (w : World) (K : PySem.W.Frag) (td ty : TE) : TE := fun σ H Q => td σ H fun x H1 => ty σ H1 fun y H2 => ∃ a v, x = .ref a ∧ NGet P w K H2 a y (some v) ∧ Q v H2
def tNIn (P : Program) (w : World) (K : PySem.W.Frag) (ty td : TE) : TE := fun σ H Q => ty σ H fun y H1 => td σ H1 fun x H2 => ∃ a o, x = .ref a ∧ NGet P w K H2 a y o ∧ Q (.bl o.isSome) H2
def tNNotIn (P : Program) (w : World) (K : PySem.W.Frag) (ty td : TE) : TE := fun σ H Q => ty σ H fun y H1 => td σ H1 fun x H2 => ∃ a o, x = .ref a ∧ NGet P w K H2 a y o ∧ Q (.bl (!o.isSome)) H2
def sNPut (P : Program) (w : World) (K : PySem.W.Frag) (td ty tv : TE) : TS := fun D σ H => tv σ H fun v H1 => td σ H1 fun x H2 => ty σ H2 fun y H3 => ∃ a H4, x = .ref a ∧ NPut P w K H3 a y v H4 ∧ D.nx σ H4
section
variable {X : Cx} {K : PySem.W.Frag} {o i value : Expr} {pos pos' : Pos} {td ty tv : TE}
theorem pe_nget (hu : X.A.units + 9 < cLine) (ho : PE X o td) (hi : PE X i ty) (hs : NoSl i) : PE X (.Subscript o i pos) (tNGet X.prog X.w K td ty) := by
  constructor
  intro pins s σ H Q I h
  apply subD_of PySem.F.slot_dict_getitem.lookup hs
  refine thn (ho.run pins s σ H _ I h) ?_
  rintro u s1 ⟨x, H1, I1, rx, q1⟩
  refine thn (hi.run pins s1 σ H1 _ I1 q1) ?_
  rintro iv s2 ⟨y, H2, I2, ry, a, v, rfl, g, q2⟩
  cases (show u = Value.ref a from rx)
  exact ⟨ndict_typeIs I2 g, n_getItem hu I2 g ry fun w' s3 I3 rw' => ⟨v, H2, I3, rw', q2⟩⟩
theorem pc_nin (hu : X.A.units + 9 < cLine) (hi : PE X i ty) (ho : PE X o td) : PC X .In i o (tNIn X.prog X.w K ty td) := by
  constructor
  intro pins s σ H Q I h
  refine thn (hi.run pins s σ H _ I h) ?_
  rintro iv s1 ⟨y, H1, I1, ry, q1⟩
  refine thn (ho.run pins s1 σ H1 _ I1 q1) ?_
  rintro u s2 ⟨x, H2, I2, rx, a, ov, rfl, g, q2⟩
  cases (show u = Value.ref a from rx)
  exact n_in hu I2 g ry fun s3 I3 => ⟨.bl ov.isSome, H2, I3, rfl, q2⟩
theorem pc_nnotin (hu : X.A.units + 9 < cLine) (hi : PE X i ty) (ho : PE X o td) : PC X .NotIn i o (tNNotIn X.prog X.w K ty td) := by
  constructor
  intro pins s σ H Q I h
  refine thn (hi.run pins s σ H _ I h) ?_
  rintro iv s1 ⟨y, H1, I1, ry, q1⟩
  refine thn (ho.run pins s1 σ H1 _ I1 q1) ?_
  rintro u s2 ⟨x, H2, I2, rx, a, ov, rfl, g, q2⟩
  cases (show u = Value.ref a from rx)
  exact n_notIn hu I2 g ry fun s3 I3 => ⟨.bl (!ov.isSome), H2, I3, rfl, q2⟩
theorem ps_nput (hu : X.A.units + 9 < cLine) (ho : PE X o td) (hi : PE X i ty) (hv : PE X value tv) (hs : swapsWith value (some (.Subscript o i pos')) pos.line X.env = pure false) :
    PS X (.Assign [.Subscript o i pos'] value pos) (sNPut X.prog X.w K td ty tv) := by
  constructor
  intro pins s σ H D I h
  refine wpAny_Assign_Subscript (thn (hv.run pins s σ H _ I h) ?_) hs
  rintro r s1 ⟨v, H1, I1, rv, q1⟩
  refine thn (ho.run pins s1 σ H1 _ I1 q1) ?_
  rintro u s2 ⟨x, H2, I2, rx, q2⟩
  refine thn (hi.run pins s2 σ H2 _ I2 q2) ?_
  rintro iv s3 ⟨y, H3, I3, ry, a, H4, rfl, g, q3⟩
  cases (show u = Value.ref a from rx)
  exact n_setItem hu I3 g ry rv fun s4 I4 => ⟨σ, H4, I4, q3⟩
/-- {} for such a dict -/
def tDNewN (P : Program) (w : World) : TE := fun _ H Q => ∀ p, H p = none → Q (.ref p) (upd H p (DN P w p []))
theorem pe_dnewN : PE X (.Dict [] [] pos) (tDNewN X.prog X.w) := by
  constructor
  intro pins s σ H Q I h
  apply wpAny_Dict_empty
  have ok : ObjOk X.prog X.w (upd H s.heap.objs.size (DN X.prog X.w s.heap.objs.size [])) (s.heap.push { cls := .type "dict", data := .dict #[] }) s.heap.objs.size (DN X.prog X.w s.heap.objs.size []) :=
    dn_new (us := []) (Nat.zero_le _) (beq_eq_false_iff_ne.mpr (Ne.symm (Nat.ne_of_lt I.big))) .nil (Heap.DictOfH.new s.heap)
  exact ⟨.ref s.heap.objs.size, _, I.laid (a := s.heap.objs.size) (t' := s.toks) (fun _ _ q => Heap.get?_push_of_some _ q) (Nat.le_refl _) ok, rfl, h _ (I.hok.fresh (Nat.le_refl _))⟩
end
end U

set_option Elab.async false
set_option linter.all false
set_option maxRecDepth 100000
set_option maxHeartbeats 2000000
namespace U
open PySem PySem.Spec PyProof.Rows L2 NdefX LamX

/-! ### a def in a def: what is written -/
section
variable {X : Cx} {pins : List (Addr × Obj)} {σ : L2.St} {H : Hp} {s : Shared}
/-- a place's code object: it is new, its table grows by it; or the table has it -/
def NewFn (pos : Pos) (P : Addr) (mk : Addr → NF) (H : Hp) (Z : Addr → Hp → Prop) : Prop := ∃ ps : Array Value, H P = some (.tbl ps) ∧ TriplesOk ps.toList ∧
  (codeAmong pos ps.toList = none → ∀ c f, H c = none → H f = none → c ≠ f →
    Z f (upd (upd (upd H P (.tbl (ps ++ #[rawInt pos.line, rawInt pos.col, .ref c]))) c (CodeO c (mk c).qual)) f (FnO f (mk c)))) ∧
  ∀ cv, codeAmong pos ps.toList = some cv → ∃ c, cv = .ref c ∧ ∀ f, H f = none → Z f (upd H f (FnO f (mk c)))
theorem newFn {c P : Addr} {name : Str} {params : Arguments} {body : List Stmt} {scope : Scope} {pos : Pos} {E : Value → Shared → Prop} {Q : Value → Shared → Prop} (I : Inv X pins σ H s)
    (TB : TabB X.base X.mg c P) (hcode : X.env.code = .ref c) (hfree : ∀ y ∈ scope.names, y.2 = .free → ∃ c, X.env.cells.lookup y.1 = some c)
    (h : NewFn pos P (fun c' => ⟨name, X.env.qual ++ name, params, body, scope, cloFrom X.env.cells scope.names [], c'⟩) H fun f H1 => ∀ s', Inv X pins σ H1 s' → Q (.ref f) s') :
    wpAny (model X.prog X.w) X.A (makeFunction name (X.env.qual ++ name) params (.stmts body) scope X.env [] [] [] pos pos.line) Q E s := by
  obtain ⟨ps, hP, tri, new, old⟩ := h
  have atP : s.heap.get? P = some { cls := .none, data := .fields ps } := I.hok P _ hP
  have ns := I.mod.glob.keeps I.bk
  have hd := TB.code.keeps I.bk
  have bi := TB.bm.keeps I.bk
  cases am : codeAmong pos ps.toList with
  | some cv =>
    obtain ⟨c', rfl, go⟩ := old cv am
    apply PySem.W.makeFunction_hit (closure_ok hfree) I.ok.glob ns hcode hd atP tri am bi
    intro ctv doc h' tk keep size
    have J := I.kept (t' := tk) keep
    exact go _ (J.hok.fresh (Nat.le_refl _)) _ (inv_fn (t' := tk) (doc := doc) (ctv := ctv) J rfl)
  | none =>
    apply PySem.W.makeFunction_K (closure_ok hfree) I.ok.glob ns hcode hd atP tri am TB.gP bi
    intro c' ctv doc h' tk keep above below code tab
    obtain ⟨c2, oc, vs, t, e2, hoc, hdata, hv⟩ := code
    cases e2
    have nc : H c' = none := I.hok.fresh above
    have J := inv_table (t' := tk) (more := #[rawInt pos.line, rawInt pos.col, .ref c']) (h' := h') I hP (fun b o hb e => keep b o hb e) tab above ⟨oc, vs, t, hoc, hdata, hv⟩
    have nf : H h'.objs.size = none := by
      refine I.hok.fresh (Nat.le_trans above (Nat.le_of_lt below))
    exact new am c' _ nc nf (Nat.ne_of_lt below) _ (inv_fn (t' := tk) (doc := doc) (ctv := ctv) J rfl)
end
/-- the reading of «def name(..): ..» -/
def tNdefX (pos : Pos) (P : Addr) (i : Nat) (mk : Addr → NF) : TS := fun D σ H => NewFn pos P mk H fun f H1 => D.nx (σ.set i (some (.ref f))) H1
section
variable {X : Cx}
theorem ps_ndefX {st : Stmt} {c P : Addr} {name : Str} {pos : Pos} {i : Nat} (hst : st = .FunctionDef name (C8.fnArgs st) (C8.fnBody st) [] none [] (C8.fnScope st) none name pos) (TB : TabB X.base X.mg c P) (hcode : X.env.code = .ref c)
    (hfree : ∀ y ∈ (C8.fnScope st).names, y.2 = .free → X.env.scope.names.lookup y.1 = some .cell ∨ X.env.scope.names.lookup y.1 = some .free)
    (hd0 : (C8.fnArgs st).defaults = []) (hk0 : (C8.fnArgs st).kw_defaults = []) (ha : annTrees (C8.fnArgs st) none X.env = []) (hN : X.N.Nodup) (hi : X.N[i]? = some name) (hx : Loc X.env.scope name)
    (hf : X.fn name = true ∨ X.env.scope.names.lookup name = some .local) : PS X st (tNdefX pos P i (NF.of st name (X.env.qual ++ name) (cloFrom X.env.cells (C8.fnScope st).names []))) := by
  rw [hst]
  constructor
  intro pins s σ H D I h
  rw [← hst] at h
  have hq : qualnameIn X.env name name = X.env.qual ++ name := by
    have k : X.env.kindOf name = some .local ∨ X.env.kindOf name = some .cell := hx
    unfold qualnameIn
    cases k with
    | inl k => rw [k]; rfl
    | inr k => rw [k]; exact if_neg (by decide)
  apply PySem.W.nestDef_K hd0 hk0 ha
  rw [hq]
  apply newFn I TB hcode fun y hy e => (hfree y hy e).elim (fun z => I.ok.has _ (.inl z)) fun z => I.ok.has _ (.inr z)
  obtain ⟨ps, h1, h2, h3, h4⟩ := h
  refine ⟨ps, h1, h2, fun am c f hc hf' ne s' J => store_ok (v := .ref f) J hN hi hx rfl (fun s'' J' => ⟨_, _, J', h3 am c f hc hf' ne⟩) hf, fun cv am => ?_⟩
  obtain ⟨c, e, g⟩ := h4 cv am
  exact ⟨c, e, fun f hf' s' J => store_ok (v := .ref f) J hN hi hx rfl (fun s'' J' => ⟨_, _, J', g f hf'⟩) hf⟩
end
end U

set_option Elab.async false
set_option linter.all false
set_option maxRecDepth 100000
set_option maxHeartbeats 2000000
namespace U
open PySem PySem.Spec PyProof.Rows L2 NdefX LamX

/-! ### tables of code objects in a world -/
def TabsAt (T : List NTab) (N : List Addr) (H : Hp) : Prop := ∀ p ∈ T, ∃ ps : Array Value, H p.1 = some (.tbl ps) ∧ TriplesOk ps.toList ∧
  ∀ (pos : Pos) (cv : Value), codeAmong pos ps.toList = some cv → ∃ c, cv = .ref c ∧ c ∉ N ∧ H c = some (CodeO c (p.2 pos.line pos.col))
theorem TabsAt.loc {T : List NTab} {M N : List Addr} {H H' : Hp} (hM : ∀ p ∈ T, p.1 ∈ M) (e : ∀ b, b ∈ M → H' b = H b) (x : Ext N H H') (t : TabsAt T N H) : TabsAt T N H' := fun p hp => by
  obtain ⟨ps, h1, h2, h3⟩ := t p hp
  refine ⟨ps, (e _ (hM p hp)).trans h1, h2, fun pos cv hc => ?_⟩
  obtain ⟨c, rfl, nc, hcc⟩ := h3 pos cv hc
  exact ⟨c, rfl, nc, x c _ nc hcc⟩
theorem TabsAt.plus {T : List NTab} {N N' : List Addr} {H : Hp} (s : ∀ b, b ∈ N' → b ∈ N ∨ H b = none) (t : TabsAt T N H) : TabsAt T N' H := fun p hp => by
  obtain ⟨ps, h1, h2, h3⟩ := t p hp
  refine ⟨ps, h1, h2, fun pos cv hc => ?_⟩
  obtain ⟨c, rfl, nc, hcc⟩ := h3 pos cv hc
  exact ⟨c, rfl, fun z => (s c z).elim nc (fun q => by rw [hcc] at q; cases q), hcc⟩
theorem TabsAt.trk {T : List NTab} {N : List Addr} {H : Hp} (t : TabsAt T N H) {b : Addr} (hb : b ∈ T.map Prod.fst) : H b ≠ none := by
  obtain ⟨p, hp, rfl⟩ := List.mem_map.mp hb
  obtain ⟨ps, h1, _⟩ := t p hp
  rw [h1]
  simp
theorem TabsAt.nil {T : List NTab} {N : List Addr} {H : Hp} (h : ∀ p ∈ T, H p.1 = some (.tbl #[])) : TabsAt T N H := fun p hp => ⟨#[], h p hp, trivial, fun pos cv hc => by
  have z : codeAmong pos [] = some cv := hc
  simp [codeAmong] at z⟩
class HasT {γ : Type} (W : Wd γ) (T : outParam (List NTab)) : Prop where
  mem : ∀ p ∈ T, p.1 ∈ W.M
  get : ∀ k N H, (∀ b ∈ W.M, b ∈ N) → W.I k N H → TabsAt T N H
  put : ∀ k N H H', (∀ b ∈ W.M, b ∈ N) → W.I k N H → Ext (T.map Prod.fst) H H' → TabsAt T N H' → W.I k N H'
theorem tabs_sub {γ : Type} {W : Wd γ} {T : List NTab} (h : ∀ p ∈ T, p.1 ∈ W.M) : ∀ b ∈ T.map Prod.fst, b ∈ W.M := fun b hb => by
  obtain ⟨p, hp, rfl⟩ := List.mem_map.mp hb
  exact h p hp
/-- nothing but the tables is written at M -/
def tabW (M : List Addr) (Hs : Hp) (t : Trk M Hs) (T : List NTab) (hT : ∀ p ∈ T, p.1 ∈ M) : Wd Nat where
  M := M
  I := fun _ N H => (∀ b, b ∈ M → b ∉ T.map Prod.fst → H b = Hs b) ∧ TabsAt T N H
  loc := fun _ N H H' e x ⟨h1, h2⟩ => ⟨fun b hb n => (e b hb).trans (h1 b hb n), h2.loc hT e x⟩
  plus := fun _ N N' H s _ ⟨h1, h2⟩ => ⟨h1, h2.plus s⟩
  trk := fun _ N H ⟨h1, h2⟩ b hb z => by
    by_cases e : b ∈ T.map Prod.fst
    · exact h2.trk e z
    · rw [h1 b hb e] at z
      exact t b hb z
instance {M : List Addr} {Hs : Hp} {t : Trk M Hs} {T : List NTab} {hT : ∀ p ∈ T, p.1 ∈ M} : HasT (tabW M Hs t T hT) T where
  mem := hT
  get := fun k N H _ h => h.2
  put := fun k N H H' _ h e ht => ⟨fun b hb n => by
    have w := h.1 b hb n
    cases z : H b with
    | none => exact absurd z ((tabW M Hs t T hT).trk k N H h b hb)
    | some o => rw [← w, z]; exact e b o n z, ht⟩
/-- the law's world: a deck and tables -/
def deckT (M : List Addr) (p q : Addr) (Hs : Hp) (t : Trk M Hs) (hp : p ∈ M) (hq : q ∈ M) (T : List NTab) (hT : ∀ x ∈ T, x.1 ∈ M) (hn : p ∉ T.map Prod.fst ∧ q ∉ T.map Prod.fst) : Wd Nat where
  M := M
  I := fun k N H => (∃ n, n ≤ k ∧ Deck H p q n) ∧ (∀ b, b ∈ M → b ≠ p → b ≠ q → b ∉ T.map Prod.fst → H b = Hs b) ∧ TabsAt T N H
  loc := fun k N H H' e x ⟨⟨n, h0, d⟩, h1, h2⟩ => ⟨⟨n, h0, d.of (e p hp) (e q hq)⟩, fun b hb a c n => (e b hb).trans (h1 b hb a c n), h2.loc hT e x⟩
  plus := fun _ N N' H s _ ⟨h0, h1, h2⟩ => ⟨h0, h1, h2.plus s⟩
  trk := fun _ N H ⟨⟨n, _, d⟩, h1, h2⟩ b hb z => by
    by_cases e : b ∈ T.map Prod.fst
    · exact h2.trk e z
    · by_cases e1 : b = p
      · rw [e1, d.top] at z; cases z
      · by_cases e2 : b = q
        · obtain ⟨cs, hc, _⟩ := d.cells
          rw [e2, hc] at z; cases z
        · rw [h1 b hb e1 e2 e] at z
          exact t b hb z
section
variable {M : List Addr} {p q : Addr} {Hs : Hp} {t : Trk M Hs} {hp : p ∈ M} {hq : q ∈ M} {T : List NTab} {hT : ∀ x ∈ T, x.1 ∈ M} {hn : p ∉ T.map Prod.fst ∧ q ∉ T.map Prod.fst}
instance : HasT (deckT M p q Hs t hp hq T hT hn) T where
  mem := hT
  get := fun k N H _ h => h.2.2
  put := fun k N H H' _ h e ht => by
    obtain ⟨⟨n, h0, d⟩, h1, h2⟩ := h
    have keep : ∀ b, b ∈ M → b ∉ T.map Prod.fst → H' b = H b := fun b hb n => by
      cases z : H b with
      | none => exact absurd z ((deckT M p q Hs t hp hq T hT hn).trk k N H ⟨⟨_, h0, d⟩, h1, h2⟩ b hb)
      | some o => exact e b o n z
    exact ⟨⟨n, h0, d.of (keep p hp hn.1) (keep q hq hn.2)⟩, fun b hb a c n => (keep b hb n).trans (h1 b hb a c n), ht⟩
instance : HasD (deckT M p q Hs t hp hq T hT hn) p q where
  memp := hp
  memq := hq
  get := fun k N H h => h.1
  put := fun k k' N H H' n' pN qN h e d hn' => by
    obtain ⟨⟨n, h0, d0⟩, h1, h2⟩ := h
    have keep : ∀ b, b ∈ M → b ≠ p → b ≠ q → H' b = H b := fun b hb a c => by
      cases z : H b with
      | none => exact absurd z ((deckT M p q Hs t hp hq T hT hn).trk k N H ⟨⟨_, h0, d0⟩, h1, h2⟩ b hb)
      | some o => exact e b o (by simp [a, c]) z
    refine ⟨⟨n', hn', d⟩, fun b hb a c n => (keep b hb a c).trans (h1 b hb a c n), fun x hx => ?_⟩
    obtain ⟨ps, g1, g2, g3⟩ := h2 x hx
    have xm : x.1 ∈ T.map Prod.fst := List.mem_map.mpr ⟨x, hx, rfl⟩
    refine ⟨ps, (keep _ (hT x hx) (fun z => hn.1 (z ▸ xm)) fun z => hn.2 (z ▸ xm)).trans g1, g2, fun pos cv hc => ?_⟩
    obtain ⟨c, rfl, nc, hcc⟩ := g3 pos cv hc
    exact ⟨c, rfl, nc, e c _ (by simp only [List.mem_cons, List.not_mem_nil, or_false, not_or]; exact ⟨fun z => nc (z ▸ pN), fun z => nc (z ▸ qN)⟩) hcc⟩
end
section
variable {K : PySem.W.Frag} {γ : Type} {W : Wd γ} {T : List NTab} {ρ : Rho} {k : γ} {Φ : PyData → γ → Prop} {tr : L2.TA} {n : Nat} {R : List PyData → PyData → Prop}
/-- def name(..): .. -/
theorem sw_ndef [hT : HasT W T] {P : Ps γ} {i : Nat} {pos : Pos} {A : Addr} {nm : Nat → Nat → Str} {mk : Addr → NF} (hm : (A, nm) ∈ T) (hu : ∀ p ∈ T, p.1 = A → p.2 = nm) (hn : ∀ c, (mk c).qual = nm pos.line pos.col)
    (q : P.nx (ρ.set i (.fn mk)) k) : SW K W (tNdefX pos A i mk) ρ k P := fun L0 H0 L H σ D S nx _ _ _ => by
  have hM : ∀ b ∈ W.M, b ∈ L ++ W.M := fun b hb => List.mem_append_right _ hb
  have tabs := hT.get _ _ _ hM S.wd
  obtain ⟨ps, h1, h2, h3⟩ := tabs _ hm
  refine ⟨ps, h1, h2, fun am c f hc hf ne => ?_, fun cv am => ?_⟩
  · have hcP : c ≠ A := fun z => by rw [z, h1] at hc; cases hc
    have hfP : f ≠ A := fun z => by rw [z, h1] at hf; cases hf
    have eL : (ps ++ #[rawInt pos.line, rawInt pos.col, .ref c]).toList = ps.toList ++ [rawInt pos.line, rawInt pos.col, .ref c] := by simp
    generalize hG : upd (upd (upd H A (.tbl (ps ++ #[rawInt pos.line, rawInt pos.col, .ref c]))) c (CodeO c (mk c).qual)) f (FnO f (mk c)) = G
    have gf : G f = some (FnO f (mk c)) := by rw [← hG, upd_same]
    have gc : G c = some (CodeO c (mk c).qual) := by rw [← hG, upd_ne ne, upd_same]
    have gA : G A = some (.tbl (ps ++ #[rawInt pos.line, rawInt pos.col, .ref c])) := by rw [← hG, upd_ne hfP.symm, upd_ne hcP.symm, upd_same]
    have go : ∀ b o, b ≠ A → H b = some o → G b = some o := fun b o nb hb => by
      rw [← hG, upd_ne (ne_of_none hb hf), upd_ne (ne_of_none hb hc), upd_ne nb]
      exact hb
    have AT : A ∈ T.map Prod.fst := List.mem_map.mpr ⟨_, hm, rfl⟩
    have ext : Ext (T.map Prod.fst) H G := fun b o nb hb => go b o (fun z => nb (z ▸ AT)) hb
    have tabs' : TabsAt T (L ++ W.M) G := fun p hp => by
      by_cases e : p.1 = A
      · have enm := hu p hp e
        rw [e, enm]
        refine ⟨_, gA, by rw [eL]; exact PySem.TriplesOk_snoc _ _ _ _ h2, fun pos' cv hcv => ?_⟩
        rw [eL] at hcv
        rcases among_app2 _ h2 hcv with z | ⟨z, z1, z2⟩
        · obtain ⟨c0, e1, nc0, e2⟩ := h3 pos' cv z
          refine ⟨c0, e1, nc0, go c0 _ (fun z => ?_) e2⟩
          rw [z, h1] at e2
          cases e2
        · refine ⟨c, z, S.nin hc, ?_⟩
          rw [gc, hn c, z1, z2]
      · obtain ⟨ps', a1, a2, a3⟩ := tabs p hp
        refine ⟨ps', go _ _ e a1, a2, fun pos' cv hcv => ?_⟩
        obtain ⟨c0, e1, nc0, e2⟩ := a3 pos' cv hcv
        refine ⟨c0, e1, nc0, go c0 _ (fun z => ?_) e2⟩
        rw [z, h1] at e2
        cases e2
    have S1 : Stt K W L0 H0 L G σ ρ k := S.ext (ext.sub (tabs_sub hT.mem)) (hT.put _ _ _ _ hM S.wd ext tabs')
    exact nx _ _ _ _ _ (S1.setFn i (S.nin hf) (S.nin hc) gf gc) q
  · obtain ⟨c, rfl, nc, hcc⟩ := h3 pos cv am
    refine ⟨c, rfl, fun f hf => ?_⟩
    have S1 := S.new (o := FnO f (mk c)) hf
    exact nx _ _ _ _ _ (S1.setFn i (S.nin hf) nc upd_same (by rw [upd_ne (ne_of_none hcc hf), hcc, hn c])) q
/-- a def that writes nothing but tables -/
def spT (K : PySem.W.Frag) (T : List NTab) (n : Nat) (R : List PyData → PyData → Prop) : Sp := fun vs H Q _ => ∃ (M : List Addr) (ds : List PyData) (r : PyData), TA K M H vs ds ∧ Trk M H ∧ (∀ p ∈ T, p.1 ∈ M) ∧ TabsAt T M H ∧ ds.length = n ∧ R ds r ∧
  ∀ v H', Ext (T.map Prod.fst) H H' → TabsAt T M H' → U.T K M H' v r → Q v H'
theorem ev_callT [hT : HasT W T] (h : EvA K W tr ρ k fun ds k1 => ds.length = n ∧ ∃ r, R ds r ∧ Φ r k1) : EvW K W (tCall (spT K T n R) [] E0 tr) ρ k Φ := fun L0 H0 L H σ S Q c =>
  h L0 H0 L H σ S _ fun vs ds k1 H1 S1 e1 ta g => by
    obtain ⟨hl, r, hR, q⟩ := g
    have hM : ∀ b ∈ W.M, b ∈ L ++ W.M := fun b hb => List.mem_append_right _ hb
    rw [List.append_nil]
    refine ⟨L ++ W.M, ds, r, ta, S1.trk, fun p hp => List.mem_append_right _ (hT.mem p hp), hT.get _ _ _ hM S1.wd, hl, hR, fun v H' ext tabs t => ?_⟩
    have e2 : Ext W.M H1 H' := ext.sub (tabs_sub hT.mem)
    exact c v r k1 H' (S1.ext e2 (hT.put _ _ _ _ hM S1.wd ext tabs)) (e1.trans e2) t q
theorem spT.len {vs : List V} {H : Hp} {Q : VK} {E : XK} (h : spT K T n R vs H Q E) : vs.length = n := by
  obtain ⟨M, ds, r, ta, tr, _, _, hl, hR, q⟩ := h
  rw [ta.len]
  exact hl
theorem spT.ok {N : List Str} {vs : List V} {H : Hp} {Q : VK} {E : XK} {t : TS} (h : spT K T n R vs H Q E)
    (hb : ∀ (W : Wd Nat) [HasT W T] (ds : List PyData) (r : PyData), R ds r → SW K W t (rest0 N ds) 0 ⟨fun _ _ => r = .none, fun d _ => d = r, fun _ _ => False, fun _ _ => False⟩) : t { nx := fun _ H' => Q .non H', rt := Q } (L2.start N vs) H := by
  obtain ⟨M, ds, r, ta, tr, hT, tabs, _, hr, q⟩ := h
  have fin : ∀ k' H', Ext ([] ++ (tabW M H tr T hT).M) H H' → (tabW M H tr T hT).I k' M H' → Ext (T.map Prod.fst) H H' := fun k' H' e wi b o nb hb => by
    by_cases hm : b ∈ M
    · rw [wi.1 b hm nb]; exact hb
    · exact e b o hm hb
  refine hb (tabW M H tr T hT) ds r hr [] H [] H (L2.start N vs) _ (stt_start ta ⟨fun b _ _ => rfl, tabs⟩) (fun L' H' σ' ρ' k' S' e => ?_) (fun v d k' H' e wi t' hd => ?_) (fun _ _ _ _ _ _ z => z.elim) (fun _ _ _ _ _ _ z => z.elim)
  · subst e
    exact q .non H' (fin k' H' S'.base S'.wdM) S'.wdM.2 .non
  · subst hd
    exact q v H' (fin k' H' e wi) wi.2 t'
end
end U

set_option Elab.async false
set_option linter.all false
set_option maxRecDepth 100000
set_option maxHeartbeats 2000000
namespace U
open PySem PySem.Spec PyProof.Rows L2
/-! ### the end of a law that comes to makers: the tables of their code are empty at its start -/
/-- what is tracked at the start: the script (where it is no object of the module's own) and the tables -/
structure Begun (K : PySem.W.Frag) (cs : List (Addr × Addr)) (a : Addr) (heap : Heap) (H : Hp) : Prop where
  tab : ∀ t, t ∈ cs → H t.2 = some (.tbl #[])
  only : ∀ b u, H b = some u → b ∈ cs.map Prod.snd ∨ (b = a ∧ K.lookup a = none ∧ ∃ o xs, u = .frz o (.lst xs))
section
variable {P : Program} {w : World} {K : PySem.W.Frag} {mg mb : Str → Option Value} {k : Nat} {fa a : Addr} {cs : List (Addr × Addr)} {fd : FuncData} {x : Str} {sp : Sp} {s₁ : Shared} {vs : List Value} {ns : List Int}
theorem begun_is (inK : K.In s₁.heap) (scr : s₁.heap.get? a = some { cls := .type "list", data := .seq vs.toArray }) (nums : IntsAre vs ns) (small : ns.length ≤ sizeLine)
    (empty : ∀ t, t ∈ cs → s₁.heap.get? t.2 = some { cls := .none, data := .fields #[] }) : ∃ H : Hp, Begun K cs a s₁.heap H ∧ SqL K H a (ns.map V.int) ∧ HOk P w H s₁.heap := by
  have rel : Vals (ns.map V.int) vs := vals_ints nums
  have many : vs.length = ns.length := nums.length
  have tabAt : ∀ b, b ∈ cs.map Prod.snd → s₁.heap.get? b = some { cls := .none, data := .fields #[] } := fun b hb => by
    obtain ⟨t, ht, rfl⟩ := List.mem_map.mp hb
    exact empty t ht
  cases own : K.lookup a with
  | some o =>
    have e := inK a o own
    rw [scr] at e
    cases e
    refine ⟨fun b => if b ∈ cs.map Prod.snd then some (.tbl #[]) else none, ⟨fun t ht => if_pos (List.mem_map_of_mem ht), fun b u z => ?_⟩, Or.inr ⟨_, vs.toArray, _, own, rfl, rfl, rfl, by rw [List.size_toArray, many]; exact small, by simpa using rel⟩, fun b u z => ?_⟩
    · by_cases hb : b ∈ cs.map Prod.snd
      · exact .inl hb
      · exact nomatch (if_neg hb).symm.trans z
    · by_cases hb : b ∈ cs.map Prod.snd
      · cases (if_pos hb).symm.trans z
        exact tabAt b hb
      · exact nomatch (if_neg hb).symm.trans z
  | none =>
    have apart : a ∉ cs.map Prod.snd := fun z => by
      have q := tabAt a z
      rw [scr] at q
      exact nomatch (show Data.seq vs.toArray _ = Data.fields #[] from congrArg Obj.data (Option.some.inj q))
    refine ⟨fun b => if b = a then some (.frz { cls := .type "list", data := .seq vs.toArray } (.lst (ns.map V.int))) else if b ∈ cs.map Prod.snd then some (.tbl #[]) else none, ⟨fun t ht => ?_, fun b u z => ?_⟩, Or.inl (Or.inr ⟨_, if_pos rfl⟩), fun b u z => ?_⟩
    · have m := List.mem_map_of_mem (f := Prod.snd) ht
      exact (if_neg (show ¬ t.2 = a from fun e => apart (by rw [← e]; exact m))).trans (if_pos m)
    · by_cases hb : b = a
      · exact .inr ⟨hb, own, _, _, (Option.some.inj ((if_pos hb).symm.trans z)).symm⟩
      · by_cases hc : b ∈ cs.map Prod.snd
        · exact .inl hc
        · exact nomatch (if_neg hc).symm.trans ((if_neg hb).symm.trans z)
    · by_cases hb : b = a
      · cases (if_pos hb).symm.trans z
        subst hb
        exact ⟨scr, by rw [List.length_map]; exact small, vs, _, rel, scr⟩
      · by_cases hc : b ∈ cs.map Prod.snd
        · cases (if_pos hc).symm.trans ((if_neg hb).symm.trans z)
          exact tabAt b hc
        · exact nomatch (if_neg hc).symm.trans ((if_neg hb).symm.trans z)
theorem lawGT (inK : K.In s₁.heap) (glo : s₁.heap.Ns mainGlobals mg) (blt : s₁.heap.Ns builtinsNs mb) (boot : ∀ x : Str, x ≠ "__name__" → mb x = bootBuiltins x) (noLim : s₁.heap.NoLimit) (noGen : s₁.gens = #[])
    (empty : ∀ t, t ∈ cs → s₁.heap.get? t.2 = some { cls := .none, data := .fields #[] }) (free : ∀ t, t ∈ cs → K.lookup t.2 = none) (code : ∀ t, t ∈ cs → PySem.W.CodeHd s₁.heap t.1 t.2)
    (bim : ∃ (m : Addr) (o : Obj), mg "__builtins__" = some (.ref m) ∧ m ≠ builtinsNs ∧ s₁.heap.get? m = some o ∧ o.cls = .type "module" ∧ o.dict = some builtinsNs ∧ o.data = .plain)
    (scr : s₁.heap.get? a = some { cls := .type "list", data := .seq vs.toArray }) (nums : IntsAre vs ns) (small : ns.length ≤ sizeLine) (room : Room k callerA)
    (F : ∀ base : Heap, K.In base → base.Ns mainGlobals mg → (∀ t, t ∈ cs → LamX.TabB base mg t.1 t.2) → FnG P w K mg base k fa fd [x] sp) (bind : ∀ (s : Shared) (u : Value), BindsTo s fd ⟨[u], []⟩ [(x, u)])
    (hsp : ∀ H : Hp, (∀ t, t ∈ cs → H t.2 = some (.tbl #[])) → SqL K H a (ns.map V.int) → sp [.ref a] H (fun v _ => v = .bl true) E0) :
    codeAny (model P w) callerA (.call (.ref fa) ⟨[.ref a], []⟩) (fun r s' => r = .ok (.ret (.bool true)) ∧ OldK s₁.heap s'.heap ∧ s'.os = s₁.os ∧ AllBare s'.gens) s₁ := by
  obtain ⟨H, B, hScr, hOk⟩ := begun_is (P := P) (w := w) inK scr nums small empty
  have tabAt : ∀ b, b ∈ cs.map Prod.snd → s₁.heap.get? b = some { cls := .none, data := .fields #[] } := fun b hb => by
    obtain ⟨t, ht, rfl⟩ := List.mem_map.mp hb
    exact empty t ht
  -- what is neither the script nor a table is not tracked
  have off : ∀ {b : Addr} {o : Obj}, s₁.heap.get? b = some o → (∀ us n, o.data = .seq us n → False) → (o.data = .fields #[] → False) → H b = none := fun {b o} e n1 n2 => by
    cases q : H b with
    | none => rfl
    | some u =>
      rcases B.only b u q with hb | ⟨rfl, _⟩
      · have t := tabAt b hb
        rw [e] at t
        cases t
        exact (n2 rfl).elim
      · rw [scr] at e
        cases e
        exact (n1 _ _ rfl).elim
  have nsKeep : ∀ {b : Addr} {m : Str → Option Value}, s₁.heap.Ns b m → (hidT s₁.heap H).Ns b m := by
    rintro b m ⟨o, es, ep, e, d, r⟩
    exact ⟨o, es, ep, hidT_get e (off e (fun us n z => by rw [d] at z; cases z) fun z => by rw [d] at z; cases z), d, r⟩
  have inB : K.In (hidT s₁.heap H) := by
    intro b o e
    refine hidT_get (inK b o e) ?_
    cases q : H b with
    | none => rfl
    | some u =>
      rcases B.only b u q with hb | ⟨rfl, hn, _⟩
      · obtain ⟨t, ht, rfl⟩ := List.mem_map.mp hb
        rw [free t ht] at e
        cases e
      · rw [hn] at e
        cases e
  have M : Mod K mg (hidT s₁.heap H) := by
    obtain ⟨mc, h1, h2⟩ := noLim
    exact ⟨inB, nsKeep glo, ⟨mb, nsKeep blt, boot⟩, ⟨mc, nsKeep h1, h2⟩⟩
  have TB : ∀ t, t ∈ cs → LamX.TabB (hidT s₁.heap H) mg t.1 t.2 := by
    intro t ht
    have at_ := empty t ht
    constructor
    · obtain ⟨o, us, fl, tf, fg, tg, ib, tx, tt, e1, c1, c2, c3, more⟩ := code t ht
      refine ⟨o, us, fl, tf, fg, tg, ib, tx, tt, hidT_get e1 (off e1 (fun _ _ z => by rw [c2] at z; cases z) fun z => ?_), c1, c2, c3, more⟩
      rw [c2] at z
      cases z
      simp at c3
    · obtain ⟨m, o, b1, b2, b3, b4, b5, b6⟩ := bim
      have d : o.data ≠ .fields #[] := fun z => by rw [b6] at z; cases z
      refine ⟨m, o, b1, b2, fun z => ?_, fun z => ?_, hidT_get b3 (off b3 (fun _ _ z => by rw [b6] at z; cases z) d), b4, b5, b6⟩
      · obtain ⟨o', es, ep, e, hd, _⟩ := glo
        rw [← z, b3] at e
        cases e
        rw [b6] at hd
        cases hd
      · rw [z, at_] at b3
        cases b3
        cases b6
    · intro z
      obtain ⟨o', es, ep, e, hd, _⟩ := glo
      rw [z, at_] at e
      cases e
      cases hd
  have env : Env0 P w K mg (hidT s₁.heap H) callerA [] s₁ H := by
    refine ⟨rfl, M, fun b o e => of_hidT e, Nat.le_of_eq (hidT_size _ _), trivial, fun b hb => ?_, hOk, .of_eq noGen⟩
    exact nomatch (show b ∈ ([] : List Addr) from hb)
  refine codeAny_mono ((F _ inB (nsKeep glo) TB).runs callerA [] s₁ H ⟨[.ref a], []⟩ [.ref a] [.ref a] _ _ rfl room env (bind s₁ (.ref a)) (.cons rfl .nil) (hsp H B.tab hScr)) ?_
  intro res s' hres
  match res, hres with
  | .error _, hres => exact False.elim hres
  | .ok .next, hres => exact False.elim hres
  | .ok .brk, hres => exact False.elim hres
  | .ok .cont, hres => exact False.elim hres
  | .ok (.ret u), hres =>
    obtain ⟨v, H', os, bare, un, ok', rv, q⟩ := hres
    cases (show v = .bl true from q)
    cases (show u = Value.bool true from rv)
    have stays : ∀ b o, b ∉ cs.map Prod.snd → s₁.heap.get? b = some o → s'.heap.get? b = some o := fun b o nb e => by
      cases q : H b with
      | none => exact un.keep b o e q (fun z => nomatch (show b ∈ ([] : List Addr) from z)) (by simp)
      | some u =>
        rcases B.only b u q with hb | ⟨_, _, ob, xs, rfl⟩
        · exact absurd hb nb
        · have before := (hOk b _ q).1
          have after := (ok' b _ (un.frzs b ob _ q)).1
          rw [e] at before
          cases before
          exact after
    have grows : ∀ t, t ∈ cs → ∃ more : Array Value, s'.heap.get? t.2 = some { cls := .none, data := .fields more } := fun t ht => by
      obtain ⟨more, z⟩ := un.tbls t.2 #[] (B.tab t ht)
      exact ⟨_, ok' t.2 _ z⟩
    refine ⟨rfl, ⟨fun b o e => ?_, fun b o e => ?_⟩, os, bare⟩
    · by_cases hb : b ∈ cs.map Prod.snd
      · obtain ⟨t, ht, rfl⟩ := List.mem_map.mp hb
        obtain ⟨more, g⟩ := grows t ht
        rw [empty t ht] at e
        cases e
        exact .inr (.inl ⟨((code t ht).tab (empty t ht)).isCodeTable, rfl, #[], more, rfl, by rw [Array.empty_append]; exact g⟩)
      · exact .inl (stays b o hb e)
    · by_cases hb : b ∈ cs.map Prod.snd
      · obtain ⟨t, ht, rfl⟩ := List.mem_map.mp hb
        obtain ⟨more, g⟩ := grows t ht
        exact ⟨_, g⟩
      · exact ⟨o, stays b o hb e⟩
end
/-- the law's def, where the makers' tables are empty -/
def LawT (l : PySem.W.OpenLaw) (w : World) (K : PySem.W.Frag) (k n : Nat) (x : Str) (mg : Str → Option Value) (fa : Addr) (h : Heap) : Prop :=
  ∃ (fd : FuncData) (cs : List (Addr × Addr)) (sp : Sp), (∀ t, t ∈ cs → h.get? t.2 = some { cls := .none, data := .fields #[] } ∧ K.lookup t.2 = none ∧ PySem.W.CodeHd h t.1 t.2) ∧ (∀ (s : Shared) (u : Value), BindsTo s fd ⟨[u], []⟩ [(x, u)]) ∧
    (∀ (H : Hp) (a : Addr) (ns : List Int), ns.length ≤ n → (∀ t, t ∈ cs → H t.2 = some (.tbl #[])) → SqL K H a (ns.map V.int) → sp [.ref a] H (fun v _ => v = .bl true) E0) ∧
    ∀ base : Heap, K.In base → base.Ns mainGlobals mg → (∀ t, t ∈ cs → LamX.TabB base mg t.1 t.2) → FnG l.prog w K mg base k fa fd [x] sp
theorem walkGT {l : PySem.W.OpenLaw} {n k : Nat} {q : Program} {loose : List Str} {XP : (Str → Option Value) → Heap → Prop} {YP : World → Heap → Prop} {d : DefRec} {K : Params → PySem.W.Frag} {x : Str}
    (many : l.most = some n) (small : n ≤ sizeLine) (noDef : d.params.defaults = []) (room : Room k callerA) (inK : ∀ (w : World) (h : Heap), YP w h → (K w.params).In h)
    (F : ∀ (w : World) (mg : Str → Option Value) (fa : Addr) (h : Heap), YP w h → (K w.params).In h → h.Ns mainGlobals mg → mg d.name = some (.ref fa) → LawT l w (K w.params) k n x mg fa h) :
    PySem.W.WalkO q loose XP YP l.row.toRowW d [] (fun f vs => PySem.call f vs) := by
  apply Att.attach_callB many noDef
  intro w s₀ s₁ mg mb fa o pm cd doc a vs ns G Y ho hd hcd hmg hobj hints hlen hbits hg
  have KX := inK w _ Y
  obtain ⟨fd, cs, sp, hT, hb, hsp, hF⟩ := F w mg fa _ Y KX G.T.g hmg
  exact lawGT KX G.T.g G.T.b G.T.builtins G.T.nolimit hg (fun t ht => (hT t ht).1) (fun t ht => (hT t ht).2.1) (fun t ht => (hT t ht).2.2) G.T.bmain hobj hints (Nat.le_trans hlen small) room hF hb fun H hH hS => hsp H a ns hlen hH hS
/-! ### a law with a deck and tables -/
def spLawT (K : PySem.W.Frag) (T : List NdefX.NTab) : Sp := fun vs H Q _ => ∃ (a : Addr) (ns : List Int), vs = [.ref a] ∧ SqL K H a (ns.map V.int) ∧ ns.length ≤ 63 ∧ (∀ t, t ∈ T → H t.1 = some (.tbl #[])) ∧ ∀ H', Q (.bl true) H'
section
variable {K : PySem.W.Frag} {T : List NdefX.NTab}
theorem spLawT.len {vs : List V} {H : Hp} {Q : VK} {E : XK} (h : spLawT K T vs H Q E) : vs.length = 1 := by
  obtain ⟨_, _, rfl, _⟩ := h
  rfl
theorem spLawT.ok {N : List Str} {vs : List V} {H : Hp} {Q : VK} {E : XK} {rest : TS} (n : Nat) (hN : N.length = n + 2) (h : spLawT K T vs H Q E)
    (hb : ∀ (M : List Addr) (p q : Addr) (hp : p ∈ M) (hq : q ∈ M) (Hs : Hp) (tr : Trk M Hs) (hT : ∀ x ∈ T, x.1 ∈ M) (hn : p ∉ T.map Prod.fst ∧ q ∉ T.map Prod.fst),
      SW K (deckT M p q Hs tr hp hq T hT hn) rest (.no :: .raw (.ref p) :: List.replicate n .no) 0 ⟨fun _ _ => False, fun d _ => d = .bool true, fun _ _ => False, fun _ _ => False⟩) :
    tSeq (tAsg (tCall (spDeck K) [] E0 (tCons (tVar 0) tNil)) (gName 1)) rest { nx := fun _ H' => Q .non H', rt := Q } (L2.start N vs) H := by
  obtain ⟨a, ns, rfl, hS, hl, h0, fin⟩ := h
  refine ⟨.ref a, start_get (by simp), a, ns, rfl, hS, hl, fun H' p q hp0 hq0 dk sm => ?_⟩
  have outT : ∀ {b : Addr}, H b = none → b ∉ T.map Prod.fst := fun {b} hb z => by
    obtain ⟨t, ht, rfl⟩ := List.mem_map.mp z
    rw [h0 t ht] at hb
    cases hb
  have tabs : ∀ t, t ∈ T → H' t.1 = some (.tbl #[]) := fun t ht => sm _ _ (h0 t ht)
  have tr : Trk (p :: q :: T.map Prod.fst) H' := fun b hb z => by
    rcases List.mem_cons.mp hb with rfl | hb
    · rw [dk.top] at z; cases z
    · rcases List.mem_cons.mp hb with rfl | hb
      · obtain ⟨cs, hc, _⟩ := dk.cells
        rw [hc] at z; cases z
      · obtain ⟨t, ht, rfl⟩ := List.mem_map.mp hb
        rw [tabs t ht] at z; cases z
  have es : L2.start N [.ref a] = some (.ref a) :: none :: List.replicate n none := by
    unfold L2.start
    rw [hN]
    show some (V.ref a) :: List.replicate (n + 1) none = _
    rfl
  show rest _ ((L2.start N [.ref a]).set 1 (some (.ref p))) H'
  rw [es]
  have hT : ∀ x ∈ T, x.1 ∈ p :: q :: T.map Prod.fst := fun x hx => List.mem_cons_of_mem _ (List.mem_cons_of_mem _ (List.mem_map_of_mem hx))
  have S : Stt K (deckT (p :: q :: T.map Prod.fst) p q H' tr (by simp) (by simp) T hT ⟨outT hp0, outT hq0⟩) [] H' [] H' (some (.ref a) :: some (.ref p) :: List.replicate n none) (.no :: .raw (.ref p) :: List.replicate n .no) 0 := by
    have get_ : ∀ (i : Nat) (s : Slot), (Slot.no :: Slot.raw (.ref p) :: List.replicate n Slot.no)[i]? = some s → s = .no ∨ (i = 1 ∧ s = .raw (.ref p)) := fun i s hs => by
      match i, hs with
      | 0, hs => left; simpa using hs.symm
      | 1, hs => right; exact ⟨rfl, by simpa using hs.symm⟩
      | i + 2, hs => left; exact List.eq_of_mem_replicate (List.mem_of_getElem? (by simpa using hs))
    refine ⟨Ext.refl _ _, (fun l hl => nomatch hl), (fun l hl => nomatch hl), tr, ⟨⟨0, Nat.le_refl _, dk⟩, fun b _ _ _ _ => rfl, TabsAt.nil tabs⟩, by simp, fun i s hs => ?_, fun i j s u hs hu h1 _ _ => ?_⟩
    · rcases get_ i s hs with rfl | ⟨rfl, rfl⟩
      · trivial
      · rfl
    · rcases get_ i s hs with rfl | ⟨rfl, rfl⟩ <;> cases h1
  refine hb _ p q (by simp) (by simp) H' tr hT _ [] H' [] H' _ _ S (fun _ _ _ _ _ _ z => z.elim) (fun v d k' H2 _ _ t e => ?_) (fun _ _ _ _ _ _ z => z.elim) (fun _ _ _ _ _ _ z => z.elim)
  subst e
  cases t
  exact fin H2
theorem splawT_end {H : Hp} {a : Addr} {ns : List Int} (hl : ns.length ≤ 63) (hT : ∀ t, t ∈ T → H t.1 = some (.tbl #[])) (hS : SqL K H a (ns.map V.int)) : spLawT K T [.ref a] H (fun v _ => v = .bl true) E0 :=
  ⟨a, ns, rfl, hS, hl, hT, fun _ => rfl⟩
end
end U

set_option Elab.async false
set_option linter.all false
set_option maxRecDepth 100000
set_option maxHeartbeats 2000000
namespace U
open PySem PySem.Spec PyProof.Rows L2 NdefX LamX

/-! ### the body of an inner def that writes a box -/
theorem AX.of {K : PySem.W.Frag} {N : List Addr} {H : Hp} {l : Addr} : ∀ {us : List V} {ds : List PyData}, TA K N H us ds → AX K N H (us ++ [.ref l]) (ds.map Sum.inl ++ [.inr l])
  | _, _, .nil => .fn .nil
  | _, _, .cons h t => .dat h (AX.of t)
section
variable {K : PySem.W.Frag} {γ : Type} {Bx : (l : Addr) → Box l γ} {R : γ → List PyData → (PyData → γ → Prop) → Prop} {n : Nat} {N : List Str} {vs : List V} {H : Hp} {Q : VK} {E : XK} {t : TS}
theorem spB.ok (h : spB K n Bx R vs H Q E)
    (hb : ∀ (l : Addr) (M : List Addr) (Hs : Hp) (tr : Trk M Hs) (hl : l ∈ M) (ds : List PyData) (k : γ) (Φ : PyData → γ → Prop), R k ds Φ → SW K (boxW K M Hs tr hl (Bx l) []) t (restX N (ds.map Sum.inl ++ [.inr l])) k ⟨fun _ k' => Φ .none k', Φ, fun _ _ => False, fun _ _ => False⟩) :
    t { nx := fun _ H' => Q .non H', rt := Q } (L2.start N vs) H := by
  obtain ⟨M, l, us, k, ds, Φ, rfl, hl, tr, b, ta, _, hR, q⟩ := h
  refine spX.ok (W := boxW K M H tr hl (Bx l) []) (Φ := Φ) (AX.of ta) ⟨fun _ _ _ => rfl, b, fun _ h => nomatch h⟩ (fun v d k' H' e wi t' g => q v d k' H' wi.2.1 (fun b o nb hb => ?_) t' g) (hb l M H tr hl ds k Φ hR)
  have nl : b ≠ l := by simpa using nb
  by_cases hm : b ∈ M
  · rw [wi.1 b hm nl]; exact hb
  · exact e b o hm hb
theorem spB.len (h : spB K n Bx R vs H Q E) : vs.length = n := by
  obtain ⟨M, l, us, k, ds, Φ, rfl, hl, tr, b, ta, hn, _⟩ := h
  rw [List.length_append, ta.len]
  exact hn
end
/-! ### lists in a box -/
section
variable {K : PySem.W.Frag} {l : Addr} {M : List Addr} {Hs : Hp} {tr : Trk M Hs} {hl : l ∈ M} {caps : List (V × PyData)} {ρ : Rho} {k : List PyData} {Φ : PyData → List PyData → Prop} {te ti : TE} {i : Nat}
theorem ev_bix (h0 : ρ[i]? = some (.raw (.ref l))) (h : EvW K (boxW K M Hs tr hl (listBox K l) caps) te ρ k fun x k1 => ∃ j : Nat, x = .int (j : Int) ∧ ∃ d, k1[j]? = some d ∧ Φ d k1) :
    EvW K (boxW K M Hs tr hl (listBox K l) caps) (tOp (rIxL K) (tVar i) te) ρ k Φ := fun L0 H0 L H σ S Q c => by
  refine ⟨_, S.slots i _ h0, h L0 H0 L H σ S _ fun v x k1 H1 S1 e1 t1 g => ?_⟩
  obtain ⟨j, rfl, d, hd, q⟩ := g
  cases t1
  obtain ⟨xs, h3, h4⟩ := S1.wd.2.1
  obtain ⟨v, e1', t⟩ := h4.at hd
  exact ⟨_, _, _, v, rfl, rfl, SqL.of h3, atI_nat e1', c v d k1 H1 S1 e1 t q⟩
theorem sw_bset {P : Ps (List PyData)} (h0 : ρ[i]? = some (.raw (.ref l))) (h : EvW K (boxW K M Hs tr hl (listBox K l) caps) te ρ k fun d k1 => EvW K (boxW K M Hs tr hl (listBox K l) caps) ti ρ k1 fun x k2 => ∃ j : Nat, x = .int (j : Int) ∧ j < k2.length ∧ P.nx ρ (k2.set j d)) :
    SW K (boxW K M Hs tr hl (listBox K l) caps) (tAsg te (gSub (tVar i) ti rSetL)) ρ k P := fun L0 H0 L H σ D S nx _ _ _ =>
  h L0 H0 L H σ S _ fun v d k1 H1 S1 e1 t g => by
    refine ⟨.ref l, S1.slots i _ h0, g L0 H0 L H1 σ S1 _ fun vi x k2 H2 S2 e2 t2 g2 => ?_⟩
    obtain ⟨j, rfl, hj, q⟩ := g2
    cases t2
    obtain ⟨oth, ⟨xs, h3, h4⟩, cp⟩ := S2.wd
    refine ⟨l, xs, (j : Int), j, rfl, rfl, h3, ?_, ?_⟩
    · have : j < xs.length := by rw [h4.len]; exact hj
      unfold ixN
      rw [if_pos (by omega), if_pos (by omega)]
      simp
    · have eM' : Ext M H2 (upd H2 l (.lst (xs.set j v))) := Ext.put hl
      have eN : Ext (L ++ M) H2 (upd H2 l (.lst (xs.set j v))) := Ext.put (List.mem_append_right _ hl)
      exact nx _ _ _ _ _ (S2.ext eM' ⟨fun b hb nb => by rw [upd_ne nb]; exact oth b hb nb, ⟨_, upd_same, (TA.set j h4 (t.ext (eM (M := M) e2))).ext eN⟩, fun p hp => (cp p hp).ext eN⟩) q
end
/-! ### dicts with tuples as keys: one's own, or in a box -/
def AtN (P : Program) (w : World) (K : PySem.W.Frag) {γ : Type} (W : Wd γ) (ρ : Rho) (i : Nat) (kv : γ → List (NestedKey × PyData)) : Prop :=
  ∃ f : L2.St → Option Addr, ∀ (L0 : List Addr) (H0 : Hp) (L : List Addr) (H : Hp) (σ : L2.St) (k : γ), Stt K W L0 H0 L H σ ρ k → ∃ l xs, σ[i]? = some (some (.ref l)) ∧ H l = some (DN P w l xs) ∧ KN K (L ++ W.M) H xs (kv k)
section
variable {P : Program} {w : World} {K : PySem.W.Frag} {γ : Type} {W : Wd γ} {ρ : Rho} {k : γ} {Φ : PyData → γ → Prop} {ty te tv : TE} {i : Nat} {kv : γ → List (NestedKey × PyData)}
theorem atN_own {kvs : List (NestedKey × PyData)} (h0 : ρ[i]? = some (.ownN (DN P w) kvs)) : AtN P w K W ρ i (fun _ => kvs) := ⟨fun _ => none, fun L0 H0 L H σ k S => by
  obtain ⟨l, xs, h1, _, h3, h4⟩ := S.slots i _ h0
  exact ⟨l, xs, h1, h3, h4⟩⟩
theorem atN_box {l : Addr} {M : List Addr} {Hs : Hp} {tr : Trk M Hs} {hl : l ∈ M} {caps : List (V × PyData)} {hD : IsDN (DN P w)} (h0 : ρ[i]? = some (.raw (.ref l))) : AtN P w K (boxW K M Hs tr hl (nestBox K (DN P w) hD l) caps) ρ i id := ⟨fun _ => none, fun L0 H0 L H σ k S => by
  obtain ⟨_, ⟨xs, h3, h4⟩, _⟩ := S.wd
  exact ⟨l, xs, S.slots i _ h0, h3, h4⟩⟩
/-- x is the key -/
def IsK (x : PyData) (key : NestedKey) : Prop := (∃ ds, x = .tuple ds) ∧ nkey x = some key ∧ key.depth ≤ 8
theorem keyY_of {N : List Addr} {H : Hp} {v : V} {x : PyData} {key : NestedKey} (t : T K N H v x) (h : IsK x key) : KeyY K H v key := by
  obtain ⟨⟨ds, rfl⟩, h2, h3⟩ := h
  cases t with
  | tup n ha ts => exact ⟨N, _, _, rfl, .tup n ha ts, h2, h3⟩
theorem ev_nget (hat : AtN P w K W ρ i kv) (h : EvW K W ty ρ k fun x k1 => ∃ key d, IsK x key ∧ lookN (kv k1) key = some d ∧ Φ d k1) : EvW K W (tNGet P w K (tVar i) ty) ρ k Φ := fun L0 H0 L H σ S Q c => by
  obtain ⟨_, hat⟩ := hat
  obtain ⟨l, _, e1, _, _⟩ := hat _ _ _ _ _ _ S
  refine ⟨_, e1, h L0 H0 L H σ S _ fun v x k1 H1 S1 e t g => ?_⟩
  obtain ⟨key, d, hk, hl, q⟩ := g
  obtain ⟨l', xs, f1, f2, f3⟩ := hat _ _ _ _ _ _ S1
  rw [e1] at f1
  cases f1
  rcases f3.look key with ⟨_, z⟩ | ⟨u, d', h1, h2, h3⟩
  · rw [z] at hl; cases hl
  · rw [h2] at hl
    cases hl
    exact ⟨l, u, rfl, .inr ⟨_, xs, _, key, f2, f3, keyY_of t hk, h1.symm⟩, c u d k1 H1 S1 e h3 q⟩
theorem look_some {N : List Addr} {H : Hp} {xs : List (NestedKey × Addr × V)} {kvs : List (NestedKey × PyData)} (t : KN K N H xs kvs) (key : NestedKey) : (valN xs key).isSome = (lookN kvs key).isSome := by
  rcases t.look key with ⟨a, b⟩ | ⟨v, d, a, b, _⟩ <;> rw [a, b] <;> rfl
theorem ev_nnotin (hat : AtN P w K W ρ i kv) (h : EvW K W ty ρ k fun x k1 => ∃ key, IsK x key ∧ Φ (.bool (!(lookN (kv k1) key).isSome)) k1) : EvW K W (tNNotIn P w K ty (tVar i)) ρ k Φ := fun L0 H0 L H σ S Q c => by
  obtain ⟨_, hat⟩ := hat
  refine h L0 H0 L H σ S _ fun v x k1 H1 S1 e t g => ?_
  obtain ⟨key, hk, q⟩ := g
  obtain ⟨l, xs, f1, f2, f3⟩ := hat _ _ _ _ _ _ S1
  refine ⟨_, f1, l, valN xs key, rfl, .inr ⟨_, xs, _, key, f2, f3, keyY_of t hk, rfl⟩, ?_⟩
  rw [look_some f3 key]
  exact c _ _ k1 H1 S1 e (.bl _) q
theorem ev_nin (hat : AtN P w K W ρ i kv) (h : EvW K W ty ρ k fun x k1 => ∃ key, IsK x key ∧ Φ (.bool (lookN (kv k1) key).isSome) k1) : EvW K W (tNIn P w K ty (tVar i)) ρ k Φ := fun L0 H0 L H σ S Q c => by
  obtain ⟨_, hat⟩ := hat
  refine h L0 H0 L H σ S _ fun v x k1 H1 S1 e t g => ?_
  obtain ⟨key, hk, q⟩ := g
  obtain ⟨l, xs, f1, f2, f3⟩ := hat _ _ _ _ _ _ S1
  refine ⟨_, f1, l, valN xs key, rfl, .inr ⟨_, xs, _, key, f2, f3, keyY_of t hk, rfl⟩, ?_⟩
  rw [look_some f3 key]
  exact c _ _ k1 H1 S1 e (.bl _) q
theorem tup_ref {N : List Addr} {H : Hp} {v : V} {x : PyData} {key : NestedKey} (t : T K N H v x) (h : IsK x key) : ∃ b, v = .ref b := by
  obtain ⟨⟨ds, rfl⟩, _, _⟩ := h
  cases t with
  | tup n ha ts => exact ⟨_, rfl⟩
theorem putN_len (kvs : List (NestedKey × PyData)) (key : NestedKey) (d : PyData) : (putN kvs key d).length ≤ kvs.length + 1 := by
  unfold putN
  split <;> simp
/-- d[k] = v, d one's own -/
theorem sw_nput {Z : Ps γ} {kvs : List (NestedKey × PyData)} (h0 : ρ[i]? = some (.ownN (DN P w) kvs)) (h : EvW K W tv ρ k fun d k1 => EvW K W ty ρ k1 fun x k2 => ∃ key, IsK x key ∧ kvs.length < 100000 ∧ Z.nx (ρ.set i (.ownN (DN P w) (putN kvs key d))) k2) : SW K W (sNPut P w K (tVar i) ty tv) ρ k Z := fun L0 H0 L H σ D S nx _ _ _ =>
  h L0 H0 L H σ S _ fun v d k1 H1 S1 ee t g => by
    obtain ⟨l, _, e1, _, _, _⟩ := S1.slots i _ h0
    refine ⟨_, e1, g L0 H0 L H1 σ S1 _ fun u x k2 H2 S2 ee2 t2 g2 => ?_⟩
    obtain ⟨key, hk, hz, q⟩ := g2
    obtain ⟨l', xs, f1, f2, f3, f4⟩ := S2.slots i _ h0
    rw [e1] at f1
    cases f1
    obtain ⟨b, rfl⟩ := tup_ref t2 hk
    refine ⟨l, _, rfl, .inr ⟨_, xs, _, key, b, f3, f4, rfl, keyY_of t2 hk, Nat.lt_of_le_of_lt (show xs.length ≤ 99999 by rw [f4.len]; omega) (by decide), rfl⟩, ?_⟩
    exact nx _ _ _ _ _ (S2.put (s1 := .ownN (DN P w) (putN kvs key d)) h0 rfl rfl e1 f2 ⟨l, _, rfl, f2, upd_same, (f4.put hk.2.1 hk.2.2 t2 (t.ext (eM ee2))).map fun _ _ t => t.ext (Ext.put (List.mem_append_left _ f2))⟩) q
/-- .. in a box -/
theorem sw_nputB {l : Addr} {M : List Addr} {Hs : Hp} {tr : Trk M Hs} {hl : l ∈ M} {caps : List (V × PyData)} {hD : IsDN (DN P w)} {k : List (NestedKey × PyData)} {Z : Ps (List (NestedKey × PyData))} (h0 : ρ[i]? = some (.raw (.ref l)))
    (h : EvW K (boxW K M Hs tr hl (nestBox K (DN P w) hD l) caps) tv ρ k fun d k1 => EvW K (boxW K M Hs tr hl (nestBox K (DN P w) hD l) caps) ty ρ k1 fun x k2 => ∃ key, IsK x key ∧ k2.length < 100000 ∧ Z.nx ρ (putN k2 key d)) :
    SW K (boxW K M Hs tr hl (nestBox K (DN P w) hD l) caps) (sNPut P w K (tVar i) ty tv) ρ k Z := fun L0 H0 L H σ D S nx _ _ _ =>
  h L0 H0 L H σ S _ fun v d k1 H1 S1 ee t g => by
    refine ⟨_, S1.slots i _ h0, g L0 H0 L H1 σ S1 _ fun u x k2 H2 S2 ee2 t2 g2 => ?_⟩
    obtain ⟨key, hk, hz, q⟩ := g2
    obtain ⟨oth, ⟨xs, f3, f4⟩, cp⟩ := S2.wd
    obtain ⟨b, rfl⟩ := tup_ref t2 hk
    refine ⟨l, _, rfl, .inr ⟨_, xs, _, key, b, f3, f4, rfl, keyY_of t2 hk, Nat.lt_of_le_of_lt (show xs.length ≤ 99999 by rw [f4.len]; omega) (by decide), rfl⟩, ?_⟩
    have eM' : Ext M H2 (upd H2 l (DN P w l (putNV xs key b v))) := Ext.put hl
    have eN : Ext (L ++ M) H2 (upd H2 l (DN P w l (putNV xs key b v))) := Ext.put (List.mem_append_right _ hl)
    exact nx _ _ _ _ _ (S2.ext eM' ⟨fun b hb nb => by rw [upd_ne nb]; exact oth b hb nb, ⟨_, upd_same, (f4.put hk.2.1 hk.2.2 t2 (t.ext (eM (M := M) ee2))).map fun _ _ t => t.ext eN⟩, fun p hp => (cp p hp).ext eN⟩) q
/-- x = {} -/
theorem sw_newN {Z : Ps γ} (q : Z.nx (ρ.set i (.ownN (DN P w) [])) k) : SW K W (tAsg (tDNewN P w) (gName i)) ρ k Z := fun L0 H0 L H σ D S nx _ _ _ =>
  fun p hp => nx _ _ _ _ _ (S.setOwn i (s0 := .ownN (DN P w) []) rfl hp ⟨p, [], rfl, by simp, upd_same, .nil⟩) q
end
/-! ### a def whose code object is known (it makes inner defs) -/
structure FunC (K : PySem.W.Frag) (x qual : Str) (st : Stmt) (f : Addr) (fd : FuncData) (c : Addr) : Prop where
  ex : ∃ (oc kV doc pm ct : Value) (od an : Option Addr) (osl : Array (Option Value)), fd = PySem.W.fnOf x qual (defArgs st) (defBody st) (defScope st) .none kV doc pm an (.ref c) ct ∧ K.lookup f = some ⟨oc, od, .func fd, osl⟩ ∧ PySem.W.codeIn K (.ref c) qual = true
theorem FunC.ok {P : Program} {w : World} {K : PySem.W.Frag} {mg : Str → Option Value} {base : Heap} {x qual : Str} {st : Stmt} {f c : Addr} {fd : FuncData} {N ps : List Str} {k : Nat} {sp : Sp} (F : FunC K x qual st f fd c) (S : FnScope N ps (defScope st)) (len : ∀ vs H Q E, sp vs H Q E → vs.length = ps.length)
    (hbody : ∀ (A : Around) (outer : List Env) (s : Shared) (H : Hp) (vs : List V) (Q : VK) (E : XK), Room k (A.deeper (envOfC qual (defScope st) s.heap.objs.size f (.ref c))) → sp vs H Q E →
      ∃ t, PSs (cxOf L2.CX0 P w K mg base N qual (defScope st) f (.ref c) A outer s H E) (defBody st) t ∧ t { nx := fun _ H' => Q .non H', rt := Q } (L2.start N vs) H) : FnOk P w K mg base L2.CX0 (k + 1) f fd ps sp := by
  obtain ⟨oc, kV, doc, pm, ct, od, an, osl, rfl, lk, hcd⟩ := F.ex
  exact fn_of lk hcd S len hbody
/-- an inner def by its body; vs: the arguments and what is captured -/
theorem innerOk {P : Program} {w : World} {K : PySem.W.Frag} {mg : Str → Option Value} {base : Heap} {F : NF} {f : Addr} {N ps fr : List Str} {k : Nat} {sp : Sp} (S : NScope N ps fr F.scope)
    (hb : ∀ (doc pm ctv : Value) (us : List Value), us.length = ps.length → bindArgs (F.fd doc pm ctv) ⟨us, []⟩ = pure (ps.zip us))
    (hbody : ∀ (A : Around) (outer : List Env) (s : Shared) (H : Hp) (vs : List V) (Q : VK) (E : XK), Room k (A.deeper (envF F f s.heap.objs.size)) → sp vs H Q E →
      ∃ t, PSs (ncx L2.CX0 P w K mg base N F f A outer s H E) F.body t ∧ t { nx := fun _ H' => Q .non H', rt := Q } (L2.start N vs) H) : NOk P w K mg base L2.CX0 (k + 1) f F ps fr (spN ps.length sp) := by
  refine nok_of S hb (fun ws vs H Q E h => h.1) fun A outer s H vs ws Q E hr _ _ _ h => ?_
  obtain ⟨_, us, rfl, h⟩ := h
  obtain ⟨t, h1, h2⟩ := hbody A outer s H (vs ++ us) Q E hr h
  exact ⟨t, h1, by rw [startF_eq]; exact h2⟩
theorem room9 {k : Nat} {A : Around} (r : Room k A) : A.units + 9 < cLine := by
  have := r.units
  omega
def posOf : Stmt → Pos
  | .FunctionDef _ _ _ _ _ _ _ _ _ p => p
  | _ => ⟨0, 0, 0, 0⟩
/-- a module's text -/
theorem pe_gs {X : Cx} {x z : Str} {pos : Pos} (hg : Gl X x) (h : ∃ t, X.mg x = some (.str z t)) (hd : (x == ("__debug__" : Str)) = false := by decide) : PE X (.Name x pos) (tC (.str z)) := by
  obtain ⟨t, e⟩ := h
  exact pe_glob hg e ⟨t, rfl⟩ hd
/-! ### x = [d] * n, a list of its own -/
theorem flat_rep {α : Type} (v : α) : ∀ n : Nat, (List.replicate n [v]).flatten = List.replicate n v
  | 0 => rfl
  | n + 1 => by rw [List.replicate_succ, List.flatten_cons, flat_rep v n, List.replicate_succ]; rfl
theorem TA.rep {K : PySem.W.Frag} {N : List Addr} {H : Hp} {v : V} {d : PyData} (t : T K N H v d) : ∀ n : Nat, TA K N H (List.replicate n v) (List.replicate n d)
  | 0 => .nil
  | n + 1 => by rw [List.replicate_succ, List.replicate_succ]; exact .cons t (TA.rep t n)
section
variable {K : PySem.W.Frag} {γ : Type} {W : Wd γ} {ρ : Rho} {k : γ} {P : Ps γ} {ta tb : TE} {i : Nat}
theorem sw_ownRep (h : EvW K W ta ρ k fun x k1 => ∃ d, x = .list [d] ∧ EvW K W tb ρ k1 fun y k2 => ∃ n : Nat, y = .int (n : Int) ∧ n ≤ 100000 ∧ P.nx (ρ.set i (.own (List.replicate n d))) k2) : SW K W (tAsg (tOp rRep ta tb) (gName i)) ρ k P := fun L0 H0 L H σ D S nx _ _ _ =>
  h L0 H0 L H σ S _ fun v x k1 H1 S1 e1 t1 g => by
    obtain ⟨d, rfl, g⟩ := g
    refine g L0 H0 L H1 σ S1 _ fun u y k2 H2 S2 e2 t2 g2 => ?_
    obtain ⟨n, rfl, hn, q⟩ := g2
    cases t2
    cases t1.ext (eM e2) with
    | @lst a xs _ na ha ts =>
      obtain ⟨v, rfl, tv⟩ := ts.one_
      refine ⟨a, (n : Int), [v], rfl, rfl, ha, by omega, by omega, ?_, fun p hp => ?_⟩
      · show 1 * (n : Int).toNat ≤ sizeLine
        rw [Int.toNat_natCast, Nat.one_mul]
        exact Nat.le_trans hn (by decide)
      · rw [Int.toNat_natCast, flat_rep]
        exact nx _ _ _ _ _ (S2.setOwn i (s0 := .own (List.replicate n d)) rfl hp ⟨p, _, rfl, by simp, upd_same, ((TA.rep tv n).plus hp).ext (Ext.put (by simp))⟩) q
end
end U

set_option Elab.async false
set_option linter.all false
set_option maxRecDepth 100000
set_option maxHeartbeats 2000000
namespace U
open PySem PySem.Spec PyProof.Rows L2
/-! ### z[::-1], xs[::-1] -/
def revS (z : Str) : Str := ⟨((List.range z.length).map fun k => z.cps.getD (z.length - 1 - k) 0).toArray⟩
def tRevS (te : TE) : TE := fun σ H Q => te σ H fun x H1 => ∃ z, x = .str z ∧ z.length ≤ sizeLine ∧ Q (.str (revS z)) H1
section
variable {X : Cx}
theorem pe_revS {te : TE} {e : Expr} {k : Nat} {p1 p2 p3 pos : Pos} (pe : PE X e te) : PE X (.Subscript e (.Slice none none (some (.UnaryOp .USub (.Constant (.int 1) k p1) p2)) p3) pos) (tRevS te) := by
  have hst : PO X (some (.UnaryOp .USub (.Constant (.int 1) k p1) p2)) (tPart (tUn (rU fun i => .int (-i)) (tC (.int 1)))) := po_some (pe_un un_neg pe_int)
  refine ⟨fun pins s σ H Q I hz => Subscript_ (thn (pe.run pins s σ H _ I hz) fun u0 s1 ⟨y, H1, I1, ry, got⟩ => ?_)⟩
  obtain ⟨z, rfl, hz, q⟩ := got
  obtain ⟨t, rfl⟩ := ry
  refine wpAny_Slice (thn (po_none.run pins s1 σ H1 (fun x F => x = none ∧ F = H1) I1 ⟨rfl, rfl⟩) fun vl s2 ⟨o2, H2, I2, pl, eo, eH⟩ => ?_)
  subst eo eH
  refine thn (po_none.run pins s2 σ H2 (fun x F => x = none ∧ F = H2) I2 ⟨rfl, rfl⟩) fun vu s3 ⟨o3, H3, I3, pu, eo, eH⟩ => ?_
  subst eo eH
  refine thn (hst.run pins s3 σ H3 (fun x F => x = some (-1) ∧ F = H3) I3 ⟨1, rfl, -1, rfl, rfl, rfl⟩) fun vs s4 ⟨o4, H4, I4, ps, eo, eH⟩ => ?_
  subst eo eH
  obtain ⟨l1, rfl, hl1⟩ := IsPart.raw pl
  obtain ⟨u1, rfl, hu1⟩ := IsPart.raw pu
  obtain ⟨w1, rfl, hw1⟩ := IsPart.raw ps
  cases l1 with
  | some q => cases hl1
  | none =>
  cases u1 with
  | some q => cases hu1
  | none =>
  cases w1 with
  | none => cases hw1
  | some q =>
  obtain ⟨n, tk⟩ := q
  have hn : n = -1 := by
    have : some n = some (-1 : Int) := hw1
    injection this
  subst hn
  have I5 : Inv X pins σ H4 { s4 with heap := s4.heap.push { cls := .type "slice", data := .fields #[partValue none, partValue none, partValue (some (-1, tk))] } } := I4.kept (t' := s4.toks) fun b ob q => Heap.get?_push_of_some _ q
  refine tail_any (ops := [.str z t, .ref s4.heap.objs.size]) (T := "str") (typeIs_str _ _ _) (PySem.F.slot_str_getitem.lookup) ?_ (by with_unfolding_all rfl)
  refine wpAny_getItem_str_slice (l := none) (u := none) (st := some (-1, tk)) ⟨_, Heap.get?_push_size _ rfl, rfl, rfl⟩ rfl ?_
  have e : Txt.sliceBy z none none (-1, tk) = revS z := by
    have h := step_rev_list z tk
    generalize Txt.sliceBy z none none (-1, tk) = y at h
    obtain ⟨⟨cs⟩⟩ := y
    show Str.mk _ = Str.mk _
    rw [← h]
  have len : (revS z).length ≤ sizeLine := by
    show (List.toArray _).size ≤ _
    rw [List.size_toArray, List.length_map, List.length_range]
    exact hz
  unfold Txt.sliceBy at e
  unfold sliceMade
  rw [if_neg (by simp)] at e ⊢
  rw [e]
  exact ⟨len, .str _, H4, I5.tok _, ⟨_, rfl⟩, q⟩
end
section
variable {K : PySem.W.Frag} {γ : Type} {W : Wd γ} {ρ : Rho} {k : γ} {Φ : PyData → γ → Prop} {te ta tb : TE} {N : List Addr} {H : Hp}
theorem kRevL (K : PySem.W.Frag) {X : Cx} {e : Expr} {te : TE} {k : Nat} {p1 p2 p3 pos : Pos} (he : PE X e te) (h : X.K = K := by rfl) : PE X (.Subscript e (.Slice none none (some (.UnaryOp .USub (.Constant (.int 1) k p1) p2)) p3) pos) (tRevL K te) := by subst h; exact pe_revL he
theorem kIndexL (K : PySem.W.Frag) {X : Cx} {e : Expr} {to : TE} {ts : L2.TA} (p : PE X e (tBM X.K "list" (rIndex X.K) to ts)) (h : X.K = K := by rfl) : PE X e (tBM K "list" (rIndex K) to ts) := by subst h; exact p
theorem revS_txt (ws : List Nat) : revS (txt ws) = txt ws.reverse := by
  unfold revS txt
  congr 1
  apply congrArg List.toArray
  apply List.ext_getElem?
  intro i
  by_cases h : i < ws.length
  · have hl : (Str.mk (List.map (fun x => 97 + x) ws).toArray).length = ws.length := by simp [Str.length]
    rw [hl]
    have hi : ws.length - 1 - i < ws.length := by omega
    simp [h, hi, List.getElem?_reverse]
  · have hl : (Str.mk (List.map (fun x => 97 + x) ws).toArray).length = ws.length := by simp [Str.length]
    rw [hl]
    simp [h]
theorem ev_revX (h : EvW K W te ρ k fun d k1 => ∃ ws : List Nat, d = .str (txt ws) ∧ ws.length ≤ 100000 ∧ Φ (.str (txt ws.reverse)) k1) : EvW K W (tRevS te) ρ k Φ := fun L0 H0 L H σ S Q c =>
  h L0 H0 L H σ S _ fun v x k1 H1 S1 e1 t1 g => by
    obtain ⟨ws, rfl, hz, q⟩ := g
    cases t1
    refine ⟨_, rfl, by rw [txt_len]; exact Nat.le_trans hz (by decide), ?_⟩
    rw [revS_txt]
    exact c _ _ k1 H1 S1 e1 (.str _) q
theorem TA.rev : ∀ {vs : List V} {ds : List PyData}, TA K N H vs ds → TA K N H vs.reverse ds.reverse
  | _, _, .nil => .nil
  | _, _, .cons h t => by
    rw [List.reverse_cons, List.reverse_cons]
    exact t.rev.app (.cons h .nil)
theorem ev_revL (h : EvW K W te ρ k fun d k1 => ∃ ds, d = .list ds ∧ Φ (.list ds.reverse) k1) : EvW K W (tRevL K te) ρ k Φ := fun L0 H0 L H σ S Q c =>
  h L0 H0 L H σ S _ fun v x k1 H1 S1 e1 t1 g => by
    obtain ⟨ds, rfl, q⟩ := g
    cases t1 with
    | @lst a xs _ n ha t =>
      refine ⟨a, xs, rfl, SqL.of ha, newL S1.trk t.rev fun p H' hp s _ _ t' => c _ _ k1 H' (S1.same s) (e1.trans (Ext.same s)) t' q⟩
/-- a list of one's own from behind -/
theorem ev_ownLast {i : Nat} {ds : List PyData} {d : PyData} (h : ρ[i]? = some (.own ds)) (hd : ds.getLast? = some d) (q : Φ d k) : EvW K W (tOp (rIxL K) (tVar i) (tUn (rU fun i => .int (-i)) (tC (.int 1)))) ρ k Φ := fun L0 H0 L H σ S Q c => by
  obtain ⟨l, xs, h1, h3, h4⟩ := S.own_at h
  have hl := h4.len
  rw [List.getLast?_eq_getElem?] at hd
  obtain ⟨v, e, t⟩ := h4.at hd
  have h0 : 0 < ds.length := by
    have := (List.getElem?_eq_some_iff.mp hd).1
    omega
  refine ⟨_, h1, 1, rfl, _, _, _, v, rfl, rfl, SqL.of h3, ?_, c v d k H S (Ext.refl _ _) t q⟩
  unfold atI
  rw [hl]
  have : ixN ds.length (-1) = some (ds.length - 1) := by
    unfold ixN
    rw [if_neg (by decide), if_pos (by omega)]
    congr 1
    omega
  rw [this]
  exact e
/-- xs.index(int), int in xs -/
theorem eqV_int (a b : Int) : eqV (.int a) (.int b) = decide (a = b) := by
  show (a == b) = _
  by_cases e : a = b <;> simp [e]
theorem flat_ints : ∀ l : List Int, (l.map V.int).all flatV = true
  | [] => rfl
  | _ :: xs => by rw [List.map_cons, List.all_cons, flat_ints xs]; rfl
theorem ev_lindex (h : EvW K W ta ρ k fun d k1 => ∃ ns : List Int, d = .list (ns.map .int) ∧ EvW K W tb ρ k1 fun e k2 => ∃ (i : Int) (j : Nat), e = .int i ∧ ns[j]? = some i ∧ (∀ m, m < j → ns[m]? ≠ some i) ∧ Φ (.int (j : Int)) k2) :
    EvW K W (tBM K "list" (rIndex K) ta (tCons tb tNil)) ρ k Φ := fun L0 H0 L H σ S Q c =>
  h L0 H0 L H σ S _ fun v x k1 H1 S1 e1 t1 g => by
    obtain ⟨ns, rfl, g⟩ := g
    cases t1 with
    | @lst a xs _ n ha t =>
      have e := t.ints_
      subst e
      refine ⟨.inl ⟨rfl, _, SqL.of ha⟩, g L0 H0 L H1 σ S1 _ fun u y k2 H2 S2 e2 t2 g2 => ?_⟩
      obtain ⟨i, j, rfl, hj, hm, q⟩ := g2
      cases t2
      have ha2 := e2 a _ (fun hz => n (List.mem_append_right _ hz)) ha
      refine ⟨a, ns.map V.int, .int i, j, .int i, rfl, rfl, SqL.of ha2, rfl, flat_ints _, by rw [List.getElem?_map, hj]; rfl, by rw [eqV_int]; simp, fun m z hmj hz => ?_, c _ _ k2 H2 S2 (e1.trans e2) (.int _) q⟩
      rw [List.getElem?_map] at hz
      obtain ⟨b, hb, rfl⟩ := Option.map_eq_some_iff.mp hz
      rw [eqV_int]
      refine decide_eq_false fun hbi => hm m hmj ?_
      rw [hb, hbi]
theorem inV_int (z : Int) : ∀ l : List Int, inV (.int z) (l.map V.int) = decide (z ∈ l)
  | [] => by simp [inV]
  | x :: xs => by
    have ih := inV_int z xs
    unfold inV at ih ⊢
    rw [List.map_cons, List.any_cons, ih, eqV_int]
    by_cases e : x = z
    · subst e; simp
    · have e2 : ¬ z = x := fun q => e q.symm
      simp [e, e2]
theorem rd_inIntsL {z : Int} {l : List Int} (q : Φ (.bool (decide (z ∈ l))) k) : RD K W (rIn K false) (.int z) (.list (l.map .int)) ρ k Φ := rd_ q fun N H vx vy tx ty Q c => by
  cases tx
  cases ty with
  | lst n ha t =>
    have e := t.ints_
    subst e
    exact ⟨_, _, rfl, .inl (SqL.of ha), rfl, flat_ints l, by simp only [Bool.false_eq_true, if_false]; rw [inV_int]; exact c _ (.bl _)⟩
mutual
theorem T.dp : ∀ {d : PyData} {v : V}, d.canLay0 = true → T K N H v d → Dp K H v d
  | .none, _, _, t => by cases t; exact .non
  | .bool b, _, _, t => by cases t; exact .bl b
  | .int b, _, _, t => by cases t; exact .int b
  | .str b, _, _, t => by cases t; exact .str b
  | .list ds, _, h, t => by
    cases t with
    | lst n ha t => exact .lst (SqL.of ha) (TA.dp (by simpa [PyData.canLay0] using h) t)
  | .tuple ds, _, h, t => by
    cases t with
    | tup n ha t => exact .tup (SqT.of ha) (TA.dp (by simpa [PyData.canLay0] using h) t)
  | .dict es, _, h, _ => by simp [PyData.canLay0] at h
theorem TA.dp : ∀ {ds : List PyData} {vs : List V}, PyData.canLayAll0 ds = true → TA K N H vs ds → DpAll K H vs ds
  | [], _, _, t => by cases t; exact .nil
  | d :: ds, _, h, t => by
    have h' : d.canLay0 = true ∧ PyData.canLayAll0 ds = true := by simpa [PyData.canLayAll0] using h
    cases t with
    | cons t1 t2 => exact .cons (T.dp h'.1 t1) (TA.dp h'.2 t2)
end
theorem rd_neSame {x : PyData} (h : SeqAt.shaped x = true) (q : Φ (.bool false) k) : RD K W (rNeD K) x x ρ k Φ := rd_ q fun N H vx vy tx ty Q c => by
  have h1 := SeqAt.canLay_of_shaped h
  refine ⟨x, x, tx.dp h1, ty.dp h1, h, h, ?_⟩
  rw [SeqAt.eqv_refl x h1]
  exact c _ (.bl _)
end
end U

set_option Elab.async false
set_option linter.all false
set_option maxRecDepth 100000
set_option maxHeartbeats 2000000
namespace U
open PySem PySem.Spec PyProof.Rows L2
/-! ### a list of lists of one's own: back = [[] for _ in xs], back[i].append(x) -/
section
variable {K : PySem.W.Frag} {γ : Type} {W : Wd γ} {L0 L1 L L' N N' : List Addr} {H0 H1 H2 H H' : Hp} {σ σ' : L2.St} {ρ ρ' : Rho} {k k' : γ} {v : V} {d : PyData} {o : Option (Option V)}
theorem SlotOk.off (sub : ∀ b ∈ N', b ∈ N) {s : Slot} (q : SlotOk K N L H o s) : SlotOk K N' L H o s := by
  cases s with
  | no => trivial
  | dat d =>
    obtain ⟨v, h1, h2⟩ := q
    exact ⟨v, h1, h2.off sub⟩
  | own ds =>
    obtain ⟨l, xs, h1, h2, h3, h4⟩ := q
    exact ⟨l, xs, h1, h2, h3, h4.off sub⟩
  | ownD kvs =>
    obtain ⟨l, xs, h1, h2, h3, h4⟩ := q
    exact ⟨l, xs, h1, h2, h3, h4.map fun _ _ t => t.off sub⟩
  | lck kvs =>
    obtain ⟨l, xs, od, h1, h2, h3, h4⟩ := q
    exact ⟨l, xs, od, h1, h2, h3, h4.map fun _ _ t => t.off sub⟩
  | raw v => exact q
  | fn F =>
    obtain ⟨f, c, h1, h2, h3, h4, h5⟩ := q
    exact ⟨f, c, h1, fun z => h2 (sub _ z), fun z => h3 (sub _ z), h4, h5⟩
  | ownN D kvs =>
    obtain ⟨l, xs, h1, h2, h3, h4⟩ := q
    exact ⟨l, xs, h1, h2, h3, h4.map fun _ _ t => t.off sub⟩
theorem SlotOk.up (su : ∀ b ∈ N', b ∈ N ∨ H b = none) (e : Same H H') {s : Slot} (q : SlotOk K N L H o s) : SlotOk K N' L H' o s := by
  have tt : ∀ v d, T K N H v d → T K N' H' v d := fun v d t => (t.plusAll su).same e
  cases s with
  | no => trivial
  | dat d =>
    obtain ⟨v, h1, h2⟩ := q
    exact ⟨v, h1, tt _ _ h2⟩
  | own ds =>
    obtain ⟨l, xs, h1, h2, h3, h4⟩ := q
    exact ⟨l, xs, h1, h2, e _ _ h3, h4.mapT tt⟩
  | ownD kvs =>
    obtain ⟨l, xs, h1, h2, h3, h4⟩ := q
    exact ⟨l, xs, h1, h2, e _ _ h3, h4.map tt⟩
  | lck kvs =>
    obtain ⟨l, xs, od, h1, h2, h3, h4⟩ := q
    exact ⟨l, xs, od, h1, h2, e _ _ h3, h4.map tt⟩
  | raw v => exact q
  | fn F =>
    obtain ⟨f, c, h1, h2, h3, h4, h5⟩ := q
    exact ⟨f, c, h1, fun z => (su _ z).elim h2 (fun y => by rw [h4] at y; cases y), fun z => (su _ z).elim h3 (fun y => by rw [h5] at y; cases y), e _ _ h4, e _ _ h5⟩
  | ownN D kvs =>
    obtain ⟨l, xs, h1, h2, h3, h4⟩ := q
    exact ⟨l, xs, h1, h2, e _ _ h3, h4.map tt⟩
structure LLat (K : PySem.W.Frag) (N : List Addr) (H : Hp) (l : Addr) (as : List Addr) (dss : List (List PyData)) : Prop where
  top : H l = some (.lst (as.map V.ref))
  len : as.length = dss.length
  row : ∀ (i : Nat) (a : Addr) (ds : List PyData), as[i]? = some a → dss[i]? = some ds → ∃ xs, H a = some (.lst xs) ∧ TA K N H xs ds
theorem LLat.some_ {l : Addr} {as : List Addr} {dss : List (List PyData)} (h : LLat K N H l as dss) : ∀ b ∈ l :: as, H b ≠ none := fun b hb z => by
  rcases List.mem_cons.mp hb with rfl | hb
  · rw [h.top] at z; cases z
  · obtain ⟨i, hi, e⟩ := List.mem_iff_getElem.mp hb
    have hd : i < dss.length := by rw [← h.len]; exact hi
    obtain ⟨xs, hx, _⟩ := h.row i b dss[i] (by rw [List.getElem?_eq_getElem hi, e]) (List.getElem?_eq_getElem hd)
    rw [hx] at z; cases z
structure LLok (W : Wd γ) (l : Addr) (as : List Addr) : Prop where
  nd : (l :: as).Nodup
  off : ∀ b ∈ l :: as, b ∉ W.M
def llW (K : PySem.W.Frag) {γ : Type} (W : Wd γ) (l : Addr) (as : List Addr) : Wd (γ × List (List PyData)) where
  M := (l :: as) ++ W.M
  I := fun k N H => W.I k.1 N H ∧ LLat K N H l as k.2
  loc := fun k N H H' e x ⟨h1, h2⟩ => ⟨W.loc k.1 N H H' (fun b hb => e b (List.mem_append_right _ hb)) x h1, ⟨(e l (by simp)).trans h2.top, h2.len, fun i a ds ha hd => by
    obtain ⟨xs, g1, g2⟩ := h2.row i a ds ha hd
    exact ⟨xs, (e a (by simp [List.mem_of_getElem? ha])).trans g1, g2.ext x⟩⟩⟩
  plus := fun k N N' H s m ⟨h1, h2⟩ => ⟨W.plus k.1 N N' H s (fun b hb => m b (List.mem_append_right _ hb)) h1, ⟨h2.top, h2.len, fun i a ds ha hd => by
    obtain ⟨xs, g1, g2⟩ := h2.row i a ds ha hd
    exact ⟨xs, g1, g2.plusAll s⟩⟩⟩
  trk := fun k N H ⟨h1, h2⟩ b hb => by
    rcases List.mem_append.mp hb with hb | hb
    · exact h2.some_ b hb
    · exact W.trk k.1 N H h1 b hb
/-- into the world of the list of lists -/
theorem Stt.enterLL (S : Stt K W L0 H0 L H1 σ ρ k) {l : Addr} {as : List Addr} {dss : List (List PyData)} (new : ∀ b ∈ l :: as, H1 b = none) (sm : Same H1 H2) (at_ : ∀ N, LLat K N H2 l as dss) : Stt K (llW K W l as) L H2 L H2 σ ρ (k, dss) := by
  have su : ∀ b ∈ L ++ ((l :: as) ++ W.M), b ∈ L ++ W.M ∨ H1 b = none := fun b hb => by
    rcases List.mem_append.mp hb with hb | hb
    · exact .inl (List.mem_append_left _ hb)
    · rcases List.mem_append.mp hb with hb | hb
      · exact .inr (new b hb)
      · exact .inl (List.mem_append_right _ hb)
  have S2 := S.same sm
  refine ⟨Ext.refl _ _, fun _ h => .inl h, fun b hb z => ?_, fun b hb => ?_, ⟨?_, at_ _⟩, S.len, fun j s hs => (S.slots j s hs).up su sm, S.dis⟩
  · rcases List.mem_append.mp z with z | z
    · exact S.trk b (List.mem_append_left _ hb) (new b z)
    · exact S.offM b hb z
  · rcases List.mem_append.mp hb with hb | hb
    · exact S2.trk b (List.mem_append_left _ hb)
    · rcases List.mem_append.mp hb with hb | hb
      · exact (at_ []).some_ b hb
      · exact S2.trk b (List.mem_append_right _ hb)
  · have w1 : W.I k (L ++ ((l :: as) ++ W.M)) H1 := W.plus k _ _ H1 su (fun b hb => List.mem_append_right _ (List.mem_append_right _ hb)) S.wd
    refine W.loc k _ H1 H2 (fun b hb => ?_) (Ext.same sm) w1
    cases q : H1 b with
    | none => exact absurd q (S.trk b (List.mem_append_right _ hb))
    | some o => exact sm b o q
/-- .. and out of it -/
theorem Stt.leaveLL {l : Addr} {as : List Addr} {i : Nat} {kk : γ × List (List PyData)} (ok : LLok W l as) (new : ∀ b ∈ l :: as, H1 b = none) (sm : Same H1 H2) (S : Stt K (llW K W l as) L H2 L' H' σ' ρ' kk) (hi : ρ'[i]? = some (.raw (.ref l))) :
    Stt K W L H1 L' H' σ' (ρ'.set i (.dat (.list (kk.2.map PyData.list)))) kk.1 := by
  have sub : ∀ b ∈ L' ++ W.M, b ∈ L' ++ (llW K W l as).M := fun b hb => by
    rcases List.mem_append.mp hb with hb | hb
    · exact List.mem_append_left _ hb
    · exact List.mem_append_right _ (List.mem_append_right _ hb)
  obtain ⟨w1, at_⟩ := S.wd
  have offL : ∀ b ∈ l :: as, b ∉ L' ++ W.M := fun b hb z => by
    rcases List.mem_append.mp z with z | z
    · exact S.offM b z (List.mem_append_left _ hb)
    · exact ok.off b hb z
  refine ⟨fun b o nb hb => ?_, fun b hb => ?_, fun b hb z => S.offM b hb (List.mem_append_right _ z), fun b hb => S.trk b (sub b hb), W.plus _ _ _ _ (fun b hb => .inl (sub b hb)) (fun b hb => List.mem_append_right _ hb) w1, by rw [List.length_set]; exact S.len, fun j s hs => ?_, fun j t s s' hs ht h1 h2 h3 => ?_⟩
  · refine S.base b o (fun z => ?_) (sm b o hb)
    rcases List.mem_append.mp z with z | z
    · exact nb (List.mem_append_left _ z)
    · rcases List.mem_append.mp z with z | z
      · rw [new b z] at hb; cases hb
      · exact nb (List.mem_append_right _ z)
  · rcases S.fresh b hb with h | h
    · exact .inl h
    · refine .inr ?_
      cases q : H1 b with
      | none => rfl
      | some o => rw [sm b o q] at h; cases h
  · by_cases e : i = j
    · subst e
      have il : i < ρ'.length := (List.getElem?_eq_some_iff.mp hi).1
      rw [List.getElem?_set_self il] at hs
      cases hs
      have h0 : σ'[i]? = some (some (.ref l)) := S.slots i _ hi
      refine ⟨.ref l, h0, .lst (offL l (by simp)) at_.top ?_⟩
      have gen : ∀ (bs : List Addr) (dss : List (List PyData)), bs.length = dss.length → (∀ (i : Nat) (a : Addr) (ds : List PyData), bs[i]? = some a → dss[i]? = some ds → T K (L' ++ W.M) H' (.ref a) (.list ds)) → TA K (L' ++ W.M) H' (bs.map V.ref) (dss.map PyData.list) := by
        intro bs
        induction bs with
        | nil =>
          intro dss hl _
          cases dss with
          | nil => exact .nil
          | cons => cases hl
        | cons b bs ih =>
          intro dss hl f
          cases dss with
          | nil => cases hl
          | cons ds dss => exact .cons (f 0 b ds rfl rfl) (ih dss (by simpa using hl) fun i a d h1 h2 => f (i + 1) a d (by simpa using h1) (by simpa using h2))
      refine gen as kk.2 at_.len fun t a ds ha hd => ?_
      obtain ⟨xs, g1, g2⟩ := at_.row t a ds ha hd
      exact .lst (offL a (by simp [List.mem_of_getElem? ha])) g1 (g2.off sub)
    · rw [List.getElem?_set_ne e] at hs
      exact (S.slots j s hs).off sub
  · have own_ : ∀ (j : Nat) (s : Slot), (ρ'.set i (.dat (.list (kk.2.map PyData.list))))[j]? = some s → s.isOwn = true → ρ'[j]? = some s := fun j s hs hh => by
      by_cases e : i = j
      · subst e
        rw [List.getElem?_set_self (List.getElem?_eq_some_iff.mp hi).1] at hs
        cases hs
        cases hh
      · rw [List.getElem?_set_ne e] at hs
        exact hs
    exact S.dis j t s s' (own_ j s hs h1) (own_ t s' ht h2) h1 h2 h3
variable {wi : TI} {g : TG} {vs : List Nat} {i : Nat} {body rest : TS} {P : Ps γ}
theorem sw_ll (h : EvI K W wi ρ k fun n f k1 => n ≤ 100000 ∧ (∀ j, j < n → TgW K W g (fun i => i ∈ vs) (f j) (wipeR ρ vs) fun _ => True) ∧ i < ρ.length ∧ ∀ (l : Addr) (as : List Addr), LLok W l as → as.length = n →
      SW K (llW K W l as) body (ρ.set i (.raw (.ref l))) (k1, List.replicate n []) ⟨fun ρ' k' => ρ'[i]? = some (.raw (.ref l)) ∧ SW K W rest (ρ'.set i (.dat (.list (k'.2.map PyData.list)))) k'.1 P, fun _ _ => False, fun _ _ => False, fun _ _ => False⟩) :
    SW K W (tSeq (tAsg (tLc wi g tYes (tLst tNil) vs) (gName i)) (tSeq body rest)) ρ k P := fun L0 H0 L H σ D S nx rt bk ct =>
  h L0 H0 L H σ S _ fun J n f k1 H1 S1 e wd q => by
    obtain ⟨hn, tg, hil, q⟩ := q
    intro A hA
    have later : ∀ H2, Same H1 H2 → Later W L H1 L H2 := fun H2 sm => ⟨Ext.same sm, fun l hl => .inl hl, S1.trk.same sm⟩
    refine ⟨fun j m H2 => m = n - j ∧ j ≤ n ∧ Same H1 H2 ∧ ∃ as : List Addr, as.length = j ∧ (A :: as).Nodup ∧ (∀ b ∈ A :: as, H1 b = none) ∧ H2 A = some (.lst (as.map V.ref)) ∧ ∀ b ∈ as, H2 b = some (.lst []),
      ⟨n, rfl, Nat.zero_le _, Same.new hA, [], rfl, by simp, by simp [hA], upd_same, fun _ h => nomatch h⟩, ?_⟩
    rintro j m H2 ⟨rfl, hj, sm, as, hl, nd, new, hA2, has⟩
    by_cases hlt : j < n
    · refine .inr ⟨wd.goes j _ H2 hlt (later H2 sm), fun H' => Same H1 H' ∧ ∃ as : List Addr, as.length = j + 1 ∧ (A :: as).Nodup ∧ (∀ b ∈ A :: as, H1 b = none) ∧ H' A = some (.lst (as.map V.ref)) ∧ ∀ b ∈ as, H' b = some (.lst []),
        fun H' ⟨a1, as, a2⟩ => ⟨n - (j + 1), by omega, rfl, hlt, a1, as, a2⟩, fun x H' y => ?_⟩
      obtain ⟨sm2, tx⟩ := wd.yields j _ H2 x H' hlt (later H2 sm) y
      have S3 := (S1.same sm).same sm2
      refine tg j hlt L0 H0 L H' _ k1 x (S3.wipe vs) tx _ fun σ3 ρ3 S4 hl4 ag _ => ⟨wipe_of hl4 ag, ?_⟩
      show ([] : List V).length ≤ sizeLine ∧ _
      refine ⟨Nat.zero_le _, fun a ha => ?_⟩
      have hA3 : H' A = some (.lst (as.map V.ref)) := sm2 _ _ hA2
      have aA : A ≠ a := ne_of_none hA3 ha
      have anew : H1 a = none := by
        cases q : H1 a with
        | none => rfl
        | some o => rw [sm2 _ _ (sm a o q)] at ha; cases ha
      have aas : a ∉ as := fun z => by
        have := sm2 _ _ (has a z)
        rw [ha] at this; cases this
      refine ⟨as.map V.ref, by rw [upd_ne aA]; exact hA3, ?_, ?_, as ++ [a], by rw [List.length_append, hl]; rfl, ?_, ?_, ?_, ?_⟩
      · rw [List.length_map, hl]
        exact Nat.lt_of_le_of_lt (show j ≤ 100000 by omega) (by decide)
      · intro b o hb
        have b1 : b ≠ A := ne_of_none hb hA
        have b2 : b ≠ a := ne_of_none hb anew
        rw [upd_ne b1, upd_ne b2]
        exact sm2 _ _ (sm b o hb)
      · rw [List.nodup_cons] at nd ⊢
        refine ⟨fun z => ?_, ?_⟩
        · rcases List.mem_append.mp z with z | z
          · exact nd.1 z
          · exact aA (List.mem_singleton.mp z)
        · rw [List.nodup_append]
          exact ⟨nd.2, by simp, fun x hx y hy => by
            rw [List.mem_singleton.mp hy]
            rintro rfl
            exact aas hx⟩
      · intro b hb
        rcases List.mem_cons.mp hb with rfl | hb
        · exact new b (by simp)
        · rcases List.mem_append.mp hb with hb | hb
          · exact new b (by simp [hb])
          · rw [List.mem_singleton.mp hb]; exact anew
      · rw [upd_same, List.map_append]; rfl
      · intro b hb
        have bA : b ≠ A := by
          rintro rfl
          rcases List.mem_append.mp hb with hb | hb
          · exact (List.nodup_cons.mp nd).1 hb
          · exact aA (List.mem_singleton.mp hb)
        rw [upd_ne bA]
        rcases List.mem_append.mp hb with hb2 | hb2
        · have ne : b ≠ a := fun z => aas (by rw [← z]; exact hb2)
          rw [upd_ne ne]
          exact sm2 _ _ (has b hb2)
        · rw [List.mem_singleton.mp hb2, upd_same]
    · have ej : j = n := by omega
      subst ej
      refine .inl ⟨wd.stops _ H2 (later H2 sm), ?_⟩
      have ok : LLok W A as := ⟨nd, fun b hb z => S1.trk b (List.mem_append_right _ z) (new b hb)⟩
      have at_ : ∀ N, LLat K N H2 A as (List.replicate j []) := fun N => ⟨hA2, by rw [hl, List.length_replicate], fun t a ds ha hd => by
        have : ds = [] := List.eq_of_mem_replicate (List.mem_of_getElem? hd)
        subst this
        exact ⟨[], has a (List.mem_of_getElem? ha), .nil⟩⟩
      have S5 := (S1.enterLL (K := K) new sm at_).setRaw (v := .ref A) i
      refine q A as ok hl L H2 L H2 _ _ S5 (fun L' H' σ' ρ' k' S' ⟨hi', hr⟩ => ?_) (fun _ _ _ _ _ _ _ z => z.elim) (fun _ _ _ _ _ _ z => z.elim) (fun _ _ _ _ _ _ z => z.elim)
      exact hr L0 H0 L' H' σ' D (S1.back (Stt.leaveLL ok new sm S' hi')) nx rt bk ct
/-- back[j].append(d) -/
theorem sw_llappend {ti te : TE} {l : Addr} {as : List Addr} {kk : γ × List (List PyData)} {Z : Ps (γ × List (List PyData))} (ok : LLok W l as) (hi : ρ[i]? = some (.raw (.ref l)))
    (h : EvW K (llW K W l as) ti ρ kk fun x k1 => ∃ j : Nat, x = .int (j : Int) ∧ j < as.length ∧ EvW K (llW K W l as) te ρ k1 fun d k2 => (k2.2.getD j []).length < 100000 ∧ Z.nx ρ (k2.1, k2.2.set j (k2.2.getD j [] ++ [d]))) :
    SW K (llW K W l as) (tDrop (tBM K "list" rAppend (tOp (rIxL K) (tVar i) ti) (tCons te tNil))) ρ kk Z := fun L0 H0 L H σ D S nx rt bk ct => by
  have h0 : σ[i]? = some (some (.ref l)) := S.slots i _ hi
  refine ⟨_, h0, h L0 H0 L H σ S _ fun v x k1 H1 S1 e1 t1 g => ?_⟩
  obtain ⟨j, rfl, hj, g⟩ := g
  cases t1
  obtain ⟨_, a1⟩ := S1.wd
  have ha : as[j]? = some as[j] := List.getElem?_eq_getElem hj
  have hrow : ∀ {N : List Addr} {H : Hp} {dss : List (List PyData)}, LLat K N H l as dss → ∃ xs, H as[j] = some (.lst xs) ∧ TA K N H xs (dss.getD j []) := fun {N H dss} a => by
    have jl : j < dss.length := by rw [← a.len]; exact hj
    obtain ⟨xs, g1, g2⟩ := a.row j as[j] dss[j] ha (List.getElem?_eq_getElem jl)
    refine ⟨xs, g1, ?_⟩
    have e : dss.getD j [] = dss[j] := by rw [List.getD_eq_getElem?_getD, List.getElem?_eq_getElem jl]; rfl
    rw [e]; exact g2
  obtain ⟨xs1, b1, _⟩ := hrow a1
  refine ⟨_, _, _, .ref as[j], rfl, rfl, SqL.of a1.top, atI_nat (by rw [List.getElem?_map, ha]; rfl), tyList b1, g L0 H0 L H1 σ S1 _ fun u d k2 H2 S2 e2 t2 q => ?_⟩
  obtain ⟨hl, q⟩ := q
  obtain ⟨w2, a2⟩ := S2.wd
  obtain ⟨xs, b2, b3⟩ := hrow a2
  have mem : as[j] ∈ l :: as := List.mem_cons_of_mem _ (List.getElem_mem hj)
  have memM : as[j] ∈ (llW K W l as).M := List.mem_append_left _ mem
  have nl : l ≠ as[j] := fun z => (List.nodup_cons.mp ok.nd).1 (z ▸ List.getElem_mem hj)
  refine ⟨as[j], xs, u, rfl, rfl, b2, Nat.lt_of_le_of_lt (show xs.length ≤ 99999 by rw [b3.len]; omega) (by decide), ?_⟩
  have ex : Ext (L ++ (llW K W l as).M) H2 (upd H2 as[j] (.lst (xs ++ [u]))) := Ext.put (List.mem_append_right _ memM)
  refine nx _ _ _ _ (k2.1, k2.2.set j (k2.2.getD j [] ++ [d])) (S2.ext (Ext.put memM) ⟨?_, ?_⟩) q
  · refine W.loc k2.1 _ H2 _ (fun b hb => ?_) ex w2
    rw [upd_ne (fun z => ok.off as[j] mem (z ▸ hb))]
  · refine ⟨by rw [upd_ne nl]; exact a2.top, by rw [List.length_set]; exact a2.len, fun t a ds hta hd => ?_⟩
    by_cases e : j = t
    · subst e
      rw [ha] at hta
      have : a = as[j] := (Option.some.inj hta).symm
      subst this
      have jl : j < k2.2.length := by rw [← a2.len]; exact hj
      rw [List.getElem?_set_self jl] at hd
      cases hd
      exact ⟨_, upd_same, (b3.app (.one t2)).ext ex⟩
    · rw [List.getElem?_set_ne e] at hd
      obtain ⟨ys, c1, c2⟩ := a2.row t a ds hta hd
      have na : a ≠ as[j] := fun z => by
        obtain ⟨tl, et⟩ := List.getElem?_eq_some_iff.mp hta
        have pw := List.pairwise_iff_getElem.mp (List.nodup_cons.mp ok.nd).2
        rcases Nat.lt_or_gt_of_ne e with lt | gt
        · exact pw j t hj tl lt (by rw [et, z])
        · exact pw t j tl hj gt (by rw [et, z])
      exact ⟨ys, by rw [upd_ne na]; exact c1, c2.ext ex⟩
end
end U
namespace U
open PySem PySem.Spec PyProof.Rows L2
/-- what is put at each place, in order -/
def backD (es : List (Nat × PyData)) (n : Nat) : List (List PyData) := (List.range n).map fun s => (es.filter fun e => decide (e.1 = s)).map (·.2)
theorem backD_nil (n : Nat) : backD [] n = List.replicate n [] := by
  unfold backD
  apply List.ext_getElem?
  intro i
  by_cases h : i < n
  · simp [h]
  · simp [h]
theorem backD_len (es : List (Nat × PyData)) (n : Nat) : (backD es n).length = n := by simp [backD]
theorem backD_get {es : List (Nat × PyData)} {n t : Nat} (h : t < n) : (backD es n).getD t [] = (es.filter fun e => decide (e.1 = t)).map (·.2) := by
  simp [backD, h]
theorem backD_row {es : List (Nat × PyData)} {n t : Nat} (h : t < n) : ((backD es n).getD t []).length ≤ es.length := by
  rw [backD_get h, List.length_map]
  exact List.length_filter_le _ _
theorem backD_app {es : List (Nat × PyData)} {n t : Nat} {d : PyData} (h : t < n) : (backD es n).set t ((backD es n).getD t [] ++ [d]) = backD (es ++ [(t, d)]) n := by
  rw [backD_get h]
  apply List.ext_getElem?
  intro i
  by_cases e : t = i
  · subst e
    rw [List.getElem?_set_self (by rw [backD_len]; exact h)]
    simp [backD, h]
  · rw [List.getElem?_set_ne e]
    unfold backD
    rw [List.getElem?_map, List.getElem?_map]
    by_cases hi : i < n
    · rw [List.getElem?_range hi]
      simp [e]
    · have : (List.range n)[i]? = none := by simp; omega
      rw [this]
      rfl
end U

set_option Elab.async false
set_option linter.all false
set_option maxRecDepth 100000
set_option maxHeartbeats 2000000
namespace U
open PySem PySem.Spec PyProof.Rows L2
/-! ### zip of two sequences, each a tuple (true) or a list (false) -/
def SqB (K : PySem.W.Frag) : Bool → Hp → Addr → List V → Prop | true => SqT K | false => SqL K
def ObB : Bool → Heap → Addr → Array Value → Prop | true => fun h a its => h.IsTuple a its | false => fun h a its => h.IsList a its
def ItB : Bool → Heap → Addr → Addr → Nat → Prop | true => fun h it a i => h.IsTupleIter it a i | false => fun h it a i => h.IsListIter it a i
def itObj (t : Bool) (a : Addr) : Obj := { cls := .type (match t with | true => "tuple_iterator" | false => "list_iterator"), data := .fields #[.ref a, .int 0 0] }
section
variable {X : Cx} {pins : List (Addr × Obj)} {σ : L2.St} {H : Hp} {s : Shared} {a it : Addr} {xs ys : List V}
theorem seqB (I : Inv X pins σ H s) : ∀ {t : Bool}, SqB X.K t H a xs → ∃ its : List Value, Vals xs its ∧ ObB t s.heap a its.toArray
  | true, h => let ⟨its, r, p, _⟩ := I.tuple h; ⟨its, r, p⟩
  | false, h => let ⟨its, r, p, _⟩ := I.list h; ⟨its, r, p.isList⟩
theorem injB (I : Inv X pins σ H s) : ∀ {t : Bool}, SqB X.K t H a xs → SqB X.K t H a ys → xs = ys
  | true, h, g => I.tuple_inj h g
  | false, h, g => I.list_inj h g
theorem ObB.keep {h h' : Heap} {its : Array Value} (k : ∀ o, h.get? a = some o → h'.get? a = some o) : ∀ {t : Bool}, ObB t h a its → ObB t h' a its
  | true, x => (show h.IsTuple a its from x).at k
  | false, x => (show h.IsList a its from x).at k
theorem ItB.keep {h h' : Heap} {i : Nat} (k : ∀ o, h.get? it = some o → h'.get? it = some o) : ∀ {t : Bool}, ItB t h it a i → ItB t h' it a i
  | true, x => (show h.IsTupleIter it a i from x).at k
  | false, x => (show h.IsListIter it a i from x).at k
theorem ItB.obj {h : Heap} {i : Nat} : ∀ {t : Bool}, ItB t h it a i → ∃ o, h.get? it = some o ∧ ∀ v, o.data ≠ .cell v
  | true, ⟨o, e, _, d⟩ => ⟨o, e, fun v q => by rw [d] at q; cases q⟩
  | false, ⟨o, e, _, d⟩ => ⟨o, e, fun v q => by rw [d] at q; cases q⟩
theorem drawB {prog : Program} {w : World} {A : Around} (hh : A.handled = none) (ne : a ≠ it) (its : Array Value) : ∀ t : Bool, Draws prog w A it [it, a] its.size (fun i v => its[i]? = some v) (fun i h => ItB t h it a i ∧ ObB t h a its)
  | true => Draws.tuple hh it a ne its
  | false => Draws.list hh it a ne its
theorem beginB (a : Addr) (its : Array Value) : ∀ t : Bool, Begins (.ref a) (itObj t a) fun h => ObB t h a its
  | true => begins_tuple a its
  | false => begins_list a its
theorem itB_new {h : Heap} : ∀ {t : Bool}, h.get? it = some (itObj t a) → ItB t h it a 0
  | true, e => ⟨_, e, rfl, rfl⟩
  | false, e => ⟨_, e, rfl, rfl⟩
theorem obB_lt {h : Heap} {its : Array Value} : ∀ {t : Bool}, ObB t h a its → a < h.objs.size
  | true, ⟨_, e, _⟩ => Heap.lt_size e
  | false, ⟨_, e, _⟩ => Heap.lt_size e
end
def sepOf {z TI TO i1 i2 a b : Addr} (D : ZipApart z TI TO i1 i2 a b) : ZipSep2 z TI TO i1 i2 [i1, a] [i2, b] where
  TIz := D.TIz
  TOz := D.TOz
  TITO := D.TITO
  TIi1 := D.TIi1
  mem1 := by simp
  zf1 := by simp [D.i1z.symm, D.l1z.symm]
  Tf1 := by simp [D.TOi1, D.l1TO.symm]
  TIi2 := D.TIi2
  mem2 := by simp
  zf2 := by simp [D.i2z.symm, D.l2z.symm]
  Tf2 := by simp [D.TOi2, D.l2TO.symm]
  sep1_2 := by simp [D.i12, D.l2i1.symm]
  sep2_1 := by simp [D.i12.symm, D.l1i2.symm]
def ItZ (K : PySem.W.Frag) (t1 t2 : Bool) (a b : Addr) : It :=
  ⟨fun i H => ∃ (xs ys : List V) (x y : V), SqB K t1 H a xs ∧ SqB K t2 H b ys ∧ xs[i]? = some x ∧ ys[i]? = some y,
    fun i H v H' => ∃ p x y, v = .ref p ∧ H p = none ∧ H' = upd H p (.tup [x, y]) ∧ (∀ xs, SqB K t1 H a xs → xs[i]? = some x) ∧ ∀ ys, SqB K t2 H b ys → ys[i]? = some y,
    fun i H => ∃ xs ys : List V, SqB K t1 H a xs ∧ SqB K t2 H b ys ∧ i ≤ xs.length ∧ i ≤ ys.length ∧ (i = xs.length ∨ i = ys.length)⟩
theorem turnZ {P : Program} {w : World} {K : PySem.W.Frag} {elts : List Expr} {kk : Nat} {tpos : Pos} {t1 t2 : Bool} {a b z TI TO i1 i2 : Addr} (D : ZipApart z TI TO i1 i2 a b) :
    L2.Turn P w K (.Tuple elts kk tpos) (ItZ K t1 t2 a b) [z, TI, TO, i1, i2] z (fun i h => IsZip h z TI TO .none ∧ IsTupOf2 h TI (.ref i1) (.ref i2) ∧ (∃ x y, IsTupOf2 h TO x y) ∧ ItB t1 h i1 a i ∧ ItB t2 h i2 b i) where
  mem := List.mem_cons_self
  obj := fun i h st c hc => by
    obtain ⟨hz, hTI, ⟨x, y, hTO⟩, h1, h2⟩ := st
    simp only [List.mem_cons, List.not_mem_nil, or_false] at hc
    rcases hc with rfl | rfl | rfl | rfl | rfl
    · exact ⟨_, hz, fun v q => nomatch q⟩
    · exact ⟨_, hTI, fun v q => nomatch q⟩
    · exact ⟨_, hTO, fun v q => nomatch q⟩
    · exact h1.obj
    · exact h2.obj
  keep := fun i h h' st k => by
    obtain ⟨hz, hTI, ⟨x, y, hTO⟩, h1, h2⟩ := st
    exact ⟨k _ (by simp) _ hz, k _ (by simp) _ hTI, ⟨x, y, k _ (by simp) _ hTO⟩, h1.keep fun o q => k _ (by simp) o q, h2.keep fun o q => k _ (by simp) o q⟩
  item := by
    rintro X rfl rfl rfl hc i pins s σ H E I hf ⟨hz, hTI, ⟨x0, y0, hTO⟩, h1, h2⟩ ⟨xs, ys, x, y, qx, qy, ex, ey⟩
    obtain ⟨its, rv, ox⟩ := seqB I qx
    obtain ⟨jts, rw_, oy⟩ := seqB I qy
    obtain ⟨u, hu, ru⟩ := rv.get ex
    obtain ⟨v, hv, rv2⟩ := rw_.get ey
    have zl : z < s.heap.objs.size := Heap.lt_size hz
    have l1 : i < its.toArray.size := by simpa using (List.getElem?_eq_some_iff.mp hu).1
    have l2 : i < jts.toArray.size := by simpa using (List.getElem?_eq_some_iff.mp hv).1
    refine wpAny_pyNext_zipD2_item (sepOf D) (drawB (A := X.A.in1) (I.ok.hd hc) D.l1i1 its.toArray t1) (drawB (A := X.A.in1) (I.ok.hd hc) D.l2i2 jts.toArray t2) hz hTI hTO ⟨h1, ox⟩ ⟨h2, oy⟩ l1 l2 fun u' v' h' tk eu ev nz nTO n1 n2 nT nsz nk => ?_
    have : u' = u := by
      have g : its.toArray[i]? = some u := by simpa using hu
      rw [g] at eu; exact (Option.some.inj eu).symm
    subst this
    have : v' = v := by
      have g : jts.toArray[i]? = some v := by simpa using hv
      rw [g] at ev; exact (Option.some.inj ev).symm
    subst this
    refine ⟨_, rfl, wpAny_letOwnedTupleGo_zip (s := { s with heap := h', toks := tk }) nz fun h2' nz2 sb => ?_⟩
    have nT2 : h2'.get? s.heap.objs.size = some { cls := .type "tuple", data := .seq #[u', v'] } := (sb.2 _ (Nat.ne_of_gt zl)).trans nT
    have made : ObjOk X.prog X.w (upd H s.heap.objs.size (.tup [x, y])) h2' s.heap.objs.size (.tup [x, y]) :=
      ⟨(show 2 ≤ sizeLine by decide), [u', v'], .cons ru (.cons rv2 .nil), ⟨_, nT2, rfl, _, rfl⟩⟩
    have J : Inv X pins σ (upd H s.heap.objs.size (.tup [x, y])) { s with heap := h2', toks := tk } :=
      I.turnedNew (ch := [z, TI, TO, i1, i2]) (fun c o nc q => (sb.2 c fun e => nc (by simp [e])).trans (nk c o (fun e => nc (by simp [e])) (fun e => nc (by simp [e])) (fun e => nc (by simp [e])) (fun e => nc (by simp [e])) q)) hf (Nat.le_refl _) made
    refine ⟨.ref s.heap.objs.size, _, J, rfl, ⟨_, x, y, rfl, I.hok.fresh (Nat.le_refl _), rfl, fun l hl => by rw [injB I hl qx]; exact ex, fun l hl => by rw [injB I hl qy]; exact ey⟩, ⟨nz2, ?_, ⟨u', v', ?_⟩, ?_, ?_⟩, fun c hcm => ?_⟩
    · exact (sb.2 _ D.TIz).trans (nk _ _ D.TIz D.TITO D.TIi1 D.TIi2 hTI)
    · exact (sb.2 _ D.TOz).trans nTO
    · exact n1.1.keep fun o q => (sb.2 _ D.i1z).trans q
    · exact n2.1.keep fun o q => (sb.2 _ D.i2z).trans q
    · have lt : c < s.heap.objs.size := by
        have lt1 : i1 < s.heap.objs.size := by obtain ⟨_, q, _⟩ := h1.obj; exact Heap.lt_size q
        have lt2 : i2 < s.heap.objs.size := by obtain ⟨_, q, _⟩ := h2.obj; exact Heap.lt_size q
        have hcm2 := hcm
        simp only [List.mem_cons, List.not_mem_nil, or_false] at hcm2
        rcases hcm2 with rfl | rfl | rfl | rfl | rfl
        · exact zl
        · exact Heap.lt_size hTI
        · exact Heap.lt_size hTO
        · exact lt1
        · exact lt2
      rw [upd_ne (Nat.ne_of_lt lt)]
      exact (hf c hcm).1
  done := by
    rintro X rfl rfl rfl hc i pins s σ H E I hf ⟨hz, hTI, ⟨x0, y0, hTO⟩, h1, h2⟩ ⟨xs, ys, qx, qy, le1, le2, en⟩
    obtain ⟨its, rv, ox⟩ := seqB I qx
    obtain ⟨jts, rw_, oy⟩ := seqB I qy
    have e1 := rv.length
    have e2 := rw_.length
    refine wpAny_pyNext_zipD2_end (sepOf D) (drawB (A := X.A.in1) (I.ok.hd hc) D.l1i1 its.toArray t1) (drawB (A := X.A.in1) (I.ok.hd hc) D.l2i2 jts.toArray t2) hz hTI hTO ⟨h1, ox⟩ ⟨h2, oy⟩ (by simp; omega) (by simp; omega) (by simp; omega) fun h' tk nk => ?_
    exact ⟨rfl, I.turnedL (ch := [z, TI, TO, i1, i2]) (fun c o nc q => nk c o (fun e => nc (by simp [e])) (fun e => nc (by simp [e])) (fun e => nc (by simp [e])) (fun e => nc (by simp [e])) q) hf⟩
  self := fun _ _ _ _ _ st h => wpAny_pyIter_zip st.1 h
def iZipB (K : PySem.W.Frag) (t1 t2 : Bool) (ta : L2.TA) : TI := fun σ H R => ta σ H fun vs H1 => ∃ a b xs ys, vs = [.ref a, .ref b] ∧ SqB K t1 H1 a xs ∧ SqB K t2 H1 b ys ∧ R (ItZ K t1 t2 a b) H1
theorem kZip (K : PySem.W.Frag) (t1 t2 : Bool) {X : Cx} {e e2 : Expr} {ta : L2.TA} {p pos tpos : Pos} {elts : List Expr} {kk : Nat} (hg : Gl X "zip") (hm : X.mg "zip" = none) (ha : PA X [e, e2] ta) (hK : X.K = K := by rfl)
    (st : starEach [e, e2] X.env = (false, eval e X.env) :: starEach [e2] X.env := by rfl) (pl : (backTo pos (starEach [e2] X.env)).any (·.1) = false := by rfl) :
    PI X (.Tuple elts kk tpos) (.Call (.Name "zip" p) [e, e2] [] pos) (iZipB K t1 t2 ta) := by
  subst hK
  refine ⟨fun pins s σ H R I h => Call_ (ld_blt I hg hm PyProof.Rows.boot_zip (PyProof.Rows.callWith_type1 (thn (ha.run pos pins s σ H _ I h) fun us s1 ⟨vs, H1, I1, r1, a, b, xs, ys, ex, qx, qy, q⟩ => ?_) st pl))⟩
  subst ex
  cases r1 with
  | cons r rr =>
    cases rr with
    | cons r' rr =>
      cases rr
      cases r
      cases r'
      obtain ⟨its, rv, ox⟩ := seqB I1 qx
      obtain ⟨jts, rw_, oy⟩ := seqB I1 qy
      refine zip_begins2 (beginB a its.toArray t1) (beginB b jts.toArray t2) ox oy fun h' nz nTI nTO n1 n2 nsz nk => wpAny_pyIter_zip nz ?_
      have J : Inv X pins σ H1 { s1 with heap := h' } := I1.kept (t' := s1.toks) nk
      refine ⟨s1.heap.objs.size + 4, [s1.heap.objs.size + 4, s1.heap.objs.size + 2, s1.heap.objs.size + 3, s1.heap.objs.size, s1.heap.objs.size + 1], _, _, H1, rfl, J, turnZ (PySem.W.ktu_apart s1.heap.objs.size a b (obB_lt ox) (obB_lt oy)), ⟨nz, nTI, ⟨_, _, nTO⟩, itB_new n1, itB_new n2⟩, fun c hcm => ?_, q⟩
      have le : s1.heap.objs.size ≤ c := by
        simp only [List.mem_cons, List.not_mem_nil, or_false] at hcm
        rcases hcm with rfl | rfl | rfl | rfl | rfl
        · exact Nat.le_add_right _ _
        · exact Nat.le_add_right _ _
        · exact Nat.le_add_right _ _
        · exact Nat.le_refl _
        · exact Nat.le_add_right _ _
      exact I1.fpOk le (I1.hok.fresh le)
/-! over data -/
def seqD : Bool → List PyData → PyData | true => .tuple | false => .list
section
variable {K : PySem.W.Frag} {γ : Type} {W : Wd γ} {ρ : Rho} {k : γ} {L1 L : List Addr} {H1 H : Hp}
theorem T.seqB {N : List Addr} {v : V} : ∀ {t : Bool} {ds : List PyData}, T K N H v (seqD t ds) → ∃ a xs, v = .ref a ∧ a ∉ N ∧ SqB K t H a xs ∧ (∀ H', Ext N H H' → SqB K t H' a xs ∧ TA K N H' xs ds)
  | true, _, .tup n ha t => ⟨_, _, rfl, n, SqT.of ha, fun H' e => ⟨SqT.of (e _ _ n ha), t.ext e⟩⟩
  | false, _, .lst n ha t => ⟨_, _, rfl, n, SqL.of ha, fun H' e => ⟨SqL.of (e _ _ n ha), t.ext e⟩⟩
theorem later_seqB {t : Bool} {a : Addr} {ds : List PyData} (l : Later W L1 H1 L H) (h : T K (L1 ++ W.M) H1 (.ref a) (seqD t ds)) : ∃ xs, SqB K t H a xs ∧ TA K (L ++ W.M) H xs ds := by
  cases t with
  | true =>
    obtain ⟨xs, h1, h2⟩ := later_tup l h
    exact ⟨xs, SqT.of h1, h2⟩
  | false =>
    obtain ⟨xs, h1, h2⟩ := later_seq l h
    exact ⟨xs, SqL.of h1, h2⟩
theorem seqB_at {N : List Addr} {t : Bool} {a : Addr} {ds : List PyData} {xs ys : List V} (h1 : SqB K t H a xs) (tx : TA K N H xs ds) : xs.length = ds.length := tx.len
theorem walkD_zip {t1 t2 : Bool} {a b : Addr} {ds es : List PyData} (hl : ds.length = es.length) (ta : T K (L1 ++ W.M) H1 (.ref a) (seqD t1 ds)) (tb : T K (L1 ++ W.M) H1 (.ref b) (seqD t2 es)) :
    WalkD K W (ItZ K t1 t2 a b) ds.length (fun i => .tuple [itemD ds i, itemD es i]) L1 H1 where
  goes := fun i L H hi l => by
    obtain ⟨xs, h1, h2⟩ := later_seqB l ta
    obtain ⟨ys, g1, g2⟩ := later_seqB l tb
    have lx := h2.len
    have ly := g2.len
    exact ⟨xs, ys, xs[i], ys[i], h1, g1, List.getElem?_eq_getElem (by omega), List.getElem?_eq_getElem (by omega)⟩
  stops := fun L H l => by
    obtain ⟨xs, h1, h2⟩ := later_seqB l ta
    obtain ⟨ys, g1, g2⟩ := later_seqB l tb
    have lx := h2.len
    have ly := g2.len
    exact ⟨xs, ys, h1, g1, by omega, by omega, .inl lx.symm⟩
  yields := fun i L H x H' hi l y => by
    obtain ⟨xs, h1, h2⟩ := later_seqB l ta
    obtain ⟨ys, g1, g2⟩ := later_seqB l tb
    obtain ⟨p, x1, y1, rfl, hp, rfl, f1, f2⟩ := y
    have tx := h2.itemD (f1 xs h1)
    have ty := g2.itemD (f2 ys g1)
    exact ⟨Same.new hp, .tup (l.trk.new hp) upd_same (.cons (tx.ext (Ext.new hp)) (.one (ty.ext (Ext.new hp))))⟩
theorem ei_zip {t1 t2 : Bool} {tr : L2.TA} {Ω : Nat → (Nat → PyData) → γ → Prop} (h : EvA K W tr ρ k fun es k1 => ∃ ds es', es = [seqD t1 ds, seqD t2 es'] ∧ ds.length = es'.length ∧ Ω ds.length (fun i => .tuple [itemD ds i, itemD es' i]) k1) : EvI K W (iZipB K t1 t2 tr) ρ k Ω := fun L0 H0 L H σ S R c =>
  h L0 H0 L H σ S _ fun vs es k1 H1 S1 e t g => by
    obtain ⟨ds, es', rfl, hl, q⟩ := g
    obtain ⟨u, v, rfl, tu, tv⟩ := t.two_
    obtain ⟨a, xs, rfl, _, h1, _⟩ := tu.seqB
    obtain ⟨b, ys, rfl, _, g1, _⟩ := tv.seqB
    exact ⟨a, b, xs, ys, rfl, h1, g1, c _ _ _ k1 H1 S1 e (walkD_zip hl tu tv) q⟩
end
end U

set_option Elab.async false
set_option linter.all false
set_option maxRecDepth 100000
set_option maxHeartbeats 2000000
namespace U
open PySem PySem.Spec PyProof.Rows L2
/-! ### {k: v} with a tuple as key -/
def tDispN (P : Program) (w : World) (K : PySem.W.Frag) (tk tv : TE) : TE := fun σ H Q => ∀ p, H p = none → tPairs [(tk, tv)] σ (upd H p (DN P w p [])) fun ps H2 => H2 p = some (DN P w p []) ∧ ∃ y v k b, ps = [(y, v)] ∧ y = .ref b ∧ KeyY K H2 y k ∧ Q (.ref p) (upd H2 p (DN P w p [(k, b, v)]))
theorem wp_dispH {prog : Program} {w : World} {Y : Type} [DecidableEq Y] {knd : HeapKind prog w Y} {A : Around} {E : Value → Shared → Prop} {s : Shared} {env : Env} {keys : List (Option Expr)} {values : List Expr} {pos : Pos} {Q : Value → Shared → Prop}
    (room : knd.room A) (hall : keys.all (·.isSome) = true) (hl : keys.length = values.length) (h0 : pairTrees keys values env pos ≠ []) (h15 : (pairTrees keys values env pos).length ≤ 15)
    (h : wpAny (model prog w) A (evalPairs (pairTrees keys values env pos)) (fun vs z => ∃ ps, CarriesH knd z.heap vs ps ∧ z.heap.DictOfH knd s.heap.objs.size [] ∧
      ∀ h' tk, h'.DictOfH knd s.heap.objs.size (storedAllH [] ps) → Heap.SameBut s.heap.objs.size z.heap h' → Q (.ref s.heap.objs.size) { z with heap := h', toks := tk }) E
      { s with heap := s.heap.push { cls := .type "dict", data := .dict #[] } }) : wpAny (model prog w) A (eval (.Dict keys values pos) env) Q E s := by
  have e := zip_pairTrees keys values env pos hall hl
  rw [arm_eval_Dict, e, dictDisplay_pairs _ h0 (by omega)]
  refine wpAny_bind (wpAny_standAt (wpAny_bind (wpAny_subDictH (knd := knd) room h15 (wpAny_mono h (fun vs z g => ?_) fun _ _ e => e))))
  obtain ⟨ps, c, d, q⟩ := g
  exact ⟨ps, c, d, fun h' tk a b => wpAny_pure (q h' tk a b)⟩
theorem pe_dispN {X : Cx} {K : PySem.W.Frag} {pos : Pos} {key value : Expr} {tk tv : TE} (hu : X.A.units + 9 < cLine) (hk : PE X key tk) (hv : PE X value tv) : PE X (.Dict [some key] [value] pos) (tDispN X.prog X.w K tk tv) := by
  constructor
  intro pins s σ H Q I q
  have fresh := I.hok.fresh (Nat.le_refl s.heap.objs.size)
  have ok : ObjOk X.prog X.w (upd H s.heap.objs.size (DN X.prog X.w s.heap.objs.size [])) (s.heap.push { cls := .type "dict", data := .dict #[] }) s.heap.objs.size (DN X.prog X.w s.heap.objs.size []) :=
    dn_new (us := []) (Nat.zero_le _) (beq_eq_false_iff_ne.mpr (Ne.symm (Nat.ne_of_lt I.big))) .nil (Heap.DictOfH.new s.heap)
  have J := I.laid (a := s.heap.objs.size) (t' := s.toks) (fun _ _ e => Heap.get?_push_of_some _ e) (Nat.le_refl _) ok
  have room : (nestedKind X.prog X.w).room X.A := by
    show X.A.units + 8 < cLine
    omega
  refine wp_dispH (knd := nestedKind X.prog X.w) room rfl rfl (fun z => by cases z) (show 1 ≤ 15 by decide) (thn ((pps_cons hk hv pps_nil).run pins _ σ _ _ J (q _ fresh)) fun ws z g => ?_)
  obtain ⟨ps, H2, I2, rel, e2, y, v, k, b, rfl, rfl, ky, q2⟩ := g
  cases rel with
  | cons r rr =>
    cases rr
    rename_i w0
    obtain ⟨w1, w2⟩ := w0
    obtain ⟨b', eb, eb2, hkey⟩ := key_at I2 ky r.1
    cases eb2
    have eb : w1 = .ref b := eb
    subst eb
    obtain ⟨zz, hd, us0, r0, dd⟩ := dn_at (K := K) (N := []) (kvs := []) I2 e2 .nil
    cases r0
    refine ⟨[(k, b, w2)], ⟨rfl, rfl, hkey, trivial⟩, dd, fun h' tk dd' hs => ?_⟩
    have he : ∃ o, h'.get? s.heap.objs.size = some o := let ⟨o, _, _, ho, _⟩ := dd'; ⟨o, ho⟩
    exact ⟨.ref s.heap.objs.size, _, d_write I2 (by rw [e2]; exact True.intro) hs he (dn_new (xs := [(k, b, v)]) (us := [(k, b, w2)]) (show 1 ≤ sizeLine by decide) hd (.cons ⟨rfl, rfl, r.2⟩ .nil) dd'), rfl, q2⟩
section
variable {K : PySem.W.Frag} {γ : Type} {W : Wd γ} {L0 L : List Addr} {H0 H : Hp} {σ : L2.St} {ρ : Rho} {k : γ} {p : Addr}
theorem Stt.takeHid (S : Stt K W L0 H0 (p :: L) H σ ρ k) (nat : NoAt ρ σ p) (i : Nat) {s0 : Slot} (ok : SlotOk K (p :: L ++ W.M) (p :: L) H (some (some (.ref p))) s0) : Stt K W L0 H0 (p :: L) H (σ.set i (some (.ref p))) (ρ.set i s0) k := by
  have il : ∀ {s : Slot}, (ρ.set i s0)[i]? = some s → s = s0 ∧ i < σ.length := fun {s} hs => by
    rw [List.getElem?_set_self'] at hs
    cases q : ρ[i]? with
    | none => rw [q] at hs; cases hs
    | some u =>
      rw [q] at hs
      have hs' : s0 = s := by simpa using hs
      exact ⟨hs'.symm, by rw [← S.len]; exact (List.getElem?_eq_some_iff.mp q).1⟩
  refine ⟨S.base, S.fresh, S.offM, S.trk, S.wd, by rw [List.length_set, List.length_set]; exact S.len, fun j s hs => ?_, fun j m s u hs hu h1 h2 h3 => ?_⟩
  · by_cases ej : j = i
    · subst ej
      obtain ⟨rfl, hl⟩ := il hs
      rw [show (σ.set j (some (V.ref p)))[j]? = some (some (.ref p)) by simp [hl]]
      exact ok
    · rw [List.getElem?_set_ne (fun z => ej z.symm)] at hs ⊢
      exact S.slots j s hs
  · by_cases ej : j = i
    · by_cases em : m = i
      · rw [ej, em]
      · exfalso
        subst ej
        obtain ⟨_, hl⟩ := il hs
        rw [List.getElem?_set_ne (fun z => em z.symm)] at hu h3
        rw [show (σ.set j (some (V.ref p)))[j]? = some (some (.ref p)) by simp [hl]] at h3
        exact nat m u hu h2 h3.symm
    · by_cases em : m = i
      · exfalso
        subst em
        obtain ⟨_, hl⟩ := il hu
        rw [List.getElem?_set_ne (fun z => ej z.symm)] at hs h3
        rw [show (σ.set m (some (V.ref p)))[m]? = some (some (.ref p)) by simp [hl]] at h3
        exact nat j s hs h1 h3
      · rw [List.getElem?_set_ne (fun z => ej z.symm)] at hs h3
        rw [List.getElem?_set_ne (fun z => em z.symm)] at hu h3
        exact S.dis j m s u hs hu h1 h2 h3
/-- x = {key: v}, the key a tuple -/
theorem sw_dispN {P : Program} {w : World} {tk tv : TE} {i : Nat} {Z : Ps γ} (h : EvW K W tk ρ k fun e k1 => ∃ key es, e = .tuple es ∧ nkey e = some key ∧ key.depth ≤ 8 ∧ EvW K W tv ρ k1 fun d k2 => Z.nx (ρ.set i (.ownN (DN P w) [(key, d)])) k2) :
    SW K W (tAsg (tDispN P w K tk tv) (gName i)) ρ k Z := fun L0 H0 L H σ D S nx _ _ _ => by
  intro p hp
  obtain ⟨S1, nat⟩ := S.hide (o := DN P w p []) hp
  have npM : p ∉ W.M := fun z => S.nin hp (List.mem_append_right _ z)
  refine h L0 H0 (p :: L) _ σ S1 _ fun y e k1 H1 S2 e1 t1 g => ?_
  obtain ⟨key, es, rfl, hk, hd, g⟩ := g
  refine g L0 H0 (p :: L) H1 σ S2 _ fun v d k2 H2 S3 e2 t2 q => ?_
  have hp2 : H2 p = some (DN P w p []) := (e1.trans e2) p _ npM upd_same
  have t1' := t1.ext (eM e2)
  cases t1 with
  | @tup b xs _ nb hb tb =>
    refine ⟨hp2, .ref b, v, key, b, rfl, rfl, ⟨_, b, _, rfl, t1', hk, hd⟩, ?_⟩
    have ex : Ext (p :: L ++ W.M) H2 (upd H2 p (DN P w p [(key, b, v)])) := Ext.put (by simp)
    refine nx _ _ _ _ _ ((S3.putHid (o := DN P w p [(key, b, v)]) nat).takeHid nat i (s0 := .ownN (DN P w) [(key, d)]) ?_) q
    exact ⟨p, _, rfl, by simp, upd_same, .cons hk hd (t1'.ext ex) (t2.ext ex) .nil⟩
end
end U

set_option Elab.async false
set_option linter.all false
set_option maxRecDepth 100000
set_option maxHeartbeats 2000000
namespace U
open PySem PySem.Spec PyProof.Rows L2
/-! ### a def that writes nothing, of whose value is known what G says -/
def spQ (K : PySem.W.Frag) (n : Nat) (R : List PyData → (PyData → Prop) → Prop) : Sp := fun vs H Q _ => ∃ (M : List Addr) (ds : List PyData) (G : PyData → Prop), TA K M H vs ds ∧ Trk M H ∧ ds.length = n ∧ R ds G ∧ ∀ v r H', G r → Same H H' → T K M H' v r → Q v H'
section
variable {K : PySem.W.Frag} {γ : Type} {W : Wd γ} {ρ : Rho} {k : γ} {Φ : PyData → γ → Prop} {P : Ps γ} {te tk tv : TE} {i : Nat}
theorem rc_q {n : Nat} {R : List PyData → (PyData → Prop) → Prop} {ds : List PyData} {G : PyData → Prop} (hl : ds.length = n) (h : R ds G) (q : ∀ r, G r → Φ r k) : RCD K W (fun vs H Q => spQ K n R vs H Q E0) ds ρ k Φ := fun L0 H0 L H σ vs S tx Q c =>
  ⟨_, ds, G, tx, S.trk, hl, h, fun v r H' g s t => c v r k H' (S.same s) (Ext.same s) t (q r g)⟩
theorem spQ.ok {R : List PyData → (PyData → Prop) → Prop} {n : Nat} {N : List Str} {vs : List V} {H : Hp} {Q : VK} {E : XK} {t : TS} (h : spQ K n R vs H Q E)
    (hb : ∀ (W : Wd Nat) (ds : List PyData) (G : PyData → Prop), R ds G → SW K W t (rest0 N ds) 0 ⟨fun _ _ => G .none, fun d _ => G d, fun _ _ => False, fun _ _ => False⟩) : t { nx := fun _ H' => Q .non H', rt := Q } (start N vs) H := by
  obtain ⟨M, ds, G, ta, tr, _, hr, q⟩ := h
  have fin : ∀ k' H', Ext ([] ++ (pureW M H tr).M) H H' → (pureW M H tr).I k' M H' → Same H H' := fun k' H' e wi b o hb => by
    by_cases hm : b ∈ M
    · rw [wi b hm]; exact hb
    · exact e b o hm hb
  refine hb (pureW M H tr) ds G hr [] H [] H (start N vs) _ (stt_start ta fun b _ => rfl) (fun L' H' σ' ρ' k' S' e => ?_) (fun v d k' H' e wi t' hd => ?_) (fun _ _ _ _ _ _ z => z.elim) (fun _ _ _ _ _ _ z => z.elim)
  · exact q .non .none H' e (fin k' H' S'.base S'.wdM) .non
  · exact q v d H' hd (fin k' H' e wi) t'
theorem spQ.len {R : List PyData → (PyData → Prop) → Prop} {n : Nat} {vs : List V} {H : Hp} {Q : VK} {E : XK} (h : spQ K n R vs H Q E) : vs.length = n := by
  obtain ⟨M, ds, r, ta, tr, hl, hR, q⟩ := h
  rw [ta.len]
  exact hl
/-- x = {k: v} -/
theorem sw_dispE (h : EvW K W tk ρ k fun e k1 => ∃ key, e = keyD key ∧ EvW K W tv ρ k1 fun d k2 => P.nx (ρ.set i (.ownD [(key, d)])) k2) : SW K W (tAsg (tDisp [(tk, tv)]) (gName i)) ρ k P := fun L0 H0 L H σ D S nx _ _ _ => by
  intro p hp
  obtain ⟨S1, nat⟩ := S.hide (o := .dK []) hp
  have npM : p ∉ W.M := fun z => S.nin hp (List.mem_append_right _ z)
  refine h L0 H0 (p :: L) _ σ S1 _ fun y e k1 H1 S2 e1 t1 g => ?_
  obtain ⟨key, rfl, g⟩ := g
  refine g L0 H0 (p :: L) H1 σ S2 _ fun v d k2 H2 S3 e2 t2 q => ?_
  have hp2 : H2 p = some (.dK []) := (e1.trans e2) p _ npM upd_same
  have ey := keyD_T t1
  subst ey
  refine ⟨hp2, [(key, v)], rfl, (show 1 ≤ 15 by decide), ?_⟩
  rw [show mergeK [] [(key, v)] = [(key, v)] from rfl]
  have ex : Ext (p :: L ++ W.M) H2 (upd H2 p (.dK [(key, v)])) := Ext.put (by simp)
  refine nx _ _ _ _ _ ((S3.putHid (o := .dK [(key, v)]) nat).takeHid nat i (s0 := .ownD [(key, d)]) ?_) q
  exact ⟨p, _, rfl, by simp, upd_same, .cons (t2.ext ex) .nil⟩
/-- x = list(xs) -/
theorem sw_ownOf (h : EvW K W te ρ k fun x k1 => ∃ ds, (x = .list ds ∨ x = .tuple ds) ∧ P.nx (ρ.set i (.own ds)) k1) : SW K W (tAsg (tCB (rListOf K) (tCons te tNil)) (gName i)) ρ k P := fun L0 H0 L H σ D S nx _ _ _ =>
  h L0 H0 L H σ S _ fun v x k1 H1 S1 e1 t1 g => by
    obtain ⟨ds, hx, q⟩ := g
    have fin : ∀ (a : Addr) (xs : List V), TA K (L ++ W.M) H1 xs ds → ∀ p, H1 p = none → D.nx (σ.set i (some (.ref p))) (upd H1 p (.lst xs)) := fun a xs ts p hp =>
      nx _ _ _ _ _ (S1.setOwn i (s0 := .own ds) rfl hp ⟨p, xs, rfl, by simp, upd_same, (ts.plus hp).ext (Ext.put (by simp))⟩) q
    rcases hx with rfl | rfl
    · cases t1 with
      | @lst a xs _ na ha ts => exact ⟨a, xs, rfl, .inl (SqL.of ha), fun p hp => fin a xs ts p hp⟩
    · cases t1 with
      | @tup a xs _ na ha ts => exact ⟨a, xs, rfl, .inr (SqT.of ha), fun p hp => fin a xs ts p hp⟩
/-! (int, text) < (int, text) -/
def rLtP (K : PySem.W.Frag) : R2 := fun x y H Q => ∃ i j z u, Dp K H x (.tuple [.int i, .str z]) ∧ Dp K H y (.tuple [.int j, .str u]) ∧ Q (.bl (decide (i < j) || (decide (i = j) && decide (z.cps.toList < u.cps.toList)))) H
theorem op_ltP {X : Cx} (hu : X.A.units + 9 < cLine) : OpR X (compareOp .Lt) (rLtP X.K) := by
  intro pins s σ H x y v u Q I rx ry h
  obtain ⟨i, j, z, w, hd, he, q⟩ := h
  obtain ⟨as, r1⟩ := Dp.reads I _ x v hd rx
  obtain ⟨bs, r2⟩ := Dp.reads I _ y u he ry
  have al : PySem.W.alike (.tuple [.int i, .str z]) (.tuple [.int j, .str w]) = true := rfl
  have dp : X.A.units + min (PyData.depth (.tuple [.int i, .str z])) (PyData.depth (.tuple [.int j, .str w])) < cLine := by
    show X.A.units + 1 < cLine
    omega
  have key := PySem.W.rcLt_alike (.tuple [.int i, .str z]) (.tuple [.int j, .str w]) X.A s v u as bs r1 r2 al (by simp) dp X.prog X.w X.xe (EP X pins σ Q)
  have e : PySem.W.dataLt (.tuple [.int i, .str z]) (.tuple [.int j, .str w]) = (decide (i < j) || (decide (i = j) && decide (z.cps.toList < w.cps.toList))) := by
    rw [PySem.W.dataLt_pair rfl rfl, PySem.W.dataLt_int, PySem.W.dataLt_str]
    have e1 : PyData.eqv (.int i) (.int j) = decide (i = j) := by
      show (i == j) = _
      by_cases h : i = j <;> simp [h]
    have e2 : PyData.eqv (.str z) (.str w) = decide (z = w) := by
      show (z == w) = _
      by_cases h : z = w <;> simp [h]
    rw [e1, e2]
    by_cases h : i = j
    · subst h
      by_cases h2 : z = w
      · subst h2
        have irr : ¬ (z.cps.toList < z.cps.toList) := List.lt_irrefl _
        simp [irr]
      · simp [h2]
    · simp [h]
  rw [e] at key
  exact key ⟨.bl _, H, I, rfl, q⟩
theorem kLtP (K : PySem.W.Frag) {X : Cx} {k : Nat} (hr : Room k X.A) (h : X.K = K := by rfl) : OpR X (compareOp .Lt) (rLtP K) := by subst h; exact op_ltP (room9 hr)
theorem rd_ltP {i j : Int} {z u : Str} (q : Φ (.bool (decide (i < j) || (decide (i = j) && decide (z.cps.toList < u.cps.toList)))) k) : RD K W (rLtP K) (.tuple [.int i, .str z]) (.tuple [.int j, .str u]) ρ k Φ := rd_ q fun N H vx vy tx ty Q c => by
  cases tx with
  | tup n1 h1 t1 =>
    obtain ⟨a, b, rfl, a1, b1⟩ := t1.two_
    cases ty with
    | tup n2 h2 t2 =>
      obtain ⟨a', b', rfl, a2, b2⟩ := t2.two_
      cases a1; cases b1; cases a2; cases b2
      exact ⟨i, j, z, u, .tup (SqT.of h1) (.cons (.int _) (.cons (.str _) .nil)), .tup (SqT.of h2) (.cons (.int _) (.cons (.str _) .nil)), c _ (.bl _)⟩
end
end U
namespace U
open PySem PySem.Spec PyProof.Rows L2
section
variable {K : PySem.W.Frag} {γ : Type} {W : Wd γ} {ρ : Rho} {k : γ} {Φ : PyData → γ → Prop}
/-- (d,) * n -/
theorem rd_times {d : PyData} {n : Nat} (h1 : 1 ≤ n) (h2 : n ≤ 1000) (q : Φ (.tuple (List.replicate n d)) k) : RD K W (rTimes K) (.tuple [d]) (.int (n : Int)) ρ k Φ := rdN q fun N H vx vy tr tx ty Q c => by
  cases ty
  cases tx with
  | @tup a xs _ na ha ts =>
    obtain ⟨v, rfl, tv⟩ := ts.one_
    refine ⟨a, (n : Int), [v], rfl, rfl, SqT.of ha, by simp, by omega, by omega, by simp, fun e => ?_, fun e p hp => ?_⟩
    · have e1 : n = 1 := by omega
      subst e1
      exact c (.ref a) H (Same.refl _) (.tup na ha (.one tv))
    · rw [Int.toNat_natCast, flat_rep]
      refine c (.ref p) _ (Same.new hp) (.tup (tr.new hp) upd_same ?_)
      exact (TA.rep tv n).ext (Ext.new hp)
end
end U
namespace U
open PySem PySem.Spec PyProof.Rows L2
section
variable {K : PySem.W.Frag} {γ : Type} {W : Wd γ} {ρ : Rho} {k : γ} {tr : L2.TA} {Ω : Nat → (Nat → PyData) → γ → Prop}
theorem ei_zipTT (h : EvA K W tr ρ k fun es k1 => ∃ ds es', es = [.tuple ds, .tuple es'] ∧ ds.length = es'.length ∧ Ω ds.length (fun i => .tuple [itemD ds i, itemD es' i]) k1) : EvI K W (iZipB K true true tr) ρ k Ω := ei_zip (t1 := true) (t2 := true) h
theorem ei_zipTL (h : EvA K W tr ρ k fun es k1 => ∃ ds es', es = [.tuple ds, .list es'] ∧ ds.length = es'.length ∧ Ω ds.length (fun i => .tuple [itemD ds i, itemD es' i]) k1) : EvI K W (iZipB K true false tr) ρ k Ω := ei_zip (t1 := true) (t2 := false) h
end
end U
namespace U
open PySem PySem.Spec PyProof.Rows L2
section
variable {K : PySem.W.Frag} {γ : Type} {W : Wd γ} {ρ : Rho} {k : γ} {P : Ps γ} {i j : Nat}
/-- x, y = [], [] -/
theorem sw_parOO (q : P.nx ((ρ.set i (.own [])).set j (.own [])) k) : SW K W (tPar i j (tCons (tLst tNil) (tCons (tLst tNil) tNil))) ρ k P := fun L0 H0 L H σ D S nx _ _ _ => by
  refine ⟨Nat.zero_le _, fun p hp => ⟨Nat.zero_le _, fun p2 hp2 => ?_⟩⟩
  have S1 := S.setOwn i (s0 := .own []) (o := .lst []) rfl hp ⟨p, [], rfl, by simp, upd_same, .nil⟩
  have S2 := S1.setOwn j (s0 := .own []) (o := .lst []) rfl hp2 ⟨p2, [], rfl, by simp, upd_same, .nil⟩
  exact ⟨_, _, rfl, nx _ _ _ _ _ S2 q⟩
end
end U

set_option Elab.async false
set_option linter.all false
set_option maxRecDepth 100000
set_option maxHeartbeats 4000000
/-! sets of texts: set(list), sorted(set) -/
namespace U
open PySem PySem.Spec PyProof.Rows L2 PySem.Froz
local macro_rules | `(tactic| walk_at "wpw") => `(tactic| repeat (any_goals (first | assumption | wp_step)))

theorem ris_tail {ep : Nat} {es : Array (Int × Value)} {t : SetTable} {wd : Bool} (r : Ris t.place.toList) : Ris (tailTx ep es t wd).2.2.place.toList := by
  unfold tailTx
  split
  · exact relayAll_ris ..
  · exact r
theorem led_tail {ep : Nat} {es : Array (Int × Value)} {t : SetTable} {wd : Bool} : (tailTx ep es t wd).2.2.led = t.led := by
  unfold tailTx
  split
  · exact relayAll_led ..
  · rfl
theorem ris_addTx {h : Int} {v : Value} {D : SD} (r : Ris D.2.2.place.toList) : Ris (addTx h v D).2.2.place.toList := by
  have q := layNew_ris D.2.2 D.1 h v r
  unfold addTx
  refine ris_tail ?_
  split <;> exact q
theorem led_addTx {h : Int} {v : Value} {D : SD} : (addTx h v D).2.2.led = D.2.2.led := by
  have q := layNew_led D.2.2 D.1 h v
  unfold addTx
  rw [led_tail]
  split <;> exact q
/-- the set of the texts l at a, which can be walked -/
structure SetX (P : Program) (w : World) (h : Heap) (a : Addr) (l : List Str) : Prop where
  ex : ∃ D : SD, h.get? a = some (sObj "set" D) ∧ TxOk P w D l ∧ Ris D.2.2.place.toList ∧ (w.params.followText "set-order" = true ∨ D.2.2.led = true)
  nd : l.Nodup
theorem SetX.at {P : Program} {w : World} {h h' : Heap} {a : Addr} {l : List Str} (R : SetX P w h a l) (k : ∀ o, h.get? a = some o → h'.get? a = some o) : SetX P w h' a l := by
  obtain ⟨⟨D, h1, r⟩, nd⟩ := R
  exact ⟨⟨D, k _ h1, r⟩, nd⟩
section
variable {P : Program} {w : World} {A : Around} {E : Value → Shared → Prop} {s : Shared}
theorem dup_x {a : Addr} {D : SD} {l : List Str} {k : Str} {u : Tok} {Q : Bool → Shared → Prop} (ho : s.heap.get? a = some (sObj "set" D)) (F : TxOk P w D l) (hk : k ∈ l) (hb : l.length < scanBound) (q : Q false s) :
    wpAny (model P w) A (setAddHashed a (.str k u) (hashStr w k)) Q E s := by
  obtain ⟨es, ep, t⟩ := D
  have z0 : es.size = l.length := F.sz
  have hz : es.size < scanBound := z0 ▸ hb
  obtain ⟨j, hj⟩ : ∃ j, es.toList.findIdx? (fun e => (strKind P w).is k e.2) = some j := by
    cases c : es.toList.findIdx? (fun e => (strKind P w).is k e.2) with
    | some j => exact ⟨j, rfl⟩
    | none =>
      obtain ⟨e, he, z⟩ := (F.mem k).mp hk
      have := List.findIdx?_eq_none_iff.mp c e he
      simp [z] at this
  unfold setAddHashed setAddHashedIn
  refine wpAny_holding (wpAny_bind (wpAny_setState_of ho rfl F.fit ?_))
  dsimp only
  rw [byScan_of rfl hz F.el]
  simp only [↓reduceIte]
  unfold setAddByScan
  refine wpAny_bind (wpAny_bind (wpAny_rule (wpAny_bind (wpAny_setScan_of (knd := strKind P w) (k := k) (is_str k u) ho rfl F.fit F.el ?_))))
  rw [hj]
  dsimp only
  exact wpAny_pure (wpAny_pure q)
theorem SetX.add {a : Addr} {l : List Str} {k : Str} {u : Tok} {Q : Bool → Shared → Prop} (R : SetX P w s.heap a l) (hb : l.length + 1 < scanBound)
    (hQ : ∀ b h' l', Heap.SameBut a s.heap h' → SetX P w h' a l' → (∀ x, x ∈ l' ↔ x = k ∨ x ∈ l) → l'.length ≤ l.length + 1 → Q b { s with heap := h' }) : wpAny (model P w) A (setAddHashed a (.str k u) (hashStr w k)) Q E s := by
  obtain ⟨⟨D, ho, F, r, g⟩, nd⟩ := R
  by_cases hk : k ∈ l
  · refine dup_x ho F hk (by omega) (hQ false s.heap l (Heap.SameBut.refl ..) ⟨⟨D, ho, F, r, g⟩, nd⟩ (fun x => ⟨.inr, fun z => z.elim (fun e => e ▸ hk) id⟩) (by omega))
  · refine add_x ho F hk hb (hQ true _ (k :: l) (Heap.SameBut.update ..) ⟨⟨_, get_upd _ ho rfl, add_ok u F, ris_addTx r, by rw [led_addTx]; exact g⟩, List.nodup_cons.mpr ⟨hk, nd⟩⟩ (fun x => List.mem_cons) (by simp))

variable {I : Addr} {fp wr : List Addr} {G : Array GenState → Array GenState → Prop} {n : Nat} {Pv : Nat → Value → Prop} {St : Nat → Shared → Prop} {R : Result → Shared → Prop}
theorem loopX (W : WalksS P w A.in1 I fp wr G n Pv St) (S : Addr) (nS : S ∉ fp) (xs : List Str) (hn : n = xs.length) (hv : ∀ i v, Pv i v → ∃ t, v = .str (xs.getD i Str.empty) t) (hb : n + 1 < scanBound) :
    ∀ (c i : Nat) (s : Shared), n - i = c → i ≤ n → St i s → (∃ l, SetX P w s.heap S l ∧ (∀ x, x ∈ l ↔ x ∈ xs.take i) ∧ l.length ≤ i) →
      (∀ s', Moved (S :: wr) G s s' → (∃ l, SetX P w s'.heap S l ∧ (∀ x, x ∈ l ↔ x ∈ xs) ∧ l.length ≤ n) → R (.ok (.ret .none)) s') →
      codeAny (model P w) A (.builtin "set.update.loop" ⟨[.ref S, .ref I], []⟩) R s := by
  have nw : S ∉ wr := fun z => nS (W.sub _ z)
  have up : ∀ b ∈ wr, b ∈ S :: wr := fun b z => .tail _ z
  intro c
  induction c with
  | zero =>
    intro i s hc hi st ⟨l, X, m, ll⟩ out
    obtain rfl : i = n := by omega
    refine codeAny_builtin PyProof.Rows.F.entry_set_update_loop ?_
    rw [Around.under_plainId PyProof.Rows.F.plain_set_update_loop _]
    refine wpAny_bind (m := pyNext (.ref I)) (W.done s _ _ st fun s' mv => wpAny_pure (out s' (mv.mono up) ⟨l, X.at fun o e => mv.heap S o nw e, fun x => ?_, ll⟩))
    rw [m x, hn, List.take_length]
  | succ c ih =>
    intro i s hc hi st ⟨l, X, m, ll⟩ out
    have lt : i < n := by omega
    refine codeAny_builtin PyProof.Rows.F.entry_set_update_loop ?_
    rw [Around.under_plainId PyProof.Rows.F.plain_set_update_loop _]
    refine wpAny_bind (m := pyNext (.ref I)) (W.item i s _ _ lt st fun v s' pv st' mv => ?_)
    obtain ⟨t, rfl⟩ := hv i v pv
    have X' := X.at (h' := s'.heap) fun o e => mv.heap S o nw e
    refine wpAny_bind (m := holding [Value.str (xs.getD i Str.empty) t] (setAdd S (.str (xs.getD i Str.empty) t))) (wpAny_holding ?_)
    unfold setAdd
    refine wpAny_holding (wpAny_bind ((PySem.strKind P w).pyHash (k := xs.getD i Str.empty) (is_str _ _) ?_))
    refine SetX.add (s := { s' with toks := s'.toks + 1 }) X' (by omega) fun b h' l' sb X2 m2 l2 => ?_
    refine wpAny_pure ⟨plainId_quiet PyProof.Rows.F.plain_set_update_loop _, ih (i + 1) _ (by omega) lt (W.frame _ s' _ _ st' (Nat.le_succ _) fun b hb o e => ?_) ⟨l', X2, fun x => ?_, by omega⟩ fun s2 mv2 X3 => ?_⟩
    · exact (sb.2 b (by rintro rfl; exact nS hb)).trans e
    · rw [m2 x, m x, List.take_succ]
      have : xs[i]? = some (xs.getD i Str.empty) := by rw [List.getD_eq_getElem?_getD, List.getElem?_eq_getElem (hn ▸ lt)]; rfl
      rw [this, List.mem_append, Option.toList, List.mem_singleton]
      exact Or.comm
    · refine out s2 (Moved.trans W.gtrans ((mv.mono up).then_heap (Nat.le_succ _) fun b o hb e => ?_) mv2) X3
      exact (sb.2 b (by rintro rfl; exact hb (.head _))).trans e

abbrev nuS (w : World) : Obj := { cls := .type "set", dict := none, data := .set #[] 0 (.fresh 0 0 (!w.params.followText "set-order")) }
theorem setX_nu {h : Heap} {a : Addr} (ho : h.get? a = some (nuS w)) : SetX P w h a [] := by
  refine ⟨⟨(#[], 0, .fresh 0 0 (!w.params.followText "set-order")), ho, TxOk.nil rfl, List.Pairwise.nil, ?_⟩, List.nodup_nil⟩
  show _ ∨ (!w.params.followText "set-order") = true
  cases w.params.followText "set-order"
  · exact .inr rfl
  · exact .inl rfl
theorem strs_getD : ∀ {vs : List Value} {xs : List Str}, StrsAre vs xs → ∀ (i : Nat) (v : Value), vs[i]? = some v → ∃ t, v = .str (xs.getD i Str.empty) t
  | _, _, .nil, i, v, h => by simp at h
  | _, _, .cons n t r, 0, v, h => ⟨t, by simp at h; rw [← h]; rfl⟩
  | _, _, .cons n t r, i + 1, v, h => by
    obtain ⟨u, e⟩ := strs_getD r i v (by simpa using h)
    exact ⟨u, by rw [e]; rfl⟩
/-- what set(xs) leaves -/
def MadeX (P : Program) (w : World) (s : Shared) (xs : List Str) (h' : Heap) : Prop :=
  (∃ l, SetX P w h' s.heap.objs.size l ∧ (∀ x, x ∈ l ↔ x ∈ xs) ∧ l.length ≤ xs.length) ∧ ∀ b o, s.heap.get? b = some o → h'.get? b = some o
theorem call_setX {l : Addr} {items : Array Value} {xs : List Str} {Q : Value → Shared → Prop} (hh : A.handled = none) (hl : s.heap.IsList l items) (hi : StrsAre items.toList xs) (hb : xs.length + 1 < scanBound)
    (q : ∀ h' tk, MadeX P w s xs h' → Q (.ref s.heap.objs.size) { s with heap := h', toks := tk }) : wpAny (model P w) A (call (.type "set") [.ref l]) Q E s := by
  have hz : items.size = xs.length := by rw [← Array.length_toList]; exact StrsAre.len_eq hi
  obtain ⟨c, tl, mro⟩ := PySem.F.called_set.mro
  have g1 := PySem.F.called_set.made
  have g2 := PySem.F.called_set.sub
  refine wpAny_call (codeAny_of_tree ?_)
  show wpAny _ _ (callAny (.type "set") _) _ _ _
  refine wpAny_pure ⟨Code.quiet_builtin _ (by decide +kernel), codeAny_builtin PySem.F.entry_type_call ?_⟩
  rw [Around.under_plain (weight_type_call_type "set" [.ref l] []) rfl]
  have g3 := PySem.F.called_set.notType
  have g4 := PySem.F.called_set.canCreate
  have g5 := PySem.F.typeCall_set_1 (.ref l)
  walk_at "wpw"
  refine codeAny_mono (code_set_led1 (.ref l) (E := E) (Q₁ := fun v t => v = .ref s.heap.objs.size ∧ t = { s with heap := s.heap.push (nuS w) }) ⟨rfl, rfl⟩) fun r t ht => ?_
  rcases r with er | fl
  · exact ht
  cases fl with
  | ret v =>
    obtain ⟨rfl, rfl⟩ := ht
    have o0 : (s.heap.push (nuS w)).get? s.heap.objs.size = some (nuS w) := Heap.get?_push_size _ rfl
    have ty : Shared.TypeIs { s with heap := s.heap.push (nuS w) } (.ref s.heap.objs.size) "set" := ⟨_, o0, rfl⟩
    have g6 := PySem.F.called_set.init.lookup
    have g7 := PySem.F.called_set.init.bind (.ref s.heap.objs.size)
    walk_at "wpw"
    refine codeAny_mono (codeAny_call_builtin (R := wants (fun r t => r = .none ∧ ∃ h' tk, t = { s with heap := h', toks := tk } ∧ MadeX P w s xs h') E) PySem.F.called_set.init.plain PySem.F.entry_set_init (check_set_init_1 ty ?_)) fun r2 t2 ht2 => ?_
    · obtain ⟨⟨ocls, odict, odata, oslots⟩, hol, hcl, nl, hdl⟩ := hl
      simp only at hcl hdl
      subst hcl
      subst hdl
      have ol : (s.heap.push (nuS w)).get? l = some { cls := .type "list", dict := odict, data := .seq items nl, slots := oslots } := Heap.get?_push_of_some _ hol
      have g8 := PySem.F.sub_list_set
      have g9 := PySem.F.sub_list_frozenset
      have g10 : (Value.type "list" == Value.type "dict") = false := by decide
      have isl : (s.heap.push (nuS w)).IsList l items := ⟨_, ol, rfl, nl, rfl⟩
      unfold Builtin.«set.__init__» noKeywords Builtin.Frozenset.updateFrom
      generalize hPI : pyIter = PI
      wp_walk
      subst hPI
      refine wpAny_pyIter_list isl (wpAny_bind (wpAny_runValue ?_))
      have lS : l < s.heap.objs.size := Heap.lt_size hol
      have sz : (s.heap.push (nuS w)).objs.size = s.heap.objs.size + 1 := Heap.size_push ..
      have nl' : l ≠ (s.heap.push (nuS w)).objs.size := by rw [sz]; exact Nat.ne_of_lt (Nat.lt_succ_of_lt lS)
      have nS : s.heap.objs.size ∉ [(s.heap.push (nuS w)).objs.size, l] := by
        simp only [List.mem_cons, List.not_mem_nil, or_false, not_or]
        rw [sz]; exact ⟨Nat.ne_of_lt (Nat.lt_succ_self _), Nat.ne_of_gt lS⟩
      refine loopX ((Walks.list (by simp [hh]) _ l nl' items).toS) s.heap.objs.size nS xs hz (fun i v hv => strs_getD hi i v (by rw [Array.getElem?_toList]; exact hv)) (by omega) (items.size - 0) 0 _ (by omega) (Nat.zero_le _) ⟨⟨_, Heap.get?_push_size _ rfl, rfl, rfl⟩, isl.push _⟩ ⟨[], setX_nu (Heap.get?_push_of_some _ o0), by simp, by simp⟩ fun t mv ⟨l', X, m, ll⟩ => ?_
      obtain ⟨h', g', d', tk', os'⟩ := t
      obtain rfl : g' = s.gens := mv.gens
      obtain rfl : d' = s.drawn := mv.drawn
      obtain rfl : os' = s.os := mv.os
      show wpAny _ _ _ _ _ _
      refine wpAny_pure ?_
      show wpAny _ _ (ret Value.none) _ _ _
      refine wpAny_pure ⟨rfl, h', tk', rfl, ⟨l', X, m, by omega⟩, fun b o e => ?_⟩
      have bl := Heap.lt_size e
      refine mv.heap b o ?_ (Heap.get?_push_of_some _ (Heap.get?_push_of_some _ e))
      simp only [List.mem_cons, List.not_mem_nil, or_false, not_or]
      rw [sz]; exact ⟨Nat.ne_of_lt bl, Nat.ne_of_lt (Nat.lt_succ_of_lt bl)⟩
    · rcases r2 with er | fl2
      · exact ht2
      cases fl2 with
      | ret r =>
        obtain ⟨rfl, h', tk, rfl, mk⟩ := ht2
        walk_at "wpw"
        exact q _ _ mk
      | _ => exact ht2.elim
  | _ => exact ht.elim

theorem isStr_at {v : Value} {k : Str} (h : (strKind P w).is k v = true) : ∃ t, v = .str k t := by
  have h' : Value.isStrOf k v = true := h
  cases v <;> simp [Value.isStrOf] at h'
  exact ⟨_, by rw [h']⟩
theorem strs_of : ∀ (vs : List Value), (∀ v ∈ vs, ∃ k t, v = Value.str k t) → ∃ ss, StrsAre vs ss ∧ ss.length = vs.length
  | [], _ => ⟨[], .nil, rfl⟩
  | v :: vs, h => by
    obtain ⟨k, t, rfl⟩ := h v (.head _)
    obtain ⟨ss, a, b⟩ := strs_of vs fun u hu => h u (.tail _ hu)
    exact ⟨k :: ss, .cons k t a, by simp [b]⟩
theorem strs_mem : ∀ {vs : List Value} {ss : List Str}, StrsAre vs ss → ∀ x : Str, x ∈ ss ↔ ∃ t, Value.str x t ∈ vs
  | _, _, .nil, x => by simp
  | _, _, .cons n t r, x => by
    rw [List.mem_cons, strs_mem r x]
    constructor
    · rintro (rfl | ⟨u, h⟩)
      · exact ⟨t, .head _⟩
      · exact ⟨u, .tail _ h⟩
    · rintro ⟨u, h⟩
      rcases List.mem_cons.mp h with h | h
      · injection h with h1 h2
        exact .inl h1
      · exact .inr ⟨u, h⟩
theorem sorted_setX {a : Addr} {l : List Str} {Q : Value → Shared → Prop} (R : SetX P w s.heap a l) (hh : A.handled = none) (hb : l.length < scanBound)
    (q : ∀ s' p (out : Array Value) (c : Nat) (ss : List Str), (∀ b o, s.heap.get? b = some o → s'.heap.get? b = some o) → s'.gens = s.gens → s'.os = s.os → s.heap.objs.size ≤ p → s'.heap.get? p = some (seqObj "list" out c) →
      StrsAre out.toList ss → sortedS ss = true → (∀ x, x ∈ ss ↔ x ∈ l) → ss.length = l.length → Q (.ref p) s') :
    wpAny (model P w) A (call (.builtin "sorted") [.ref a]) Q E s := by
  obtain ⟨⟨⟨es, ep, t⟩, ho, F, r, g⟩, nd⟩ := R
  have z : es.size = l.length := F.sz
  refine Calls.call_function_entry kind_sorted plain_sorted entry_sorted (args_sorted1 _) ?_
  unfold Builtin.«sorted»
  refine wpAny_bind (m := checkCount "sorted" 1 1 _) (wpAny_pure (wpAny_bind (collect_set (A := A.in1) hh ⟨_, ho, rfl, rfl⟩ F.fit (z ▸ hb) r g fun s1 vs k1 z1 g1 o1 pm => ?_)))
  have vl : vs.length = l.length := by rw [pm.length_eq, List.length_map, Array.length_toList]; exact z
  have at1 : ∀ v ∈ vs, ∃ k t, v = Value.str k t := fun v hv => by
    obtain ⟨e, he, rfl⟩ := List.mem_map.mp (pm.mem_iff.mp hv)
    obtain ⟨⟨k, h1, h2⟩, h3⟩ := F.el e he
    obtain ⟨t, h4⟩ := isStr_at h1
    exact ⟨k, t, h4⟩
  obtain ⟨ss, S, sl⟩ := strs_of vs at1
  have ms : ∀ x, x ∈ ss ↔ x ∈ l := fun x => by
    rw [strs_mem S x, F.mem x]
    constructor
    · rintro ⟨t, h⟩
      obtain ⟨e, he, h1⟩ := List.mem_map.mp (pm.mem_iff.mp h)
      exact ⟨e, he, by rw [h1]; exact is_str _ _⟩
    · rintro ⟨e, he, h1⟩
      obtain ⟨t, h4⟩ := isStr_at h1
      exact ⟨t, pm.mem_iff.mpr (List.mem_map.mpr ⟨e, he, h4⟩)⟩
  have lz : vs.length ≤ sizeLine := by rw [vl]; exact fits_of_scanBound hb
  refine wpAny_bind (wpAny_newList ?_ lz)
  have oL : (s1.heap.push (seqObj "list" vs.toArray 0)).get? s1.heap.objs.size = some (seqObj "list" vs.toArray 0) := Heap.get?_push_size _ rfl
  refine wpAny_bind (wpAny_holding (wpAny_call_entry slot_list_sort ⟨_, oL, rfl⟩ entry_list_sort (list_sort_treeKAny strKind_oneLt oL S.keysOf (fun v₁ v₂ rest e => keyKind_strs (by rw [← e]; exact S)) lz fun st p1 p2 => ⟨_, rfl, ?_⟩) (args_list_sort _)))
  obtain ⟨ss', h1, h2, h3⟩ := sorted_out_str S p1 p2
  obtain ⟨c, hc⟩ := sortedHeap_at (vs := vs) (out := (arrOf st).map (·.2)) oL
  refine wpAny_pure ⟨_, rfl, q _ s1.heap.objs.size _ c ss' (fun b u e => ?_) g1 o1 z1 hc h1 h3 (fun x => by rw [h2.mem_iff, ms x]) (by rw [h2.length_eq, sl, vl])⟩
  have k2 := k1 b u e
  have lt := Heap.lt_size k2
  refine (sortedHeap_old (Nat.ne_of_lt lt) ?_).trans (Heap.get?_push_of_some _ k2)
  rw [size_push']
  exact Nat.lt_succ_of_lt lt
end
end U

set_option Elab.async false
set_option linter.all false
set_option maxRecDepth 100000
set_option maxHeartbeats 4000000
namespace U
open PySem PySem.Spec PyProof.Rows L2 PySem.Froz
/-- sorted(set(xs)), xs a list of texts -/
def rSrtSet (K : PySem.W.Frag) : V → Hp → VK → Prop := fun v H Q => ∃ (a : Addr) (ss : List Str), v = .ref a ∧ SqL K H a (ss.map V.str) ∧ ss.length < 1000 ∧
  ∀ (out : List Str) (p : Addr) (H2 : Hp), sortedS out = true → (∀ x, x ∈ out ↔ x ∈ ss) → out.Nodup → Same H H2 → H2 p = none → Q (.ref p) (upd H2 p (.lst (out.map V.str)))
theorem nodup_from : ∀ (l ss : List Str), l.Nodup → (∀ x ∈ l, x ∈ ss) → ss.length ≤ l.length → ss.Perm l
  | [], ss, _, _, h => by
    have : ss = [] := List.length_eq_zero_iff.mp (Nat.le_zero.mp h)
    rw [this]
  | x :: l, ss, nd, hs, h => by
    obtain ⟨n1, n2⟩ := List.nodup_cons.mp nd
    have p1 := List.perm_cons_erase (hs x (.head _))
    have l1 := p1.length_eq
    rw [List.length_cons] at l1
    rw [List.length_cons] at h
    have p2 := nodup_from l (ss.erase x) n2 (fun y hy => by
      rcases List.mem_cons.mp (p1.mem_iff.mp (hs y (.tail _ hy))) with e | e
      · exact absurd (e ▸ hy) n1
      · exact e) (by omega)
    exact p1.trans (p2.cons x)
section
variable {X : Cx}
theorem strs_vals : ∀ {ss : List Str} {us : List Value}, Vals (ss.map V.str) us → StrsAre us ss
  | [], _, .nil => .nil
  | n :: k, _, .cons r t => by
    obtain ⟨tk, rfl⟩ := r
    exact .cons n tk (strs_vals t)
theorem vals_strs : ∀ {ss : List Str} {us : List Value}, StrsAre us ss → Vals (ss.map V.str) us
  | _, _, .nil => .nil
  | _, _, .cons n t r => .cons ⟨t, rfl⟩ (vals_strs r)
theorem pe_srtSet (K : PySem.W.Frag) {a : Expr} {ta : TE} {p p2 q pos : Pos} (hc : X.calm = true) (hg : Gl X "sorted") (hm : X.mg "sorted" = none) (hv : bootBuiltins "sorted" = some (.builtin "sorted"))
    (hg2 : Gl X "set") (hm2 : X.mg "set" = none) (hv2 : bootBuiltins "set" = some (.type "set")) (ha : PE X a ta)
    (na : starEach [a] X.env = (false, eval a X.env) :: starEach [] X.env := by rfl) (h : X.K = K := by rfl) : PE X (.Call (.Name "sorted" p) [.Call (.Name "set" p2) [a] [] q] [] pos) (tUn (rSrtSet K) ta) := by
  subst h
  refine ⟨fun pins s σ H Q I h => ?_⟩
  refine Call_ (ld_blt I hg hm hv ?_)
  refine PyProof.Rows.callWith_builtin1 (PyProof.Rows.args_cons ?_ rfl) rfl rfl
  refine Call_ (ld_blt I hg2 hm2 hv2 ?_)
  refine PyProof.Rows.callWith_type1 (PyProof.Rows.args_cons (thn (ha.run pins s σ H _ I h) fun v s1 ⟨x, H1, I1, r1, q1⟩ => PyProof.Rows.args_nil ?_) na) na rfl
  obtain ⟨l, ss, rfl, hq, h1, q1⟩ := q1
  cases r1
  obtain ⟨its, r, pl, hz⟩ := I1.list hq
  refine call_setX (I1.ok.hd hc) pl.isList (xs := ss) (by simpa using strs_vals r) (by unfold scanBound; omega) fun h' tk ⟨⟨l', S, m, ll⟩, hk⟩ => PyProof.Rows.args_nil ?_
  have I2 : Inv X pins σ H1 { s1 with heap := h', toks := tk } := I1.kept fun b o e => hk b o e
  replace S : SetX X.prog X.w ({ s1 with heap := h', toks := tk } : Shared).heap s1.heap.objs.size l' := S
  revert I2 S
  generalize ({ s1 with heap := h', toks := tk } : Shared) = s2
  intro I2 S
  refine sorted_setX S (I2.ok.hd hc) (by unfold scanBound; omega) fun s' b out c ts k g o hp hg3 hi hs hm3 hl => ?_
  have hn : H1 b = none := I2.hok.fresh hp
  have hlen : (ts.map V.str).length ≤ sizeLine := by rw [List.length_map, hl, sizeLine_eq]; omega
  have J : Inv X pins σ (upd H1 b (.lst (ts.map V.str))) { s2 with heap := s'.heap, gens := s'.gens, drawn := s'.drawn, toks := s'.toks } :=
    (I2.call (ch := []) (Un.laid k hp hn) (I2.hok.laid k hp ⟨hlen, out.toList, c, vals_strs hi, hg3⟩) (by rw [g]; exact I2.bare) (fun _ z => nomatch z))
  have e : s' = { s2 with heap := s'.heap, gens := s'.gens, drawn := s'.drawn, toks := s'.toks } := by
    cases s'
    cases s2
    cases o
    rfl
  rw [e]
  have pm := nodup_from l' ts S.nd (fun x hx => (hm3 x).mpr hx) (Nat.le_of_eq hl)
  exact ⟨.ref b, _, J, rfl, q1 ts b H1 hs (fun x => (hm3 x).trans (m x)) (pm.nodup_iff.mpr S.nd) (Same.refl _) hn⟩
end
section
variable {K : PySem.W.Frag} {γ : Type} {W : Wd γ} {ρ : Rho} {k : γ} {Φ : PyData → γ → Prop}
theorem TA.strsE_ {N : List Addr} {H : Hp} : ∀ {vs : List V} {ss : List Str}, TA K N H vs (ss.map .str) → vs = ss.map V.str
  | _, [], .nil => rfl
  | _, x :: ss, .cons h t => by
    cases h
    rw [List.map_cons, TA.strsE_ t]
theorem TA.ofStrs {N : List Addr} {H : Hp} : ∀ (ss : List Str), TA K N H (ss.map V.str) (ss.map .str)
  | [] => .nil
  | x :: ss => .cons (.str x) (TA.ofStrs ss)
/-- what sorted(set(ss)) is -/
structure SrtOf (out ss : List Str) : Prop where
  srt : sortedS out = true
  mem : ∀ x, x ∈ out ↔ x ∈ ss
  nd : out.Nodup
theorem ru_srtSet {ss : List Str} (hl : ss.length < 1000) (q : ∀ out, SrtOf out ss → Φ (.list (out.map .str)) k) : RU K W (rSrtSet K) (.list (ss.map .str)) ρ k Φ := fun L0 H0 L H σ vx S tx Q c => by
  cases tx with
  | lst n ha t =>
    have e := t.strsE_
    subst e
    refine ⟨_, ss, rfl, SqL.of ha, hl, fun out p H2 h1 h2 h3 sm hp => ?_⟩
    have S2 := S.same sm
    refine c _ _ k _ (S2.new hp) ((Ext.same sm).trans (Ext.new hp)) (.lst (S2.nin hp) upd_same (TA.ofStrs out)) (q out ⟨h1, h2, h3⟩)
/-- xs == ys, lists of texts -/
theorem eqv_strs : ∀ a b : List Str, PyData.eqvAll (a.map .str) (b.map .str) = decide (a = b)
  | [], [] => by simp [PyData.eqvAll]
  | [], y :: b => by simp [PyData.eqvAll]
  | x :: a, [] => by simp [PyData.eqvAll]
  | x :: a, y :: b => by
    rw [List.map_cons, List.map_cons, PyData.eqvAll, eqv_strs a b, PyData.eqv]
    by_cases h : x = y
    · subst h; simp
    · simp [h]
theorem shaped_strs : ∀ z : List Str, (∀ x ∈ z, PyData.strOk x = true) → SeqAt.shaped (.list (z.map .str)) = true := fun z hz => by
  have h1 : ∀ z : List Str, (∀ x ∈ z, PyData.strOk x = true) → PyData.canLayAll0 (z.map .str) = true := fun z => by
    induction z with
    | nil => intro _; rfl
    | cons x z ih =>
      intro h
      rw [List.map_cons, PyData.canLayAll0, PyData.canLay0, h x (.head _), ih fun y hy => h y (.tail _ hy)]
      rfl
  have h2 : ∀ z : List Str, PyData.depthAll (z.map .str) = 0 := fun z => by
    induction z with
    | nil => rfl
    | cons x z ih => rw [List.map_cons, PyData.depthAll, ih]; rfl
  rw [SeqAt.shaped, PyData.canLay0, h1 z hz, PyData.depth, h2 z]
  rfl
theorem rd_eqStrs {a b : List Str} (ha : ∀ x ∈ a, PyData.strOk x = true) (hb : ∀ x ∈ b, PyData.strOk x = true) (q : Φ (.bool (decide (a = b))) k) : RD K W (rEqD K) (.list (a.map .str)) (.list (b.map .str)) ρ k Φ := rd_ q fun N H vx vy tx ty Q c => by
  refine ⟨_, _, tx.dp (SeqAt.canLay_of_shaped (shaped_strs a ha)), ty.dp (SeqAt.canLay_of_shaped (shaped_strs b hb)), shaped_strs a ha, shaped_strs b hb, ?_⟩
  have e : PyData.eqv (.list (a.map .str)) (.list (b.map .str)) = decide (a = b) := by
    rw [PyData.eqv]
    exact eqv_strs a b
  rw [e]
  exact c _ (.bl _)
/-- a text < a text -/
theorem rd_ltS {i j : Str} (q : Φ (.bool (decide (i.cps.toList < j.cps.toList))) k) : RD K W (fun x y H Q => ∃ i j, x = .str i ∧ y = .str j ∧ Q (.bl (decide (i.cps.toList < j.cps.toList))) H) (.str i) (.str j) ρ k Φ := rd_ q fun N H vx vy tx ty Q c => by
  cases tx
  cases ty
  exact ⟨i, j, rfl, rfl, c _ (.bl _)⟩
end
end U

set_option Elab.async false
set_option linter.all false
set_option maxRecDepth 100000
set_option maxHeartbeats 2000000
/-! zip of two texts -/
namespace U
open PySem PySem.Spec PyProof.Rows L2
def ItZS (z u : Str) : It :=
  ⟨fun i _ => i < z.cps.size ∧ i < u.cps.size,
    fun i H v H' => ∃ p c d, v = .ref p ∧ H p = none ∧ H' = upd H p (.tup [.str ⟨#[c]⟩, .str ⟨#[d]⟩]) ∧ z.cps[i]? = some c ∧ u.cps[i]? = some d,
    fun i _ => i ≤ z.cps.size ∧ i ≤ u.cps.size ∧ (i = z.cps.size ∨ i = u.cps.size)⟩
structure ZS (z TI TO i1 i2 : Addr) : Prop where
  a1 : TI ≠ z
  a2 : TO ≠ z
  a3 : TI ≠ TO
  a4 : TI ≠ i1
  a5 : TI ≠ i2
  a6 : z ≠ i1
  a7 : z ≠ i2
  a8 : TO ≠ i1
  a9 : TO ≠ i2
  a10 : i1 ≠ i2
def ZS.sep {z TI TO i1 i2 : Addr} (D : ZS z TI TO i1 i2) : ZipSep2 z TI TO i1 i2 [i1] [i2] where
  TIz := D.a1
  TOz := D.a2
  TITO := D.a3
  TIi1 := D.a4
  mem1 := by simp
  zf1 := by simp [D.a6]
  Tf1 := by simp [D.a8]
  TIi2 := D.a5
  mem2 := by simp
  zf2 := by simp [D.a7]
  Tf2 := by simp [D.a9]
  sep1_2 := by simp [D.a10]
  sep2_1 := by simp [D.a10.symm]
theorem strIter_obj {h : Heap} {it : Addr} {T : String} {x : Str} {t : Tok} {i : Nat} (st : h.IsStrIter it T x t i) : ∃ o, h.get? it = some o ∧ ∀ v, o.data ≠ .cell v := by
  obtain ⟨o, e, _, d⟩ := st
  exact ⟨o, e, fun v q => by rw [d] at q; cases q⟩
theorem strIter_at {h h' : Heap} {it : Addr} {T : String} {x : Str} {t : Tok} {i : Nat} (st : h.IsStrIter it T x t i) (k : ∀ o, h.get? it = some o → h'.get? it = some o) : h'.IsStrIter it T x t i := by
  obtain ⟨o, e, r⟩ := st
  exact ⟨o, k o e, r⟩
theorem turnZS {P : Program} {w : World} {K : PySem.W.Frag} {elts : List Expr} {kk : Nat} {tpos : Pos} {x y : Str} {t1 t2 : Tok} {z TI TO i1 i2 : Addr} (D : ZS z TI TO i1 i2) :
    L2.Turn P w K (.Tuple elts kk tpos) (ItZS x y) [z, TI, TO, i1, i2] z (fun i h => IsZip h z TI TO .none ∧ IsTupOf2 h TI (.ref i1) (.ref i2) ∧ (∃ x y, IsTupOf2 h TO x y) ∧ h.IsStrIter i1 (strIterType x) x t1 i ∧ h.IsStrIter i2 (strIterType y) y t2 i) where
  mem := List.mem_cons_self
  obj := fun i h st c hc => by
    obtain ⟨hz, hTI, ⟨x, y, hTO⟩, h1, h2⟩ := st
    simp only [List.mem_cons, List.not_mem_nil, or_false] at hc
    rcases hc with rfl | rfl | rfl | rfl | rfl
    · exact ⟨_, hz, fun v q => nomatch q⟩
    · exact ⟨_, hTI, fun v q => nomatch q⟩
    · exact ⟨_, hTO, fun v q => nomatch q⟩
    · exact strIter_obj h1
    · exact strIter_obj h2
  keep := fun i h h' st k => by
    obtain ⟨hz, hTI, ⟨x, y, hTO⟩, h1, h2⟩ := st
    exact ⟨k _ (by simp) _ hz, k _ (by simp) _ hTI, ⟨x, y, k _ (by simp) _ hTO⟩, strIter_at h1 fun o q => k _ (by simp) o q, strIter_at h2 fun o q => k _ (by simp) o q⟩
  item := by
    rintro X rfl rfl rfl hc i pins s σ H E I hf ⟨hz, hTI, ⟨x0, y0, hTO⟩, h1, h2⟩ ⟨l1, l2⟩
    have zl : z < s.heap.objs.size := Heap.lt_size hz
    refine wpAny_pyNext_zipD2_item D.sep (Draws.text (A := X.A.in1) (I.ok.hd hc) i1 x t1) (Draws.text (A := X.A.in1) (I.ok.hd hc) i2 y t2) hz hTI hTO h1 h2 l1 l2 fun u' v' h' tk eu ev nz nTO n1 n2 nT nsz nk => ?_
    obtain ⟨c, tc, ec, rfl⟩ := eu
    obtain ⟨d, td, ed, rfl⟩ := ev
    refine ⟨_, rfl, wpAny_letOwnedTupleGo_zip (s := { s with heap := h', toks := tk }) nz fun h2' nz2 sb => ?_⟩
    have nT2 : h2'.get? s.heap.objs.size = some { cls := .type "tuple", data := .seq #[Value.str ⟨#[c]⟩ tc, Value.str ⟨#[d]⟩ td] } := (sb.2 _ (Nat.ne_of_gt zl)).trans nT
    have made : ObjOk X.prog X.w (upd H s.heap.objs.size (.tup [.str ⟨#[c]⟩, .str ⟨#[d]⟩])) h2' s.heap.objs.size (.tup [.str ⟨#[c]⟩, .str ⟨#[d]⟩]) :=
      ⟨(show 2 ≤ sizeLine by decide), [Value.str ⟨#[c]⟩ tc, Value.str ⟨#[d]⟩ td], .cons ⟨tc, rfl⟩ (.cons ⟨td, rfl⟩ .nil), ⟨_, nT2, rfl, _, rfl⟩⟩
    have J : Inv X pins σ (upd H s.heap.objs.size (.tup [.str ⟨#[c]⟩, .str ⟨#[d]⟩])) { s with heap := h2', toks := tk } :=
      I.turnedNew (ch := [z, TI, TO, i1, i2]) (fun c o nc q => (sb.2 c fun e => nc (by simp [e])).trans (nk c o (fun e => nc (by simp [e])) (fun e => nc (by simp [e])) (fun e => nc (by simp [e])) (fun e => nc (by simp [e])) q)) hf (Nat.le_refl _) made
    refine ⟨.ref s.heap.objs.size, _, J, rfl, ⟨_, c, d, rfl, I.hok.fresh (Nat.le_refl _), rfl, ec, ed⟩, ⟨nz2, ?_, ⟨Value.str ⟨#[c]⟩ tc, Value.str ⟨#[d]⟩ td, ?_⟩, ?_, ?_⟩, fun b hcm => ?_⟩
    · exact (sb.2 _ D.a1).trans (nk _ _ D.a1 D.a3 D.a4 D.a5 hTI)
    · exact (sb.2 _ D.a2).trans nTO
    · exact strIter_at n1 fun o q => (sb.2 _ D.a6.symm).trans q
    · exact strIter_at n2 fun o q => (sb.2 _ D.a7.symm).trans q
    · have lt : b < s.heap.objs.size := by
        have lt1 : i1 < s.heap.objs.size := by obtain ⟨_, q, _⟩ := h1; exact Heap.lt_size q
        have lt2 : i2 < s.heap.objs.size := by obtain ⟨_, q, _⟩ := h2; exact Heap.lt_size q
        have hcm2 := hcm
        simp only [List.mem_cons, List.not_mem_nil, or_false] at hcm2
        rcases hcm2 with rfl | rfl | rfl | rfl | rfl
        · exact zl
        · exact Heap.lt_size hTI
        · exact Heap.lt_size hTO
        · exact lt1
        · exact lt2
      rw [upd_ne (Nat.ne_of_lt lt)]
      exact (hf b hcm).1
  done := by
    rintro X rfl rfl rfl hc i pins s σ H E I hf ⟨hz, hTI, ⟨x0, y0, hTO⟩, h1, h2⟩ ⟨le1, le2, en⟩
    refine wpAny_pyNext_zipD2_end D.sep (Draws.text (A := X.A.in1) (I.ok.hd hc) i1 x t1) (Draws.text (A := X.A.in1) (I.ok.hd hc) i2 y t2) hz hTI hTO h1 h2 le1 le2 en fun h' tk nk => ?_
    exact ⟨rfl, I.turnedL (ch := [z, TI, TO, i1, i2]) (fun c o nc q => nk c o (fun e => nc (by simp [e])) (fun e => nc (by simp [e])) (fun e => nc (by simp [e])) (fun e => nc (by simp [e])) q) hf⟩
  self := fun _ _ _ _ _ st h => wpAny_pyIter_zip st.1 h
def iZipS (ta : L2.TA) : TI := fun σ H R => ta σ H fun vs H1 => ∃ z u, vs = [.str z, .str u] ∧ R (ItZS z u) H1
theorem pi_zipS {X : Cx} {e e2 : Expr} {ta : L2.TA} {p pos tpos : Pos} {elts : List Expr} {kk : Nat} (hg : Gl X "zip") (hm : X.mg "zip" = none) (ha : PA X [e, e2] ta)
    (st : starEach [e, e2] X.env = (false, eval e X.env) :: starEach [e2] X.env := by rfl) (pl : (backTo pos (starEach [e2] X.env)).any (·.1) = false := by rfl) :
    PI X (.Tuple elts kk tpos) (.Call (.Name "zip" p) [e, e2] [] pos) (iZipS ta) := by
  refine ⟨fun pins s σ H R I h => Call_ (ld_blt I hg hm PyProof.Rows.boot_zip (PyProof.Rows.callWith_type1 (thn (ha.run pos pins s σ H _ I h) fun us s1 ⟨vs, H1, I1, r1, z, u, ex, q⟩ => ?_) st pl))⟩
  subst ex
  cases r1 with
  | cons r rr =>
    cases rr with
    | cons r' rr =>
      cases rr
      obtain ⟨t1, rfl⟩ := r
      obtain ⟨t2, rfl⟩ := r'
      refine zip_begins2 (begins_text z t1) (begins_text u t2) trivial trivial fun h' nz nTI nTO n1 n2 nsz nk => wpAny_pyIter_zip nz ?_
      have J : Inv X pins σ H1 { s1 with heap := h' } := I1.kept (t' := s1.toks) nk
      refine ⟨s1.heap.objs.size + 4, [s1.heap.objs.size + 4, s1.heap.objs.size + 2, s1.heap.objs.size + 3, s1.heap.objs.size, s1.heap.objs.size + 1], _, _, H1, rfl, J, turnZS ⟨?_, ?_, ?_, ?_, ?_, ?_, ?_, ?_, ?_, ?_⟩, ⟨nz, nTI, ⟨_, _, nTO⟩, ⟨_, n1, rfl, rfl⟩, ⟨_, n2, rfl, rfl⟩⟩, fun c hcm => ?_, q⟩
      iterate 10 · exact fun e => absurd e (by simp [Addr])
      have le : s1.heap.objs.size ≤ c := by
        simp only [List.mem_cons, List.not_mem_nil, or_false] at hcm
        rcases hcm with rfl | rfl | rfl | rfl | rfl
        · exact Nat.le_add_right _ _
        · exact Nat.le_add_right _ _
        · exact Nat.le_add_right _ _
        · exact Nat.le_refl _
        · exact Nat.le_add_right _ _
      exact I1.fpOk le (I1.hok.fresh le)
section
variable {K : PySem.W.Frag} {γ : Type} {W : Wd γ} {ρ : Rho} {k : γ} {L1 : List Addr} {H1 : Hp}
theorem walkD_zipS {z u : Str} : WalkD K W (ItZS z u) (min z.cps.size u.cps.size) (fun i => .tuple [.str ⟨#[z.cps[i]?.getD 0]⟩, .str ⟨#[u.cps[i]?.getD 0]⟩]) L1 H1 where
  goes := fun i L H hi l => ⟨by omega, by omega⟩
  stops := fun L H l => ⟨by omega, by omega, by omega⟩
  yields := fun i L H x H' hi l y => by
    obtain ⟨p, c, d, rfl, hp, rfl, e1, e2⟩ := y
    rw [e1, e2]
    exact ⟨Same.new hp, .tup (l.trk.new hp) upd_same (.cons (.str _) (.one (.str _)))⟩
theorem ei_zipS {tr : L2.TA} {Ω : Nat → (Nat → PyData) → γ → Prop} (h : EvA K W tr ρ k fun es k1 => ∃ z u : Str, es = [.str z, .str u] ∧ Ω (min z.cps.size u.cps.size) (fun i => .tuple [.str ⟨#[z.cps[i]?.getD 0]⟩, .str ⟨#[u.cps[i]?.getD 0]⟩]) k1) : EvI K W (iZipS tr) ρ k Ω := fun L0 H0 L H σ S R c =>
  h L0 H0 L H σ S _ fun vs es k1 H1 S1 e t g => by
    obtain ⟨z, u, rfl, q⟩ := g
    obtain ⟨a, b, rfl, ta, tb⟩ := t.two_
    cases ta
    cases tb
    exact ⟨z, u, rfl, c _ _ _ k1 H1 S1 e walkD_zipS q⟩
end
end U

set_option Elab.async false
set_option linter.all false
set_option maxRecDepth 100000
set_option maxHeartbeats 4000000
namespace U
open PySem PySem.Spec PyProof.Rows L2
section
open AutoSeq1 (wpAny_loadPart')
theorem tupTimes0 (l : Addr) (n : Nat) (dd : Option Addr) (sl : Array (Option Value)) (u : Tok) :
    Meets (Builtin.«tuple.__mul__» ⟨[.ref l, .int 4 u], []⟩) (fun _ R z => z.heap.get? l = some { cls := .type "tuple", dict := dd, data := .seq (([] : List Value).toArray) n, slots := sl } ∧ R (.ok (.ret (Value.ref l))) z) :=
  .of_wp fun prog w A R z h => by
    obtain ⟨p0, g, d, k0, os⟩ := z
    obtain ⟨hl, h⟩ := h
    have f1 := AutoSeq1.idx_int
    wp_walk using wpAny_loadPart' hl
    exact ⟨_, rfl, h⟩
end
/-- a tuple k times, the empty one too -/
def rTimesA (K : PySem.W.Frag) : R2 := fun x y H Q => ∃ (l : Addr) (xs : List V), x = .ref l ∧ y = .int 4 ∧ SqT K H l xs ∧ xs.length ≤ 1000 ∧ (xs = [] → Q (.ref l) H) ∧ (xs ≠ [] → ∀ p, H p = none → Q (.ref p) (upd H p (.tup (List.replicate 4 xs).flatten)))
theorem op_timesA {X : Cx} : OpR X (binaryOp .Mult) (rTimesA X.K) := by
  intro pins z σ H x y v u Q I rx ry h
  obtain ⟨l, xs, rfl, rfl, hT, hz, q1, q2⟩ := h
  by_cases e : xs = []
  · subst e
    have q1 := q1 rfl
    have rx' : RelV (.ref l) v := rx
    cases rx
    obtain ⟨t, rfl⟩ := ry
    obtain ⟨its, r, ⟨⟨cls, dd, data, sl⟩, ho, hc, m, hd⟩, hs⟩ := I.tuple hT
    simp only at hc hd
    subst hc hd
    cases r
    exact wpAny_binaryOp_repeat_ref (T := "tuple") (U := "int") (by decide) ⟨_, ho, rfl⟩ (fun z' => typeIs_int z' 4 t) noFill_tuple_mul F.fills_int_mul F.slot_int_rmul repeat_tuple F.slot_int_index.lookup
      (call_meets F.slot_int_rmul (typeIs_int z 4 t) F.entry_int_rmul (F.args_int_rmul_2 _ _) (int_rmul_tuple 4 t l _ m dd sl) ⟨ho, rfl, ⟨_, ho, rfl⟩, call_meets F.slot_tuple_mul ⟨_, ho, rfl⟩ F.entry_tuple_mul (F.args_tuple_mul_2 _ _) (tupTimes0 l m dd sl t) ⟨ho, ⟨.ref l, H, I, rx', q1⟩⟩⟩)
  · exact op_repT pins z σ H (.ref l) (.int 4) v u Q I rx ry ⟨l, 4, xs, rfl, rfl, hT, e, by decide, by decide, hz, q2 e⟩
theorem kTimesA (K : PySem.W.Frag) {X : Cx} (h : X.K = K := by rfl) : OpR X (binaryOp .Mult) (rTimesA K) := by subst h; exact op_timesA
section
variable {K : PySem.W.Frag} {γ : Type} {W : Wd γ} {ρ : Rho} {k : γ} {Φ : PyData → γ → Prop}
theorem TA.flat {N : List Addr} {H : Hp} {xs : List V} {ds : List PyData} (t : TA K N H xs ds) : ∀ n : Nat, TA K N H (List.replicate n xs).flatten (List.replicate n ds).flatten
  | 0 => .nil
  | n + 1 => by
    rw [List.replicate_succ, List.flatten_cons, List.replicate_succ, List.flatten_cons]
    exact TA.app t (TA.flat t n)
/-- ds * 4 -/
theorem rd_times4 {ds : List PyData} (hl : ds.length ≤ 1000) (q : Φ (.tuple (List.replicate 4 ds).flatten) k) : RD K W (rTimesA K) (.tuple ds) (.int 4) ρ k Φ := rdN q fun N H vx vy tr tx ty Q c => by
  cases ty
  cases tx with
  | @tup a xs _ na ha ts =>
    refine ⟨a, xs, rfl, rfl, SqT.of ha, by rw [ts.len]; exact hl, fun e => ?_, fun e p hp => ?_⟩
    · subst e
      cases ts
      exact c (.ref a) H (Same.refl _) (.tup na ha .nil)
    · refine c (.ref p) _ (Same.new hp) (.tup (tr.new hp) upd_same ?_)
      exact (TA.flat ts 4).ext (Ext.new hp)
end
end U

set_option Elab.async false
set_option linter.all false
set_option maxRecDepth 100000
set_option maxHeartbeats 4000000
/-! name = {k: v for ..}, the keys tuples -/
namespace U
open PySem PySem.Spec PyProof.Rows L2
theorem n_dictSet {X : Cx} {K : PySem.W.Frag} {pins : List (Addr × Obj)} {σ : L2.St} {H : Hp} {s : Shared} {E : Value → Shared → Prop} {a b : Addr} {xs : List (NestedKey × Addr × V)} {N : List Addr} {kvs : List (NestedKey × PyData)} {k : NestedKey} {v : V} {u r : Value} {Q : Unit → Shared → Prop}
    (hu : X.A.units + 9 < cLine) (I : Inv X pins σ H s) (e : H a = some (DN X.prog X.w a xs)) (t : KN K N H xs kvs) (ky : KeyY K H (.ref b) k) (l : xs.length < sizeLine) (ry : RelV (.ref b) u) (rv : RelV v r)
    (h : ∀ s', Inv X pins σ (upd H a (DN X.prog X.w a (putNV xs k b v))) s' → Q () s') : wpAny (model X.prog X.w) X.A (dictSet a u r) Q E s := by
  obtain ⟨b', rfl, eb, hk⟩ := key_at I ky ry
  cases eb
  obtain ⟨z, hd, us, rel, dd⟩ := dn_at I e t
  have room : (nestedKind X.prog X.w).room X.A := by
    show X.A.units + 8 < cLine
    omega
  refine wpAny_dictSet_heap (hsz := by rw [← rel.length]; exact z) room hk dd fun h' dd' hs => h _ ?_
  have he : ∃ q, h'.get? a = some q := let ⟨q, _, _, hq, _⟩ := dd'; ⟨q, hq⟩
  have hl : (putNV xs k b v).length ≤ sizeLine := by have := putNV_len xs k b v; omega
  exact d_write I (by rw [e]; exact True.intro) hs he (dn_new hl hd (rel.put k b rv) dd')
/-- {k: v for target in iter if ..}: D the new dict -/
def tDcN (P : Program) (w : World) (K : PySem.W.Frag) (wi : TI) (g : TG) (tt : TT) (tk tv : TE) (vs : List Nat) : TE := fun σ H Q => wi σ H fun J H1 => ∀ D, H1 D = none → ∃ W : Nat → Nat → Hp → Prop, (∃ m, W 0 m (upd H1 D (DN P w D []))) ∧ ∀ i m H, W i m H →
  (J.stop i H ∧ Q (.ref D) H) ∨ (J.go i H ∧ ∃ Nx : Hp → Prop, (∀ H', Nx H' → ∃ m', m' < m ∧ W (i + 1) m' H') ∧ ∀ x H', J.yld i H x H' → g x (wipe σ vs) H' fun σ2 H2 => wipe σ2 vs = wipe σ vs ∧ tt σ2 H2 fun b H3 =>
    if b = true then tk σ2 H3 fun y H4 => tv σ2 H4 fun z H5 => ∃ N xs kvs k b, y = .ref b ∧ H5 D = some (DN P w D xs) ∧ KN K N H5 xs kvs ∧ KeyY K H5 y k ∧ xs.length < sizeLine ∧ Nx (upd H5 D (DN P w D (putNV xs k b z))) else Nx H3)
section
variable {X : Cx} {K : PySem.W.Frag}
theorem dcn_core {pins : List (Addr × Obj)} {s : Shared} {σ : L2.St} {H : Hp} {Q : VK} {kx vx tg iter : Expr} {ifs : List Expr} {scope : Scope} {own : List (Str × Nat)} {pos pos' : Pos} {wi : TI} {g : TG} {tt : TT} {tk tv : TE} {use : Option (Value → Sem Unit)} {Qf : Value → Shared → Prop}
    (hu : X.A.units + 9 < cLine) (hc : X.calm = true) (hN : X.N.Nodup) (I : Inv X pins σ H s) (hi : PI X tg iter wi) (ok : BlkOk X.N X.env.scope scope own)
    (hg : ∀ s H C cl fp, PG (X.blk s H scope (compEnvC scope cl C X.env) fp) tg g) (ht : ∀ s H C cl fp, PTs (X.blk s H scope (compEnvC scope cl C X.env) fp) ifs tt)
    (hk : ∀ s H C cl fp, PE (X.blk s H scope (compEnvC scope cl C X.env) fp) kx tk) (he : ∀ s H C cl fp, PE (X.blk s H scope (compEnvC scope cl C X.env) fp) vx tv) (hs : ∀ x, foldedSetIterable iter X.env x = pure x)
    (h : tDcN X.prog X.w K wi g tt tk tv (own.map (·.2)) σ H Q)
    (back : ∀ D C s' m H', Inv X pins σ H' s' → Q (.ref D) H' → s'.heap.Ns C m → FpOk X pins H' C → compPost (model X.prog X.w) X.A X.xe use Qf (.ref D) C (.ok .next) s') :
    wpAny (model X.prog X.w) X.A (comprehension (.DictComp kx vx [⟨tg, iter, ifs, 0⟩] scope pos) scope X.env pos' newDict false (eval iter X.env) use) Qf X.xe s := by
  have fr : ∀ y ∈ scope.names, y.2 = .free → ∃ c, X.env.cells.lookup y.1 = some c := fun y hy e => (ok.free y hy e).elim (fun k => I.ok.has _ (.inl k)) fun k => I.ok.has _ (.inr k)
  refine wpAny_comprehension_free (use := use) rfl hs (closure_ok fr) ok.kind (fun y hy e => by rw [ok.uniq y hy, e]) (thn (hi.run pins s σ H _ I h) fun xv s1 hx => thn hx fun itv s2 h2 => ?_)
  obtain ⟨it, fp, tn, J, H2, rfl, I2, T, st2, f2, q⟩ := h2
  refine wpAny_newObj_type (newEnv_comp ?_)
  have hDn : H2 s2.heap.objs.size = none := I2.hok.fresh (Nat.le_refl _)
  obtain ⟨W, ⟨m0, w0⟩, turn⟩ := q s2.heap.objs.size hDn
  have lt2 : ∀ b ∈ fp, b < s2.heap.objs.size := fun b hb => let ⟨_, e, _⟩ := T.obj _ _ st2 b hb; Heap.lt_size e
  have okD : ObjOk X.prog X.w (upd H2 s2.heap.objs.size (DN X.prog X.w s2.heap.objs.size [])) (s2.heap.push { cls := .type "dict", data := .dict #[] }) s2.heap.objs.size (DN X.prog X.w s2.heap.objs.size []) :=
    dn_new (us := []) (Nat.zero_le _) (beq_eq_false_iff_ne.mpr (Ne.symm (Nat.ne_of_lt I2.big))) .nil (Heap.DictOfH.new s2.heap)
  have I3 := I2.laid (a := s2.heap.objs.size) (t' := s2.toks) (fun _ _ e => Heap.get?_push_of_some _ e) (Nat.le_refl _) okD
  generalize hs3 : ({ s2 with heap := s2.heap.push { cls := .type "dict", data := .dict #[] }, toks := s2.toks } : Shared) = s3 at I3
  have h3 : s3.heap = s2.heap.push { cls := .type "dict", data := .dict #[] } := by rw [← hs3]
  have sz3 : s3.heap.objs.size = s2.heap.objs.size + 1 := by rw [h3]; exact Heap.size_push ..
  generalize hD : s2.heap.objs.size = D at hDn I3 lt2 w0 turn sz3 okD
  generalize hH3 : upd H2 D (DN X.prog X.w D []) = H3 at I3 w0
  have f3 : ∀ b ∈ fp, FpOk X pins H3 b ∧ b < s3.heap.objs.size := fun b hb => by
    have l := lt2 b hb
    refine ⟨⟨?_, (f2 b hb).2⟩, by rw [sz3]; exact Nat.lt_succ_of_lt l⟩
    rw [← hH3, upd_ne (Nat.ne_of_lt l)]
    exact (f2 b hb).1
  have st3 : tn 0 s3.heap := T.keep _ _ _ st2 fun b _ o e => by rw [h3]; exact Heap.get?_push_of_some _ e
  have I4 := block_start I3 ok hN f3
  show codeAny _ _ (.compStart _ 0 (.ref it) (.ref D) (compEnvC scope (cellsFrom (s3.heap.objs.size + 1) scope.names (cloFrom X.env.cells scope.names [])) s3.heap.objs.size X.env)) (compPost (model X.prog X.w) X.A X.xe use Qf (.ref D) s3.heap.objs.size) _
  generalize cellsFrom (s3.heap.objs.size + 1) scope.names (cloFrom X.env.cells scope.names []) = cl at I4 ⊢
  have pg := hg s3 H3 s3.heap.objs.size cl fp
  have pt := ht s3 H3 s3.heap.objs.size cl fp
  have pk := hk s3 H3 s3.heap.objs.size cl fp
  have pv := he s3 H3 s3.heap.objs.size cl fp
  have nfp : ∀ b ∈ fp, H3 b = none := fun b hb => (f3 b hb).1.1
  have cL : (compEnvC scope cl s3.heap.objs.size X.env).locals = s3.heap.objs.size := rfl
  generalize compEnvC scope cl s3.heap.objs.size X.env = ce at I4 pg pt pk pv cL ⊢
  have e4 : tn 0 (pushCells (s3.heap.push { cls := .type "dict", data := .dict #[] }) scope.names) := T.keep _ _ _ st3 fun b _ o e => pushCells_keeps _ _ _ _ (Heap.get?_push_of_some _ e)
  generalize hs4 : ({ s3 with heap := pushCells (s3.heap.push { cls := .type "dict", data := .dict #[] }) scope.names } : Shared) = s4 at I4 ⊢
  have st4 : tn 0 s4.heap := by rw [← hs4]; exact e4
  have still : ∀ {σ' : L2.St} {H' : Hp} {s' : Shared}, Inv (X.blk s3 H3 scope ce fp) [] σ' H' s' → (∀ b ∈ fp, H' b = none) → ∀ b ∈ fp, FpOk (X.blk s3 H3 scope ce fp) [] H' b := fun {σ' H' s'} I' hn b hb =>
    ⟨hn b hb, (I'.ok.exf b hb).1, I'.ok.exfs b hb, .inl hb, fun x c e => (I'.ok.exf b hb).2 x c e, fun p hp => absurd (show p ∈ ([] : List (Addr × Obj)) ++ [] from hp) (by simp)⟩
  have loop : codeAny (model X.prog X.w) X.A (.compLoop (.DictComp kx vx [⟨tg, iter, ifs, 0⟩] scope pos) 0 (.ref it) (.ref D) ce) (compPost (model X.prog X.w) X.A X.xe use Qf (.ref D) s3.heap.objs.size) s4 := by
    refine compLoop_anyD (fun n s' => ∃ i H', Inv (X.blk s3 H3 scope ce fp) [] (wipe σ (own.map (·.2))) H' s' ∧ tn i s'.heap ∧ (∀ b ∈ fp, H' b = none) ∧ W i n H') ?_ m0 ⟨0, H3, I4, st4, nfp, w0⟩
    rintro n s5 ⟨i, H5, I5, st5, n5, w5⟩
    rcases turn i n H5 w5 with ⟨stop, qq⟩ | ⟨go, Nx, hNx, step⟩
    · refine thnF (T.done (X.blk s3 H3 scope ce fp) rfl rfl rfl hc i [] s5 _ H5 (fun _ _ => False) I5 (still I5 n5) st5 stop) fun r s6 ⟨hr, I6⟩ => ?_
      subst hr
      have I7 : Inv X pins σ H5 s6 := I3.call' (ch := fp) I6.os I6.base I6.hok I6.bare fun b hb => ⟨(f3 b hb).1.2.2.2.1, (f3 b hb).1.2.1, (f3 b hb).1.2.2.2.2.1, (f3 b hb).1.2.2.2.2.2⟩
      have nC : H5 s3.heap.objs.size = none := by rw [← cL]; exact I6.free
      obtain ⟨m, hn, _⟩ := I6.loc
      have hn : s6.heap.Ns s3.heap.objs.size m := by rw [← cL]; exact hn
      exact back D s3.heap.objs.size s6 m H5 I7 qq hn (I3.fpOk (Nat.le_refl _) nC)
    · refine thnF (T.item (X.blk s3 H3 scope ce fp) rfl rfl rfl hc i [] s5 _ H5 (fun _ _ => False) I5 (still I5 n5) st5 go) fun r s6 ⟨u, hr, h6⟩ => ?_
      subst hr
      refine thnF h6 fun _ s7 ⟨x, H7, I7, r7, y7, st7, n7⟩ => ?_
      refine thnF (pg.run _ s7 _ H7 x u _ (I7.pinned (still I7 n7) (T.obj _ _ st7)) r7 (step x H7 y7)) fun _ s8 ⟨σ8, H8, I8, hw8, q8⟩ => ?_
      refine thnF (pt.run _ s8 σ8 H8 _ I8 q8) fun b s9 ⟨H9, I9, q9⟩ => ?_
      have fin : ∀ {s' : Shared} {H' : Hp}, Inv (X.blk s3 H3 scope ce fp) ([] ++ pinsAt fp s7.heap) σ8 H' s' → Nx H' → ∃ m, m < n ∧ ∃ i H', Inv (X.blk s3 H3 scope ce fp) [] (wipe σ (own.map (·.2))) H' s' ∧ tn i s'.heap ∧ (∀ b ∈ fp, H' b = none) ∧ W i m H' := fun {s' H'} I' nx => by
        obtain ⟨m', hm, w'⟩ := hNx H' nx
        have pin : ∀ b ∈ fp, ∀ o, s7.heap.get? b = some o → s'.heap.get? b = some o ∧ H' b = none := fun b hb o e =>
          have z := I'.pin (b, o) (List.mem_append_right _ (List.mem_append_right _ (mem_pinsAt hb e)))
          ⟨z.1, z.2.1⟩
        refine ⟨m', hm, i + 1, H', (I'.unpinned (pins := [])).weak (by rw [← hw8, wipe_length]) (fun j v e => ?_), T.keep _ _ _ st7 fun b hb o e => (pin b hb o e).1, fun b hb => ?_, w'⟩
        · rw [← hw8] at e
          exact (wipe_some e).1
        · obtain ⟨o, e, _⟩ := T.obj _ _ st7 b hb
          exact (pin b hb o e).2
      cases b with
      | false =>
        simp only [Bool.false_eq_true, if_false] at q9 ⊢
        exact fin I9 q9
      | true =>
        simp only [if_true] at q9 ⊢
        refine thnF (pk.run _ s9 σ8 H9 _ I9 q9) fun z s10 ⟨yk, H10, I10, r10, q10⟩ => ?_
        refine thnF (pv.run _ s10 σ8 H10 _ I10 q10) fun z2 s11 ⟨yv, H11, I11, r11, N, xs, kvs, k, b, ek, hD11, kn, ky, l11, nx⟩ => ?_
        subst ek
        exact n_dictSet (X := X.blk s3 H3 scope ce fp) hu I11 hD11 kn ky l11 r10 r11 fun s12 I12 => fin I12 nx
  exact codeAny_compStart_dict loop (T.self X.A 0 _ _ _ st4 loop)
/-- name = {k: v for target in iter if ..} -/
theorem ps_setDcN {i : Nat} {y : Str} {py : Pos} {kx vx tg iter : Expr} {ifs : List Expr} {scope : Scope} {own : List (Str × Nat)} {pos spos : Pos} {wi : TI} {g : TG} {tt : TT} {tk tv : TE} (hu : X.A.units + 9 < cLine) (hc : X.calm = true) (hN : X.N.Nodup) (hy : X.N[i]? = some y) (hyl : X.env.scope.names.lookup y = some .local)
    (hsw : swapsWith (.DictComp kx vx [⟨tg, iter, ifs, 0⟩] scope pos) (some (.Name y py)) spos.line X.env = pure true) (hi : PI X tg iter wi) (ok : BlkOk X.N X.env.scope scope own)
    (hg : ∀ s H C cl fp, PG (X.blk s H scope (compEnvC scope cl C X.env) fp) tg g) (ht : ∀ s H C cl fp, PTs (X.blk s H scope (compEnvC scope cl C X.env) fp) ifs tt)
    (hk : ∀ s H C cl fp, PE (X.blk s H scope (compEnvC scope cl C X.env) fp) kx tk) (he : ∀ s H C cl fp, PE (X.blk s H scope (compEnvC scope cl C X.env) fp) vx tv) (hs : ∀ x, foldedSetIterable iter X.env x = pure x := by intro _; rfl) :
    PS X (.Assign [.Name y py] (.DictComp kx vx [⟨tg, iter, ifs, 0⟩] scope pos) spos) (tAsg (tDcN X.prog X.w K wi g tt tk tv (own.map (·.2))) (gName i)) := by
  refine ⟨fun pins s σ H D I h => ?_⟩
  rw [exec_Assign_Name_used _ _ _ _ hsw]
  refine wpAny_bind (wpAny_standAt (wpAny_bind ?_))
  show wpAny _ X.A (do let _ ← comprehension (.DictComp kx vx [⟨tg, iter, ifs, 0⟩] scope pos) scope X.env (firstIterPos [⟨tg, iter, ifs, 0⟩] pos) newDict false (eval iter X.env) (some (assign (.Name y py) X.env))) _ _ s
  have h : tDcN X.prog X.w K wi g tt tk tv (own.map (·.2)) σ H (fun x H1 => gName i x σ H1 D.nx) := h
  refine wpAny_bind (thn (dcn_core (Qf := fun _ s' => SP X pins D .next s') hu hc hN I hi ok hg ht hk he hs h fun L C s' m H' I' q hn f => ?_) fun _ s' hq => wpAny_pure (wpAny_pure hq))
  show wpAny _ _ (assign (.Name y py) X.env (.ref L)) _ _ _
  refine wpAny_assign_Name (store_ok2 (v := V.ref L) I' hN hy (.inl hyl) rfl (fun s2 I2 ⟨a, sb, ha⟩ => ?_) (.inr hyl))
  obtain ⟨f0, f1, f2, f3, f4, f5⟩ := f
  have ne : C ≠ a := ha.elim (fun z => by rw [z]; exact f1) fun z e => f4 y a z e.symm
  exact ⟨m, hn.sameBut sb ne, fun h3 sb3 => ⟨_, H', I2.turned (t' := s2.toks) (fun b o hb e => (sb3.2 b hb).trans e) f0 f1 f3 f4 f5, q⟩⟩
theorem sw_trueD {kx vx : Expr} {gs : List Comprehension} {scope : Scope} {pos py : Pos} {y : Str} {l : Nat} {env : Env} (hk : env.scope.kind = .function) (hy : env.scope.names.lookup y = some .local) (hl : (py.line == pos.line) = true)
    (ha : (scope.names.any fun (n, k) => n == y && (k == .local || k == .cell)) = false) : swapsWith (.DictComp kx vx gs scope pos) (some (.Name y py)) l env = pure true := by
  have ky : env.kindOf y = some .local := hy
  have hb : env.blockKind = .function := by
    unfold Env.blockKind
    rw [hk] <;> rfl
  unfold swapsWith
  simp only [hb, ky, ha, Expr.pos, hl]
  rfl
end
end U

set_option Elab.async false
set_option linter.all false
set_option maxRecDepth 100000
set_option maxHeartbeats 2000000
namespace U
open PySem PySem.Spec PyProof.Rows L2
def kvN (key : Nat → NestedKey) (val : Nat → PyData) (n : Nat) : List (NestedKey × PyData) := (List.range n).foldl (fun kv t => putN kv (key t) (val t)) []
theorem kvN_succ (key : Nat → NestedKey) (val : Nat → PyData) (n : Nat) : kvN key val (n + 1) = putN (kvN key val n) (key n) (val n) := by
  unfold kvN
  rw [List.range_succ, List.foldl_append]
  rfl
theorem kvN_len (key : Nat → NestedKey) (val : Nat → PyData) : ∀ n, (kvN key val n).length ≤ n
  | 0 => Nat.le_refl _
  | n + 1 => by
    rw [kvN_succ]
    have := putN_len (kvN key val n) (key n) (val n)
    have := kvN_len key val n
    omega
section
variable {K : PySem.W.Frag} {γ : Type} {W : Wd γ} {ρ : Rho} {k : γ} {g : TG} {tt : TT} {tk tv : TE} {wi : TI} {vs : List Nat} {P : Program} {w : World} {Z : Ps γ} {i0 : Nat}
/-- name = {k: v for ..}, the keys tuples, no test -/
theorem sw_dcN (key : Nat → NestedKey) (val : Nat → PyData) (h : EvI K W wi ρ k fun n f k1 => n ≤ 100000 ∧
      (∀ i, i < n → TgW K W g (fun i => i ∈ vs) (f i) (wipeR ρ vs) fun ρ2 => EvT K W tt ρ2 k1 fun b k3 => b = true ∧ k3 = k1 ∧ EvW K W tk ρ2 k1 fun e k4 => k4 = k1 ∧ ((∃ es, e = .tuple es) ∧ nkey e = some (key i) ∧ (key i).depth ≤ 8) ∧ EvW K W tv ρ2 k1 fun d k5 => d = val i ∧ k5 = k1) ∧
      Z.nx (ρ.set i0 (.ownN (DN P w) (kvN key val n))) k1) : SW K W (tAsg (tDcN P w K wi g tt tk tv vs) (gName i0)) ρ k Z := fun L0 H0 L H σ DD S nx _ _ _ =>
  h.x L0 H0 L H σ S _ fun J n f k1 H1 S1 e wd g => by
    obtain ⟨hn, turn, done⟩ := g
    intro D hD
    obtain ⟨Sd, nD⟩ := S1.hide (o := DN P w D []) hD
    have nin := S1.nin hD
    have dM : D ∉ W.M := fun z => nin (List.mem_append_right _ z)
    refine ⟨fun i m H2 => m = n - i ∧ i ≤ n ∧ ∃ ys, Stt K W L0 H0 (D :: L) H2 σ ρ k1 ∧ Ext W.M H1 H2 ∧ H2 D = some (DN P w D ys) ∧ KN K (D :: L ++ W.M) H2 ys (kvN key val i),
      ⟨n, rfl, Nat.zero_le _, [], Sd, Ext.new hD, upd_same, .nil⟩, ?_⟩
    rintro i m H2 ⟨rfl, hi, ys, S2, e2, hy, ty⟩
    have l2 : Later W L H1 (D :: L) H2 := ⟨e2.sub fun b hb => List.mem_append_right _ hb, fun l hl => (List.mem_cons.mp hl).elim (fun q => .inr (by rw [q]; exact hD)) fun q => .inl q, S2.trk⟩
    by_cases hlt : i < n
    · refine .inr ⟨wd.goes i _ H2 hlt l2 e2, fun H' => ∃ ys, Stt K W L0 H0 (D :: L) H' σ ρ k1 ∧ Ext W.M H1 H' ∧ H' D = some (DN P w D ys) ∧ KN K (D :: L ++ W.M) H' ys (kvN key val (i + 1)),
        fun H' ⟨ys, a1, a2, a3, a4⟩ => ⟨n - (i + 1), by omega, rfl, hlt, ys, a1, a2, a3, a4⟩, fun x H' y => ?_⟩
      obtain ⟨sm, tx⟩ := wd.yields i _ H2 x H' hlt l2 e2 y
      have S3 := S2.same sm
      refine turn i hlt L0 H0 (D :: L) H' _ k1 x (S3.wipe vs) tx _ fun σ3 ρ3 S4 hl4 ag tst => ⟨wipe_of hl4 ag, ?_⟩
      refine (tst : EvT K W tt ρ3 k1 _) L0 H0 (D :: L) H' σ3 S4 _ fun b k3 H3 S5 e5 g5 => ?_
      obtain ⟨rfl, rfl, g5⟩ := g5
      refine (g5 : EvW K W tk ρ3 k3 _) L0 H0 (D :: L) H3 σ3 S5 _ fun vk dk k4 H4 S6 e6 t6 g6 => ?_
      obtain ⟨rfl, ⟨⟨es, rfl⟩, hk, hd⟩, g6⟩ := g6
      refine (g6 : EvW K W tv ρ3 k4 _) L0 H0 (D :: L) H4 σ3 S6 _ fun v d k5 H5 S7 e7 t7 g7 => ?_
      obtain ⟨rfl, rfl⟩ := g7
      have e57 := (e5.trans e6).trans e7
      have hy5 : H5 D = some (DN P w D ys) := e57 _ _ dM (sm _ _ hy)
      have tk5 := t6.ext (eM e7)
      have ty5 : KN K (D :: L ++ W.M) H5 ys (kvN key val i) := ty.map fun _ _ t => (t.same sm).ext (eM e57)
      cases t6 with
      | @tup b xs _ nb hb tb =>
        refine ⟨_, ys, _, key i, b, rfl, hy5, ty5, ⟨_, b, _, rfl, tk5, hk, hd⟩, ?_, putNV ys (key i) b v, (S3.ext e57 S7.wd).putHid nD, ?_, upd_same, ?_⟩
        · rw [ty5.len]
          exact Nat.lt_of_le_of_lt (kvN_len key val i) (Nat.lt_of_lt_of_le hlt (Nat.le_trans hn (by decide)))
        · intro b o nb hb
          rw [upd_ne (ne_of_none hb hD)]
          exact ((e2.trans (Ext.same sm)).trans e57) b o nb hb
        · rw [kvN_succ]
          exact (ty5.put hk hd tk5 t7).map fun _ _ t => t.ext (Ext.put (by simp))
    · have ei : i = n := by omega
      subst ei
      refine .inl ⟨wd.stops _ H2 l2 e2, ?_⟩
      exact nx _ _ _ _ _ (S2.takeHid nD i0 (s0 := .ownN (DN P w) (kvN key val i)) ⟨D, _, rfl, by simp, hy, ty⟩) done
end
end U

set_option Elab.async false
set_option linter.all false
set_option maxRecDepth 100000
set_option maxHeartbeats 2000000
/-! min of two texts -/
namespace U
open PySem PySem.Spec PyProof.Rows L2
theorem min_two_strs {prog : Program} {w : World} {A : Around} {E : Value → Shared → Prop} {s : Shared} {x y : Str} {t u : Tok} {Q : Value → Shared → Prop} (hh : A.handled = none)
    (h : ∀ h' tk, (∀ c o, s.heap.get? c = some o → h'.get? c = some o) → Q (if y.cps.toList < x.cps.toList then .str y u else .str x t) { s with heap := h', toks := tk }) : wpAny (model prog w) A (call (.builtin "min") [.str x t, .str y u]) Q E s := by
  have isT : (s.heap.push { cls := .type "tuple", data := .seq #[.str x t, .str y u] }).IsTuple s.heap.objs.size #[.str x t, .str y u] := ⟨_, Heap.get?_push_size _ rfl, rfl, 0, rfl⟩
  have sz : (s.heap.push { cls := .type "tuple", data := .seq #[.str x t, .str y u] }).objs.size = s.heap.objs.size + 1 := Heap.size_push ..
  refine call_min_two (wpAny_pyIter_tuple isT ⟨_, [_, s.heap.objs.size], [_], _, _, _, fun i j => decide ((if i = 0 then x else y).cps.toList < (if j = 0 then x else y).cps.toList), rfl,
    Walks.tuple (A := A.in1) hh _ s.heap.objs.size (by rw [sz]; exact Nat.ne_of_lt (Nat.lt_succ_self _)) #[.str x t, .str y u], ⟨⟨_, Heap.get?_push_size _ rfl, rfl, rfl⟩, isT.push _⟩, fun c hc => ?_, by simp, ?_, fun v h' tk hP hk => ?_⟩)
  · show c < ((s.heap.push _).push _).objs.size
    rw [Heap.size_push]
    rcases List.mem_cons.mp hc with rfl | hc
    · exact Nat.lt_succ_self _
    · rw [List.mem_singleton.mp hc, sz]; exact Nat.lt_succ_of_lt (Nat.lt_succ_self _)
  · intro i j vi vj s' Q' E' hi hj hQ
    have at_ : ∀ {i : Nat} {v : Value}, (#[Value.str x t, Value.str y u] : Array Value)[i]? = some v → ∃ tk, v = .str (if i = 0 then x else y) tk := fun {i v} e => by
      match i, e with
      | 0, e => exact ⟨t, by simpa using e.symm⟩
      | 1, e => exact ⟨u, by simpa using e.symm⟩
      | i + 2, e => simp at e
    obtain ⟨t1, rfl⟩ := at_ hi
    obtain ⟨t2, rfl⟩ := at_ hj
    exact lt_str (w := w) hQ
  · have old : ∀ c o, s.heap.get? c = some o → h'.get? c = some o := fun c o e => by
      refine hk c o (fun hm => ?_) (Heap.get?_push_of_some _ (Heap.get?_push_of_some _ e))
      have l := Heap.lt_size e
      rw [List.mem_singleton.mp hm, sz] at l
      exact Nat.lt_irrefl _ (Nat.lt_of_succ_lt l)
    have q := h h' tk old
    have ev : v = if y.cps.toList < x.cps.toList then Value.str y u else Value.str x t := by
      have hP : (#[Value.str x t, Value.str y u] : Array Value)[argBest (fun i j => decide ((if i = 0 then x else y).cps.toList < (if j = 0 then x else y).cps.toList)) 1]? = some v := hP
      by_cases c : y.cps.toList < x.cps.toList
      · have e : argBest (fun i j => decide ((if i = 0 then x else y).cps.toList < (if j = 0 then x else y).cps.toList)) 1 = 1 := by simp [argBest, c]
        rw [e] at hP
        rw [if_pos c]
        simpa using hP.symm
      · have e : argBest (fun i j => decide ((if i = 0 then x else y).cps.toList < (if j = 0 then x else y).cps.toList)) 1 = 0 := by simp [argBest, c]
        rw [e] at hP
        rw [if_neg c]
        simpa using hP.symm
    rw [ev]
    exact q
theorem call_minS {X : Cx} (hc : X.calm = true) : CallR X (.builtin "min") (fun xs H Q => ∃ i j, xs = [.str i, .str j] ∧ Q (.str (if j.cps.toList < i.cps.toList then j else i)) H) := by
  intro pins s σ H xs us Q I r h
  obtain ⟨i, j, rfl, q⟩ := h
  obtain ⟨u, w', rfl, ⟨t, rfl⟩, ⟨t', rfl⟩⟩ := vals2 r
  refine min_two_strs (I.ok.hd hc) fun h' tk k => ⟨_, H, I.kept k, ?_, q⟩
  by_cases hj : j.cps.toList < i.cps.toList
  · rw [if_pos hj, if_pos hj]; exact ⟨t', rfl⟩
  · rw [if_neg hj, if_neg hj]; exact ⟨t, rfl⟩
section
variable {K : PySem.W.Frag} {γ : Type} {W : Wd γ} {ρ : Rho} {k : γ} {Φ : PyData → γ → Prop}
theorem rc_minS {i j : Str} (q : Φ (.str (if j.cps.toList < i.cps.toList then j else i)) k) : RCD K W (fun xs H Q => ∃ i j, xs = [.str i, .str j] ∧ Q (.str (if j.cps.toList < i.cps.toList then j else i)) H) [.str i, .str j] ρ k Φ := rc_ q fun N H vs t Q c => by
  obtain ⟨a, b, rfl, t1, t2⟩ := t.two_
  cases t1
  cases t2
  exact ⟨i, j, rfl, c _ (.str _)⟩
end
end U

set_option Elab.async false
set_option linter.all false
set_option maxRecDepth 100000
set_option maxHeartbeats 2000000
namespace U
open PySem PySem.Spec PyProof.Rows L2
/-! ### a def that is handed a list of its caller's as the third of four, appends to it and returns it -/
def spO (K : PySem.W.Frag) (R : List PyData → List PyData → List PyData → Prop) : Sp := fun vs H Q _ => ∃ (N : List Addr) (l : Addr) (us : List V) (v0 v1 v3 : V) (d0 d1 d3 : PyData) (rs rs' : List PyData), vs = [v0, v1, .ref l, v3] ∧ l ∈ N ∧ Trk N H ∧ H l = some (.lst us) ∧ TA K N H us rs ∧
  T K N H v0 d0 ∧ T K N H v1 d1 ∧ T K N H v3 d3 ∧ R [d0, d1, d3] rs rs' ∧ ∀ us' H', Ext [l] H H' → H' l = some (.lst us') → TA K N H' us' rs' → Q (.ref l) H'
/-- a def that returns a new list -/
def spF (K : PySem.W.Frag) (n : Nat) (R : List PyData → List PyData → Prop) : Sp := fun vs H Q _ => ∃ (N : List Addr) (ds rs : List PyData), TA K N H vs ds ∧ Trk N H ∧ ds.length = n ∧ R ds rs ∧
  ∀ l us H', Same H H' → H l = none → H' l = some (.lst us) → TA K (l :: N) H' us rs → Q (.ref l) H'
section
variable {K : PySem.W.Frag} {R : List PyData → List PyData → List PyData → Prop} {F : List PyData → List PyData → Prop} {n : Nat} {N : List Str} {vs : List V} {H : Hp} {Q : VK} {E : XK} {t : TS}
theorem spO.len (h : spO K R vs H Q E) : vs.length = 4 := by
  obtain ⟨_, _, _, _, _, _, _, _, _, _, _, rfl, _⟩ := h
  rfl
theorem spF.len (h : spF K n F vs H Q E) : vs.length = n := by
  obtain ⟨_, _, _, ta, _, hl, _⟩ := h
  rw [ta.len]
  exact hl
theorem spO.ok (h : spO K R vs H Q E)
    (hb : ∀ (l : Addr) (M : List Addr) (Hs : Hp) (tr : Trk M Hs) (hl : l ∈ M) (d0 d1 d3 : PyData) (rs rs' : List PyData), R [d0, d1, d3] rs rs' →
      SW K (boxW K M Hs tr hl (listBox K l) []) t (restX N [.inl d0, .inl d1, .inr l, .inl d3]) rs ⟨fun ρ' k' => ρ'[2]? = some (.raw (.ref l)) ∧ k' = rs', fun _ _ => False, fun _ _ => False, fun _ _ => False⟩) :
    tSeq t (tRet (tVar 2)) { nx := fun _ H' => Q .non H', rt := Q } (L2.start N vs) H := by
  obtain ⟨M, l, us, v0, v1, v3, d0, d1, d3, rs, rs', rfl, hl, tr, h1, h2, t0, t1, t3, hR, q⟩ := h
  have S := stt_startX (W := boxW K M H tr hl (listBox K l) []) (N := N) (k := rs) (AX.dat t0 (.dat t1 (.fn (f := l) (.dat t3 .nil)))) ⟨fun _ _ _ => rfl, ⟨us, h1, h2⟩, fun _ h => nomatch h⟩
  refine hb l M H tr hl d0 d1 d3 rs rs' hR [] H [] H _ { nx := (tRet (tVar 2)) { nx := fun _ H' => Q .non H', rt := Q }, rt := Q } S (fun L' H' σ' ρ' k' S' g => ?_) (fun _ _ _ _ _ _ _ z => z.elim) (fun _ _ _ _ _ _ z => z.elim) (fun _ _ _ _ _ _ z => z.elim)
  obtain ⟨g1, rfl⟩ := g
  obtain ⟨xs, b1, b2⟩ := S'.wd.2.1
  refine ⟨_, S'.slots 2 _ g1, q xs H' (fun b o nb hb => ?_) b1 (b2.off fun b hb => List.mem_append_right _ hb)⟩
  have nl : b ≠ l := by simpa using nb
  by_cases hm : b ∈ M
  · rw [S'.wd.1 b hm nl]; exact hb
  · exact S'.base b o hm hb
/-- return f(a, b, [..], c) -/
theorem spF.okO {ta tb tn : TE} {tr : L2.TA} (h : spF K n F vs H Q E)
    (hb : ∀ (W : Wd Nat) (ds rs : List PyData), F ds rs → EvW K W ta (rest0 N ds) 0 fun d0 k0 => EvW K W tb (rest0 N ds) k0 fun d1 k1 => EvA K W tr (rest0 N ds) k1 fun es k2 => es.length ≤ 100000 ∧ EvW K W tn (rest0 N ds) k2 fun d3 _ => R [d0, d1, d3] es rs) :
    tRet (tCall (spO K R) [] E0 (tCons ta (tCons tb (tCons (tLst tr) (tCons tn tNil))))) { nx := fun _ H' => Q .non H', rt := Q } (L2.start N vs) H := by
  obtain ⟨M, ds, rs, ta', trk, _, hF, q⟩ := h
  have S : Stt K (pureW M H trk) [] H [] H (L2.start N vs) (rest0 N ds) 0 := stt_start ta' fun b _ => rfl
  refine hb (pureW M H trk) ds rs hF [] H [] H _ S _ fun v0 d0 k0 H0 S0 e0 t0 g0 => g0 [] H [] H0 _ S0 _ fun v1 d1 k1 H1 S1 e1 t1 g1 => g1 [] H [] H1 _ S1 _ fun xs es k2 H2 S2 e2 t2 g2 => ?_
  obtain ⟨hlen, g2⟩ := g2
  refine ⟨Nat.le_trans (show xs.length ≤ 100000 by rw [t2.len]; exact hlen) (by decide), fun p hp => ?_⟩
  have nin : p ∉ [] ++ M := S2.nin hp
  have nM : p ∉ M := fun z => nin (List.mem_append_right _ z)
  obtain ⟨S2', nat⟩ := S2.hide (o := .lst xs) hp
  refine g2 [] H [p] _ _ S2' _ fun v3 d3 k3 H3 S3 e3 t3 hR => ?_
  have hp3 : H3 p = some (.lst xs) := e3 p _ nM upd_same
  have hpH : H p = none := by
    cases z : H p with
    | none => rfl
    | some o =>
      rw [S2.base p o nin z] at hp
      cases hp
  have eP : Ext (p :: M) H2 H3 := (Ext.put (by simp) : Ext (p :: M) H2 (upd H2 p (.lst xs))).trans (e3.sub fun b hb => List.mem_cons_of_mem _ hb)
  have up2 : ∀ {v d}, T K ([] ++ M) H2 v d → T K (p :: M) H3 v d := fun {v d} t => (T.plus hp t).ext eP
  have f1 : Ext (pureW M H trk).M H1 H2 := e2
  have f0 : Ext (pureW M H trk).M H0 H2 := e1.trans e2
  have same3 : Same H H3 := fun b o hb => by
    by_cases hm : b ∈ M
    · rw [S3.wd b hm]; exact hb
    · exact S3.base b o hm hb
  refine ⟨p :: M, p, xs, v0, v1, v3, d0, d1, d3, es, rs, rfl, by simp, S3.trk, hp3, (TA.plus hp t2).ext eP, up2 (t0.ext (f0.sub fun b hb => List.mem_append_right _ hb)), up2 (t1.ext (f1.sub fun b hb => List.mem_append_right _ hb)), t3, hR, fun us' H' ex hl' ta2 => ?_⟩
  exact q p us' H' (fun b o hb => ex b o (by simp; rintro rfl; rw [hpH] at hb; cases hb) (same3 b o hb)) hpH hl' ta2
end
/-! ### the caller -/
section
variable {K : PySem.W.Frag} {γ : Type} {W : Wd γ} {ρ : Rho} {k : γ} {Φ : PyData → γ → Prop} {P : Ps γ} {ta tb tn te : TE} {tr : L2.TA} {n i j : Nat} {R : List PyData → List PyData → List PyData → Prop} {F : List PyData → List PyData → Prop}
/-- x = f(a, b, x, c) -/
theorem sw_callO (h : EvW K W ta ρ k fun d0 k1 => EvW K W tb ρ k1 fun d1 k2 => EvW K W tn ρ k2 fun d3 k3 => ∃ rs rs', ρ[i]? = some (.own rs) ∧ R [d0, d1, d3] rs rs' ∧ P.nx (ρ.set i (.own rs')) k3) (h0 : ∃ rs, ρ[i]? = some (.own rs)) :
    SW K W (tAsg (tCall (spO K R) [] E0 (tCons ta (tCons tb (tCons (tVar i) (tCons tn tNil))))) (gName i)) ρ k P := fun L0 H0 L H σ D S nx _ _ _ =>
  h L0 H0 L H σ S _ fun v0 d0 k1 H1 S1 e1 t0 g => g L0 H0 L H1 σ S1 _ fun v1 d1 k2 H2 S2 e2 t1 g => by
    obtain ⟨rs0, h0⟩ := h0
    obtain ⟨l, xs, a1, a2, a3, a4⟩ := S2.slots i _ h0
    refine ⟨.ref l, a1, g L0 H0 L H2 σ S2 _ fun v3 d3 k3 H3 S3 e3 t3 g => ?_⟩
    obtain ⟨rs, rs', h1, hR, q⟩ := g
    obtain ⟨l', us, b1, b2, b3, b4⟩ := S3.slots i _ h1
    have el : l' = l := by rw [a1] at b1; injection b1 with b1; injection b1 with b1; injection b1 with b1; exact b1.symm
    subst el
    have f1 : Ext W.M H2 H3 := e3
    have f0 : Ext W.M H1 H3 := e2.trans e3
    refine ⟨L ++ W.M, l', us, v0, v1, v3, d0, d1, d3, rs, rs', rfl, List.mem_append_left _ b2, S3.trk, b3, b4, t0.ext (eM f0), t1.ext (eM f1), t3, hR, fun us' H' ex hl' ta2 => ?_⟩
    have back : upd (upd H' l' (.lst us)) l' (.lst us') = H' := by
      funext b
      by_cases e : b = l'
      · rw [e, upd_same, hl']
      · rw [upd_ne e, upd_ne e]
    have S4 := S3.same (H' := upd H' l' (.lst us)) fun b o hb => by
      by_cases e : b = l'
      · rw [e] at hb ⊢
        rw [upd_same, ← b3, hb]
      · rw [upd_ne e]
        exact ex b o (by simp [e]) hb
    have S5 := S4.put (s1 := .own rs') h1 rfl rfl b1 b2 ⟨l', us', rfl, b2, upd_same, by rw [back]; exact ta2⟩
    rw [back] at S5
    have es : σ.set i (some (V.ref l')) = σ := by
      apply List.ext_getElem?
      intro m
      by_cases e : i = m
      · subst e
        rw [List.getElem?_set_self', b1]
        rfl
      · rw [List.getElem?_set_ne e]
    show D.nx (σ.set i (some (V.ref l'))) H'
    rw [es]
    exact nx _ _ _ _ _ S5 q
/-- a new list as one of the data -/
theorem ev_callF (h : EvA K W tr ρ k fun ds k1 => ds.length = n ∧ ∃ rs, F ds rs ∧ Φ (.list rs) k1) : EvW K W (tCall (spF K n F) [] E0 tr) ρ k Φ := fun L0 H0 L H σ S Q c =>
  h L0 H0 L H σ S _ fun vs ds k1 H1 S1 e1 ta g => by
    obtain ⟨hl, rs, hF, q⟩ := g
    rw [List.append_nil]
    exact ⟨L ++ W.M, ds, rs, ta, S1.trk, hl, hF, fun l us H' sm hn hl' ta2 => c _ _ k1 H' (S1.same sm) (e1.trans (Ext.same sm)) (.lst (S1.nin hn) hl' (ta2.off fun b hb => List.mem_cons_of_mem _ hb)) q⟩
/-- x, y = f(..), e: x a list of one's own -/
theorem sw_parF (h : EvA K W tr ρ k fun ds k1 => ds.length = n ∧ ∃ rs, F ds rs ∧ EvW K W te ρ k1 fun d k2 => P.nx ((ρ.set i (.own rs)).set j (.dat d)) k2) :
    SW K W (tPar i j (tCons (tCall (spF K n F) [] E0 tr) (tCons te tNil))) ρ k P := fun L0 H0 L H σ D S nx _ _ _ =>
  h L0 H0 L H σ S _ fun vs ds k1 H1 S1 e1 ta g => by
    obtain ⟨hl, rs, hF, g⟩ := g
    rw [List.append_nil]
    refine ⟨L ++ W.M, ds, rs, ta, S1.trk, hl, hF, fun l us H' sm hn hl' ta2 => ?_⟩
    obtain ⟨S2, nat⟩ := S1.hide (o := .lst us) hn
    have S3 := S2.same (H' := H') fun b o hb => by
      by_cases e : b = l
      · rw [e, upd_same] at hb
        rw [e, hl', hb]
      · rw [upd_ne e] at hb
        exact sm b o hb
    have nM : l ∉ W.M := fun z => S1.nin hn (List.mem_append_right _ z)
    refine g L0 H0 (l :: L) H' σ S3 _ fun v d k2 H2 S4 e4 t4 q => ?_
    have S5 := S4.takeHid nat i (s0 := .own rs) ⟨l, us, rfl, by simp, e4 l _ nM hl', ta2.ext (eM (L := l :: L) e4)⟩
    exact ⟨_, _, rfl, nx _ _ _ _ _ (S5.set j t4) q⟩
/-- f(a, b, x, c), x a list of one's own that f reads alone; what comes back is no list -/
def Flat : PyData → Prop | .none => True | .bool _ => True | .int _ => True | .str _ => True | _ => False
theorem Flat.T {N N' : List Addr} {H : Hp} {v : V} {d : PyData} (f : Flat d) (t : U.T K N H v d) : U.T K N' H v d := by
  cases t with
  | non => exact .non
  | bl b => exact .bl b
  | int i => exact .int i
  | str x => exact .str x
  | _ => exact f.elim
theorem ev_callV {a b c m : Nat} {R : List PyData → PyData → Prop} {d0 d1 d3 r : PyData} {rs : List PyData} (ha : ρ[a]? = some (.dat d0)) (hb : ρ[b]? = some (.dat d1)) (hi : ρ[i]? = some (.own rs)) (hc : ρ[c]? = some (.dat d3)) (hR : R [d0, d1, .list rs, d3] r) (hf : Flat r) (q : Φ r k) :
    EvW K W (tCall (spP K 4 R) [] E0 (tCons (tVar a) (tCons (tVar b) (tCons (tVar i) (tCons (tVar c) tNil))))) ρ k Φ := fun L0 H0 L H σ S Q fin => by
  obtain ⟨v0, e0, t0⟩ := S.slots a _ ha
  obtain ⟨v1, e1, t1⟩ := S.slots b _ hb
  obtain ⟨l, us, e2, m2, h2, t2⟩ := S.slots i _ hi
  obtain ⟨v3, e3, t3⟩ := S.slots c _ hc
  have sub : ∀ x ∈ (L ++ W.M).filter (fun x => decide (x ≠ l)), x ∈ L ++ W.M := fun x hx => (List.mem_filter.mp hx).1
  have nl : l ∉ (L ++ W.M).filter fun x => decide (x ≠ l) := fun z => by simpa using (List.mem_filter.mp z).2
  refine ⟨v0, e0, v1, e1, _, e2, v3, e3, ?_⟩
  exact ⟨_, _, r, .cons (t0.off sub) (.cons (t1.off sub) (.cons (.lst nl h2 (t2.off sub)) (.cons (t3.off sub) .nil))), fun x hx => S.trk x (sub x hx), rfl, hR, fun v H' sm t => fin v r k H' (S.same sm) (Ext.same sm) (hf.T t) q⟩
end
/-! ### the list in the def that writes it -/
section
variable {K : PySem.W.Frag} {l : Addr} {M : List Addr} {Hs : Hp} {tr : Trk M Hs} {hl : l ∈ M} {caps : List (V × PyData)} {ρ : Rho} {k : List PyData} {Φ : PyData → List PyData → Prop} {P : Ps (List PyData)} {te ti : TE} {i : Nat} {d : PyData}
theorem ev_bLast (h0 : ρ[i]? = some (.raw (.ref l))) (hd : k.getLast? = some d) (q : Φ d k) : EvW K (boxW K M Hs tr hl (listBox K l) caps) (tOp (rIxL K) (tVar i) (tUn (rU fun i => .int (-i)) (tC (.int 1)))) ρ k Φ := fun L0 H0 L H σ S Q c => by
  obtain ⟨xs, h3, h4⟩ := S.wd.2.1
  have hlen := h4.len
  rw [List.getLast?_eq_getElem?] at hd
  obtain ⟨v, e, t⟩ := h4.at hd
  have p0 : 0 < k.length := by
    have := (List.getElem?_eq_some_iff.mp hd).1
    omega
  refine ⟨_, S.slots i _ h0, 1, rfl, _, _, _, v, rfl, rfl, SqL.of h3, ?_, c v d k H S (Ext.refl _ _) t q⟩
  unfold atI
  rw [hlen]
  have : ixN k.length (-1) = some (k.length - 1) := by
    unfold ixN
    rw [if_neg (by decide), if_pos (by omega)]
    congr 1
    omega
  rw [this]
  exact e
theorem sw_bapp (h0 : ρ[i]? = some (.raw (.ref l))) (h : EvW K (boxW K M Hs tr hl (listBox K l) caps) te ρ k fun d k1 => k1.length < 100000 ∧ P.nx ρ (k1 ++ [d])) :
    SW K (boxW K M Hs tr hl (listBox K l) caps) (tDrop (tBM K "list" rAppend (tVar i) (tCons te tNil))) ρ k P := fun L0 H0 L H σ D S nx _ _ _ => by
  obtain ⟨xs0, h30, _⟩ := S.wd.2.1
  refine ⟨.ref l, S.slots i _ h0, tyList h30, h L0 H0 L H σ S _ fun v d k1 H1 S1 _ t g => ?_⟩
  obtain ⟨hlen, q⟩ := g
  obtain ⟨oth, ⟨xs, h3, h4⟩, cp⟩ := S1.wd
  refine ⟨l, xs, v, rfl, rfl, h3, Nat.lt_of_le_of_lt (show xs.length ≤ 99999 by rw [h4.len]; omega) (by decide), ?_⟩
  have eM' : Ext M H1 (upd H1 l (.lst (xs ++ [v]))) := Ext.put hl
  have eN : Ext (L ++ M) H1 (upd H1 l (.lst (xs ++ [v]))) := Ext.put (List.mem_append_right _ hl)
  exact nx _ _ _ _ _ (S1.ext eM' ⟨fun b hb nb => by rw [upd_ne nb]; exact oth b hb nb, ⟨_, upd_same, (h4.app (.one t)).ext eN⟩, fun p hp => (cp p hp).ext eN⟩) q
end
end U

set_option Elab.async false
set_option linter.all false
set_option maxRecDepth 100000
set_option maxHeartbeats 2000000
namespace U
open PySem PySem.Spec PyProof.Rows L2
/-! ### x = [.. for ..], a list of one's own -/
section
variable {K : PySem.W.Frag} {γ : Type} {W : Wd γ} {ρ : Rho} {k : γ} {P : Ps γ} {g : TG} {tt : TT} {te : TE} {wi : TI} {vs : List Nat}
theorem sw_ownLc {i0 : Nat} (h : EvI K W wi ρ k fun n f k1 => n ≤ 100000 ∧ ∃ J : Nat → List PyData → γ → Prop, J 0 [] k1 ∧
      (∀ i acc k2, i < n → J i acc k2 → TgW K W g (fun i => i ∈ vs) (f i) (wipeR ρ vs) fun ρ2 => EvT K W tt ρ2 k2 fun b k3 => if b = true then EvW K W te ρ2 k3 fun d k4 => J (i + 1) (acc ++ [d]) k4 else J (i + 1) acc k3) ∧
      ∀ acc k2, acc.length ≤ n → J n acc k2 → P.nx (ρ.set i0 (.own acc)) k2) : SW K W (tAsg (tLc wi g tt te vs) (gName i0)) ρ k P := fun L0 H0 L H σ D0 S nx _ _ _ =>
  h L0 H0 L H σ S _ fun J n f k1 H1 S1 e wd g => by
    obtain ⟨hn, Jv, j0, turn, done⟩ := g
    intro D hD
    obtain ⟨Sd, nD⟩ := S1.hide (o := .lst []) hD
    have nin := S1.nin hD
    have dM : D ∉ W.M := fun z => nin (List.mem_append_right _ z)
    refine ⟨fun i m H2 => m = n - i ∧ i ≤ n ∧ ∃ acc k2 ys, Stt K W L0 H0 (D :: L) H2 σ ρ k2 ∧ Ext W.M H1 H2 ∧ H2 D = some (.lst ys) ∧ TA K (D :: L ++ W.M) H2 ys acc ∧ acc.length ≤ i ∧ Jv i acc k2,
      ⟨n, rfl, Nat.zero_le _, [], k1, [], Sd, Ext.new hD, upd_same, .nil, Nat.le_refl _, j0⟩, ?_⟩
    rintro i m H2 ⟨rfl, hi, acc, k2, ys, S2, e2, hy, ty, ha, j2⟩
    have l2 : Later W L H1 (D :: L) H2 := ⟨e2.sub fun b hb => List.mem_append_right _ hb, fun l hl => (List.mem_cons.mp hl).elim (fun q => .inr (by rw [q]; exact hD)) fun q => .inl q, S2.trk⟩
    by_cases hlt : i < n
    · refine .inr ⟨wd.goes i _ H2 hlt l2, fun H' => ∃ acc k2 ys, Stt K W L0 H0 (D :: L) H' σ ρ k2 ∧ Ext W.M H1 H' ∧ H' D = some (.lst ys) ∧ TA K (D :: L ++ W.M) H' ys acc ∧ acc.length ≤ i + 1 ∧ Jv (i + 1) acc k2,
        fun H' ⟨acc, k2, ys, a1, a2, a3, a4, a5, a6⟩ => ⟨n - (i + 1), by omega, rfl, hlt, acc, k2, ys, a1, a2, a3, a4, a5, a6⟩, fun x H' y => ?_⟩
      obtain ⟨sm, tx⟩ := wd.yields i _ H2 x H' hlt l2 y
      have S3 := S2.same sm
      refine turn i acc k2 hlt j2 L0 H0 (D :: L) H' _ k2 x (S3.wipe vs) tx _ fun σ3 ρ3 S4 hl4 ag tst => ⟨wipe_of hl4 ag, ?_⟩
      refine (tst : EvT K W tt ρ3 k2 _) L0 H0 (D :: L) H' σ3 S4 _ fun b k3 H3 S5 e5 g5 => ?_
      cases b with
      | false =>
        refine ⟨acc, k3, ys, S3.ext e5 S5.wd, (e2.trans (Ext.same sm)).trans e5, e5 _ _ dM (sm _ _ hy), (ty.same sm).ext (eM e5), by omega, g5⟩
      | true =>
        refine (g5 : EvW K W te ρ3 k3 _) L0 H0 (D :: L) H3 σ3 S5 _ fun v d k4 H4 S6 e6 t6 g6 => ?_
        have e56 := e5.trans e6
        have hy4 : H4 D = some (.lst ys) := e56 _ _ dM (sm _ _ hy)
        have lz : ys.length ≤ 99999 := by rw [ty.len]; omega
        refine ⟨ys, hy4, Nat.lt_of_le_of_lt lz (by decide), acc ++ [d], k4, ys ++ [v], (S3.ext e56 S6.wd).putHid nD, ?_, upd_same, ?_, by rw [List.length_append]; exact Nat.add_le_add_right ha 1, g6⟩
        · intro b o nb hb
          rw [upd_ne (ne_of_none hb hD)]
          exact ((e2.trans (Ext.same sm)).trans e56) b o nb hb
        · exact ((((ty.same sm).ext (eM e56)).app (.one t6))).ext (Ext.put (by simp))
    · have ei : i = n := by omega
      subst ei
      exact .inl ⟨wd.stops _ H2 l2, nx _ _ _ _ _ (S2.takeHid nD i0 (s0 := .own acc) ⟨D, ys, rfl, by simp, hy, ty⟩) (done acc k2 ha j2)⟩
/-- the same, its parts pure -/
theorem sw_ownLcP {i0 : Nat} (keep : Nat → Bool) (el : Nat → PyData) (h : EvI K W wi ρ k fun n f k1 => n ≤ 100000 ∧
      (∀ i, i < n → TgW K W g (fun i => i ∈ vs) (f i) (wipeR ρ vs) fun ρ2 => EvT K W tt ρ2 k1 fun b k3 => b = keep i ∧ k3 = k1 ∧ (keep i = true → EvW K W te ρ2 k1 fun d k4 => d = el i ∧ k4 = k1)) ∧
      P.nx (ρ.set i0 (.own (((List.range n).filter keep).map el))) k1) : SW K W (tAsg (tLc wi g tt te vs) (gName i0)) ρ k P :=
  sw_ownLc fun L0 H0 L H σ S R c => h L0 H0 L H σ S R fun J n f k' H2 S2 e wd ⟨h1, h2, h3⟩ => c J n f k' H2 S2 e wd (by
    obtain ⟨a, J', b1, b2, b3⟩ := lc_pure (Φ := fun d k => ∃ acc, d = .list acc ∧ P.nx (ρ.set i0 (.own acc)) k) keep el h1 h2 ⟨_, rfl, h3⟩
    refine ⟨a, J', b1, b2, fun acc k2 hl j => ?_⟩
    obtain ⟨acc', e, q⟩ := b3 acc k2 hl j
    cases e
    exact q)
/-- range(a, b, -1) -/
theorem ei_rngD {tr : L2.TA} {Ω : Nat → (Nat → PyData) → γ → Prop} (h : EvA K W tr ρ k fun ds k1 => ∃ a b : Int, ds = [.int a, .int b, .int (-1)] ∧ (-(2 ^ 62) ≤ a ∧ a < 2 ^ 62 ∧ -(2 ^ 62) ≤ b ∧ b < 2 ^ 62) ∧ Ω (a - b).toNat (fun i => .int (a + (i : Nat) * (-1))) k1) : EvI K W (iRng3 tr) ρ k Ω :=
  fun L0 H0 L H σ S R c => h L0 H0 L H σ S _ fun vs ds k1 H1 S1 e t g => by
    obtain ⟨a, b, rfl, ⟨h1, h2, h3, h4⟩, q⟩ := g
    obtain ⟨v, u, x, rfl, t1, t2, t3⟩ : ∃ v u x, vs = [v, u, x] ∧ T K (L ++ W.M) H1 v (.int a) ∧ T K (L ++ W.M) H1 u (.int b) ∧ T K (L ++ W.M) H1 x (.int (-1)) := by
      cases t with
      | cons t1 t =>
        cases t with
        | cons t2 t =>
          cases t with
          | cons t3 t =>
            cases t
            exact ⟨_, _, _, rfl, t1, t2, t3⟩
    cases t1
    cases t2
    cases t3
    refine ⟨a, b, -1, (a - b).toNat, rfl, RgC.neg h1 h2 h3 h4, c _ _ _ k1 H1 S1 e ⟨fun i L H hi _ => hi, fun L H _ => Nat.le_refl _, fun i L H x H' hi _ y => ?_⟩ q⟩
    obtain ⟨rfl, rfl⟩ := y
    exact ⟨Same.refl _, .int _⟩
end
/-! ### numbers, or None, in lists -/
def optI : Option Int → PyData | none => .none | some i => .int i
theorem eqv_opts : ∀ a b : List (Option Int), PyData.eqvAll (a.map optI) (b.map optI) = decide (a = b)
  | [], [] => by simp [PyData.eqvAll]
  | [], y :: b => by simp [PyData.eqvAll]
  | x :: a, [] => by simp [PyData.eqvAll]
  | x :: a, y :: b => by
    rw [List.map_cons, List.map_cons, PyData.eqvAll, eqv_opts a b]
    cases x with
    | none => cases y <;> simp [optI, PyData.eqv]
    | some x =>
      cases y with
      | none => simp [optI, PyData.eqv]
      | some y =>
        by_cases h : x = y
        · subst h; simp [optI, PyData.eqv]
        · simp [optI, PyData.eqv, h]
theorem shaped_opts (z : List (Option Int)) : SeqAt.shaped (.list (z.map optI)) = true := by
  have h1 : ∀ z : List (Option Int), PyData.canLayAll0 (z.map optI) = true := fun z => by
    induction z with
    | nil => rfl
    | cons x z ih =>
      rw [List.map_cons, PyData.canLayAll0, ih]
      cases x <;> rfl
  have h2 : ∀ z : List (Option Int), PyData.depthAll (z.map optI) = 0 := fun z => by
    induction z with
    | nil => rfl
    | cons x z ih =>
      rw [List.map_cons, PyData.depthAll, ih]
      cases x <;> rfl
  rw [SeqAt.shaped, PyData.canLay0, h1 z, PyData.depth, h2 z]
  rfl
section
variable {K : PySem.W.Frag} {γ : Type} {W : Wd γ} {ρ : Rho} {k : γ} {Φ : PyData → γ → Prop}
theorem rd_eqOpts {a b : List (Option Int)} (q : Φ (.bool (decide (a = b))) k) : RD K W (rEqD K) (.list (a.map optI)) (.list (b.map optI)) ρ k Φ := rd_ q fun N H vx vy tx ty Q c => by
  refine ⟨_, _, tx.dp (SeqAt.canLay_of_shaped (shaped_opts a)), ty.dp (SeqAt.canLay_of_shaped (shaped_opts b)), shaped_opts a, shaped_opts b, ?_⟩
  have e : PyData.eqv (.list (a.map optI)) (.list (b.map optI)) = decide (a = b) := by
    rw [PyData.eqv]
    exact eqv_opts a b
  rw [e]
  exact c _ (.bl _)
theorem inV_non : ∀ l : List Int, inV .non (l.map V.int) = false
  | [] => by simp [inV]
  | x :: xs => by
    have ih := inV_non xs
    unfold inV at ih ⊢
    rw [List.map_cons, List.any_cons, ih]
    rfl
theorem rd_inNonL {l : List Int} (q : Φ (.bool false) k) : RD K W (rIn K false) .none (.list (l.map .int)) ρ k Φ := rd_ q fun N H vx vy tx ty Q c => by
  cases tx
  cases ty with
  | lst n ha t =>
    have e := t.ints_
    subst e
    exact ⟨_, _, rfl, .inl (SqL.of ha), rfl, flat_ints l, by simp only [Bool.false_eq_true, if_false]; rw [inV_non]; exact c _ (.bl _)⟩
theorem rd_ninIntsL {z : Int} {l : List Int} (q : Φ (.bool (!decide (z ∈ l))) k) : RD K W (rIn K true) (.int z) (.list (l.map .int)) ρ k Φ := rd_ q fun N H vx vy tx ty Q c => by
  cases tx
  cases ty with
  | lst n ha t =>
    have e := t.ints_
    subst e
    exact ⟨_, _, rfl, .inl (SqL.of ha), rfl, flat_ints l, by simp only [if_true]; rw [inV_int]; exact c _ (.bl _)⟩
end
/-! ### a sign so many times -/
def rMulC : R2 := fun x y H Q => ∃ c n : Nat, x = .str ⟨#[c]⟩ ∧ y = .int (n : Int) ∧ 2 ≤ n ∧ n ≤ 100000 ∧ Q (.str ⟨(List.replicate n c).toArray⟩) H
theorem fold_rep (c : Nat) : ∀ (n : Nat) (a : Array Nat), (List.replicate n (#[c] : Array Nat)).foldl (· ++ ·) a = a ++ (List.replicate n c).toArray
  | 0, a => by simp
  | n + 1, a => by
    rw [List.replicate_succ, List.foldl_cons, fold_rep c n, List.replicate_succ]
    apply Array.ext'
    simp
section
variable {X : Cx}
theorem op_mulC : OpR X (binaryOp .Mult) rMulC := by
  intro pins s σ H x y v u Q I rx ry h
  obtain ⟨c, n, rfl, rfl, h2, hn, q⟩ := h
  obtain ⟨t, rfl⟩ := rx
  obtain ⟨t', rfl⟩ := ry
  have p63 : (100000 : Int) < 2 ^ 63 := by decide
  refine P.mul_str ?_ (fun _ _ => ?_) (fun _ _ => ?_) ?_
  · rw [decide_eq_false (by omega), decide_eq_false (by omega)]; rfl
  · show ¬ ((1 : Int) > _)
    have : (1 : Int) ≤ (2 ^ 63 - 1) / (n : Int) := by
      rw [Int.le_ediv_iff_mul_le (by omega)]
      omega
    omega
  · show PySem.Builtin.Str.tooLong (1 * (n : Int).toNat) = false
    rw [Nat.one_mul, Int.toNat_natCast]
    unfold PySem.Builtin.Str.tooLong
    exact decide_eq_false (Nat.not_lt.mpr (Nat.le_trans hn (by decide)))
  · have n1 : ((n : Int) == 1) = false := by rw [beq_eq_false_iff_ne]; omega
    rw [if_neg (by omega), n1, if_neg (by simp [Str.length])]
    have e : (⟨(List.replicate (n : Int).toNat (#[c] : Array Nat)).foldl (· ++ ·) #[]⟩ : Str) = ⟨(List.replicate n c).toArray⟩ := by
      rw [fold_rep, Int.toNat_natCast]; simp
    show (Made.str ⟨(List.replicate (n : Int).toNat (#[c] : Array Nat)).foldl (· ++ ·) #[]⟩).post _ s
    rw [e]
    refine ⟨?_, ?_⟩
    · refine Nat.le_trans ?_ (show 100000 ≤ sizeLine by decide)
      show (List.replicate n c).toArray.size ≤ 100000
      simp [hn]
    · exact ⟨.str _, H, I.tok _, ⟨_, rfl⟩, q⟩
end
section
variable {K : PySem.W.Frag} {γ : Type} {W : Wd γ} {ρ : Rho} {k : γ} {Φ : PyData → γ → Prop}
theorem rd_mulC {c n : Nat} (h2 : 2 ≤ n) (hn : n ≤ 100000) (q : Φ (.str ⟨(List.replicate n c).toArray⟩) k) : RD K W rMulC (.str ⟨#[c]⟩) (.int (n : Int)) ρ k Φ := rd_ q fun N H vx vy tx ty Q c' => by
  cases tx
  cases ty
  exact ⟨c, n, rfl, rfl, h2, hn, c' _ (.str _)⟩
end
/-! ### a tuple no times -/
section
open AutoSeq1 (wpAny_loadPart')
theorem tupTimesZ (l : Addr) (x : Value) (its : List Value) (n : Nat) (dd : Option Addr) (sl : Array (Option Value)) (u : Tok) :
    Meets (Builtin.«tuple.__mul__» ⟨[.ref l, .int 0 u], []⟩) (fun _ R z => z.heap.get? l = some { cls := .type "tuple", dict := dd, data := .seq ((x :: its).toArray) n, slots := sl } ∧
      R (.ok (.ret (Value.ref z.heap.objs.size))) { z with heap := z.heap.push { cls := Value.type "tuple", data := Data.seq #[] }, toks := z.toks }) :=
  .of_wp fun prog w A R z h => by
    obtain ⟨p0, g, d, k0, os⟩ := z
    obtain ⟨hl, h⟩ := h
    have f1 := AutoSeq1.idx_int
    have c1 : ((x :: its).toArray.isEmpty || (0 : Int) == 1) = false := rfl
    wp_walk using wpAny_loadPart' hl
    repeat (first
      | (refine wpAny_ite_false (decide_eq_false (by rw [c1]; exact Bool.false_ne_true)) ?_; wp_walk using wpAny_loadPart' hl)
      | (refine wpAny_ite_true (by rfl) ?_; wp_walk using wpAny_loadPart' hl))
    exact ⟨_, rfl, h⟩
end
def rTimesZ (K : PySem.W.Frag) : R2 := fun x y H Q => ∃ (l : Addr) (k : Int) (xs : List V), x = .ref l ∧ y = .int k ∧ SqT K H l xs ∧ xs ≠ [] ∧ 0 ≤ k ∧ k ≤ 1000 ∧ xs.length ≤ 1000 ∧ (k = 0 → ∀ p, H p = none → Q (.ref p) (upd H p (.tup []))) ∧ (k = 1 → Q (.ref l) H) ∧ (2 ≤ k → ∀ p, H p = none → Q (.ref p) (upd H p (.tup (List.replicate k.toNat xs).flatten)))
theorem op_timesZ {X : Cx} : OpR X (binaryOp .Mult) (rTimesZ X.K) := by
  intro pins z σ H x y v u Q I rx ry h
  obtain ⟨l, k, xs, rfl, rfl, hT, hne, k1, k2, hz, q0, q1, q2⟩ := h
  by_cases e : k = 0
  · subst e
    have q0 := q0 rfl
    cases rx
    obtain ⟨t, rfl⟩ := ry
    obtain ⟨its, r, ⟨⟨cls, dd, data, sl⟩, ho, hc, m, hd⟩, hs⟩ := I.tuple hT
    simp only at hc hd
    subst hc hd
    cases its with
    | nil =>
      cases r
      exact absurd rfl hne
    | cons a its =>
      refine wpAny_binaryOp_repeat_ref (T := "tuple") (U := "int") (by decide) ⟨_, ho, rfl⟩ (fun z' => typeIs_int z' 0 t) noFill_tuple_mul F.fills_int_mul F.slot_int_rmul repeat_tuple F.slot_int_index.lookup
        (call_meets F.slot_int_rmul (typeIs_int z 0 t) F.entry_int_rmul (F.args_int_rmul_2 _ _) (int_rmul_tuple 0 t l _ m dd sl)
          ⟨ho, rfl, ⟨_, ho, rfl⟩, call_meets F.slot_tuple_mul ⟨_, ho, rfl⟩ F.entry_tuple_mul (F.args_tuple_mul_2 _ _) (tupTimesZ l a its m dd sl t) ⟨ho, ?_⟩⟩)
      refine ⟨.ref z.heap.objs.size, _, I.laid (t' := z.toks) (o := .tup []) (fun b ob q => Heap.get?_push_of_some _ q) (Nat.le_refl _) ?_, rfl, q0 _ (I.hok.fresh (Nat.le_refl _))⟩
      exact ⟨Nat.zero_le _, [], .nil, IsTup.new _ _⟩
  · exact op_times pins z σ H (.ref l) (.int k) v u Q I rx ry ⟨l, k, xs, rfl, rfl, hT, hne, by omega, k2, hz, q1, q2⟩
theorem kTimesZ (K : PySem.W.Frag) {X : Cx} (h : X.K = K := by rfl) : OpR X (binaryOp .Mult) (rTimesZ K) := by subst h; exact op_timesZ
section
variable {K : PySem.W.Frag} {γ : Type} {W : Wd γ} {ρ : Rho} {k : γ} {Φ : PyData → γ → Prop}
theorem rd_timesZ {d : PyData} {n : Nat} (h2 : n ≤ 1000) (q : Φ (.tuple (List.replicate n d)) k) : RD K W (rTimesZ K) (.tuple [d]) (.int (n : Int)) ρ k Φ := rdN q fun N H vx vy tr tx ty Q c => by
  cases ty
  cases tx with
  | @tup a xs _ na ha ts =>
    obtain ⟨v, rfl, tv⟩ := ts.one_
    refine ⟨a, (n : Int), [v], rfl, rfl, SqT.of ha, by simp, by omega, by omega, by simp, fun e p hp => ?_, fun e => ?_, fun e p hp => ?_⟩
    · have e1 : n = 0 := by omega
      subst e1
      exact c (.ref p) _ (Same.new hp) (.tup (tr.new hp) upd_same .nil)
    · have e1 : n = 1 := by omega
      subst e1
      exact c (.ref a) H (Same.refl _) (.tup na ha (.one tv))
    · rw [Int.toNat_natCast, flat_rep]
      refine c (.ref p) _ (Same.new hp) (.tup (tr.new hp) upd_same ?_)
      exact (TA.rep tv n).ext (Ext.new hp)
end
/-! x, y, z = a, b, c -/
section
variable {K : PySem.W.Frag} {γ : Type} {W : Wd γ} {ρ : Rho} {k : γ} {P : Ps γ} {tr : L2.TA}
theorem sw_par3 {i j l : Nat} (h : EvA K W tr ρ k fun ds k1 => ∃ d e f, ds = [d, e, f] ∧ P.nx (((ρ.set i (.dat d)).set j (.dat e)).set l (.dat f)) k1) : SW K W (tPar3 i j l tr) ρ k P := fun L0 H0 L H σ D S nx _ _ _ =>
  h L0 H0 L H σ S _ fun vs ds k1 H1 S1 e1 t g => by
    obtain ⟨d, e, f, rfl, q⟩ := g
    cases t with
    | cons t1 t =>
      cases t with
      | cons t2 t =>
        cases t with
        | cons t3 t =>
          cases t
          exact ⟨_, _, _, rfl, nx _ _ _ _ _ (((S1.set i t1).set j t2).set l t3) q⟩
end
end U

set_option Elab.async false
set_option linter.all false
set_option maxRecDepth 100000
set_option maxHeartbeats 2000000
namespace U
open PySem PySem.Spec PyProof.Rows L2
/-! ### a dict of lists of one's own: d.setdefault(k, []).append(x) -/
abbrev DE := Int × Addr × List PyData
def addDL (kvs : List (Int × List PyData)) (key : Int) (d : PyData) : List (Int × List PyData) :=
  if (kvs.any fun kv => decide (kv.1 = key)) = true then kvs.map fun kv => if kv.1 = key then (kv.1, kv.2 ++ [d]) else kv else kvs ++ [(key, [d])]
structure DLs (K : PySem.W.Frag) (N L : List Addr) (H : Hp) (o : Option (Option V)) (l : Addr) (es : List DE) : Prop where
  at_ : o = some (some (.ref l))
  inL : ∀ b ∈ l :: es.map (·.2.1), b ∈ L
  nd : (l :: es.map (·.2.1)).Nodup
  keys : (es.map (·.1)).Nodup
  top : H l = some (.dK (es.map fun e => (.inl e.1, .ref e.2.1)))
  row : ∀ e ∈ es, ∃ xs, H e.2.1 = some (.lst xs) ∧ TA K N H xs e.2.2
def kvOf (es : List DE) : List (Int × List PyData) := es.map fun e => (e.1, e.2.2)
theorem nd_inj {α β : Type} {f : α → β} : ∀ {l : List α}, (l.map f).Nodup → ∀ {x y : α}, x ∈ l → y ∈ l → f x = f y → x = y
  | [], _, _, _, hx, _, _ => nomatch hx
  | a :: l, h, x, y, hx, hy, e => by
    obtain ⟨h1, h2⟩ := List.nodup_cons.mp h
    rcases List.mem_cons.mp hx with rfl | hx
    · rcases List.mem_cons.mp hy with rfl | hy
      · rfl
      · exact absurd (List.mem_map.mpr ⟨y, hy, e.symm⟩) h1
    · by_cases ya : y = a
      · exact absurd (List.mem_map.mpr ⟨x, hx, e.trans (by rw [ya])⟩) h1
      · exact nd_inj h2 hx ((List.mem_cons.mp hy).resolve_left ya) e
section
variable {K : PySem.W.Frag} {γ : Type} {W : Wd γ} {L0 L L' N N' : List Addr} {H0 H H' : Hp} {σ σ' : L2.St} {ρ ρ' : Rho} {k k' : γ} {o : Option (Option V)} {l : Addr} {es : List DE}
def NoOwn (ρ : Rho) : Prop := ∀ (j : Nat) (s : Slot), ρ[j]? = some s → s.isOwn = false
theorem NoOwn.nat (h : NoOwn ρ) (p : Addr) : NoAt ρ σ p := fun i s hs ho => by rw [h i s hs] at ho; cases ho
theorem NoOwn.le {ρ0 : Rho} (h : NoOwn ρ) (l : Le ρ0 ρ) : NoOwn ρ0 := fun i s hs => by
  rcases l.get i s hs with rfl | q
  · rfl
  · exact h i s q
/-- other own places (no slot has one) -/
theorem Stt.places (S : Stt K W L0 H0 L H σ ρ k) (no : NoOwn ρ) (sub : ∀ b ∈ L', b ∈ L) : Stt K W L0 H0 L' H σ ρ k := by
  have sub2 : ∀ b ∈ L' ++ W.M, b ∈ L ++ W.M := fun b hb => (List.mem_append.mp hb).elim (fun z => List.mem_append_left _ (sub b z)) fun z => List.mem_append_right _ z
  refine ⟨S.base, fun b hb => S.fresh b (sub b hb), fun b hb => S.offM b (sub b hb), fun b hb => S.trk b (sub2 b hb), S.wdSub sub, S.len, fun i s hs => ?_, S.dis⟩
  have q := (S.slots i s hs).off sub2
  have ns := no i s hs
  cases s with
  | no => trivial
  | dat d => exact q
  | raw v => exact q
  | fn F => exact q
  | own ds => cases ns
  | ownD ds => cases ns
  | lck ds => cases ns
  | ownN D ds => cases ns
theorem Stt.putAt {o : HO} (S : Stt K W L0 H0 L H σ ρ k) (no : NoOwn ρ) (hl : l ∈ L) : Stt K W L0 H0 L (upd H l o) σ ρ k := by
  have sub : ∀ b ∈ l :: L, b ∈ L := fun b hb => (List.mem_cons.mp hb).elim (fun e => e ▸ hl) id
  exact ((S.places no sub).putHid (o := o) (no.nat l)).places no fun b hb => List.mem_cons_of_mem _ hb
theorem DLs.ext (D : DLs K (L ++ W.M) L H o l es) (S : Stt K W L0 H0 L H σ ρ k) (e : Ext W.M H H') : DLs K (L ++ W.M) L H' o l es :=
  ⟨D.at_, D.inL, D.nd, D.keys, e l _ (S.offM l (D.inL l (by simp))) D.top, fun x hx => by
    obtain ⟨xs, h1, h2⟩ := D.row x hx
    exact ⟨xs, e _ _ (S.offM _ (D.inL _ (List.mem_cons_of_mem _ (List.mem_map_of_mem hx)))) h1, h2.ext (eM e)⟩⟩
theorem DLs.look (key : Int) : valV (es.map fun e : DE => ((.inl e.1 : Key), V.ref e.2.1)) (.inl key) = (es.find? fun e => decide (e.1 = key)).map fun e => V.ref e.2.1 := by
  unfold valV
  rw [List.find?_map]
  have : ((fun kv : Key × V => decide (kv.1 = (.inl key : Key))) ∘ fun e : DE => ((.inl e.1 : Key), V.ref e.2.1)) = fun e : DE => decide (e.1 = key) := by
    funext e
    simp
  rw [this]
  cases es.find? fun e => decide (e.1 = key) <;> rfl
/-- the places and rows when one row grows -/
theorem DLs.grow (D : DLs K N L H o l es) {e : DE} {xs : List V} {v : V} {d : PyData} (he : e ∈ es) (hx : H e.2.1 = some (.lst xs)) (tx : TA K N H xs e.2.2) (t : T K N H v d) (sub : ∀ b ∈ L, b ∈ N) :
    DLs K N L (upd H e.2.1 (.lst (xs ++ [v]))) o l (es.map fun x => if x.1 = e.1 then (x.1, x.2.1, x.2.2 ++ [d]) else x) := by
  have m1 : ∀ x : DE, (if x.1 = e.1 then (x.1, x.2.1, x.2.2 ++ [d]) else x).1 = x.1 := fun x => by split <;> rfl
  have m2 : ∀ x : DE, (if x.1 = e.1 then (x.1, x.2.1, x.2.2 ++ [d]) else x).2.1 = x.2.1 := fun x => by split <;> rfl
  have k1 : (es.map fun x : DE => if x.1 = e.1 then (x.1, x.2.1, x.2.2 ++ [d]) else x).map (·.1) = es.map (·.1) := by rw [List.map_map]; exact List.map_congr_left fun x _ => m1 x
  have k2 : (es.map fun x : DE => if x.1 = e.1 then (x.1, x.2.1, x.2.2 ++ [d]) else x).map (·.2.1) = es.map (·.2.1) := by rw [List.map_map]; exact List.map_congr_left fun x _ => m2 x
  obtain ⟨nl, ne⟩ := List.nodup_cons.mp D.nd
  have hel : e.2.1 ≠ l := fun z => nl (List.mem_map.mpr ⟨e, he, z⟩)
  have eN : e.2.1 ∈ N := sub _ (D.inL _ (List.mem_cons_of_mem _ (List.mem_map_of_mem he)))
  have ex : Ext N H (upd H e.2.1 (.lst (xs ++ [v]))) := Ext.put eN
  refine ⟨D.at_, by rw [k2]; exact D.inL, by rw [k2]; exact D.nd, by rw [k1]; exact D.keys, ?_, fun y hy => ?_⟩
  · rw [upd_ne (fun z => hel z.symm), D.top, List.map_map]
    congr 2
    refine List.map_congr_left fun x _ => ?_
    show _ = ((.inl (if x.1 = e.1 then (x.1, x.2.1, x.2.2 ++ [d]) else x).1 : Key), V.ref (if x.1 = e.1 then (x.1, x.2.1, x.2.2 ++ [d]) else x).2.1)
    rw [m1, m2]
  · obtain ⟨x, hxm, rfl⟩ := List.mem_map.mp hy
    by_cases c : x.1 = e.1
    · have exe : x = e := nd_inj D.keys hxm he c
      subst exe
      rw [if_pos rfl]
      exact ⟨xs ++ [v], upd_same, (tx.app (.one t)).ext ex⟩
    · rw [if_neg c]
      obtain ⟨ys, h1, h2⟩ := D.row x hxm
      have : x.2.1 ≠ e.2.1 := fun z => c (by rw [nd_inj ne hxm he z])
      exact ⟨ys, by rw [upd_ne this]; exact h1, h2.ext ex⟩
end
def SWh (K : PySem.W.Frag) {γ : Type} (W : Wd γ) (i : Nat) (ts : TS) (ρ : Rho) (k : γ) (kvs : List (Int × List PyData)) (P : Rho → γ → List (Int × List PyData) → Prop) : Prop :=
  ∀ (L0 : List Addr) (H0 : Hp) (L : List Addr) (H : Hp) (σ : L2.St) (D : Ends), Stt K W L0 H0 L H σ ρ k → NoOwn ρ → (∃ l es, DLs K (L ++ W.M) L H σ[i]? l es ∧ kvs = kvOf es) →
    (∀ L' H' σ' ρ' k' kvs', Stt K W L0 H0 L' H' σ' ρ' k' → NoOwn ρ' → (∃ l es, DLs K (L' ++ W.M) L' H' σ'[i]? l es ∧ kvs' = kvOf es) → P ρ' k' kvs' → D.nx σ' H') → ts D σ H
section
variable {K : PySem.W.Frag} {γ : Type} {W : Wd γ} {i : Nat} {ρ : Rho} {k : γ} {kvs : List (Int × List PyData)} {P : Rho → γ → List (Int × List PyData) → Prop} {a b rest : TS} {te tv : TE} {tt : TT} {g : TG} {wi : TI}
theorem swh_seq (h : SWh K W i a ρ k kvs fun ρ1 k1 kvs1 => SWh K W i b ρ1 k1 kvs1 P) : SWh K W i (tSeq a b) ρ k kvs P := fun L0 H0 L H σ D S no dl nx =>
  h L0 H0 L H σ { D with nx := b D } S no dl fun L' H' σ' ρ' k' kvs' S' no' dl' q => (q : SWh K W i b ρ' k' kvs' P) L0 H0 L' H' σ' D S' no' dl' nx
theorem swh_nx (h : P ρ k kvs) : SWh K W i tNext ρ k kvs P := fun L0 H0 L H σ D S no dl nx => nx L H σ ρ k kvs S no dl h
theorem swh_if (h : EvT K W tt ρ k fun b' k1 => if b' = true then SWh K W i a ρ k1 kvs P else SWh K W i b ρ k1 kvs P) : SWh K W i (tIfS tt a b) ρ k kvs P := fun L0 H0 L H σ D S no dl nx =>
  h L0 H0 L H σ S _ fun b' k1 H2 S2 e q => by
    obtain ⟨l, es, d, e1⟩ := dl
    have dl2 : ∃ l es, DLs K (L ++ W.M) L H2 σ[i]? l es ∧ kvs = kvOf es := ⟨l, es, d.ext S e, e1⟩
    cases b' with
    | true => exact (q : SWh K W i a ρ k1 kvs P) L0 H0 L H2 σ D S2 no dl2 nx
    | false => exact (q : SWh K W i b ρ k1 kvs P) L0 H0 L H2 σ D S2 no dl2 nx
theorem NoOwn.set {j : Nat} {d : PyData} (h : NoOwn ρ) : NoOwn (ρ.set j (.dat d)) := fun i s hs => by
  by_cases e : j = i
  · subst e
    rw [List.getElem?_set_self'] at hs
    cases q : ρ[j]? with
    | none => rw [q] at hs; cases hs
    | some u =>
      rw [q] at hs
      have hs : Slot.dat d = s := by simpa using hs
      rw [← hs]
      rfl
  · rw [List.getElem?_set_ne e] at hs
    exact h i s hs
theorem swh_set {j : Nat} (hj : j ≠ i) (h : EvW K W te ρ k fun d k1 => P (ρ.set j (.dat d)) k1 kvs) : SWh K W i (tAsg te (gName j)) ρ k kvs P := fun L0 H0 L H σ D S no dl nx =>
  h L0 H0 L H σ S _ fun v d k1 H2 S2 e t q => by
    obtain ⟨l, es, dd, e1⟩ := dl
    refine nx L H2 (σ.set j (some v)) _ k1 kvs (S2.set j t) no.set ⟨l, es, ?_, e1⟩ q
    rw [List.getElem?_set_ne hj]
    exact dd.ext S e
theorem swh_for (h : EvI K W wi ρ k fun n f k1 => ∃ J : Nat → Rho → γ → List (Int × List PyData) → Prop, (∃ ρ0, Le ρ0 ρ ∧ J 0 ρ0 k1 kvs) ∧
      (∀ c ρ1 k2 kvs1, c < n → J c ρ1 k2 kvs1 → NoOwn ρ1 → TgW K W g (fun j => j ≠ i) (f c) ρ1 fun ρ2 => NoOwn ρ2 ∧ SWh K W i b ρ2 k2 kvs1 fun ρ' k' kvs' => ∃ ρ0, Le ρ0 ρ' ∧ J (c + 1) ρ0 k' kvs') ∧ ∀ ρ1 k2 kvs1, J n ρ1 k2 kvs1 → P ρ1 k2 kvs1) :
    SWh K W i (tFor wi g b) ρ k kvs P := fun L0 H0 L H σ D S no dl nx =>
  h L0 H0 L H σ S _ fun J n f k1 H1 S1 e wd q => by
    obtain ⟨Jv, ⟨ρ0, le0, j0⟩, turn, done⟩ := q
    obtain ⟨l0, es0, d0, e0⟩ := dl
    refine ⟨fun c m σ' H' => m = n - c ∧ c ≤ n ∧ ∃ L' ρ' k' kvs', Stt K W L H1 L' H' σ' ρ' k' ∧ NoOwn ρ' ∧ (∃ l es, DLs K (L' ++ W.M) L' H' σ'[i]? l es ∧ kvs' = kvOf es) ∧ Jv c ρ' k' kvs', ⟨n, rfl, Nat.zero_le _, L, ρ0, k1, kvs, S1.rebase.le le0, no.le le0, ⟨l0, es0, d0.ext S e, e0⟩, j0⟩, ?_⟩
    rintro c m σ2 H2 ⟨rfl, hc, L2, ρ2, k2, kvs2, S2, no2, dl2, j2⟩
    have l2 := S2.later
    by_cases hlt : c < n
    · refine .inr ⟨wd.goes c L2 H2 hlt l2, fun σ' H' => ∃ L' ρ' k' kvs', Stt K W L H1 L' H' σ' ρ' k' ∧ NoOwn ρ' ∧ (∃ l es, DLs K (L' ++ W.M) L' H' σ'[i]? l es ∧ kvs' = kvOf es) ∧ Jv (c + 1) ρ' k' kvs',
        fun σ' H' ⟨L', ρ', k', kvs', S', n', d', j'⟩ => ⟨n - (c + 1), by omega, rfl, hlt, L', ρ', k', kvs', S', n', d', j'⟩, fun x H' y => ?_⟩
      obtain ⟨sm, tx⟩ := wd.yields c L2 H2 x H' hlt l2 y
      obtain ⟨l3, es3, d3, e3⟩ := dl2
      refine turn c ρ2 k2 kvs2 hlt j2 no2 L H1 L2 H' σ2 k2 x (S2.same sm) tx _ fun σ3 ρ3 S3 _ keep body => ?_
      refine (body.2 : SWh K W i b ρ3 k2 kvs2 _) L H1 L2 H' σ3 _ S3 body.1 ⟨l3, es3, ?_, e3⟩ fun L' H' σ' ρ' k' kvs' S' n' d' ⟨ρ0, le, j'⟩ => ⟨L', ρ0, k', kvs', S'.le le, n'.le le, d', j'⟩
      rw [keep i fun z => z rfl]
      exact d3.ext S2 (Ext.same sm)
    · have ei : c = n := by omega
      subst ei
      exact .inl ⟨wd.stops L2 H2 l2, nx _ _ _ _ _ _ (S1.back S2) no2 dl2 (done ρ2 k2 kvs2 j2)⟩
/-- d.setdefault(key, []).append(e) -/
theorem swh_sd (hlen : kvs.length ≤ 10000) (hrow : ∀ kv ∈ kvs, kv.2.length ≤ 10000) (h : EvW K W te ρ k fun x k1 => ∃ key : Int, x = .int key ∧ EvW K W tv ρ k1 fun d k2 => P ρ k2 (addDL kvs key d)) :
    SWh K W i (tDrop (tBM K "list" rAppend (tDSetd (tVar i) te (tLst tNil)) (tCons tv tNil))) ρ k kvs P := fun L0 H0 L H σ D S no dl nx => by
  obtain ⟨l, es, dl, rfl⟩ := dl
  refine ⟨.ref l, dl.at_, l, rfl, .inl ⟨_, .inl dl.top⟩, h L0 H0 L H σ S _ fun v x k1 H1 S1 e1 t1 g => ?_⟩
  obtain ⟨key, rfl, g⟩ := g
  cases t1
  have d1 := dl.ext S e1
  have elen : es.length ≤ 10000 := by simpa [kvOf] using hlen
  refine ⟨Nat.zero_le _, fun p hp => ?_⟩
  have np := S1.nin hp
  have pl : l ≠ p := by rintro rfl; rw [d1.top] at hp; cases hp
  have pes : ∀ e ∈ es, e.2.1 ≠ p := fun e he z => by
    obtain ⟨xs, h1, _⟩ := d1.row e he
    rw [z, hp] at h1
    cases h1
  have any_ : (kvOf es).any (fun kv => decide (kv.1 = key)) = (es.find? fun e => decide (e.1 = key)).isSome := by
    unfold kvOf
    rw [List.any_map, Bool.eq_iff_iff, List.any_eq_true, List.find?_isSome]
    rfl
  refine ⟨_, .inl key, (upd_ne pl).trans d1.top, rfl, Nat.lt_of_le_of_lt (show (es.map _).length ≤ 10000 by rw [List.length_map]; exact elen) (by decide), fun v hv => ?_, fun hn => ?_⟩
  · -- there
    rw [DLs.look] at hv
    cases hf : es.find? (fun e => decide (e.1 = key)) with
    | none => rw [hf] at hv; cases hv
    | some e =>
      rw [hf] at hv
      have hv : V.ref e.2.1 = v := by simpa using hv
      subst hv
      have he := List.mem_of_find?_eq_some hf
      have hk : e.1 = key := by simpa using List.find?_some hf
      have S2 := S1.new (o := .lst []) hp
      have d2 : DLs K (L ++ W.M) L (upd H1 p (.lst [])) σ[i]? l es := d1.ext S1 (Ext.new hp)
      obtain ⟨xs2, h2, _⟩ := d2.row e he
      refine ⟨tyList h2, g L0 H0 L _ σ S2 _ fun v d k2 H3 S3 e3 t3 q => ?_⟩
      have d3 := d2.ext S2 e3
      obtain ⟨xs, hx, tx⟩ := d3.row e he
      have hin := d3.inL _ (List.mem_cons_of_mem _ (List.mem_map_of_mem (f := fun e : DE => e.2.1) he))
      refine ⟨e.2.1, xs, v, rfl, rfl, hx, Nat.lt_of_le_of_lt (show xs.length ≤ 10000 by rw [tx.len]; exact hrow _ (List.mem_map.mpr ⟨e, he, rfl⟩)) (by decide), ?_⟩
      refine nx L _ σ ρ k2 _ (S3.putAt no hin) no ⟨l, _, d3.grow he hx tx t3 fun b hb => List.mem_append_left _ hb, ?_⟩ q
      unfold addDL
      rw [any_, hf, if_pos (show (some e).isSome = true from rfl)]
      unfold kvOf
      rw [List.map_map, List.map_map]
      refine List.map_congr_left fun x _ => ?_
      show (if x.1 = key then (x.1, x.2.2 ++ [d]) else (x.1, x.2.2)) = ((if x.1 = e.1 then (x.1, x.2.1, x.2.2 ++ [d]) else x).1, (if x.1 = e.1 then (x.1, x.2.1, x.2.2 ++ [d]) else x).2.2)
      rw [hk]
      split <;> rfl
  · -- new
    rw [DLs.look] at hn
    have hf : es.find? (fun e => decide (e.1 = key)) = none := by
      cases q : es.find? (fun e => decide (e.1 = key)) with
      | none => rfl
      | some e => rw [q] at hn; cases hn
    have nk : ∀ e ∈ es, e.1 ≠ key := fun e he z => by
      have := List.find?_eq_none.mp hf e he
      simp [z] at this
    have hput : putK (es.map fun e : DE => ((.inl e.1 : Key), V.ref e.2.1)) (.inl key) (.ref p) = (es ++ [((key, p, []) : DE)]).map fun e : DE => ((.inl e.1 : Key), V.ref e.2.1) := by
      rw [putK_new _ (by rw [DLs.look, hf]; rfl), List.map_append]
      rfl
    rw [hput]
    obtain ⟨S2, _⟩ := S1.hide (o := .lst []) hp
    have lin : l ∈ p :: L := List.mem_cons_of_mem _ (d1.inL l (by simp))
    have S3 := S2.putAt (o := .dK ((es ++ [((key, p, []) : DE)]).map fun e : DE => ((.inl e.1 : Key), V.ref e.2.1))) no lin
    have d3 : DLs K (p :: L ++ W.M) (p :: L) (upd (upd H1 p (.lst [])) l (.dK ((es ++ [((key, p, []) : DE)]).map fun e : DE => ((.inl e.1 : Key), V.ref e.2.1)))) σ[i]? l (es ++ [(key, p, [])]) := by
      obtain ⟨nl, ne⟩ := List.nodup_cons.mp d1.nd
      refine ⟨d1.at_, fun b hb => ?_, ?_, ?_, upd_same, fun e he => ?_⟩
      · rw [List.map_append] at hb
        rcases List.mem_cons.mp hb with rfl | hb
        · exact lin
        · rcases List.mem_append.mp hb with hb | hb
          · exact List.mem_cons_of_mem _ (d1.inL b (List.mem_cons_of_mem _ hb))
          · have : b = p := by simpa using hb
            rw [this]; exact List.mem_cons_self
      · rw [List.map_append]
        refine List.nodup_cons.mpr ⟨fun z => ?_, List.nodup_append.mpr ⟨ne, by simp, fun a ha b hb => ?_⟩⟩
        · rcases List.mem_append.mp z with z | z
          · exact nl z
          · exact pl (by simpa using z)
        · obtain ⟨e, he, rfl⟩ := List.mem_map.mp ha
          have : b = p := by simpa using hb
          rw [this]; exact pes e he
      · rw [List.map_append]
        refine List.nodup_append.mpr ⟨d1.keys, by simp, fun a ha b hb => ?_⟩
        obtain ⟨e, he, rfl⟩ := List.mem_map.mp ha
        have : b = key := by simpa using hb
        rw [this]; exact nk e he
      · rcases List.mem_append.mp he with he | he
        · obtain ⟨xs, h1, h2⟩ := d1.row e he
          have nel : e.2.1 ≠ l := fun z => nl (List.mem_map.mpr ⟨e, he, z⟩)
          refine ⟨xs, by rw [upd_ne nel, upd_ne (pes e he)]; exact h1, ((TA.plus hp h2).ext (Ext.put (by simp))).ext (Ext.put ?_)⟩
          exact List.mem_append_left _ lin
        · have : e = (key, p, []) := by simpa using he
          subst this
          exact ⟨[], by rw [upd_ne (fun z => pl z.symm), upd_same], .nil⟩
    have hpl : (upd (upd H1 p (.lst [])) l (.dK ((es ++ [((key, p, []) : DE)]).map fun e : DE => ((.inl e.1 : Key), V.ref e.2.1)))) p = some (.lst []) := by rw [upd_ne (fun z => pl z.symm), upd_same]
    refine ⟨tyList hpl, g L0 H0 (p :: L) _ σ S3 _ fun v d k2 H4 S4 e4 t4 q => ?_⟩
    have d4 := d3.ext S3 e4
    have hm : ((key, p, []) : DE) ∈ es ++ [(key, p, [])] := List.mem_append_right _ (List.mem_singleton_self _)
    obtain ⟨xs, hx, tx⟩ := d4.row _ hm
    cases tx
    refine ⟨p, [], v, rfl, rfl, hx, (by decide), ?_⟩
    refine nx (p :: L) _ σ ρ k2 _ (S4.putAt no List.mem_cons_self) no ⟨l, _, d4.grow hm hx .nil t4 fun b hb => List.mem_append_left _ hb, ?_⟩ q
    unfold addDL
    rw [any_, hf, if_neg (by simp)]
    unfold kvOf
    rw [List.map_append, List.map_append]
    congr 1
    · rw [List.map_map]
      refine List.map_congr_left fun x hxm => ?_
      show _ = ((if x.1 = key then (x.1, x.2.1, x.2.2 ++ [d]) else x).1, (if x.1 = key then (x.1, x.2.1, x.2.2 ++ [d]) else x).2.2)
      rw [if_neg (nk x hxm)]
    · simp
/-- x = {}; ..; rest -/
theorem sw_dl {Q : Ps γ} (hi : i < ρ.length) (no : NoOwn ρ) (h : SWh K W i a (ρ.set i .no) k [] fun ρ' k' kvs' => ρ'[i]? = some .no ∧ SW K W rest (ρ'.set i (.ownD (kvs'.map fun kv => ((.inl kv.1 : Key), PyData.list kv.2)))) k' Q) :
    SW K W (tSeq (tAsg tDNewK (gName i)) (tSeq a rest)) ρ k Q := fun L0 H0 L H σ D S nx rt bk ct => by
  intro p hp
  have S1 := S.setOwn i (s0 := .ownD []) rfl hp ⟨p, [], rfl, by simp, upd_same, .nil⟩
  have S2 : Stt K W L0 H0 (p :: L) (upd H p (.dK [])) (σ.set i (some (.ref p))) (ρ.set i .no) k := S1.weaken (by simp) fun j s hs => by
    by_cases e : i = j
    · subst e
      rw [List.getElem?_set_self (by simpa using hi)] at hs
      exact .inl (Option.some.inj hs).symm
    · rw [List.getElem?_set_ne e] at hs ⊢
      exact .inr hs
  have no2 : NoOwn (ρ.set i .no) := fun j s hs => by
    by_cases e : i = j
    · subst e
      rw [List.getElem?_set_self (by simpa using hi)] at hs
      rw [← Option.some.inj hs]
      rfl
    · rw [List.getElem?_set_ne e] at hs
      exact no j s hs
  have his : i < σ.length := by rw [← S.len]; exact hi
  refine h L0 H0 (p :: L) _ _ { D with nx := rest D } S2 no2 ⟨p, [], ⟨by simp [his], fun b hb => ?_, by simp, by simp, upd_same, fun e he => nomatch he⟩, rfl⟩ fun L' H' σ' ρ' k' kvs' S' no' dl q => ?_
  · have : b = p := by simpa using hb
    rw [this]; exact List.mem_cons_self
  · obtain ⟨l, es, d, rfl⟩ := dl
    obtain ⟨q0, q⟩ := q
    obtain ⟨nl, ne⟩ := List.nodup_cons.mp d.nd
    have lin := d.inL l (by simp)
    have S3 := S'.places (L' := l :: L'.filter fun b => decide (b ∉ l :: es.map (·.2.1))) no' fun b hb => (List.mem_cons.mp hb).elim (fun z => z ▸ lin) fun z => (List.mem_filter.mp z).1
    have off : ∀ b ∈ (l :: L'.filter fun b => decide (b ∉ l :: es.map (·.2.1))) ++ W.M, b ∈ L' ++ W.M := fun b hb => by
      rcases List.mem_append.mp hb with hb | hb
      · refine List.mem_append_left _ ?_
        rcases List.mem_cons.mp hb with rfl | hb
        · exact lin
        · exact (List.mem_filter.mp hb).1
      · exact List.mem_append_right _ hb
    have kd : ∀ xs : List DE, (∀ e ∈ xs, e ∈ es) → KD K ((l :: L'.filter fun b => decide (b ∉ l :: es.map (·.2.1))) ++ W.M) H' (xs.map fun e : DE => ((.inl e.1 : Key), V.ref e.2.1)) (xs.map fun e : DE => ((.inl e.1 : Key), PyData.list e.2.2)) := fun xs => by
      induction xs with
      | nil => exact fun _ => .nil
      | cons e xs ih =>
        intro hx
        have he := hx e (.head _)
        obtain ⟨ys, h1, h2⟩ := d.row e he
        have hem : e.2.1 ∈ es.map (·.2.1) := List.mem_map.mpr ⟨e, he, rfl⟩
        refine .cons (.lst (fun z => ?_) h1 (h2.off off)) (ih fun y hy => hx y (.tail _ hy))
        rcases List.mem_append.mp z with z | z
        · rcases List.mem_cons.mp z with z | z
          · exact nl (z ▸ hem)
          · have := (List.mem_filter.mp z).2
            simp only [decide_eq_true_eq] at this
            exact this (List.mem_cons_of_mem _ hem)
        · exact S'.offM _ (d.inL _ (List.mem_cons_of_mem _ hem)) z
    have S4 := S3.takeHid (no'.nat l) i (s0 := .ownD ((kvOf es).map fun kv => ((.inl kv.1 : Key), PyData.list kv.2))) ⟨l, _, rfl, by simp, d.top, by
      have := kd es fun e he => he
      unfold kvOf
      rw [List.map_map]
      exact this⟩
    have es_ : σ'.set i (some (V.ref l)) = σ' := by
      apply List.ext_getElem?
      intro m
      by_cases e : i = m
      · subst e
        rw [List.getElem?_set_self', d.at_]
        rfl
      · rw [List.getElem?_set_ne e]
    rw [es_] at S4
    exact (q : SW K W rest _ k' Q) L0 H0 _ H' σ' D S4 nx rt bk ct
end
end U

set_option Elab.async false
set_option linter.all false
set_option maxRecDepth 100000
set_option maxHeartbeats 2000000
namespace U
open PySem PySem.Spec PyProof.Rows L2
/-! ### sorted of (text, int, int), any number of them -/
abbrev K3 := Str × Int × Int
def lt3 (p q : K3) : Bool := if p.1 = q.1 then SrtO.lexB p.2 q.2 else decide (p.1.cps.toList < q.1.cps.toList)
theorem str_ext {a b : Str} (h : a.cps.toList = b.cps.toList) : a = b := by
  obtain ⟨x⟩ := a
  obtain ⟨y⟩ := b
  congr 1
  exact Array.toList_inj.mp h
theorem lt3_iff {p q : K3} : lt3 p q = true ↔ p.1.cps.toList < q.1.cps.toList ∨ (p.1 = q.1 ∧ (p.2.1 < q.2.1 ∨ (p.2.1 = q.2.1 ∧ p.2.2 < q.2.2))) := by
  unfold lt3
  by_cases e : p.1 = q.1
  · rw [if_pos e, SrtO.lexB_iff]
    constructor
    · exact fun h => .inr ⟨e, h⟩
    · rintro (h | h)
      · rw [e] at h
        exact absurd h (List.lt_irrefl _)
      · exact h.2
  · rw [if_neg e, decide_eq_true_eq]
    constructor
    · exact .inl
    · rintro (h | h)
      · exact h
      · exact absurd h.1 e
theorem lt3_no {p q : K3} : lt3 p q = false ↔ ¬ (p.1.cps.toList < q.1.cps.toList ∨ (p.1 = q.1 ∧ (p.2.1 < q.2.1 ∨ (p.2.1 = q.2.1 ∧ p.2.2 < q.2.2)))) := by
  rw [← lt3_iff]
  cases lt3 p q <;> simp
theorem swo3 {α : Type} (k : α → K3) : SrtO.Swo fun v u => lt3 (k v) (k u) := by
  refine ⟨fun x y h => ?_, fun x y z h1 h2 => ?_⟩
  · have a := lt3_iff.mp h
    refine lt3_no.mpr fun b => ?_
    rcases a with a | ⟨a1, a2⟩
    · rcases b with b | ⟨b1, b2⟩
      · exact List.lt_irrefl _ (List.lt_trans a b)
      · rw [b1] at a
        exact List.lt_irrefl _ a
    · rcases b with b | ⟨b1, b2⟩
      · rw [a1] at b
        exact List.lt_irrefl _ b
      · omega
  · have a := lt3_no.mp h1
    have b := lt3_no.mp h2
    refine lt3_no.mpr fun c => ?_
    have a1 : ¬ (k y).1.cps.toList < (k x).1.cps.toList := fun z => a (.inl z)
    have b1 : ¬ (k z).1.cps.toList < (k y).1.cps.toList := fun z => b (.inl z)
    rcases c with c | ⟨c1, c2⟩
    · exact List.not_lt.mpr (List.le_trans (List.not_lt.mp a1) (List.not_lt.mp b1)) c
    · have e1 : (k x).1.cps.toList = (k y).1.cps.toList := List.le_antisymm (List.not_lt.mp a1) (by rw [← c1]; exact List.not_lt.mp b1)
      have e2 := str_ext e1
      have a2 : ¬ ((k y).2.1 < (k x).2.1 ∨ ((k y).2.1 = (k x).2.1 ∧ (k y).2.2 < (k x).2.2)) := fun z => a (.inr ⟨e2.symm, z⟩)
      have b2 : ¬ ((k z).2.1 < (k y).2.1 ∨ ((k z).2.1 = (k y).2.1 ∧ (k z).2.2 < (k y).2.2)) := fun q => b (.inr ⟨by rw [c1, e2], q⟩)
      omega
def IsTrip (h : Heap) (v : Value) (p : K3) : Prop := ∃ a o tz t u n, v = .ref a ∧ h.get? a = some o ∧ o.cls = .type "tuple" ∧ o.data = .seq #[.str p.1 tz, .int p.2.1 t, .int p.2.2 u] n
theorem IsTrip.keeps {h h' : Heap} {v : Value} {p : K3} (x : IsTrip h v p) (k : ∀ b o, h.get? b = some o → o.cls = .type "tuple" → h'.get? b = some o) : IsTrip h' v p := by
  obtain ⟨a, o, tz, t, u, n, e, ho, hc, hd⟩ := x
  exact ⟨a, o, tz, t, u, n, e, k _ _ ho hc, hc, hd⟩
section
variable {prog : Program} {w : World} {A : Around} {E : Value → Shared → Prop} {s : Shared}
theorem trip_cmp {vs : List Value} {k : Value → K3} (hp : ∀ v ∈ vs, IsTrip s.heap v (k v)) : SrtO.Cmp prog w A s (tuples' true) (fun p => p.1 ∈ vs) (SrtO.lt2 fun v u => lt3 (k v) (k u)) := by
  intro p q hm hm'
  have h1 := hp _ hm
  have h2 := hp _ hm'
  show wpAny (model prog w) A (keyLt' (tuples' true) p.1 q.1) (fun r s' => s' = s ∧ r = lt3 (k p.1) (k q.1)) (fun _ _ => False) s
  generalize k p.1 = x at h1 ⊢
  generalize k q.1 = y at h2 ⊢
  obtain ⟨a, o, tz, t, u, n, e, ho, hc, hd⟩ := h1
  obtain ⟨a', o', tz', t', u', n', e', ho', hc', hd'⟩ := h2
  rw [e, e']
  obtain ⟨z, i, j⟩ := x
  obtain ⟨z', i', j'⟩ := y
  refine PySem.W.kat_lt ho hd ho' hd' ?_
  show PySem.W.KatLex prog w A true (decide (3 < 3)) _ [(.str z tz, .str z' tz'), (.int i t, .int i' t'), (.int j u, .int j' u')] 0 s
  have fin : ∀ b : Bool, (lt3 (z, i, j) (z', i', j') = b) → s = s ∧ b = lt3 (z, i, j) (z', i', j') := fun b h => ⟨rfl, h.symm⟩
  refine PySem.W.kat_cons (SeqAt.EqAt.str_str z tz z' tz' prog w _ _ ?_)
  refine PySem.W.kat_go (fun e1 => ?_) (fun e1 => ?_)
  · have ez : z = z' := by simpa using e1
    subst ez
    have el : lt3 (z, i, j) (z, i', j') = SrtO.lexB (i, j) (i', j') := if_pos rfl
    refine PySem.W.kat_yes (PySem.W.kat_cons (SeqAt.EqAt.int_int i t i' t' prog w _ _ ?_))
    refine PySem.W.kat_go (fun e2 => ?_) (fun e2 => ?_)
    · have ei : i = i' := by simpa using e2
      subst ei
      refine PySem.W.kat_yes (PySem.W.kat_cons (SeqAt.EqAt.int_int j u j' u' prog w _ _ ?_))
      refine PySem.W.kat_go (fun e3 => ?_) (fun e3 => ?_)
      · have ej : j = j' := by simpa using e3
        subst ej
        refine PySem.W.kat_yes (PySem.W.kat_nil (fin false ?_))
        rw [el, SrtO.lexB_no]
        omega
      · refine PySem.W.kat_no (PySem.W.kat_one _ _ (PyProof.Rows.lt_int ?_))
        refine fin _ ?_
        rw [el]
        exact if_pos rfl
    · have ei : ¬ i = i' := by simpa using e2
      refine PySem.W.kat_no (PySem.W.kat_one _ _ (PyProof.Rows.lt_int ?_))
      refine fin _ ?_
      rw [el]
      exact if_neg ei
  · have ez : ¬ z = z' := by simpa using e1
    exact PySem.W.kat_no (oneLt_str (fin _ (if_neg ez)))
theorem trip_firsts {h : Heap} : ∀ {vs : List Value}, (∀ v ∈ vs, ∃ p, IsTrip h v p) → ∃ fs : List Value, PySem.W.KatTups h vs fs ∧ fs.length = vs.length ∧ ∀ f ∈ fs, ∃ x t, f = Value.str x t
  | [], _ => ⟨[], PySem.W.KatTups.nil, rfl, fun _ hm => nomatch hm⟩
  | v :: vs, hp => by
    obtain ⟨fs, h1, h2, h3⟩ := trip_firsts (vs := vs) fun v' hm => hp v' (List.mem_cons_of_mem _ hm)
    obtain ⟨p, a, o, tz, t, u, n, e, ho, hc, hd⟩ := hp v (List.mem_cons_self ..)
    subst e
    refine ⟨.str p.1 tz :: fs, PySem.W.KatTups.cons ho hc hd rfl h1, by rw [List.length_cons, List.length_cons, h2], fun f hm => ?_⟩
    rcases List.mem_cons.mp hm with rfl | hm
    · exact ⟨_, tz, rfl⟩
    · exact h3 f hm
theorem trips_sortable {a : Addr} {vs : List Value} {k : Value → K3} (h0 : 0 < vs.length) (hp : ∀ v ∈ vs, IsTrip s.heap v (k v)) (ha : ∀ o, s.heap.get? a = some o → o.cls ≠ .type "tuple") : SrtO.SortableO prog w A s a vs fun v u => lt3 (k v) (k u) := by
  intro h' keep
  have kept : ∀ v ∈ vs, IsTrip h' v (k v) := fun v hm => (hp v hm).keeps fun b o e c => keep b o (fun z => ha o (z ▸ e) c) e
  obtain ⟨fs, h1, h2, h3⟩ := trip_firsts fun v hm => ⟨_, kept v hm⟩
  refine ⟨tuples' true, fun Q E hq => ?_, trip_cmp kept⟩
  refine PySem.W.kat_kind (T := .type "str") h1 (by omega) (fun f hm => ?_) (by rfl) ?_
  · obtain ⟨x, t, rfl⟩ := h3 f hm
    exact PySem.W.Looks.now
  · rw [show (Value.type "str" != Value.type "tuple") = true by first | decide +kernel | rfl | decide]
    exact hq
theorem sorted_trips {l : Addr} {vs : List Value} {k : Value → K3} {Q : Value → Shared → Prop} (hl : s.heap.IsList l vs.toArray) (hz : vs.length ≤ sizeLine) (hp : ∀ v ∈ vs, IsTrip s.heap v (k v))
    (fin : ∀ (h' : Heap) (d : Addr) (out : List Value), SrtO.Srtd (fun v u => lt3 (k v) (k u)) out → SrtO.Stb (fun v u => lt3 (k v) (k u)) out vs → (∀ b o, s.heap.get? b = some o → h'.get? b = some o) → s.heap.objs.size ≤ d → (∃ n, h'.get? d = some (seqObj "list" out.toArray n)) → Q (.ref d) { s with heap := h' }) :
    wpAny (model prog w) A (call (.builtin "sorted") [.ref l]) Q E s := by
  refine SrtO.sorted_ord (swo3 k) hl hz (fun h2 h₁ a ha kk => ?_) fun out hs hb => fin _ _ out hs hb (fun b o e => sortedAll_old e) (Nat.le_succ _) (sortedAll_at s.heap vs out.toArray)
  refine trips_sortable (s := { s with heap := h₁ }) (by omega) (fun v hm => (hp v hm).keeps fun b o e _ => (kk b o e).2) fun o e c => ?_
  cases (e.symm.trans ha : some o = some (seqObj "list" vs.toArray 0))
  exact absurd (Value.type.inj c) (by decide)
end
/-- the same of what is tracked -/
def rSort3 (K : PySem.W.Frag) : List V → Hp → VK → Prop := fun vs H Q => ∃ (a : Addr) (xs : List V) (k : V → K3), vs = [V.ref a] ∧ SqL K H a xs ∧ (∀ x ∈ xs, ∃ t, x = V.ref t ∧ H t = some (.tup [.str (k x).1, .int (k x).2.1, .int (k x).2.2])) ∧
  ∀ ys p, SrtO.Srtd (fun v u => lt3 (k v) (k u)) ys → ys.Perm xs → H p = none → Q (.ref p) (upd H p (.lst ys))
theorem vals3 {a b c : V} {vs : List Value} (r : Vals [a, b, c] vs) : ∃ x y z, vs = [x, y, z] ∧ RelV a x ∧ RelV b y ∧ RelV c z := by
  cases r with
  | cons r1 r =>
    cases r with
    | cons r2 r =>
      cases r with
      | cons r3 r =>
        cases r
        exact ⟨_, _, _, rfl, r1, r2, r3⟩
theorem call_sort3 {X : Cx} : CallR X (.builtin "sorted") (rSort3 X.K) := by
  intro pins s σ H vs us Q I r h
  obtain ⟨a, xs, k, rfl, hs, hx, q⟩ := h
  obtain ⟨its, rv, hl, hz⟩ := I.list hs
  obtain ⟨u, rfl, ru⟩ := vals1 r
  cases (show u = Value.ref a from ru)
  obtain ⟨e1, e2⟩ := refs_back rv fun x m => by
    obtain ⟨t, e, _⟩ := hx x m
    exact ⟨t, e⟩
  refine sorted_trips (k := fun u => k (backV u)) hl.isList (by rw [← rv.length]; exact hz) (fun v hv => ?_) fun h' d out h1 h2 kp hd hn => ?_
  · obtain ⟨t, rfl⟩ := e2 v hv
    have hm : V.ref t ∈ xs := by rw [e1]; exact List.mem_map.mpr ⟨_, hv, rfl⟩
    obtain ⟨t', e, ht⟩ := hx _ hm
    cases e
    obtain ⟨_, its2, r2, o, ho, hc, n, hd⟩ := I.hok _ _ ht
    obtain ⟨u1, u2, u3, rfl, r1, r3, r4⟩ := vals3 r2
    obtain ⟨tz, rfl⟩ := r1
    obtain ⟨t1, rfl⟩ := r3
    obtain ⟨t2, rfl⟩ := r4
    exact ⟨t, o, tz, t1, t2, n, rfl, ho, hc, hd⟩
  · have h3 : ∀ u ∈ out, ∃ a, u = Value.ref a := fun u hu => e2 u (h2.perm.mem_iff.mp hu)
    obtain ⟨n, hn⟩ := hn
    have hb : (out.map backV).Perm xs := by
      rw [e1]
      exact h2.perm.map backV
    refine ⟨.ref d, upd H d (.lst (out.map backV)), I.laid (t' := s.toks) kp hd ⟨?_, out, n, vals_back h3, hn⟩, rfl, q _ d (SrtO.srtd_map h1) hb (I.hok.fresh hd)⟩
    rw [hb.length_eq]
    exact hz
theorem kSort3 (K : PySem.W.Frag) {X : Cx} (h : X.K = K := by rfl) : CallR X (.builtin "sorted") (rSort3 K) := by subst h; exact call_sort3
theorem kSortI (K : PySem.W.Frag) {X : Cx} (h : X.K = K := by rfl) : CallR X (.builtin "sorted") (rSorted K) := by subst h; exact cr_sorted
/-! ### over data -/
def enc3 (p : K3) : PyData := .tuple [.str p.1, .int p.2.1, .int p.2.2]
/-- what stands at a value -/
def k3At (H : Hp) : V → K3
  | .ref t => match H t with | some (.tup [.str z, .int i, .int j]) => (z, i, j) | _ => (⟨#[]⟩, 0, 0)
  | _ => (⟨#[]⟩, 0, 0)
section
variable {K : PySem.W.Frag} {γ : Type} {W : Wd γ} {ρ : Rho} {k : γ} {Φ : PyData → γ → Prop} {N : List Addr} {H : Hp}
theorem T.k3 {x : V} {p : K3} (t : T K N H x (enc3 p)) : (∃ a, x = .ref a ∧ H a = some (.tup [.str p.1, .int p.2.1, .int p.2.2])) ∧ k3At H x = p := by
  unfold enc3 at t
  cases t with
  | @tup a xs _ n ha t =>
    cases t with
    | cons t1 t =>
      cases t with
      | cons t2 t =>
        cases t with
        | cons t3 t =>
          cases t
          cases t1
          cases t2
          cases t3
          exact ⟨⟨a, rfl, ha⟩, by unfold k3At; dsimp only; rw [ha]⟩
theorem TA.k3 : ∀ {xs : List V} {ts : List K3}, TA K N H xs (ts.map enc3) → xs.map (k3At H) = ts ∧ ∀ x ∈ xs, T K N H x (enc3 (k3At H x))
  | [], [], _ => ⟨rfl, fun _ h => nomatch h⟩
  | x :: xs, t :: ts, h => by
    cases h with
    | cons h1 h2 =>
      obtain ⟨_, e⟩ := h1.k3
      obtain ⟨a, b⟩ := TA.k3 h2
      refine ⟨by rw [List.map_cons, e, a], fun y hy => ?_⟩
      rcases List.mem_cons.mp hy with rfl | hy
      · rw [e]; exact h1
      · exact b y hy
theorem TA.of3 : ∀ {xs : List V}, (∀ x ∈ xs, T K N H x (enc3 (k3At H x))) → TA K N H xs ((xs.map (k3At H)).map enc3)
  | [], _ => .nil
  | x :: xs, h => .cons (h x (.head _)) (TA.of3 fun y hy => h y (.tail _ hy))
theorem rc_sort3 {ts : List K3} (q : ∀ ts' : List K3, ts'.Perm ts → ts'.Pairwise (fun p q => lt3 q p = false) → Φ (.list (ts'.map enc3)) k) : RCD K W (rSort3 K) [.list (ts.map enc3)] ρ k Φ := fun L0 H0 L H σ vs S t Q c => by
  obtain ⟨v, rfl, t1⟩ := t.one_
  cases t1 with
  | @lst a xs _ n ha t2 =>
    obtain ⟨e1, e2⟩ := t2.k3
    refine ⟨a, xs, k3At H, rfl, SqL.of ha, fun x hx => (e2 x hx).k3.1, fun ys p hs hp hn => ?_⟩
    have hy : ∀ y ∈ ys, T K (L ++ W.M) H y (enc3 (k3At H y)) := fun y hy => e2 y (hp.mem_iff.mp hy)
    refine c _ _ k _ (S.new hn) (Ext.new hn) (.lst (S.nin hn) upd_same ((TA.of3 hy).ext (Ext.new hn))) (q _ (by rw [← e1]; exact hp.map _) ?_)
    exact List.pairwise_map.mpr hs
theorem rc_sortI {ns : List Int} (hl : ns.length < 64) (q : ∀ ns' : List Int, ns'.Perm ns → ns'.Pairwise (· ≤ ·) → Φ (.list (ns'.map .int)) k) : RCD K W (rSorted K) [.list (ns.map .int)] ρ k Φ := fun L0 H0 L H σ vs S t Q c => by
  obtain ⟨v, rfl, t1⟩ := t.one_
  cases t1 with
  | @lst a xs _ n ha t2 =>
    have e := t2.ints_
    subst e
    exact ⟨a, ns, rfl, SqL.of ha, hl, fun ns' p hp hs hn => c _ _ k _ (S.new hn) (Ext.new hn) (.lst (S.nin hn) upd_same (TA.ints ns')) (q ns' hp hs)⟩
end
section
variable {K : PySem.W.Frag} {γ : Type} {W : Wd γ} {ρ : Rho} {k : γ} {Φ : PyData → γ → Prop}
theorem NoOwn.of (h : (ρ.all fun s => !s.isOwn) = true) : NoOwn ρ := fun j s hs => by
  have := List.all_eq_true.mp h s (List.mem_of_getElem? hs)
  simpa using this
theorem KD.keysT {N : List Addr} {H : Hp} : ∀ {vs : List (Key × V)} {kvs : List (Key × PyData)}, KD K N H vs kvs → TA K N H (vs.map fun kv => kV kv.1) (kvs.map fun kv => keyD kv.1)
  | _, _, .nil => .nil
  | _, _, @KD.cons _ _ _ key _ _ _ _ _ t => .cons (by cases key <;> constructor) (KD.keysT t)
/-- list(d) -/
theorem ev_listOwnD {i : Nat} {kvs : List (Key × PyData)} (h0 : ρ[i]? = some (.ownD kvs)) (q : Φ (.list (kvs.map fun kv => keyD kv.1)) k) : EvW K W (tCB rListD (tCons (tVar i) tNil)) ρ k Φ := fun L0 H0 L H σ S Q c => by
  obtain ⟨l, vs, e1, e2, e3, e4⟩ := S.slots i _ h0
  exact ⟨.ref l, e1, l, vs, rfl, e3, fun p hp => c _ _ k _ (S.new hp) (Ext.new hp) (.lst (S.nin hp) upd_same (e4.keysT.ext (Ext.new hp))) q⟩
end
end U

set_option Elab.async false
set_option linter.all false
set_option maxRecDepth 100000
set_option maxHeartbeats 2000000
/-! zip of a tuple and a text, of any lengths -/
namespace U
open PySem PySem.Spec PyProof.Rows L2
def ItZT (K : PySem.W.Frag) (a : Addr) (u : Str) : It :=
  ⟨fun i H => ∃ (xs : List V) (x : V) (c : Nat), SqT K H a xs ∧ xs[i]? = some x ∧ u.cps[i]? = some c,
    fun i H v H' => ∃ p x c, v = .ref p ∧ H p = none ∧ H' = upd H p (.tup [x, .str ⟨#[c]⟩]) ∧ (∀ xs, SqT K H a xs → xs[i]? = some x) ∧ u.cps[i]? = some c,
    fun i H => ∃ xs : List V, SqT K H a xs ∧ i ≤ xs.length ∧ i ≤ u.cps.size ∧ (i = xs.length ∨ i = u.cps.size)⟩
structure ZT (z TI TO i1 i2 a : Addr) : Prop where
  s : ZS z TI TO i1 i2
  az : a ≠ z
  aTO : a ≠ TO
  ai1 : a ≠ i1
  ai2 : a ≠ i2
def ZT.sep {z TI TO i1 i2 a : Addr} (D : ZT z TI TO i1 i2 a) : ZipSep2 z TI TO i1 i2 [i1, a] [i2] where
  TIz := D.s.a1
  TOz := D.s.a2
  TITO := D.s.a3
  TIi1 := D.s.a4
  mem1 := by simp
  zf1 := by simp [D.s.a6, D.az.symm]
  Tf1 := by simp [D.s.a8, D.aTO.symm]
  TIi2 := D.s.a5
  mem2 := by simp
  zf2 := by simp [D.s.a7]
  Tf2 := by simp [D.s.a9]
  sep1_2 := by simp [D.s.a10, D.ai2]
  sep2_1 := by simp [D.s.a10.symm, D.ai2.symm]
theorem turnZT {P : Program} {w : World} {K : PySem.W.Frag} {elts : List Expr} {kk : Nat} {tpos : Pos} {a : Addr} {y : Str} {t2 : Tok} {z TI TO i1 i2 : Addr} (D : ZT z TI TO i1 i2 a) :
    L2.Turn P w K (.Tuple elts kk tpos) (ItZT K a y) [z, TI, TO, i1, i2] z (fun i h => IsZip h z TI TO .none ∧ IsTupOf2 h TI (.ref i1) (.ref i2) ∧ (∃ x y, IsTupOf2 h TO x y) ∧ ItB true h i1 a i ∧ h.IsStrIter i2 (strIterType y) y t2 i) where
  mem := List.mem_cons_self
  obj := fun i h st c hc => by
    obtain ⟨hz, hTI, ⟨x, y, hTO⟩, h1, h2⟩ := st
    simp only [List.mem_cons, List.not_mem_nil, or_false] at hc
    rcases hc with rfl | rfl | rfl | rfl | rfl
    · exact ⟨_, hz, fun v q => nomatch q⟩
    · exact ⟨_, hTI, fun v q => nomatch q⟩
    · exact ⟨_, hTO, fun v q => nomatch q⟩
    · exact h1.obj
    · exact strIter_obj h2
  keep := fun i h h' st k => by
    obtain ⟨hz, hTI, ⟨x, y, hTO⟩, h1, h2⟩ := st
    exact ⟨k _ (by simp) _ hz, k _ (by simp) _ hTI, ⟨x, y, k _ (by simp) _ hTO⟩, h1.keep fun o q => k _ (by simp) o q, strIter_at h2 fun o q => k _ (by simp) o q⟩
  item := by
    rintro X rfl rfl rfl hc i pins s σ H E I hf ⟨hz, hTI, ⟨x0, y0, hTO⟩, h1, h2⟩ ⟨xs, x, c, qx, ex, ec⟩
    obtain ⟨its, rv, ox⟩ := seqB (t := true) I qx
    obtain ⟨u, hu, ru⟩ := rv.get ex
    have zl : z < s.heap.objs.size := Heap.lt_size hz
    have l1 : i < its.toArray.size := by simpa using (List.getElem?_eq_some_iff.mp hu).1
    have l2 : i < y.cps.size := (Array.getElem?_eq_some_iff.mp ec).1
    refine wpAny_pyNext_zipD2_item D.sep (drawB (A := X.A.in1) (I.ok.hd hc) D.ai1 its.toArray true) (Draws.text (A := X.A.in1) (I.ok.hd hc) i2 y t2) hz hTI hTO ⟨h1, ox⟩ h2 l1 l2 fun u' v' h' tk eu ev nz nTO n1 n2 nT nsz nk => ?_
    have : u' = u := by
      have g : its.toArray[i]? = some u := by simpa using hu
      rw [g] at eu; exact (Option.some.inj eu).symm
    subst this
    obtain ⟨d, td, ed, rfl⟩ := ev
    refine ⟨_, rfl, wpAny_letOwnedTupleGo_zip (s := { s with heap := h', toks := tk }) nz fun h2' nz2 sb => ?_⟩
    have nT2 : h2'.get? s.heap.objs.size = some { cls := .type "tuple", data := .seq #[u', Value.str ⟨#[d]⟩ td] } := (sb.2 _ (Nat.ne_of_gt zl)).trans nT
    have made : ObjOk X.prog X.w (upd H s.heap.objs.size (.tup [x, .str ⟨#[d]⟩])) h2' s.heap.objs.size (.tup [x, .str ⟨#[d]⟩]) :=
      ⟨(show 2 ≤ sizeLine by decide), [u', Value.str ⟨#[d]⟩ td], .cons ru (.cons ⟨td, rfl⟩ .nil), ⟨_, nT2, rfl, _, rfl⟩⟩
    have J : Inv X pins σ (upd H s.heap.objs.size (.tup [x, .str ⟨#[d]⟩])) { s with heap := h2', toks := tk } :=
      I.turnedNew (ch := [z, TI, TO, i1, i2]) (fun c o nc q => (sb.2 c fun e => nc (by simp [e])).trans (nk c o (fun e => nc (by simp [e])) (fun e => nc (by simp [e])) (fun e => nc (by simp [e])) (fun e => nc (by simp [e])) q)) hf (Nat.le_refl _) made
    refine ⟨.ref s.heap.objs.size, _, J, rfl, ⟨_, x, d, rfl, I.hok.fresh (Nat.le_refl _), rfl, fun l hl => by rw [injB (t := true) I hl qx]; exact ex, ed⟩, ⟨nz2, ?_, ⟨u', Value.str ⟨#[d]⟩ td, ?_⟩, ?_, ?_⟩, fun b hcm => ?_⟩
    · exact (sb.2 _ D.s.a1).trans (nk _ _ D.s.a1 D.s.a3 D.s.a4 D.s.a5 hTI)
    · exact (sb.2 _ D.s.a2).trans nTO
    · exact n1.1.keep fun o q => (sb.2 _ D.s.a6.symm).trans q
    · exact strIter_at n2 fun o q => (sb.2 _ D.s.a7.symm).trans q
    · have lt : b < s.heap.objs.size := by
        have lt1 : i1 < s.heap.objs.size := by obtain ⟨_, q, _⟩ := h1.obj; exact Heap.lt_size q
        have lt2 : i2 < s.heap.objs.size := by obtain ⟨_, q, _⟩ := h2; exact Heap.lt_size q
        have hcm2 := hcm
        simp only [List.mem_cons, List.not_mem_nil, or_false] at hcm2
        rcases hcm2 with rfl | rfl | rfl | rfl | rfl
        · exact zl
        · exact Heap.lt_size hTI
        · exact Heap.lt_size hTO
        · exact lt1
        · exact lt2
      rw [upd_ne (Nat.ne_of_lt lt)]
      exact (hf b hcm).1
  done := by
    rintro X rfl rfl rfl hc i pins s σ H E I hf ⟨hz, hTI, ⟨x0, y0, hTO⟩, h1, h2⟩ ⟨xs, qx, le1, le2, en⟩
    obtain ⟨its, rv, ox⟩ := seqB (t := true) I qx
    have e1 := rv.length
    refine wpAny_pyNext_zipD2_end D.sep (drawB (A := X.A.in1) (I.ok.hd hc) D.ai1 its.toArray true) (Draws.text (A := X.A.in1) (I.ok.hd hc) i2 y t2) hz hTI hTO ⟨h1, ox⟩ h2 (by simp; omega) le2 (by simp; omega) fun h' tk nk => ?_
    exact ⟨rfl, I.turnedL (ch := [z, TI, TO, i1, i2]) (fun c o nc q => nk c o (fun e => nc (by simp [e])) (fun e => nc (by simp [e])) (fun e => nc (by simp [e])) (fun e => nc (by simp [e])) q) hf⟩
  self := fun _ _ _ _ _ st h => wpAny_pyIter_zip st.1 h
def iZipTS (K : PySem.W.Frag) (ta : L2.TA) : TI := fun σ H R => ta σ H fun vs H1 => ∃ a xs u, vs = [.ref a, .str u] ∧ SqT K H1 a xs ∧ R (ItZT K a u) H1
theorem kZipTS (K : PySem.W.Frag) {X : Cx} {e e2 : Expr} {ta : L2.TA} {p pos tpos : Pos} {elts : List Expr} {kk : Nat} (hg : Gl X "zip") (hm : X.mg "zip" = none) (ha : PA X [e, e2] ta) (hK : X.K = K := by rfl)
    (st : starEach [e, e2] X.env = (false, eval e X.env) :: starEach [e2] X.env := by rfl) (pl : (backTo pos (starEach [e2] X.env)).any (·.1) = false := by rfl) :
    PI X (.Tuple elts kk tpos) (.Call (.Name "zip" p) [e, e2] [] pos) (iZipTS K ta) := by
  subst hK
  refine ⟨fun pins s σ H R I h => Call_ (ld_blt I hg hm PyProof.Rows.boot_zip (PyProof.Rows.callWith_type1 (thn (ha.run pos pins s σ H _ I h) fun us s1 ⟨vs, H1, I1, r1, a, xs, u, ex, qx, q⟩ => ?_) st pl))⟩
  subst ex
  cases r1 with
  | cons r rr =>
    cases rr with
    | cons r' rr =>
      cases rr
      cases r
      obtain ⟨t2, rfl⟩ := r'
      obtain ⟨its, rv, ox⟩ := seqB (t := true) I1 qx
      have al : a < s1.heap.objs.size := obB_lt ox
      refine zip_begins2 (beginB a its.toArray true) (begins_text u t2) ox trivial fun h' nz nTI nTO n1 n2 nsz nk => wpAny_pyIter_zip nz ?_
      have J : Inv X pins σ H1 { s1 with heap := h' } := I1.kept (t' := s1.toks) nk
      refine ⟨s1.heap.objs.size + 4, [s1.heap.objs.size + 4, s1.heap.objs.size + 2, s1.heap.objs.size + 3, s1.heap.objs.size, s1.heap.objs.size + 1], _, _, H1, rfl, J, turnZT ⟨⟨?_, ?_, ?_, ?_, ?_, ?_, ?_, ?_, ?_, ?_⟩, ?_, ?_, ?_, ?_⟩, ⟨nz, nTI, ⟨_, _, nTO⟩, itB_new n1, ⟨_, n2, rfl, rfl⟩⟩, fun c hcm => ?_, q⟩
      iterate 10 · exact fun e => absurd e (by simp [Addr])
      iterate 4 · exact Nat.ne_of_lt (Nat.lt_of_lt_of_le al (by first | exact Nat.le_add_right _ _ | exact Nat.le_refl _))
      have le : s1.heap.objs.size ≤ c := by
        simp only [List.mem_cons, List.not_mem_nil, or_false] at hcm
        rcases hcm with rfl | rfl | rfl | rfl | rfl
        · exact Nat.le_add_right _ _
        · exact Nat.le_add_right _ _
        · exact Nat.le_add_right _ _
        · exact Nat.le_refl _
        · exact Nat.le_add_right _ _
      exact I1.fpOk le (I1.hok.fresh le)
section
variable {K : PySem.W.Frag} {γ : Type} {W : Wd γ} {ρ : Rho} {k : γ} {L1 : List Addr} {H1 : Hp} {Φ : PyData → γ → Prop}
theorem walkD_zipTS {a : Addr} {ds : List PyData} {u : Str} (ta : T K (L1 ++ W.M) H1 (.ref a) (.tuple ds)) : WalkD K W (ItZT K a u) (min ds.length u.cps.size) (fun i => .tuple [itemD ds i, .str ⟨#[u.cps[i]?.getD 0]⟩]) L1 H1 where
  goes := fun i L H hi l => by
    obtain ⟨xs, h1, h2⟩ := later_tup l ta
    have lx := h2.len
    exact ⟨xs, xs[i]'(by omega), u.cps[i]'(by omega), SqT.of h1, List.getElem?_eq_getElem _, by simp [show i < u.cps.size by omega]⟩
  stops := fun L H l => by
    obtain ⟨xs, h1, h2⟩ := later_tup l ta
    have lx := h2.len
    exact ⟨xs, SqT.of h1, by omega, by omega, by omega⟩
  yields := fun i L H x H' hi l y => by
    obtain ⟨xs, h1, h2⟩ := later_tup l ta
    obtain ⟨p, x1, c, rfl, hp, rfl, f1, f2⟩ := y
    have tx := h2.itemD (f1 xs (SqT.of h1))
    rw [f2]
    exact ⟨Same.new hp, .tup (l.trk.new hp) upd_same (.cons (tx.ext (Ext.new hp)) (.one (.str _)))⟩
theorem ei_zipTS {tr : L2.TA} {Ω : Nat → (Nat → PyData) → γ → Prop} (h : EvA K W tr ρ k fun es k1 => ∃ ds u, es = [.tuple ds, .str u] ∧ Ω (min ds.length u.cps.size) (fun i => .tuple [itemD ds i, .str ⟨#[u.cps[i]?.getD 0]⟩]) k1) : EvI K W (iZipTS K tr) ρ k Ω := fun L0 H0 L H σ S R c =>
  h L0 H0 L H σ S _ fun vs es k1 H1 S1 e t g => by
    obtain ⟨ds, u, rfl, q⟩ := g
    obtain ⟨v, v2, rfl, ta, tb⟩ := t.two_
    cases tb
    cases ta with
    | @tup a xs _ n ha tt => exact ⟨a, xs, u, rfl, SqT.of ha, c _ _ _ k1 H1 S1 e (walkD_zipTS (.tup n ha tt)) q⟩
/-- z.count(sign) -/
theorem ev_countS {te tv : TE} (h : EvW K W te ρ k fun x k1 => ∃ a : Str, x = .str a ∧ EvW K W tv ρ k1 fun y k2 => ∃ b : Str, y = .str b ∧ Φ (.int (Txt.count a b)) k2) :
    EvW K W (tBM K "str" (fun x xs H Q => ∃ a b, x = V.str a ∧ xs = [V.str b] ∧ Q (V.int (Txt.count a b)) H) te (tCons tv tNil)) ρ k Φ := fun L0 H0 L H σ S Q c =>
  h L0 H0 L H σ S _ fun v x k1 H1 S1 e1 t1 g => by
    obtain ⟨a, rfl, g⟩ := g
    cases t1
    refine ⟨?_, g L0 H0 L H1 σ S1 _ fun u y k2 H2 S2 e2 t2 g2 => ?_⟩
    · exact rfl
    · obtain ⟨b, rfl, q⟩ := g2
      cases t2
      exact ⟨a, b, rfl, rfl, c _ _ k2 H2 S2 (e1.trans e2) (.int _) q⟩
end
end U

set_option Elab.async false
set_option linter.all false
set_option maxRecDepth 100000
set_option maxHeartbeats 2000000
/-! tuple[::-1] -/
namespace HT
open PySem PyProof.Rows L2
section
variable {prog : Program} {w : World} {A : Around} {E : Value → Shared → Prop} {s : Shared}
theorem sliceApplied_rev {sl : Addr} {vs : Value} {n : Nat} {Q : Int × Int × Nat → Shared → Prop} (hs : s.heap.IsSliceOf sl .none .none vs) (ps : IsPart vs (some (-1)))
    (h : Q ((n : Int) - 1, -1, n) s) : wpAny (model prog w) A (Builtin.Slice.sliceApplied (.ref sl) (pure (n : Int))) Q E s := by
  obtain ⟨os, hos, hcs, hds⟩ := id hs
  unfold Builtin.Slice.sliceApplied Builtin.Slice.sliceFields
  refine wpAny_bind (wpAny_bind (wpAny_field hos hds (x := .none) rfl (wpAny_bind (wpAny_field hos hds (x := .none) rfl (wpAny_bind (wpAny_field hos hds (x := vs) rfl (wpAny_pure ?_)))))))
  refine wpAny_bind (slicePart_ ps ?_)
  show wpAny _ _ (if ((-1 : Int) == 0) = true then _ else _) _ _ s
  rw [if_neg (by decide)]
  refine wpAny_bind (slicePart_ .none (wpAny_bind (slicePart_ .none (wpAny_bind (wpAny_pure ?_)))))
  show wpAny _ _ (pure ((n : Int) - 1, (-1 : Int), Builtin.Slice.slicePlaces ((n : Int) - 1) (-1) (-1))) _ _ s
  have e : Builtin.Slice.slicePlaces ((n : Int) - 1) (-1) (-1) = n := by
    unfold Builtin.Slice.slicePlaces
    rw [if_neg (by decide)]
    by_cases c : n = 0
    · subst c; decide
    · rw [if_pos (by omega)]
      have : ((n : Int) - 1 - -1 - 1) / (- -1) = (n : Int) - 1 := by
        rw [show (- -1 : Int) = 1 from rfl, Int.ediv_one]; omega
      rw [this]
      omega
  rw [e]
  exact wpAny_pure h
theorem pick_rev (xs : Array Value) : ((List.range xs.size).filterMap fun (m : Nat) => xs[((xs.size : Int) - 1 + (m : Int) * -1).toNat]?).toArray = xs.toList.reverse.toArray := by
  congr 1
  have h : (List.range xs.size).filterMap (fun (m : Nat) => xs[((xs.size : Int) - 1 + (m : Int) * -1).toNat]?) = (List.range xs.size).filterMap (fun m => xs.toList.reverse[m]?) := by
    have gen : ∀ l : List Nat, (∀ m ∈ l, m < xs.size) → l.filterMap (fun (m : Nat) => xs[((xs.size : Int) - 1 + (m : Int) * -1).toNat]?) = l.filterMap (fun m => xs.toList.reverse[m]?) := fun l => by
      induction l with
      | nil => intro _; rfl
      | cons m l ih =>
        intro hl
        have hm := hl m (.head _)
        have : ((xs.size : Int) - 1 + (m : Int) * -1).toNat = xs.size - 1 - m := by omega
        have e : xs[((xs.size : Int) - 1 + (m : Int) * -1).toNat]? = xs.toList.reverse[m]? := by
          rw [this, List.getElem?_reverse (by simpa using hm)]
          simp
        rw [List.filterMap_cons, List.filterMap_cons, e, ih fun y hy => hl y (.tail _ hy)]
    exact gen _ fun m hm => List.mem_range.mp hm
  rw [h]
  have e : ∀ l : List Value, (List.range l.length).filterMap (fun m => l[m]?) = l := fun l => by
    induction l with
    | nil => rfl
    | cons x l ih =>
      rw [List.length_cons, List.range_succ_eq_map, List.filterMap_cons, List.filterMap_map]
      show x :: (List.range l.length).filterMap (fun m => l[m]?) = _
      rw [ih]
  have := e xs.toList.reverse
  rw [List.length_reverse, Array.length_toList] at this
  exact this
theorem getItem_tuple_rev {t sl : Addr} {items : Array Value} {vs : Value} {Q : Value → Shared → Prop} (ht : IsTup s.heap t items) (hs : s.heap.IsSliceOf sl .none .none vs) (ps : IsPart vs (some (-1)))
    (h : Q (.ref s.heap.objs.size) { s with heap := s.heap.push { cls := .type "tuple", data := .seq items.toList.reverse.toArray } })
    (hsz : items.size ≤ sizeLine) : wpAny (model prog w) A (getItem (.ref t) (.ref sl)) Q E s := by
  have htake : sizeOk (.seq items.toList.reverse.toArray) := by
    show items.toList.reverse.toArray.size ≤ sizeLine
    rw [List.size_toArray, List.length_reverse, Array.length_toList]
    exact hsz
  obtain ⟨os, hos, hcs, hds⟩ := id hs
  have hTs : s.TypeIs (.ref sl) "slice" := ⟨os, hos, hcs⟩
  unfold getItem
  try with_reducible refine wpAny_holding ?_
  first | refine wpAny_bind (wpAny_pure ?_) | skip
  refine wpAny_bind (wpAny_sequenceKey ht.typeIs (by decide) ?_)
  refine wpAny_bind (wpAny_callSpecial?_slot (name := Str.ofString "__getitem__") ht.typeIs PyProof.Rows.slot_tuple_getitem
    (wpAny_call_entry PyProof.Rows.slot_tuple_getitem ht.typeIs entry_tuple_getitem ?_ (args_tuple_getitem _ _)))
  show wpAny _ _ (Builtin.Tuple.tupleItemsOf (.ref t) >>= _) _ _ s
  refine wpAny_bind (tupleItemsOf_ ht ?_)
  refine wpAny_bind (wpAny_typeOf hTs ?_)
  rw [if_pos (by decide)]
  refine wpAny_bind (sliceApplied_rev hs ps ?_)
  have hno : ¬ ((((items.size : Int) - 1) == 0 && (-1 : Int) == 1 && items.size == items.size) = true) := by
    intro q
    rw [Bool.and_eq_true, Bool.and_eq_true] at q
    exact absurd q.1.2 (by decide)
  show wpAny _ _ (if (((items.size : Int) - 1) == 0 && (-1 : Int) == 1 && items.size == items.size) = true then _ else _) _ _ s
  rw [if_neg hno, pick_rev]
  first
    | exact wpAny_bind (m := Builtin.Tuple.tupleExact _) (wpAny_newObj_type (wpAny_pure ⟨_, rfl, wpAny_pure h⟩) htake)
    | exact wpAny_bind (m := Builtin.Tuple.tupleExact _) (wpAny_newObj_type (wpAny_bind (wpAny_pure (wpAny_pure ⟨_, rfl, wpAny_pure h⟩))) htake)
    | exact wpAny_bind (wpAny_bind (m := Builtin.Tuple.tupleExact _) (wpAny_newObj_type (wpAny_pure (wpAny_pure ⟨_, rfl, wpAny_pure h⟩)) htake))
    | exact wpAny_bind (wpAny_bind (m := Builtin.Tuple.tupleExact _) (wpAny_newObj_type (wpAny_pure ⟨_, rfl, wpAny_pure h⟩) htake))
end
end HT
namespace U
open PySem PySem.Spec PyProof.Rows L2
section
variable {X : Cx}
def tRevT (K : PySem.W.Frag) (te : TE) : TE := fun σ H Q => te σ H fun x H1 => ∃ a xs, x = .ref a ∧ SqT K H1 a xs ∧ ∀ p, H1 p = none → Q (.ref p) (upd H1 p (.tup xs.reverse))
theorem pe_revT {e : Expr} {te : TE} {k : Nat} {p1 p2 p3 pos : Pos} (he : PE X e te) : PE X (.Subscript e (.Slice none none (some (.UnaryOp .USub (.Constant (.int 1) k p1) p2)) p3) pos) (tRevT X.K te) := by
  refine ⟨fun pins s σ H Q I h => ?_⟩
  refine Subscript_ (thn (he.run pins s σ H _ I h) fun v s1 ⟨x, H1, I1, r1, q1⟩ => ?_)
  obtain ⟨a, xs, ex, hx, q⟩ := q1
  subst ex
  cases r1
  have hst : PO X (some (.UnaryOp .USub (.Constant (.int 1) k p1) p2)) (tPart (tUn (rU fun i => .int (-i)) (tC (.int 1)))) := po_some (pe_un un_neg pe_int)
  refine wpAny_Slice (thn (po_none.run pins s1 σ H1 (fun o H2 => o = none ∧ H2 = H1) I1 ⟨rfl, rfl⟩) fun vl s2 ⟨l, H2, I2, pl, el, e2⟩ => ?_)
  subst el e2
  refine thn (po_none.run pins s2 σ H2 (fun o H3 => o = none ∧ H3 = H2) I2 ⟨rfl, rfl⟩) fun vu s3 ⟨u, H3, I3, pu, eu, e3⟩ => ?_
  subst eu e3
  refine thn (hst.run pins s3 σ H3 (fun o H4 => o = some (-1) ∧ H4 = H3) I3 ⟨1, rfl, -1, rfl, rfl, rfl⟩) fun vs s4 ⟨o, H4, I4, ps, eo, e4⟩ => ?_
  subst eo e4
  cases pl
  cases pu
  have I5 : Inv X pins σ H4 { s4 with heap := s4.heap.push { cls := .type "slice", data := .fields #[.none, .none, vs] } } := I4.kept (t' := s4.toks) fun b ob q => Heap.get?_push_of_some _ q
  obtain ⟨its, r, ht, hz⟩ := I5.tuple hx
  have hlen := r.length
  show wpAny (model X.prog X.w) X.A (subscriptTail e (.Slice none none (some (.UnaryOp .USub (.Constant (.int 1) k p1) p2)) p3) (.ref a) (.ref s4.heap.objs.size)) (EP X pins σ Q) X.xe { s4 with heap := s4.heap.push { cls := .type "slice", data := .fields #[.none, .none, vs] } }
  refine tail_any (ops := [.ref a, .ref s4.heap.objs.size]) ht.typeIs (PyProof.Rows.slot_tuple_getitem.lookup) ?_ (by with_unfolding_all rfl)
  refine HT.getItem_tuple_rev ht (Heap.IsSliceOf.new _ .none .none vs) ps ?_ (by rw [List.size_toArray]; omega)
  refine ⟨.ref _, _, I5.laid (t' := s4.toks) (o := .tup xs.reverse) (fun b ob q => Heap.get?_push_of_some _ q) (Nat.le_refl _) ?_, rfl, q _ (I5.hok.fresh (Nat.le_refl _))⟩
  exact ⟨by rw [List.length_reverse]; exact hz, _, r.reverse, IsTup.new _ _⟩
theorem kRevT (K : PySem.W.Frag) {e : Expr} {te : TE} {k : Nat} {p1 p2 p3 pos : Pos} (he : PE X e te) (h : X.K = K := by rfl) : PE X (.Subscript e (.Slice none none (some (.UnaryOp .USub (.Constant (.int 1) k p1) p2)) p3) pos) (tRevT K te) := by subst h; exact pe_revT he
end
section
variable {K : PySem.W.Frag} {γ : Type} {W : Wd γ} {ρ : Rho} {k : γ} {Φ : PyData → γ → Prop} {te : TE}
theorem ev_revT (h : EvW K W te ρ k fun d k1 => ∃ ds, d = .tuple ds ∧ Φ (.tuple ds.reverse) k1) : EvW K W (tRevT K te) ρ k Φ := fun L0 H0 L H σ S Q c =>
  h L0 H0 L H σ S _ fun v x k1 H1 S1 e1 t1 g => by
    obtain ⟨ds, rfl, q⟩ := g
    cases t1 with
    | @tup a xs _ n ha t =>
      refine ⟨a, xs, rfl, SqT.of ha, newT S1.trk t.rev fun p H' hp s _ _ t' => c _ _ k1 H' (S1.same s) (e1.trans (Ext.same s)) t' q⟩
end
end U

set_option Elab.async false
set_option linter.all false
set_option maxRecDepth 100000
set_option maxHeartbeats 2000000
/-! text.count(one sign) -/
namespace U
open PySem PySem.Spec PyProof.Rows L2 PySem.StrLaws PySem.Builtin.Str
def isC (l : List Nat) (c i : Nat) : Bool := decide (l[i]? = some c)
theorem occ_one_size (x : Str) (c limit : Nat) : ∀ (n a : Nat) (st : Array Nat × Nat), st.snd ≤ a → st.fst.size + n ≤ limit →
    (forIn (List.range' a n) st (occBody x ⟨#[c]⟩ x.length limit)).run.fst.size = st.fst.size + ((List.range' a n).filter (isC x.cps.toList c)).length
  | 0, a, st, _, _ => by simp
  | n + 1, a, st, h1, h2 => by
    rw [List.range'_succ, List.forIn_cons]
    unfold occBody
    by_cases hc : x.cps.toList[a]? = some c
    · have hs := (subAt_one x c a).mpr hc
      rw [if_pos ⟨⟨⟨by omega, h1⟩, hs.1⟩, hs.2⟩, List.filter_cons_of_pos (show isC x.cps.toList c a = true from decide_eq_true hc)]
      show (forIn (List.range' (a + 1) n) (st.fst.push a, a + 1) (occBody x ⟨#[c]⟩ x.length limit)).run.fst.size = _
      rw [occ_one_size x c limit n (a + 1) (st.fst.push a, a + 1) (Nat.le_refl _) (by simp only [Array.size_push]; omega)]
      simp only [Array.size_push, List.length_cons]
      omega
    · have hs : ¬ (a + (⟨#[c]⟩ : Str).length ≤ x.length ∧ Builtin.Str.subAt x ⟨#[c]⟩ a = true) := fun z => hc ((subAt_one x c a).mp z)
      rw [if_neg (fun z => hs ⟨z.1.2, z.2⟩), List.filter_cons_of_neg (show ¬ isC x.cps.toList c a = true by unfold isC; rw [decide_eq_false hc]; exact Bool.false_ne_true)]
      exact occ_one_size x c limit n (a + 1) (st.fst, st.snd) (by show st.snd ≤ a + 1; omega) (by show st.fst.size + n ≤ limit; omega)
theorem count_places (c : Nat) : ∀ (l : List Nat), ((List.range' 0 (l.length + 1)).filter (isC l c)).length = l.count c := by
  have gen : ∀ (l pre : List Nat), ((List.range' pre.length (l.length + 1)).filter (isC (pre ++ l) c)).length = l.count c := fun l => by
    induction l with
    | nil =>
      intro pre
      simp [isC]
    | cons x l ih =>
      intro pre
      have h := ih (pre ++ [x])
      rw [List.length_append, List.append_assoc] at h
      simp only [List.length_cons, List.length_nil, List.singleton_append, Nat.zero_add] at h
      rw [List.length_cons, List.range'_succ]
      by_cases e : x = c
      · subst e
        rw [List.filter_cons_of_pos (by simp [isC]), List.length_cons, h, List.count_cons_self]
      · rw [List.filter_cons_of_neg (by simp [isC, e]), h, List.count_cons_of_ne (by simpa using e)]
  intro l
  exact gen l []
theorem txt_count (w : List Nat) (j : Nat) : Txt.count (txt w) ⟨#[97 + j]⟩ = ((w.count j : Nat) : Int) := by
  unfold Txt.count
  rw [occ_eq, Array.length_toList, occ_one_size _ _ _ _ _ ((#[] : Array Nat), 0) (Nat.le_refl _) (by simp)]
  have e : (txt w).length = (txt w).cps.toList.length := rfl
  rw [Nat.sub_zero, e, count_places (97 + j)]
  have e2 : (txt w).cps.toList = w.map (97 + ·) := by simp [txt]
  rw [e2]
  show ((0 + List.count (97 + j) (w.map (97 + ·)) : Nat) : Int) = _
  have e3 : List.count (97 + j) (w.map (97 + ·)) = w.count j := by
    induction w with
    | nil => rfl
    | cons c w ih => 
      have ih := ih (by rfl) (by simp [txt])
      rw [List.map_cons, List.count_cons, List.count_cons, ih]
      congr 1
      by_cases h : c = j
      · subst h; simp
      · have : ¬ 97 + c = 97 + j := by omega
        simp [h]
  rw [e3, Nat.zero_add]
end U

set_option Elab.async false
set_option linter.all false
set_option maxRecDepth 100000
set_option maxHeartbeats 2000000
namespace Law
open PySem PySem.Spec PyProof.Rows L2 U NdefX
local macro_rules | `(tactic| walk_at "st") => `(tactic| simp only [rest0, rest1, List.map_cons, List.map_nil, List.length_cons, List.length_nil, List.cons_append, List.nil_append, Nat.reduceAdd, Nat.reduceSub, Nat.zero_add, Nat.sub_self, List.replicate])
local macro_rules | `(tactic| walk_at "go") => `(tactic| repeat (first
  | ((with_reducible apply ev_var); · exact rfl)
  | with_reducible refine ev_int ?_
  | with_reducible refine ev_str ?_
  | with_reducible refine ev_non ?_
  | with_reducible refine ev_bl ?_
  | with_reducible refine rd_add ?_
  | with_reducible refine rd_sub ?_
  | with_reducible refine rd_lt ?_
  | with_reducible refine rd_le ?_
  | with_reducible refine rd_gt ?_
  | with_reducible refine rd_ge ?_
  | with_reducible refine rd_eqI ?_
  | with_reducible refine rd_neI ?_
  | with_reducible refine rd_neX0 ?_
  | with_reducible refine rd_eqX0 ?_
  | with_reducible refine rd_neXX ?_
  | with_reducible refine rd_eqXX ?_
  | with_reducible refine rd_eqX ?_
  | with_reducible refine rd_neX ?_
  | ((with_reducible apply rd_eq); · exact rfl)
  | ((with_reducible apply rd_ne); · exact rfl)
  | with_reducible refine rd_isN ?_
  | with_reducible refine rd_notN ?_
  | with_reducible refine rd_ixT0 ?_
  | with_reducible refine rd_ixT1 ?_
  | with_reducible refine rd_ixT2 ?_
  | with_reducible refine rd_inX ?_
  | with_reducible refine rd_ninX ?_
  | with_reducible refine rd_inS ?_
  | with_reducible refine rd_ninS ?_
  | ((with_reducible apply ev_bix); · exact rfl)
  | with_reducible refine ev_op ?_
  | with_reducible refine et_test ?_
  | with_reducible refine et_B ?_
  | with_reducible refine et_and ?_
  | with_reducible refine et_or ?_
  | with_reducible refine et_not ?_
  | with_reducible refine et_yes ?_
  | with_reducible refine et_truth ?_
  | with_reducible refine ev_andV ?_
  | with_reducible refine ev_orV ?_
  | with_reducible refine ev_notV ?_
  | with_reducible refine ev_if ?_
  | with_reducible refine ev_chain ?_
  | with_reducible refine ea_nil ?_
  | with_reducible refine ea_cons ?_
  | (with_reducible refine ev_tup ?_)
  | (with_reducible refine ev_lst ?_)
  | with_reducible refine ev_dnew ?_
  | with_reducible refine ev_isi ?_
  | with_reducible refine ev_cb ?_
  | with_reducible refine ev_un ?_
  | with_reducible refine ru_neg ?_
  | with_reducible refine rc_lenL ?_
  | with_reducible refine rc_lenT ?_
  | with_reducible refine rc_int1 ?_
  | with_reducible refine rc_max2 ?_
  | with_reducible refine rc_min2 ?_
  | with_reducible refine rc_abs ?_
  | with_reducible refine rc_ord ?_
  | with_reducible refine rc_tupL ?_
  | with_reducible refine rc_tupT ?_
  | with_reducible refine rc_listL ?_
  | with_reducible refine rc_listT ?_
  | with_reducible refine ev_sl ?_
  | with_reducible refine eo_none ?_
  | with_reducible refine eo_some ?_
  | with_reducible refine rsl_T ?_
  | with_reducible refine rsl_L ?_
  | with_reducible refine ev_join ?_
  | with_reducible refine ev_index ?_
  | ((with_reducible apply ev_draw); · exact rfl)
  | ((with_reducible apply ev_one); · exact rfl)
  | ((with_reducible apply ev_callD); · exact rfl)
  | with_reducible refine ev_call ?_
  | with_reducible refine sw_seq ?_
  | with_reducible refine sw_nx ?_
  | with_reducible refine sw_ret ?_
  | with_reducible refine sw_retN ?_
  | with_reducible refine sw_brk ?_
  | with_reducible refine sw_ct ?_
  | with_reducible refine sw_if ?_
  | with_reducible refine sw_ownRep ?_
  | with_reducible refine ey_nil ?_
  | ((with_reducible apply sw_bset); · exact rfl)
  | with_reducible refine sw_par ?_
  | with_reducible refine sw_set ?_
  | with_reducible refine sw_asg ?_
  | with_reducible refine sw_drop ?_
  | with_reducible refine tg_name trivial ?_
  | ((with_reducible apply tg_name); · simp; done)
  | ((with_reducible apply tg_tup); · exact rfl)
  | with_reducible refine tgs_cons ?_
  | with_reducible refine tgs_nil ?_
  | with_reducible refine ei_list ?_
  | with_reducible refine ei_tup ?_
  | with_reducible refine ei_str ?_
  | with_reducible refine ei_rng1 ?_
  | with_reducible refine ei_rng2 ?_
  | with_reducible refine ei_enumL ?_
  | with_reducible refine ei_enumT ?_
  | with_reducible refine ei_enumS ?_
  | (with_reducible rw [if_pos rfl])
  | (with_reducible rw [if_pos trivial])
  | (with_reducible rw [if_neg not_false])
  | (with_reducible rw [if_neg Bool.false_ne_true])
  | (refine ⟨_, rfl, ?_⟩)
  | (refine ⟨_, _, rfl, ?_⟩)
  | (refine ⟨_, _, _, rfl, ?_⟩)
  | (refine ⟨_, _, _, _, rfl, ?_⟩)
  | (refine ⟨_, _, _, _, _, rfl, ?_⟩)
  | (refine ⟨_, _, _, _, _, _, rfl, ?_⟩)
  | ((with_reducible refine And.intro ?_ ?_); · decide)
  | ((with_reducible refine And.intro ?_ ?_); · (simp only [List.length_cons, List.length_nil, Nat.reduceAdd, Nat.reduceLeDiff, Nat.zero_add]; done))
  | (with_reducible refine fun _ : True => ?_)
  | (with_reducible refine fun _ : true = true => ?_)
  | (dsimp only [wipeR, List.set_cons_succ, List.set_cons_zero])
  | (with_reducible rw [Bool.not_true])
  | (with_reducible rw [Bool.not_false])))
local macro_rules | `(tactic| walk_at "ev") => `(tactic| repeat (first
  | ((with_reducible apply ev_var); · exact rfl)
  | with_reducible refine ev_int ?_
  | with_reducible refine ev_str ?_
  | with_reducible refine ev_non ?_
  | with_reducible refine ev_bl ?_
  | with_reducible refine rd_add ?_
  | with_reducible refine rd_sub ?_
  | with_reducible refine rd_lt ?_
  | with_reducible refine rd_le ?_
  | with_reducible refine rd_gt ?_
  | with_reducible refine rd_ge ?_
  | with_reducible refine rd_eqI ?_
  | with_reducible refine rd_neI ?_
  | with_reducible refine rd_neX0 ?_
  | with_reducible refine rd_eqX0 ?_
  | with_reducible refine rd_neXX ?_
  | with_reducible refine rd_eqXX ?_
  | with_reducible refine rd_eqX ?_
  | with_reducible refine rd_neX ?_
  | ((with_reducible apply rd_eq); · exact rfl)
  | ((with_reducible apply rd_ne); · exact rfl)
  | with_reducible refine rd_isN ?_
  | with_reducible refine rd_notN ?_
  | with_reducible refine rd_ixT0 ?_
  | with_reducible refine rd_ixT1 ?_
  | with_reducible refine rd_ixT2 ?_
  | with_reducible refine rd_inX ?_
  | with_reducible refine rd_ninX ?_
  | with_reducible refine rd_inS ?_
  | with_reducible refine rd_ninS ?_
  | ((with_reducible apply ev_bix); · exact rfl)
  | with_reducible refine ev_op ?_
  | with_reducible refine et_test ?_
  | with_reducible refine et_B ?_
  | with_reducible refine et_and ?_
  | with_reducible refine et_or ?_
  | with_reducible refine et_not ?_
  | with_reducible refine et_yes ?_
  | with_reducible refine et_truth ?_
  | with_reducible refine ev_andV ?_
  | with_reducible refine ev_orV ?_
  | with_reducible refine ev_notV ?_
  | with_reducible refine ev_if ?_
  | with_reducible refine ev_chain ?_
  | with_reducible refine ea_nil ?_
  | with_reducible refine ea_cons ?_
  | (with_reducible refine ev_tup ?_)
  | (with_reducible refine ev_lst ?_)
  | with_reducible refine ev_dnew ?_
  | with_reducible refine ev_isi ?_
  | with_reducible refine ev_cb ?_
  | with_reducible refine ev_un ?_
  | with_reducible refine ru_neg ?_
  | with_reducible refine rc_lenL ?_
  | with_reducible refine rc_lenT ?_
  | with_reducible refine rc_int1 ?_
  | with_reducible refine rc_max2 ?_
  | with_reducible refine rc_min2 ?_
  | with_reducible refine rc_abs ?_
  | with_reducible refine rc_ord ?_
  | with_reducible refine rc_tupL ?_
  | with_reducible refine rc_tupT ?_
  | with_reducible refine rc_listL ?_
  | with_reducible refine rc_listT ?_
  | with_reducible refine ev_sl ?_
  | with_reducible refine eo_none ?_
  | with_reducible refine eo_some ?_
  | with_reducible refine rsl_T ?_
  | with_reducible refine rsl_L ?_
  | with_reducible refine ev_join ?_
  | with_reducible refine ev_index ?_
  | ((with_reducible apply ev_draw); · exact rfl)
  | ((with_reducible apply ev_one); · exact rfl)
  | ((with_reducible apply ev_callD); · exact rfl)
  | with_reducible refine ev_call ?_
  | with_reducible refine ey_nil ?_
  | with_reducible refine tg_name trivial ?_
  | ((with_reducible apply tg_name); · simp; done)
  | ((with_reducible apply tg_tup); · exact rfl)
  | with_reducible refine tgs_cons ?_
  | with_reducible refine tgs_nil ?_
  | with_reducible refine ei_list ?_
  | with_reducible refine ei_tup ?_
  | with_reducible refine ei_str ?_
  | with_reducible refine ei_rng1 ?_
  | with_reducible refine ei_rng2 ?_
  | with_reducible refine ei_enumL ?_
  | with_reducible refine ei_enumT ?_
  | with_reducible refine ei_enumS ?_
  | (with_reducible rw [if_pos rfl])
  | (with_reducible rw [if_pos trivial])
  | (with_reducible rw [if_neg not_false])
  | (with_reducible rw [if_neg Bool.false_ne_true])
  | (refine ⟨_, rfl, ?_⟩)
  | (refine ⟨_, _, rfl, ?_⟩)
  | (refine ⟨_, _, _, rfl, ?_⟩)
  | (refine ⟨_, _, _, _, rfl, ?_⟩)
  | (refine ⟨_, _, _, _, _, rfl, ?_⟩)
  | (refine ⟨_, _, _, _, _, _, rfl, ?_⟩)
  | ((with_reducible refine And.intro ?_ ?_); · decide)
  | ((with_reducible refine And.intro ?_ ?_); · (simp only [List.length_cons, List.length_nil, Nat.reduceAdd, Nat.reduceLeDiff, Nat.zero_add]; done))
  | (with_reducible refine fun _ : True => ?_)
  | (with_reducible refine fun _ : true = true => ?_)
  | (dsimp only [wipeR, List.set_cons_succ, List.set_cons_zero])
  | (with_reducible rw [Bool.not_true])
  | (with_reducible rw [Bool.not_false])))
local macro_rules | `(tactic| walk_at "gof") => `(tactic| repeat (first
  | ((with_reducible apply ev_var); · exact rfl)
  | with_reducible refine ev_int ?_
  | with_reducible refine ev_str ?_
  | with_reducible refine ev_non ?_
  | with_reducible refine ev_bl ?_
  | with_reducible refine rd_add ?_
  | with_reducible refine rd_sub ?_
  | with_reducible refine rd_lt ?_
  | with_reducible refine rd_le ?_
  | with_reducible refine rd_gt ?_
  | with_reducible refine rd_ge ?_
  | with_reducible refine rd_eqI ?_
  | with_reducible refine rd_neI ?_
  | with_reducible refine rd_neX0 ?_
  | with_reducible refine rd_eqX0 ?_
  | with_reducible refine rd_neXX ?_
  | with_reducible refine rd_eqXX ?_
  | with_reducible refine rd_eqX ?_
  | with_reducible refine rd_neX ?_
  | ((with_reducible apply rd_eq); · exact rfl)
  | ((with_reducible apply rd_ne); · exact rfl)
  | with_reducible refine rd_isN ?_
  | with_reducible refine rd_notN ?_
  | with_reducible refine rd_ixT0 ?_
  | with_reducible refine rd_ixT1 ?_
  | with_reducible refine rd_ixT2 ?_
  | with_reducible refine rd_inX ?_
  | with_reducible refine rd_ninX ?_
  | with_reducible refine rd_inS ?_
  | with_reducible refine rd_ninS ?_
  | ((with_reducible apply ev_bix); · exact rfl)
  | with_reducible refine ev_op ?_
  | with_reducible refine et_test ?_
  | with_reducible refine et_B ?_
  | with_reducible refine et_and ?_
  | with_reducible refine et_or ?_
  | with_reducible refine et_not ?_
  | with_reducible refine et_yes ?_
  | with_reducible refine et_truth ?_
  | with_reducible refine ev_andV ?_
  | with_reducible refine ev_orV ?_
  | with_reducible refine ev_notV ?_
  | with_reducible refine ev_if ?_
  | with_reducible refine ev_chain ?_
  | with_reducible refine ea_nil ?_
  | with_reducible refine ea_cons ?_
  | (with_reducible refine ev_tup ?_)
  | (with_reducible refine ev_lst ?_)
  | with_reducible refine ev_dnew ?_
  | with_reducible refine ev_isi ?_
  | with_reducible refine ev_cb ?_
  | with_reducible refine ev_un ?_
  | with_reducible refine ru_neg ?_
  | with_reducible refine rc_lenL ?_
  | with_reducible refine rc_lenT ?_
  | with_reducible refine rc_int1 ?_
  | with_reducible refine rc_max2 ?_
  | with_reducible refine rc_min2 ?_
  | with_reducible refine rc_abs ?_
  | with_reducible refine rc_ord ?_
  | with_reducible refine rc_tupL ?_
  | with_reducible refine rc_tupT ?_
  | with_reducible refine rc_listL ?_
  | with_reducible refine rc_listT ?_
  | with_reducible refine ev_sl ?_
  | with_reducible refine eo_none ?_
  | with_reducible refine eo_some ?_
  | with_reducible refine rsl_T ?_
  | with_reducible refine rsl_L ?_
  | with_reducible refine ev_join ?_
  | with_reducible refine ev_index ?_
  | ((with_reducible apply ev_draw); · exact rfl)
  | ((with_reducible apply ev_one); · exact rfl)
  | ((with_reducible apply ev_callD); · exact rfl)
  | with_reducible refine ev_call ?_
  | with_reducible refine sw_seq ?_
  | with_reducible refine sw_nx ?_
  | with_reducible refine sw_ret ?_
  | with_reducible refine sw_retN ?_
  | with_reducible refine sw_brk ?_
  | with_reducible refine sw_ct ?_
  | with_reducible refine sw_if ?_
  | with_reducible refine sw_ownRep ?_
  | with_reducible refine ey_nil ?_
  | ((with_reducible apply sw_bset); · exact rfl)
  | with_reducible refine sw_par ?_
  | with_reducible refine sw_set ?_
  | with_reducible refine sw_asg ?_
  | with_reducible refine sw_for ?_
  | with_reducible refine sw_drop ?_
  | with_reducible refine tg_name trivial ?_
  | ((with_reducible apply tg_name); · simp; done)
  | ((with_reducible apply tg_tup); · exact rfl)
  | with_reducible refine tgs_cons ?_
  | with_reducible refine tgs_nil ?_
  | with_reducible refine ei_list ?_
  | with_reducible refine ei_tup ?_
  | with_reducible refine ei_str ?_
  | with_reducible refine ei_rng1 ?_
  | with_reducible refine ei_rng2 ?_
  | with_reducible refine ei_enumL ?_
  | with_reducible refine ei_enumT ?_
  | with_reducible refine ei_enumS ?_
  | (with_reducible rw [if_pos rfl])
  | (with_reducible rw [if_pos trivial])
  | (with_reducible rw [if_neg not_false])
  | (with_reducible rw [if_neg Bool.false_ne_true])
  | (refine ⟨_, rfl, ?_⟩)
  | (refine ⟨_, _, rfl, ?_⟩)
  | (refine ⟨_, _, _, rfl, ?_⟩)
  | (refine ⟨_, _, _, _, rfl, ?_⟩)
  | (refine ⟨_, _, _, _, _, rfl, ?_⟩)
  | (refine ⟨_, _, _, _, _, _, rfl, ?_⟩)
  | ((with_reducible refine And.intro ?_ ?_); · decide)
  | ((with_reducible refine And.intro ?_ ?_); · (simp only [List.length_cons, List.length_nil, Nat.reduceAdd, Nat.reduceLeDiff, Nat.zero_add]; done))
  | (with_reducible refine fun _ : True => ?_)
  | (with_reducible refine fun _ : true = true => ?_)
  | (dsimp only [wipeR, List.set_cons_succ, List.set_cons_zero])
  | (with_reducible rw [Bool.not_true])
  | (with_reducible rw [Bool.not_false])))
local macro_rules | `(tactic| walk_at "tg") => `(tactic| repeat (first
  | with_reducible refine tg_name trivial ?_
  | ((with_reducible apply tg_name); · simp; done)
  | ((with_reducible apply tg_tup); · exact rfl)
  | with_reducible refine tgs_cons ?_
  | with_reducible refine tgs_nil ?_
  | (dsimp only [wipeR, List.set_cons_succ, List.set_cons_zero])
  | (with_reducible rw [Bool.not_true])
  | (with_reducible rw [Bool.not_false])))
local macro_rules | `(tactic| walk_at "le") => `(tactic| repeat (first | exact Le.nil | refine Le.no ?_ | refine Le.same ?_))

def top (i : Nat) : Stmt := PySem.Challenge.pw_unitlimits_k23_forms_unlike.main.body.getD i (.Pass ⟨0, 0, 0, 0⟩)
abbrev s_least_counts : Stmt := top 4
abbrev N_least_counts : List Str := ["steps", "begins", "least", "state", "waiting", "at", "target", "count", "total"]
theorem sc_least_counts : FnScope N_least_counts ["steps", "begins"] (defScope s_least_counts) := ⟨rfl, rfl, rfl, by decide +kernel, rfl, by decide +kernel, by decide +kernel⟩
abbrev s__turned : Stmt := top 3
abbrev N__turned : List Str := ["steps", "back", "state", "pairs", "target", "count", "_"]
theorem sc__turned : FnScope N__turned ["steps"] (defScope s__turned) := ⟨rfl, rfl, rfl, by decide +kernel, rfl, by decide +kernel, by decide +kernel⟩
abbrev s_within : Stmt := top 2
abbrev N_within : List Str := ["kind", "unit", "most", "letters", "rows", "ends", "steps", "ahead", "behind", "room", "kept", "row", "so_far", "last", "count", "end", "target", "state"]
theorem sc_within : FnScope N_within ["kind", "unit", "most"] (defScope s_within) := ⟨rfl, rfl, rfl, by decide +kernel, rfl, by decide +kernel, by decide +kernel⟩
abbrev s_trimmed : Stmt := top 1
abbrev N_trimmed : List Str := ["kind"]
theorem sc_trimmed : FnScope N_trimmed ["kind"] (defScope s_trimmed) := ⟨rfl, rfl, rfl, by decide +kernel, rfl, by decide +kernel, by decide +kernel⟩
abbrev s__word : Stmt := top 8
abbrev N__word : List Str := ["found", "at", "letters", "_", "letter"]
theorem sc__word : FnScope N__word ["found", "at"] (defScope s__word) := ⟨rfl, rfl, rfl, by decide +kernel, rfl, by decide +kernel, by decide +kernel⟩
abbrev s_first_word : Stmt := top 7
abbrev N_first_word : List Str := ["letters", "begins", "after", "is_end", "seen", "found", "at", "nodes", "letter", "targets", "node", "target"]
theorem sc_first_word : FnScope N_first_word ["letters", "begins", "after", "is_end"] (defScope s_first_word) := ⟨rfl, rfl, rfl, by decide +kernel, rfl, by decide +kernel, by decide +kernel⟩
abbrev s_above : Stmt := top 13
abbrev N_above : List Str := ["kind", "form", "bound", "letters", "rows", "ends", "best", "after", "is_end"]
theorem sc_above : FnScope N_above ["kind", "form", "bound"] (defScope s_above) := ⟨rfl, rfl, rfl, by decide +kernel, rfl, by decide +kernel, by decide +kernel⟩
abbrev s_earlier : Stmt := top 9
abbrev N_earlier : List Str := ["one", "other"]
theorem sc_earlier : FnScope N_earlier ["one", "other"] (defScope s_earlier) := ⟨rfl, rfl, rfl, by decide +kernel, rfl, by decide +kernel, by decide +kernel⟩
abbrev s_unlike : Stmt := top 12
abbrev N_unlike : List Str := ["kind", "one", "other", "more", "item", "less"]
theorem sc_unlike : FnScope N_unlike ["kind", "one", "other"] (defScope s_unlike) := ⟨rfl, rfl, rfl, by decide +kernel, rfl, by decide +kernel, by decide +kernel⟩
abbrev s_worth : Stmt := top 11
abbrev N_worth : List Str := ["form", "word", "item", "letter"]
theorem sc_worth : FnScope N_worth ["form", "word"] (defScope s_worth) := ⟨rfl, rfl, rfl, by decide +kernel, rfl, by decide +kernel, by decide +kernel⟩
abbrev s__law_deck : Stmt := top 15
abbrev N__law_deck : List Str := ["_law_script", "_law_cell"]
theorem sc__law_deck : FnScope N__law_deck ["_law_script"] (defScope s__law_deck) := ⟨rfl, rfl, rfl, by decide +kernel, rfl, by decide +kernel, by decide +kernel⟩
abbrev s__law_draw : Stmt := top 16
abbrev N__law_draw : List Str := ["_law_deck_here", "_law_many", "_law_cell", "_law_at", "_law_mixed"]
theorem sc__law_draw : FnScope N__law_draw ["_law_deck_here", "_law_many"] (defScope s__law_draw) := ⟨rfl, rfl, rfl, by decide +kernel, rfl, by decide +kernel, by decide +kernel⟩
abbrev s__law_one : Stmt := top 17
abbrev N__law_one : List Str := ["_law_deck_here", "_law_items"]
theorem sc__law_one : FnScope N__law_one ["_law_deck_here", "_law_items"] (defScope s__law_one) := ⟨rfl, rfl, rfl, by decide +kernel, rfl, by decide +kernel, by decide +kernel⟩
abbrev s__law_kind : Stmt := top 18
abbrev N__law_kind : List Str := ["_law_deck_here", "_law_letters", "_law_many", "_law_none", "_law_rows", "_law_k", "_law_row", "_law_j"]
theorem sc__law_kind : FnScope N__law_kind ["_law_deck_here", "_law_letters", "_law_many"] (defScope s__law_kind) := ⟨rfl, rfl, rfl, by decide +kernel, rfl, by decide +kernel, by decide +kernel⟩
abbrev s__law_line : Stmt := top 19
abbrev N__law_line : List Str := ["_law_deck_here", "_law_letters", "_law_many", "_law_rows", "_law_k", "_law_row", "_law_j"]
theorem sc__law_line : FnScope N__law_line ["_law_deck_here", "_law_letters", "_law_many"] (defScope s__law_line) := ⟨rfl, rfl, rfl, by decide +kernel, rfl, by decide +kernel, by decide +kernel⟩
abbrev s__law_word : Stmt := top 20
abbrev N__law_word : List Str := ["_law_deck_here", "_law_letters", "_law_most", "_law_k"]
theorem sc__law_word : FnScope N__law_word ["_law_deck_here", "_law_letters", "_law_most"] (defScope s__law_word) := ⟨rfl, rfl, rfl, by decide +kernel, rfl, by decide +kernel, by decide +kernel⟩
abbrev s__law_form : Stmt := top 21
abbrev N__law_form : List Str := ["_law_deck_here", "_law_letters", "_law_most", "_law_k"]
theorem sc__law_form : FnScope N__law_form ["_law_deck_here", "_law_letters"] (defScope s__law_form) := ⟨rfl, rfl, rfl, by decide +kernel, rfl, by decide +kernel, by decide +kernel⟩
abbrev s__law_worth : Stmt := top 23
abbrev N__law_worth : List Str := ["_law_form_here", "_law_word_here", "_law_found", "_law_letter"]
theorem sc__law_worth : FnScope N__law_worth ["_law_form_here", "_law_word_here"] (defScope s__law_worth) := ⟨rfl, rfl, rfl, by decide +kernel, rfl, by decide +kernel, by decide +kernel⟩
abbrev s__law_layer : Stmt := top 24
abbrev N__law_layer : List Str := ["_law_kind_here", "_law_gaps", "_law_layer_here", "_law_found", "_law_word_here", "_law_number", "_law_state", "_law_j", "_law_item", "_law_later", "_law_first", "_law_row"]
theorem sc__law_layer : FnScope N__law_layer ["_law_kind_here", "_law_gaps", "_law_layer_here"] (defScope s__law_layer) := ⟨rfl, rfl, rfl, by decide +kernel, rfl, by decide +kernel, by decide +kernel⟩
abbrev s__law_first_unlike : Stmt := top 25
abbrev N__law_first_unlike : List Str := ["_law_kind_here", "_law_one_here", "_law_other", "_law_gaps", "_law_layer_here", "_law_many", "_law_words", "_law_j", "_law_row"]
theorem sc__law_first_unlike : FnScope N__law_first_unlike ["_law_kind_here", "_law_one_here", "_law_other"] (defScope s__law_first_unlike) := ⟨rfl, rfl, rfl, by decide +kernel, rfl, by decide +kernel, by decide +kernel⟩
abbrev s__law_rounds : Stmt := top 26
abbrev N__law_rounds : List Str := ["_law_deck_here", "_law_letters", "_law_rows", "_law_k", "_law_j"]
theorem sc__law_rounds : FnScope N__law_rounds ["_law_deck_here", "_law_letters"] (defScope s__law_rounds) := ⟨rfl, rfl, rfl, by decide +kernel, rfl, by decide +kernel, by decide +kernel⟩
abbrev s_law : Stmt := top 27
abbrev N_law : List Str := ["_law_script", "_law_deck_here", "_law_turn", "_law_letters", "_law_many", "_law_kinds", "_law_one_here", "_law_other", "_law_at", "_law_step", "_law_near", "_law_kept", "_law_kind_here", "_law_form_here", "_law_due", "_law_k", "_law_word_here"]
theorem sc_law : FnScope N_law ["_law_script"] (defScope s_law) := ⟨rfl, rfl, rfl, by decide +kernel, rfl, by decide +kernel, by decide +kernel⟩
abbrev inn_above__after : Stmt := (defBody s_above).getD 3 (.Pass ⟨0, 0, 0, 0⟩)
abbrev N_above__after : List Str := ["node", "letter", "rows", "form", "best", "state", "so_far", "target", "total"]
theorem sc_above__after : NdefX.NScope N_above__after ["node", "letter"] ["rows", "form", "best"] (C8.fnScope inn_above__after) := NdefX.nscope_by (by decide +kernel)
theorem fre_above__after : ∀ y ∈ (C8.fnScope inn_above__after).names, y.2 = .free → (defScope s_above).names.lookup y.1 = some .cell ∨ (defScope s_above).names.lookup y.1 = some .free := by decide +kernel
theorem frm_above__after : ∀ y ∈ (["rows", "form", "best"] : List Str), (y, NameKind.free) ∈ (C8.fnScope inn_above__after).names := by decide +kernel
abbrev inn_above__is_end : Stmt := (defBody s_above).getD 4 (.Pass ⟨0, 0, 0, 0⟩)
abbrev N_above__is_end : List Str := ["node", "ends", "bound"]
theorem sc_above__is_end : NdefX.NScope N_above__is_end ["node"] ["ends", "bound"] (C8.fnScope inn_above__is_end) := NdefX.nscope_by (by decide +kernel)
theorem fre_above__is_end : ∀ y ∈ (C8.fnScope inn_above__is_end).names, y.2 = .free → (defScope s_above).names.lookup y.1 = some .cell ∨ (defScope s_above).names.lookup y.1 = some .free := by decide +kernel
theorem frm_above__is_end : ∀ y ∈ (["ends", "bound"] : List Str), (y, NameKind.free) ∈ (C8.fnScope inn_above__is_end).names := by decide +kernel
/-- where the defs stand -/
structure Adrs where
  f_least_counts : Addr
  d_least_counts : FuncData
  f__turned : Addr
  d__turned : FuncData
  f_within : Addr
  d_within : FuncData
  f_trimmed : Addr
  d_trimmed : FuncData
  f__word : Addr
  d__word : FuncData
  f_first_word : Addr
  d_first_word : FuncData
  f_above : Addr
  d_above : FuncData
  c_above : Addr
  p_above : Addr
  f_earlier : Addr
  d_earlier : FuncData
  f_unlike : Addr
  d_unlike : FuncData
  f_worth : Addr
  d_worth : FuncData
  f__law_deck : Addr
  d__law_deck : FuncData
  f__law_draw : Addr
  d__law_draw : FuncData
  f__law_one : Addr
  d__law_one : FuncData
  f__law_kind : Addr
  d__law_kind : FuncData
  f__law_line : Addr
  d__law_line : FuncData
  f__law_word : Addr
  d__law_word : FuncData
  f__law_form : Addr
  d__law_form : FuncData
  f__law_worth : Addr
  d__law_worth : FuncData
  f__law_layer : Addr
  d__law_layer : FuncData
  f__law_first_unlike : Addr
  d__law_first_unlike : FuncData
  f__law_rounds : Addr
  d__law_rounds : FuncData
  f_law : Addr
  d_law : FuncData
structure Txt (K : PySem.W.Frag) (mg : Str → Option Value) (A : Adrs) : Prop where
  F_least_counts : Fun K "least_counts" "least_counts" s_least_counts A.f_least_counts A.d_least_counts
  m_least_counts : mg "least_counts" = some (.ref A.f_least_counts)
  k_least_counts : PySem.W.keepIn K (.ref A.f_least_counts) = true
  b_least_counts : Binds K A.d_least_counts ["steps", "begins"] []
  F__turned : Fun K "_turned" "_turned" s__turned A.f__turned A.d__turned
  m__turned : mg "_turned" = some (.ref A.f__turned)
  k__turned : PySem.W.keepIn K (.ref A.f__turned) = true
  b__turned : Binds K A.d__turned ["steps"] []
  F_within : Fun K "within" "within" s_within A.f_within A.d_within
  m_within : mg "within" = some (.ref A.f_within)
  k_within : PySem.W.keepIn K (.ref A.f_within) = true
  b_within : Binds K A.d_within ["kind", "unit", "most"] []
  F_trimmed : Fun K "trimmed" "trimmed" s_trimmed A.f_trimmed A.d_trimmed
  m_trimmed : mg "trimmed" = some (.ref A.f_trimmed)
  k_trimmed : PySem.W.keepIn K (.ref A.f_trimmed) = true
  b_trimmed : Binds K A.d_trimmed ["kind"] []
  F__word : Fun K "_word" "_word" s__word A.f__word A.d__word
  m__word : mg "_word" = some (.ref A.f__word)
  k__word : PySem.W.keepIn K (.ref A.f__word) = true
  b__word : Binds K A.d__word ["found", "at"] []
  F_first_word : Fun K "first_word" "first_word" s_first_word A.f_first_word A.d_first_word
  m_first_word : mg "first_word" = some (.ref A.f_first_word)
  k_first_word : PySem.W.keepIn K (.ref A.f_first_word) = true
  b_first_word : Binds K A.d_first_word ["letters", "begins", "after", "is_end"] []
  F_above : Fun K "above" "above" s_above A.f_above A.d_above
  C_above : FunC K "above" "above" s_above A.f_above A.d_above A.c_above
  m_above : mg "above" = some (.ref A.f_above)
  k_above : PySem.W.keepIn K (.ref A.f_above) = true
  b_above : Binds K A.d_above ["kind", "form", "bound"] []
  F_earlier : Fun K "earlier" "earlier" s_earlier A.f_earlier A.d_earlier
  m_earlier : mg "earlier" = some (.ref A.f_earlier)
  k_earlier : PySem.W.keepIn K (.ref A.f_earlier) = true
  b_earlier : Binds K A.d_earlier ["one", "other"] []
  F_unlike : Fun K "unlike" "unlike" s_unlike A.f_unlike A.d_unlike
  m_unlike : mg "unlike" = some (.ref A.f_unlike)
  k_unlike : PySem.W.keepIn K (.ref A.f_unlike) = true
  b_unlike : Binds K A.d_unlike ["kind", "one", "other"] []
  F_worth : Fun K "worth" "worth" s_worth A.f_worth A.d_worth
  m_worth : mg "worth" = some (.ref A.f_worth)
  k_worth : PySem.W.keepIn K (.ref A.f_worth) = true
  b_worth : Binds K A.d_worth ["form", "word"] []
  F__law_deck : Fun K "_law_deck" "_law_deck" s__law_deck A.f__law_deck A.d__law_deck
  m__law_deck : mg "_law_deck" = some (.ref A.f__law_deck)
  k__law_deck : PySem.W.keepIn K (.ref A.f__law_deck) = true
  b__law_deck : Binds K A.d__law_deck ["_law_script"] []
  F__law_draw : Fun K "_law_draw" "_law_draw" s__law_draw A.f__law_draw A.d__law_draw
  m__law_draw : mg "_law_draw" = some (.ref A.f__law_draw)
  k__law_draw : PySem.W.keepIn K (.ref A.f__law_draw) = true
  b__law_draw : Binds K A.d__law_draw ["_law_deck_here", "_law_many"] []
  F__law_one : Fun K "_law_one" "_law_one" s__law_one A.f__law_one A.d__law_one
  m__law_one : mg "_law_one" = some (.ref A.f__law_one)
  k__law_one : PySem.W.keepIn K (.ref A.f__law_one) = true
  b__law_one : Binds K A.d__law_one ["_law_deck_here", "_law_items"] []
  F__law_kind : Fun K "_law_kind" "_law_kind" s__law_kind A.f__law_kind A.d__law_kind
  m__law_kind : mg "_law_kind" = some (.ref A.f__law_kind)
  k__law_kind : PySem.W.keepIn K (.ref A.f__law_kind) = true
  b__law_kind : Binds K A.d__law_kind ["_law_deck_here", "_law_letters", "_law_many"] []
  F__law_line : Fun K "_law_line" "_law_line" s__law_line A.f__law_line A.d__law_line
  m__law_line : mg "_law_line" = some (.ref A.f__law_line)
  k__law_line : PySem.W.keepIn K (.ref A.f__law_line) = true
  b__law_line : Binds K A.d__law_line ["_law_deck_here", "_law_letters", "_law_many"] []
  F__law_word : Fun K "_law_word" "_law_word" s__law_word A.f__law_word A.d__law_word
  m__law_word : mg "_law_word" = some (.ref A.f__law_word)
  k__law_word : PySem.W.keepIn K (.ref A.f__law_word) = true
  b__law_word : Binds K A.d__law_word ["_law_deck_here", "_law_letters", "_law_most"] []
  F__law_form : Fun K "_law_form" "_law_form" s__law_form A.f__law_form A.d__law_form
  m__law_form : mg "_law_form" = some (.ref A.f__law_form)
  k__law_form : PySem.W.keepIn K (.ref A.f__law_form) = true
  b__law_form : Binds K A.d__law_form ["_law_deck_here", "_law_letters"] []
  F__law_worth : Fun K "_law_worth" "_law_worth" s__law_worth A.f__law_worth A.d__law_worth
  m__law_worth : mg "_law_worth" = some (.ref A.f__law_worth)
  k__law_worth : PySem.W.keepIn K (.ref A.f__law_worth) = true
  b__law_worth : Binds K A.d__law_worth ["_law_form_here", "_law_word_here"] []
  F__law_layer : Fun K "_law_layer" "_law_layer" s__law_layer A.f__law_layer A.d__law_layer
  m__law_layer : mg "_law_layer" = some (.ref A.f__law_layer)
  k__law_layer : PySem.W.keepIn K (.ref A.f__law_layer) = true
  b__law_layer : Binds K A.d__law_layer ["_law_kind_here", "_law_gaps", "_law_layer_here"] []
  F__law_first_unlike : Fun K "_law_first_unlike" "_law_first_unlike" s__law_first_unlike A.f__law_first_unlike A.d__law_first_unlike
  m__law_first_unlike : mg "_law_first_unlike" = some (.ref A.f__law_first_unlike)
  k__law_first_unlike : PySem.W.keepIn K (.ref A.f__law_first_unlike) = true
  b__law_first_unlike : Binds K A.d__law_first_unlike ["_law_kind_here", "_law_one_here", "_law_other"] []
  F__law_rounds : Fun K "_law_rounds" "_law_rounds" s__law_rounds A.f__law_rounds A.d__law_rounds
  m__law_rounds : mg "_law_rounds" = some (.ref A.f__law_rounds)
  k__law_rounds : PySem.W.keepIn K (.ref A.f__law_rounds) = true
  b__law_rounds : Binds K A.d__law_rounds ["_law_deck_here", "_law_letters"] []
  F_law : Fun K "law" "law" s_law A.f_law A.d_law
  m_law : mg "law" = some (.ref A.f_law)
  k_law : PySem.W.keepIn K (.ref A.f_law) = true
  b_law : Binds K A.d_law ["_law_script"] []
  z_abs : mg "abs" = none
  z_any : mg "any" = none
  z_enumerate : mg "enumerate" = none
  z_int : mg "int" = none
  z_len : mg "len" = none
  z_list : mg "list" = none
  z_min : mg "min" = none
  z_range : mg "range" = none
  z_repr : mg "repr" = none
  z_sorted : mg "sorted" = none
  z_sum : mg "sum" = none
  z_tuple : mg "tuple" = none
  z_zip : mg "zip" = none
  c_LETTERS : ∃ t, mg "LETTERS" = some (.str "abcdefghijklmnopqrstuvwxyz" t)
/-- the makers' tables -/
structure Tbs (base : Heap) (mg : Str → Option Value) (A : Adrs) : Prop where
  t_above : LamX.TabB base mg A.c_above A.p_above
def nm_above (l _ : Nat) : Str := if l = (posOf inn_above__after).line then "above.<locals>." ++ "after" else if l = (posOf inn_above__is_end).line then "above.<locals>." ++ "is_end" else ""
def TT (A : Adrs) : List NdefX.NTab := [(A.p_above, nm_above)]
/-! ### words in order: shorter ones first, then by letters -/
def lexN : List Nat → List Nat → Prop
  | x :: xs, y :: ys => x < y ∨ (x = y ∧ lexN xs ys)
  | _, _ => False
def slt (a b : List Nat) : Prop := a.length < b.length ∨ (a.length = b.length ∧ lexN a b)
theorem lexN_irrefl : ∀ a, ¬ lexN a a
  | [] => fun h => h
  | x :: xs => fun h => h.elim (Nat.lt_irrefl _) fun h => lexN_irrefl xs h.2
theorem lexN_trans : ∀ a b c, lexN a b → lexN b c → lexN a c
  | x :: xs, y :: ys, z :: zs, h, g => by
    rcases h with h | ⟨rfl, h⟩
    · rcases g with g | ⟨rfl, g⟩
      · exact .inl (Nat.lt_trans h g)
      · exact .inl h
    · rcases g with g | ⟨rfl, g⟩
      · exact .inl g
      · exact .inr ⟨rfl, lexN_trans xs ys zs h g⟩
  | [], _, _, h, _ => h.elim
  | _ :: _, [], _, h, _ => h.elim
  | _ :: _, _ :: _, [], _, g => g.elim
theorem lexN_tri : ∀ a b : List Nat, a.length = b.length → lexN a b ∨ a = b ∨ lexN b a
  | [], [], _ => .inr (.inl rfl)
  | [], _ :: _, h => by cases h
  | _ :: _, [], h => by cases h
  | x :: xs, y :: ys, h => by
    rcases Nat.lt_trichotomy x y with e | e | e
    · exact .inl (.inl e)
    · subst e
      rcases lexN_tri xs ys (by simpa using h) with g | g | g
      · exact .inl (.inr ⟨rfl, g⟩)
      · exact .inr (.inl (by rw [g]))
      · exact .inr (.inr (.inr ⟨rfl, g⟩))
    · exact .inr (.inr (.inl e))
theorem lexN_snoc : ∀ (a b : List Nat) (c d : Nat), a.length = b.length → (lexN (a ++ [c]) (b ++ [d]) ↔ lexN a b ∨ (a = b ∧ c < d))
  | [], [], c, d, _ => by simp [lexN]
  | [], _ :: _, _, _, h => by cases h
  | _ :: _, [], _, _, h => by cases h
  | x :: xs, y :: ys, c, d, h => by
    have ih := lexN_snoc xs ys c d (by simpa using h)
    show (x < y ∨ (x = y ∧ lexN (xs ++ [c]) (ys ++ [d]))) ↔ (x < y ∨ (x = y ∧ lexN xs ys)) ∨ (x :: xs = y :: ys ∧ c < d)
    rw [ih]
    constructor
    · rintro (q | ⟨rfl, q | ⟨rfl, q⟩⟩)
      · exact .inl (.inl q)
      · exact .inl (.inr ⟨rfl, q⟩)
      · exact .inr ⟨rfl, q⟩
    · rintro ((q | ⟨rfl, q⟩) | ⟨q, g⟩)
      · exact .inl q
      · exact .inr ⟨rfl, .inl q⟩
      · injection q with h1 h2
        exact .inr ⟨h1, .inr ⟨h2, g⟩⟩
theorem slt_irrefl (a : List Nat) : ¬ slt a a := fun h => h.elim (Nat.lt_irrefl _) fun h => lexN_irrefl a h.2
theorem slt_trans {a b c : List Nat} (h : slt a b) (g : slt b c) : slt a c := by
  rcases h with h | ⟨h1, h2⟩
  · rcases g with g | ⟨g1, g2⟩
    · exact .inl (Nat.lt_trans h g)
    · exact .inl (by omega)
  · rcases g with g | ⟨g1, g2⟩
    · exact .inl (by omega)
    · exact .inr ⟨h1.trans g1, lexN_trans _ _ _ h2 g2⟩
theorem slt_asymm {a b : List Nat} (h : slt a b) : ¬ slt b a := fun g => slt_irrefl a (slt_trans h g)
theorem slt_tri (a b : List Nat) : slt a b ∨ a = b ∨ slt b a := by
  rcases Nat.lt_trichotomy a.length b.length with h | h | h
  · exact .inl (.inl h)
  · rcases lexN_tri a b h with g | g | g
    · exact .inl (.inr ⟨h, g⟩)
    · exact .inr (.inl g)
    · exact .inr (.inr (.inr ⟨h.symm, g⟩))
  · exact .inr (.inr (.inl h))
theorem slt_le {a b c : List Nat} (h : ¬ slt b a) (g : slt b c) : slt a c := by
  rcases slt_tri a b with e | e | e
  · exact slt_trans e g
  · exact e ▸ g
  · exact absurd e h
theorem slt_le2 {a b c : List Nat} (h : slt a b) (g : ¬ slt c b) : slt a c := by
  rcases slt_tri b c with e | e | e
  · exact slt_trans h e
  · exact e ▸ h
  · exact absurd e g
theorem slt_snoc {a b : List Nat} {c d : Nat} : slt (a ++ [c]) (b ++ [d]) ↔ slt a b ∨ (a = b ∧ c < d) := by
  unfold slt
  rw [List.length_append, List.length_append, List.length_singleton, List.length_singleton]
  constructor
  · rintro (h | ⟨h, g⟩)
    · exact .inl (.inl (by omega))
    · rcases (lexN_snoc a b c d (by omega)).mp g with g | g
      · exact .inl (.inr ⟨by omega, g⟩)
      · exact .inr g
  · rintro ((h | ⟨h, g⟩) | ⟨rfl, h⟩)
    · exact .inl (by omega)
    · exact .inr ⟨by omega, (lexN_snoc a b c d h).mpr (.inl g)⟩
    · exact .inr ⟨rfl, (lexN_snoc a a c d rfl).mpr (.inr ⟨rfl, h⟩)⟩
theorem slt_nil (a : List Nat) (c : Nat) : slt [] (a ++ [c]) := .inl (by simp)
theorem nslt_nil (a : List Nat) : ¬ slt a [] := fun h => by
  rcases h with h | ⟨h, g⟩
  · cases h
  · cases a with
    | nil => exact g
    | cons => cases h
theorem snoc_of (w : List Nat) : w = [] ∨ ∃ v c, w = v ++ [c] := by
  rcases List.eq_nil_or_concat w with h | ⟨v, c, h⟩
  · exact .inl h
  · exact .inr ⟨v, c, by simpa using h⟩
theorem lexN_lt : ∀ a b : List Nat, a.length = b.length → (a < b ↔ lexN a b)
  | [], [], _ => by simp [lexN]
  | [], _ :: _, h => by cases h
  | _ :: _, [], h => by cases h
  | x :: xs, y :: ys, h => by
    rw [List.cons_lt_cons_iff, lexN_lt xs ys (by simpa using h)]
    rfl
/-! ### machines -/
def runF (δ : Nat → Nat → Option Nat) : Nat → List Nat → Option Nat
  | s, [] => some s
  | s, c :: w => (δ s c).bind fun t => runF δ t w
theorem runF_app (δ : Nat → Nat → Option Nat) : ∀ (v w : List Nat) (s : Nat), runF δ s (v ++ w) = (runF δ s v).bind fun t => runF δ t w
  | [], w, s => rfl
  | c :: v, w, s => by
    show (δ s c).bind (fun t => runF δ t (v ++ w)) = ((δ s c).bind fun t => runF δ t v).bind _
    cases δ s c with
    | none => rfl
    | some t => exact runF_app δ v w t
theorem runF_snoc {δ : Nat → Nat → Option Nat} {v : List Nat} {c s : Nat} : runF δ s (v ++ [c]) = (runF δ s v).bind fun t => δ t c := by
  rw [runF_app]
  cases runF δ s v with
  | none => rfl
  | some t =>
    show (δ t c).bind some = δ t c
    cases δ t c <;> rfl
def AccF (δ : Nat → Nat → Option Nat) (b : Nat) (goal : Nat → Bool) (w : List Nat) : Prop := ∃ t, runF δ b w = some t ∧ goal t = true
/-! ### a search in breadth -/
structure Bfs (δ : Nat → Nat → Option Nat) (b : Nat) (goal : Nat → Bool) (sts : List Nat) (ws : List (List Nat)) (a j : Nat) : Prop where
  len : ws.length = sts.length
  zw : ws[0]? = some []
  zs : sts[0]? = some b
  run : ∀ (i s : Nat) (w : List Nat), sts[i]? = some s → ws[i]? = some w → runF δ b w = some s
  nd : sts.Nodup
  ng : ∀ s ∈ sts, goal s = false
  sorted : ∀ (i k : Nat) (v w : List Nat), i < k → ws[i]? = some v → ws[k]? = some w → slt v w
  done : ∀ (i c s : Nat) (w : List Nat) (t : Nat), (i < a ∨ (i = a ∧ c < j)) → sts[i]? = some s → ws[i]? = some w → δ s c = some t → ∃ (k : Nat) (v : List Nat), sts[k]? = some t ∧ ws[k]? = some v ∧ ¬ slt (w ++ [c]) v
  last : ∀ (i : Nat) (w : List Nat), ws[i]? = some w → i ≠ 0 → ∃ (k c : Nat) (v : List Nat), ws[k]? = some v ∧ w = v ++ [c] ∧ (k < a ∨ (k = a ∧ c < j))
section
variable {δ : Nat → Nat → Option Nat} {b : Nat} {goal : Nat → Bool} {sts : List Nat} {ws : List (List Nat)} {a j : Nat}
theorem Bfs.start (h : goal b = false) : Bfs δ b goal [b] [[]] 0 0 where
  len := rfl
  zw := rfl
  zs := rfl
  run := fun i s w h1 h2 => by
    match i, h1, h2 with
    | 0, h1, h2 => cases h1; cases h2; rfl
    | i + 1, h1, _ => simp at h1
  nd := by simp
  ng := fun s hs => by rw [List.mem_singleton.mp hs]; exact h
  sorted := fun i k v w ik h1 h2 => by
    match k, h2 with
    | 0, _ => omega
    | k + 1, h2 => simp at h2
  done := fun i c s w t h => by omega
  last := fun i w h1 h2 => by
    match i, h1, h2 with
    | 0, _, h2 => exact absurd rfl h2
    | i + 1, h1, _ => simp at h1
theorem Bfs.before (B : Bfs δ b goal sts ws a j) {i : Nat} {w v : List Nat} (hv : ws[i]? = some v) (hw : ws[a]? = some w) : slt v (w ++ [j]) := by
  by_cases i0 : i = 0
  · subst i0
    rw [B.zw] at hv
    cases hv
    exact slt_nil _ _
  · obtain ⟨k, c, u, hu, rfl, h⟩ := B.last i v hv i0
    rw [slt_snoc]
    rcases h with h | ⟨rfl, h⟩
    · exact .inl (B.sorted k a u w h hu hw)
    · rw [hu] at hw
      cases hw
      exact .inr ⟨rfl, h⟩
theorem Bfs.skip {s : Nat} (B : Bfs δ b goal sts ws a j) (hs : sts[a]? = some s) (h : ∀ t, δ s j = some t → t ∈ sts) : Bfs δ b goal sts ws a (j + 1) where
  len := B.len
  zw := B.zw
  zs := B.zs
  run := B.run
  nd := B.nd
  ng := B.ng
  sorted := B.sorted
  done := fun i c s' w t hi h1 h2 h3 => by
    by_cases e : i < a ∨ (i = a ∧ c < j)
    · exact B.done i c s' w t e h1 h2 h3
    · have ei : i = a := by omega
      have ec : c = j := by omega
      subst ei ec
      rw [hs] at h1
      cases h1
      obtain ⟨k, hk, e⟩ := List.mem_iff_getElem.mp (h t h3)
      have hk2 : k < ws.length := by rw [B.len]; exact hk
      exact ⟨k, ws[k], by rw [List.getElem?_eq_getElem hk, e], List.getElem?_eq_getElem hk2, slt_asymm (B.before (List.getElem?_eq_getElem hk2) h2)⟩
  last := fun i w h1 h2 => by
    obtain ⟨k, c, v, g1, g2, g3⟩ := B.last i w h1 h2
    exact ⟨k, c, v, g1, g2, by omega⟩
theorem Bfs.add {s t : Nat} {w : List Nat} (B : Bfs δ b goal sts ws a j) (hs : sts[a]? = some s) (hw : ws[a]? = some w) (ht : δ s j = some t) (hn : t ∉ sts) (hg : goal t = false) : Bfs δ b goal (sts ++ [t]) (ws ++ [w ++ [j]]) a (j + 1) := by
  have la : a < sts.length := (List.getElem?_eq_some_iff.mp hs).1
  have lw : a < ws.length := (List.getElem?_eq_some_iff.mp hw).1
  have up : ∀ {α : Type} (l : List α) (x : α) (i : Nat) (y : α), l[i]? = some y → (l ++ [x])[i]? = some y := fun l x i y h => by
    rw [List.getElem?_append_left (List.getElem?_eq_some_iff.mp h).1]; exact h
  have cs : ∀ {α : Type} (l : List α) (x : α) (i : Nat) (y : α), (l ++ [x])[i]? = some y → l[i]? = some y ∨ (i = l.length ∧ y = x) := fun l x i y h => by
    by_cases hi : i < l.length
    · rw [List.getElem?_append_left hi] at h; exact .inl h
    · rw [List.getElem?_append_right (by omega)] at h
      have := (List.getElem?_eq_some_iff.mp h).1
      simp at this
      have ei : i = l.length := by omega
      subst ei
      simp at h
      exact .inr ⟨rfl, h.symm⟩
  refine ⟨by simp [B.len], up _ _ _ _ B.zw, up _ _ _ _ B.zs, fun i s' v h1 h2 => ?_, ?_, fun x hx => ?_, fun i k v v' ik h1 h2 => ?_, fun i c s' v t' hi h1 h2 h3 => ?_, fun i v h1 h2 => ?_⟩
  · rcases cs _ _ _ _ h1 with h1 | ⟨e1, rfl⟩
    · rcases cs _ _ _ _ h2 with h2 | ⟨e2, rfl⟩
      · exact B.run i s' v h1 h2
      · have := (List.getElem?_eq_some_iff.mp h1).1
        have := B.len
        omega
    · rcases cs _ _ _ _ h2 with h2 | ⟨e2, rfl⟩
      · have := (List.getElem?_eq_some_iff.mp h2).1
        have := B.len
        omega
      · rw [runF_snoc, B.run a s w hs hw]
        exact ht
  · rw [List.nodup_append]
    exact ⟨B.nd, by simp, fun x hx y hy => by
      rw [List.mem_singleton.mp hy]
      rintro rfl
      exact hn hx⟩
  · rcases List.mem_append.mp hx with hx | hx
    · exact B.ng x hx
    · rw [List.mem_singleton.mp hx]; exact hg
  · rcases cs _ _ _ _ h2 with h2 | ⟨e2, rfl⟩
    · rcases cs _ _ _ _ h1 with h1 | ⟨e1, rfl⟩
      · exact B.sorted i k v v' ik h1 h2
      · have := (List.getElem?_eq_some_iff.mp h2).1
        omega
    · rcases cs _ _ _ _ h1 with h1 | ⟨e1, rfl⟩
      · exact B.before h1 hw
      · omega
  · rcases cs _ _ _ _ h2 with q2 | ⟨e2, rfl⟩
    · rcases cs _ _ _ _ h1 with q1 | ⟨e1, rfl⟩
      · by_cases e : i < a ∨ (i = a ∧ c < j)
        · obtain ⟨k, u, g1, g2, g3⟩ := B.done i c s' v t' e q1 q2 h3
          exact ⟨k, u, up _ _ _ _ g1, up _ _ _ _ g2, g3⟩
        · have ei : i = a := by omega
          have ec : c = j := by omega
          subst ei ec
          rw [hs] at q1
          cases q1
          rw [hw] at q2
          cases q2
          rw [ht] at h3
          cases h3
          exact ⟨sts.length, w ++ [c], by simp, by rw [← B.len]; simp, slt_irrefl _⟩
      · have := (List.getElem?_eq_some_iff.mp q2).1
        have := B.len
        omega
    · have : i = sts.length := by rw [e2]; exact B.len
      omega
  · rcases cs _ _ _ _ h1 with h1 | ⟨e1, rfl⟩
    · obtain ⟨k, c, u, g1, g2, g3⟩ := B.last i v h1 h2
      exact ⟨k, c, u, up _ _ _ _ g1, g2, by omega⟩
    · exact ⟨a, j, w, up _ _ _ _ hw, rfl, by omega⟩
theorem Bfs.next {s : Nat} (B : Bfs δ b goal sts ws a j) (hs : sts[a]? = some s) (h : ∀ c, j ≤ c → δ s c = none) : Bfs δ b goal sts ws (a + 1) 0 where
  len := B.len
  zw := B.zw
  zs := B.zs
  run := B.run
  nd := B.nd
  ng := B.ng
  sorted := B.sorted
  done := fun i c s' w t hi h1 h2 h3 => by
    refine B.done i c s' w t ?_ h1 h2 h3
    by_cases e : i = a
    · subst e
      rw [hs] at h1
      cases h1
      refine .inr ⟨rfl, Nat.lt_of_not_le fun le => ?_⟩
      rw [h c le] at h3
      cases h3
    · exact .inl (by omega)
  last := fun i w h1 h2 => by
    obtain ⟨k, c, v, g1, g2, g3⟩ := B.last i w h1 h2
    exact ⟨k, c, v, g1, g2, by omega⟩
theorem Bfs.lt_of (B : Bfs δ b goal sts ws a j) {k i : Nat} {v w : List Nat} (hv : ws[k]? = some v) (hw : ws[i]? = some w) (h : slt v w) : k < i := by
  rcases Nat.lt_trichotomy k i with e | e | e
  · exact e
  · subst e
    rw [hv] at hw
    cases hw
    exact absurd h (slt_irrefl _)
  · exact absurd h (slt_asymm (B.sorted i k w v e hw hv))
theorem Bfs.cover (B : Bfs δ b goal sts ws a j) {w : List Nat} (hw : ws[a]? = some w) : ∀ (n : Nat) (x : List Nat) (s : Nat), x.length = n → ¬ slt w x → runF δ b x = some s → ∃ (k : Nat) (v : List Nat), sts[k]? = some s ∧ ws[k]? = some v ∧ ¬ slt x v
  | 0, x, s, hn, _, hr => by
    have : x = [] := List.length_eq_zero_iff.mp hn
    subst this
    cases hr
    exact ⟨0, [], B.zs, B.zw, slt_irrefl _⟩
  | n + 1, x, s, hn, hx, hr => by
    rcases snoc_of x with rfl | ⟨y, e, rfl⟩
    · cases hn
    · rw [runF_snoc] at hr
      obtain ⟨s', hy, he⟩ := Option.bind_eq_some_iff.mp hr
      have yx : slt y (y ++ [e]) := .inl (by simp)
      obtain ⟨k, v, h1, h2, h3⟩ := B.cover hw n y s' (by simpa using hn) (fun z => hx (slt_trans z yx)) hy
      have vw : slt v w := slt_le2 (slt_le h3 yx) hx
      have hk := B.lt_of h2 hw vw
      obtain ⟨k', v', g1, g2, g3⟩ := B.done k e s' v s (.inl hk) h1 h2 he
      refine ⟨k', v', g1, g2, fun z => g3 ?_⟩
      -- v e ≤ y e < v'
      rcases slt_tri v y with q | q | q
      · exact slt_trans (slt_snoc.mpr (.inl q)) z
      · rw [q]; exact z
      · exact absurd q h3
theorem Bfs.found {s t : Nat} {w : List Nat} (B : Bfs δ b goal sts ws a j) (hs : sts[a]? = some s) (hw : ws[a]? = some w) (ht : δ s j = some t) (hg : goal t = true) : AccF δ b goal (w ++ [j]) ∧ ∀ x, AccF δ b goal x → ¬ slt x (w ++ [j]) := by
  refine ⟨⟨t, by rw [runF_snoc, B.run a s w hs hw]; exact ht, hg⟩, ?_⟩
  rintro x ⟨t', hr, hg'⟩ lt
  rcases snoc_of x with rfl | ⟨y, d, rfl⟩
  · cases hr
    rw [B.ng _ (List.mem_of_getElem? B.zs)] at hg'
    cases hg'
  · rw [slt_snoc] at lt
    rw [runF_snoc] at hr
    obtain ⟨s', hy, hd⟩ := Option.bind_eq_some_iff.mp hr
    have nlt : ¬ slt w y := by
      rcases lt with lt | ⟨rfl, _⟩
      · exact slt_asymm lt
      · exact slt_irrefl _
    obtain ⟨k, v, h1, h2, h3⟩ := B.cover hw _ y s' rfl nlt hy
    have pr : k < a ∨ (k = a ∧ d < j) := by
      rcases lt with lt | ⟨rfl, lt⟩
      · exact .inl (B.lt_of h2 hw (slt_le h3 lt))
      · rcases slt_tri v y with q | q | q
        · exact .inl (B.lt_of h2 hw q)
        · subst q
          rcases Nat.lt_trichotomy k a with e | e | e
          · exact .inl e
          · exact .inr ⟨e, lt⟩
          · exact absurd (B.sorted a k v v e hw h2) (slt_irrefl _)
        · exact absurd q h3
    obtain ⟨k', v', g1, _, _⟩ := B.done k d s' v t' pr h1 h2 hd
    rw [B.ng _ (List.mem_of_getElem? g1)] at hg'
    cases hg'
theorem Bfs.finish (B : Bfs δ b goal sts ws sts.length 0) : ∀ x, ¬ AccF δ b goal x := by
  have all : ∀ (n : Nat) (x : List Nat) (s : Nat), x.length = n → runF δ b x = some s → s ∈ sts := by
    intro n
    induction n with
    | zero =>
      intro x s hn hr
      have : x = [] := List.length_eq_zero_iff.mp hn
      subst this
      cases hr
      exact List.mem_of_getElem? B.zs
    | succ n ih =>
      intro x s hn hr
      rcases snoc_of x with rfl | ⟨y, e, rfl⟩
      · cases hn
      · rw [runF_snoc] at hr
        obtain ⟨s', hy, he⟩ := Option.bind_eq_some_iff.mp hr
        obtain ⟨k, hk, e1⟩ := List.mem_iff_getElem.mp (ih y s' (by simpa using hn) hy)
        have hk2 : k < ws.length := by rw [B.len]; exact hk
        obtain ⟨k', v', g1, _, _⟩ := B.done k e s' ws[k] s (.inl hk) (by rw [List.getElem?_eq_getElem hk, e1]) (List.getElem?_eq_getElem hk2) he
        exact List.mem_of_getElem? g1
  rintro x ⟨t, hr, hg⟩
  rw [B.ng t (all _ x t rfl hr)] at hg
  cases hg
end

/-! ### searches -/
def optD : Option Nat → PyData | none => .none | some n => nI n
theorem txt_LET : Str.ofString "abcdefghijklmnopqrstuvwxyz" = txt (List.range 26) := by decide +kernel
inductive WordAt (came : List (Option (Nat × Nat))) : Nat → List Nat → Prop
  | nil {i : Nat} : came[i]? = some none → WordAt came i []
  | snoc {i k c : Nat} {w : List Nat} : came[i]? = some (some (k, c)) → k < i → c < 26 → WordAt came k w → WordAt came i (w ++ [c])
theorem WordAt.more {came : List (Option (Nat × Nat))} {i : Nat} {w : List Nat} (h : WordAt came i w) (x : Option (Nat × Nat)) : WordAt (came ++ [x]) i w := by
  have up : ∀ {i : Nat} {y : Option (Nat × Nat)}, came[i]? = some y → (came ++ [x])[i]? = some y := fun {i y} h => by
    rw [List.getElem?_append_left (List.getElem?_eq_some_iff.mp h).1]; exact h
  induction h with
  | nil h => exact .nil (up h)
  | snoc h k c _ ih => exact .snoc (up h) k c ih
def encCame : Option (Nat × Nat) → PyData | none => .none | some p => .tuple [nI p.1, nI p.2]
theorem join1 (ws : List Nat) : Txt.join (Str.ofString "") (ws.map fun c => txt [c]) = txt ws := by
  have := join_txt (ws.map fun c => [c])
  rw [List.map_map] at this
  rw [show (fun c => txt [c]) = txt ∘ fun c => [c] from rfl, this]
  congr 1
  induction ws with
  | nil => rfl
  | cons x xs ih => rw [List.map_cons, List.flatten_cons, ih (by simpa using join_txt (xs.map fun c => [c]))]; rfl
theorem len1 (ws : List Nat) : ((ws.map fun c => txt [c]).map fun z : Str => z.length).sum = ws.length := by
  rw [List.map_map]
  induction ws with
  | nil => rfl
  | cons x xs ih =>
    rw [List.map_cons, List.sum_cons, ih, List.length_cons]
    show 1 + _ = _
    omega
theorem nodup_le : ∀ (n : Nat) (l : List Nat), l.Nodup → (∀ x ∈ l, x < n) → l.length ≤ n
  | 0, l, _, h => by
    cases l with
    | nil => exact Nat.le_refl _
    | cons x _ => exact absurd (h x List.mem_cons_self) (Nat.not_lt_zero _)
  | n + 1, l, nd, h => by
    have h2 := nodup_le n (l.erase n) (nd.erase n) fun x hx => by
      have h1 := List.mem_of_mem_erase hx
      have h3 : x ≠ n := fun e => by
        rw [e] at hx
        exact (nd.mem_erase_iff.mp hx).1 rfl
      have := h x h1
      omega
    have h4 : l.length ≤ (l.erase n).length + 1 := by
      by_cases e : n ∈ l
      · rw [List.length_erase_of_mem e]; omega
      · rw [List.erase_of_not_mem e]; omega
    omega
def seenD (sts : List Nat) : List (Key × PyData) := sts.map fun (s : Nat) => ((.inl (s : Int) : Key), PyData.bool true)
theorem seenD_look (sts : List Nat) (t : Nat) : (lookD (seenD sts) (.inl (t : Int))).isSome = decide (t ∈ sts) := by
  induction sts with
  | nil => rfl
  | cons s sts ih =>
    unfold seenD at ih ⊢
    rw [List.map_cons, lookD_cons]
    by_cases e : s = t
    · subst e; simp
    · have e1 : ¬ ((Sum.inl (s : Int) : Key) = .inl (t : Int)) := fun z => e (by injection z with z; omega)
      have e2 : ¬ t = s := fun z => e z.symm
      rw [if_neg e1, ih]
      simp [e2]
theorem seenD_put {sts : List Nat} {t : Nat} (h : t ∉ sts) : putD (seenD sts) (.inl (t : Int)) (.bool true) = seenD (sts ++ [t]) := by
  have h0 := seenD_look sts t
  rw [decide_eq_false h] at h0
  rw [keys_putD _ _ _ (by cases e : lookD (seenD sts) (.inl (t : Int)) with | none => rfl | some x => rw [e] at h0; cases h0)]
  unfold seenD
  rw [List.map_append]; rfl
def stepL (rows : List (List (Option Nat))) (s c : Nat) : Option Nat := (rows.getD s []).getD c none
structure RowsOk (rows : List (List (Option Nat))) (L : Nat) : Prop where
  row : ∀ r ∈ rows, r.length = L ∧ ∀ t, some t ∈ r → t < rows.length
  l26 : L ≤ 26
  few : rows.length ≤ 90000
def firstG (δ : Nat → Nat → Option Nat) (b : Nat) (goal : Nat → Bool) (L : Nat) (r : PyData) : Prop :=
  (r = .none ∧ ∀ x, ¬ AccF δ b goal x) ∨ ∃ w, r = nX w ∧ AccF δ b goal w ∧ (∀ x, AccF δ b goal x → ¬ slt x w) ∧ (∀ c ∈ w, c < L) ∧ w.length ≤ 100000

/-! ### first_word, as it goes -/
abbrev FI := List PyData × Option (Nat × Nat) × List Nat
def encFI (x : FI) : PyData := match x.2.1 with | none => .tuple [.list x.1, .none, .none] | some (a, c) => .tuple [.list x.1, nI a, nI c]
section
variable {γ : Type} (aft : γ → PyData → Nat → List PyData × γ) (fin : PyData → Bool) (key : PyData → NestedKey)
def addT (S : List PyData × List PyData) (t : PyData) : List PyData × List PyData := if key t ∈ S.1.map key then S else (S.1 ++ [t], S.2 ++ [t])
def nodeF (le : Nat) (S : γ × List PyData × List PyData) (d : PyData) : γ × List PyData × List PyData := ((aft S.1 d le).2, (aft S.1 d le).1.foldl (addT key) S.2)
def letF (nodes : List PyData) (at_ : Nat) (w : List Nat) (S : γ × List PyData × List FI) (le : Nat) : γ × List PyData × List FI :=
  ((nodes.foldl (nodeF aft key le) (S.1, S.2.1, [])).1, (nodes.foldl (nodeF aft key le) (S.1, S.2.1, [])).2.1,
    if (nodes.foldl (nodeF aft key le) (S.1, S.2.1, [])).2.2 = [] then S.2.2 else S.2.2 ++ [((nodes.foldl (nodeF aft key le) (S.1, S.2.1, [])).2.2, some (at_, le), w ++ [le])])
def fwRun (L : Nat) : Nat → γ → List PyData → List FI → Nat → Option (Option (List Nat) × γ)
  | 0, _, _, _, _ => none
  | f + 1, k, sn, fo, a => match fo[a]? with
    | none => some (none, k)
    | some x => if x.1.any fin then some (some x.2.2, k) else
      if ((List.range L).foldl (letF aft key x.1 a x.2.2) (k, sn, fo)).2.1.length ≤ 60000 ∧ ((List.range L).foldl (letF aft key x.1 a x.2.2) (k, sn, fo)).2.2.length ≤ 60000 then
        fwRun L f ((List.range L).foldl (letF aft key x.1 a x.2.2) (k, sn, fo)).1 ((List.range L).foldl (letF aft key x.1 a x.2.2) (k, sn, fo)).2.1 ((List.range L).foldl (letF aft key x.1 a x.2.2) (k, sn, fo)).2.2 (a + 1)
      else none
def seenK (sn : List PyData) : List (NestedKey × PyData) := sn.map fun d => (key d, .bool true)
end
theorem fold_mono {α β : Type} (m : β → Nat) (f : β → α → β) (h : ∀ S x, m S ≤ m (f S x)) : ∀ (l : List α) (s : β), m s ≤ m (l.foldl f s)
  | [], s => Nat.le_refl _
  | x :: l, s => Nat.le_trans (h s x) (fold_mono m f h l (f s x))
theorem fold_take {α β : Type} (m : β → Nat) (f : β → α → β) (h : ∀ S x, m S ≤ m (f S x)) (l : List α) (s : β) (j : Nat) : m ((l.take j).foldl f s) ≤ m (l.foldl f s) := by
  have e : l.foldl f s = (l.drop j).foldl f ((l.take j).foldl f s) := by rw [← List.foldl_append, List.take_append_drop]
  rw [e]
  exact fold_mono m f h _ _
theorem take_fold {α β : Type} (f : β → α → β) (l : List α) (s : β) {j : Nat} (h : j < l.length) : (l.take (j + 1)).foldl f s = f ((l.take j).foldl f s) l[j] := by
  rw [List.take_add_one, List.getElem?_eq_getElem h, List.foldl_append]
  rfl
section
variable {γ : Type} {aft : γ → PyData → Nat → List PyData × γ} {key : PyData → NestedKey}
theorem addT_mono (S : List PyData × List PyData) (t : PyData) : S.1.length ≤ (addT key S t).1.length ∧ S.2.length ≤ (addT key S t).2.length ∧ (addT key S t).2.length + S.1.length ≤ S.2.length + (addT key S t).1.length := by
  unfold addT
  split
  · omega
  · simp; omega
theorem addT_sn (l : List PyData) (S : List PyData × List PyData) : S.1.length ≤ (l.foldl (addT key) S).1.length := fold_mono (fun S => S.1.length) _ (fun S t => (addT_mono S t).1) l S
theorem nodeF_sn (le : Nat) (l : List PyData) (S : γ × List PyData × List PyData) : S.2.1.length ≤ (l.foldl (nodeF aft key le) S).2.1.length := fold_mono (fun S => S.2.1.length) _ (fun S t => addT_sn _ _) l S
theorem letF_sn (nodes : List PyData) (a : Nat) (w : List Nat) (S : γ × List PyData × List FI) (le : Nat) : S.2.1.length ≤ (letF aft key nodes a w S le).2.1.length := nodeF_sn le nodes (S.1, S.2.1, [])
theorem letF_fo (nodes : List PyData) (a : Nat) (w : List Nat) (S : γ × List PyData × List FI) (le : Nat) : S.2.2.length ≤ (letF aft key nodes a w S le).2.2.length := by
  show S.2.2.length ≤ (if _ then _ else _ : List FI).length
  split
  · exact Nat.le_refl _
  · simp
theorem look_seenK (sn : List PyData) (t : NestedKey) : (lookN (seenK key sn) t).isSome = decide (t ∈ sn.map key) := by
  induction sn with
  | nil => rfl
  | cons d sn ih =>
    unfold lookN seenK at ih ⊢
    rw [List.map_cons, List.find?_cons]
    by_cases e : key d = t
    · simp [e]
    · have e2 : ¬ t = key d := fun z => e z.symm
      simp only [e, decide_false]
      rw [ih]
      simp [e2]
theorem put_seenK {sn : List PyData} {t : PyData} (h : key t ∉ sn.map key) : putN (seenK key sn) (key t) (.bool true) = seenK key (sn ++ [t]) := by
  unfold putN
  rw [look_seenK, decide_eq_false h, if_neg Bool.false_ne_true]
  unfold seenK
  rw [List.map_append]
  rfl
theorem kvN_seenK {bs : List PyData} (h : (bs.map key).Nodup) : ∀ n, n ≤ bs.length → kvN (fun i => key (itemD bs i)) (fun _ => .bool true) n = seenK key (bs.take n)
  | 0, _ => rfl
  | n + 1, hn => by
    have hl : n < bs.length := hn
    have ei : itemD bs n = bs[n] := by unfold itemD; simp [hl]
    rw [kvN_succ, kvN_seenK h n (by omega), ei, List.take_add_one, List.getElem?_eq_getElem hl]
    refine put_seenK fun hm => ?_
    obtain ⟨d, hd, e⟩ := List.mem_map.mp hm
    obtain ⟨j, hj, rfl⟩ := List.mem_take_iff_getElem.mp hd
    have := List.pairwise_iff_getElem.mp h j n (by simp; omega) (by simp; omega) (by omega)
    simp at this
    exact this e
end

/-! ### kinds with fewer steps -/
inductive Rch (steps : List (List Nat)) (begins : List Nat) : Nat → Prop
  | base {s : Nat} : s ∈ begins → Rch steps begins s
  | next {s t : Nat} : Rch steps begins s → t ∈ steps.getD s [] → Rch steps begins t
abbrev stepZ (t : Nat) : PyData := .tuple [nI t, .int 0]
abbrev stepsZ (steps : List (List Nat)) : PyData := .list (steps.map fun ts => .list (ts.map stepZ))
structure StepsOk (steps : List (List Nat)) (n c : Nat) : Prop where
  len : steps.length = n
  row : ∀ r ∈ steps, r.length ≤ c ∧ ∀ t ∈ r, t < n
theorem StepsOk.getD {steps : List (List Nat)} {n c s : Nat} (k : StepsOk steps n c) (hs : s < n) : steps[s]? = some (steps.getD s []) ∧ (steps.getD s []).length ≤ c ∧ ∀ t ∈ steps.getD s [], t < n := by
  have h : s < steps.length := by rw [k.len]; exact hs
  have e : steps.getD s [] = steps[s] := by rw [List.getD_eq_getElem?_getD, List.getElem?_eq_getElem h]; rfl
  rw [e]
  exact ⟨List.getElem?_eq_getElem h, k.row _ (List.getElem_mem h)⟩
def lz (b : Bool) : PyData := if b = true then .int 0 else .none
def inW (n : Nat) (w : List Nat) : List Bool := (List.range n).map fun s => decide (s ∈ w)
theorem inW_get {n s : Nat} {w : List Nat} (h : s < n) : (inW n w)[s]? = some (decide (s ∈ w)) := by simp [inW, h]
theorem inW_len (n : Nat) (w : List Nat) : (inW n w).length = n := by simp [inW]
theorem inW_add {n t : Nat} {w : List Nat} (h : t < n) : ((inW n w).map lz).set t (.int 0) = (inW n (w ++ [t])).map lz := by
  apply List.ext_getElem?
  intro i
  by_cases e : t = i
  · subst e
    rw [List.getElem?_set_self (by simp [inW, h]), List.getElem?_map, inW_get h]
    simp [lz]
  · rw [List.getElem?_set_ne e, List.getElem?_map, List.getElem?_map]
    by_cases hi : i < n
    · rw [inW_get hi, inW_get hi]
      have : ¬ i = t := fun z => e z.symm
      simp [this]
    · have h1 : (inW n w)[i]? = none := by simp [inW]; omega
      have h2 : (inW n (w ++ [t]))[i]? = none := by simp [inW]; omega
      rw [h1, h2]
def evN (steps : List (List Nat)) (i : Nat) : List (Nat × Nat) := (List.range i).flatMap fun b => (steps.getD b []).map fun t => (t, b)
theorem evN_next (steps : List (List Nat)) (i : Nat) : evN steps (i + 1) = evN steps i ++ (steps.getD i []).map fun t => (t, i) := by
  unfold evN
  rw [List.range_succ, List.flatMap_append]
  simp
theorem evN_len {steps : List (List Nat)} {n c : Nat} (k : StepsOk steps n c) : ∀ i, i ≤ n → (evN steps i).length ≤ c * i
  | 0, _ => by simp [evN]
  | i + 1, h => by
    have ih := evN_len k i (by omega)
    rw [evN_next, List.length_append, List.length_map, Nat.mul_add, Nat.mul_one]
    have := (k.getD (s := i) (by omega)).2.1
    omega
theorem evN_mem {steps : List (List Nat)} {i s b : Nat} : (s, b) ∈ evN steps i ↔ b < i ∧ s ∈ steps.getD b [] := by
  unfold evN
  rw [List.mem_flatMap]
  constructor
  · rintro ⟨x, hx, h⟩
    obtain ⟨t, ht, e⟩ := List.mem_map.mp h
    injection e with e1 e2
    subst e1 e2
    exact ⟨List.mem_range.mp hx, ht⟩
  · rintro ⟨h1, h2⟩
    exact ⟨b, List.mem_range.mpr h1, List.mem_map.mpr ⟨s, h2, rfl⟩⟩
def bkOf (steps : List (List Nat)) (n : Nat) : List (List Nat) := (List.range n).map fun s => ((evN steps n).filter fun e => decide (e.1 = s)).map (·.2)
def evD (es : List (Nat × Nat)) : List (Nat × PyData) := es.map fun e => (e.1, stepZ e.2)
theorem bkOf_D (steps : List (List Nat)) (n : Nat) : PyData.list ((backD (evD (evN steps n)) n).map PyData.list) = stepsZ (bkOf steps n) := by
  unfold stepsZ bkOf backD evD
  rw [List.map_map, List.map_map]
  congr 1
  apply List.map_congr_left
  intro s _
  show PyData.list _ = PyData.list _
  congr 1
  simp only [List.filter_map, List.map_map]
  rfl
theorem bkOf_mem {steps : List (List Nat)} {n s b : Nat} : b ∈ (bkOf steps n).getD s [] ↔ s < n ∧ b < n ∧ s ∈ steps.getD b [] := by
  by_cases hs : s < n
  · have e1 : (bkOf steps n).getD s [] = ((evN steps n).filter fun e => decide (e.1 = s)).map (·.2) := by simp [bkOf, hs]
    rw [e1, List.mem_map]
    constructor
    · rintro ⟨⟨x, y⟩, h, rfl⟩
      rw [List.mem_filter, decide_eq_true_eq] at h
      obtain ⟨h1, h2⟩ := h
      have h2 : x = s := h2
      subst h2
      exact ⟨hs, evN_mem.mp h1⟩
    · rintro ⟨_, h1, h2⟩
      exact ⟨(s, b), List.mem_filter.mpr ⟨evN_mem.mpr ⟨h1, h2⟩, by simp⟩, rfl⟩
  · simp [bkOf, hs]
theorem bkOf_ok {steps : List (List Nat)} {n c : Nat} (k : StepsOk steps n c) : StepsOk (bkOf steps n) n (c * n) := by
  refine ⟨by simp [bkOf], fun r hr => ?_⟩
  obtain ⟨x, hx, rfl⟩ := List.mem_map.mp hr
  refine ⟨?_, fun t ht => ?_⟩
  · rw [List.length_map]
    exact Nat.le_trans (List.length_filter_le (fun e : Nat × Nat => decide (e.1 = x)) (evN steps n)) (evN_len k n (Nat.le_refl _))
  · obtain ⟨⟨a, b⟩, h, rfl⟩ := List.mem_map.mp ht
    exact (evN_mem.mp (List.mem_filter.mp h).1).1
section
variable {P : Program} {w : World} {K : PySem.W.Frag} {mg : Str → Option Value} {base : Heap} {A : Adrs}
def R_least (ds : List PyData) (G : PyData → Prop) : Prop := ∃ (steps : List (List Nat)) (begins : List Nat) (n : Nat), ds = [stepsZ steps, .list (begins.map nI)] ∧ StepsOk steps n 90000 ∧ n ≤ 90000 ∧ begins.Nodup ∧ (∀ b ∈ begins, b < n) ∧
  G = fun r => ∃ lv : List Bool, r = .list (lv.map lz) ∧ lv.length = n ∧ ∀ s, s < n → (lv.getD s false = true ↔ Rch steps begins s)
theorem ok_least_counts (T : Txt K mg A) (B : Tbs base mg A) : FnOk P w K mg base CX0 1 A.f_least_counts A.d_least_counts ["steps", "begins"] (spQ K 2 R_least) := by
  refine T.F_least_counts.ok sc_least_counts (fun vs H Q E h => ?_) (fun cdv Ar outer s H vs Q E hr h => ?_)
  · exact spQ.len h
  refine ⟨_, (pss_cons (ps_set (i := 2) sc_least_counts.nd rfl (Or.inl rfl) (pe_op op_rep (pe_lst (pa_cons pe_non pa_nil)) (pe_callB (id := "len") (kLenQ K) (by rfl) T.z_len (by decide +kernel) (pa_cons (pv 0) pa_nil))))
    (pss_cons (ps_for PassesOwn.never rfl (kPiL K (pv 1)) (pg_name (i := 3) sc_least_counts.nd rfl (Or.inl rfl))
    (pss_one (ps_asg pe_int (pg_sub (pv 2) (pv 3) set_list))))
    (pss_cons (ps_set (i := 4) sc_least_counts.nd rfl (Or.inl rfl) (pe_callTy (T := "list") (kListOf K) (by rfl) T.z_list (by decide +kernel) (pa_cons (pv 1) pa_nil)))
    (pss_cons (ps_set (i := 5) sc_least_counts.nd rfl (Or.inl rfl) pe_int)
    (pss_cons (ps_while PassesOwn.never (pt_cmpR op_lt (pv 5) (pe_callB (id := "len") (kLenQ K) (by rfl) T.z_len (by decide +kernel) (pa_cons (pv 4) pa_nil)) (nomark _))
    (pss_cons (ps_set (i := 3) sc_least_counts.nd rfl (Or.inl rfl) (pe_ix (kIxL K) (pv 4) (pv 5) (fun _ _ => rfl)))
    (pss_cons (ps_for PassesOwn.never rfl (kPiL K (pe_ix (kIxL K) (pv 0) (pv 3) (fun _ _ => rfl))) (kTgT K (n := 2) (by rfl) (pgs_cons (pg_name (i := 6) sc_least_counts.nd rfl (Or.inl rfl)) (pgs_cons (pg_name (i := 7) sc_least_counts.nd rfl (Or.inl rfl)) pgs_nil)))
    (pss_cons (ps_set (i := 8) sc_least_counts.nd rfl (Or.inl rfl) (pe_op op_add (pe_ix (kIxL K) (pv 2) (pv 3) (fun _ _ => rfl)) (pv 7)))
    (pss_one (ps_if (PW.pt (pw_or (pt_cmpR op_isN (pe_ix (kIxL K) (pv 2) (pv 6) (fun _ _ => rfl)) pe_non (nomark _)) (pw_or1 (pt_cmpR op_lt (pv 8) (pe_ix (kIxL K) (pv 2) (pv 6) (fun _ _ => rfl)) (nomark _))))) (pss_cons (ps_asg (pv 8) (pg_sub (pv 2) (pv 6) set_list))
    (pss_one (ps_expr (kBm K (pe_bm PySem.F.plainAttrs_list PySem.F.slot_list_append PySem.F.type_list_append mt_append (pv 4) (pa_cons (pv 6) pa_nil))))))
    pss_nil))))
    (pss_one (ps_aug (i := 5) sc_least_counts.nd rfl (Or.inl rfl) pe_int ip_add)))))
    (pss_one (ps_ret (pv 2)))))))), ?_⟩
  refine spQ.ok h fun W ds G hR => ?_
  obtain ⟨steps, begins, n, rfl, ok, hn, nd, hb, rfl⟩ := hR
  have bl := nodup_le n begins nd hb
  walk_at "st"
  refine sw_seq (sw_ownRep ?_)
  walk_at "go"
  rw [List.length_map, ok.len]
  refine ⟨by omega, ?_⟩
  refine sw_seq (sw_forW ?_)
  walk_at "go"
  rw [List.length_map]
  refine ⟨fun j ρ _ => ρ = [.dat (stepsZ steps), .dat (.list (begins.map nI)), .own ((inW n (begins.take j)).map lz), .no, .no, .no, .no, .no, .no], ⟨[.dat (stepsZ steps), .dat (.list (begins.map nI)), .own (List.replicate n .none), .no, .no, .no, .no, .no, .no], by walk_at "le", ?_⟩, ?_, ?_⟩
  · have : (inW n (begins.take 0)).map lz = List.replicate n .none := by
      apply List.ext_getElem?
      intro i
      rw [List.getElem?_map]
      by_cases h : i < n
      · rw [inW_get h]; simp [h, lz]
      · have : (inW n (begins.take 0))[i]? = none := by simp [inW]; omega
        rw [this]; simp [h]
    dsimp only
    rw [this]
  · rintro j ρ1 k2 hj rfl
    rw [itemD_map hj]
    have hbj := hb begins[j] (List.getElem_mem hj)
    walk_at "tg"
    refine sw_setL (ev_int (ev_var rfl ⟨_, begins[j], rfl, rfl, by simp [inW]; exact hbj, ?_⟩)) ⟨_, rfl⟩
    have e : begins.take (j + 1) = begins.take j ++ [begins[j]] := by rw [List.take_add_one]; simp [hj]
    rw [inW_add hbj, ← e]
    exact ⟨_, by walk_at "le", rfl⟩
  rintro ρ1 k2 rfl
  rw [List.take_length]
  refine sw_seq (sw_ownOf (ev_var rfl ⟨_, .inl rfl, ?_⟩))
  walk_at "go"
  refine sw_while (fun m ρ _ => ∃ (wt : List Nat) (a : Nat) (s1 s2 s3 s4 : Slot), ρ = [.dat (stepsZ steps), .dat (.list (begins.map nI)), .own ((inW n wt).map lz), s1, .own (wt.map nI), .dat (nI a), s2, s3, s4] ∧ m = n - a ∧ wt.Nodup ∧ (∀ s ∈ wt, s < n ∧ Rch steps begins s) ∧ (∀ s ∈ begins, s ∈ wt) ∧ a ≤ wt.length ∧
    ∀ i s, i < a → wt[i]? = some s → ∀ t ∈ steps.getD s [], t ∈ wt) n ⟨begins, 0, _, _, _, _, rfl, by omega, nd, fun s hs => ⟨hb s hs, .base hs⟩, fun _ h => h, Nat.zero_le _, fun i s h => absurd h (Nat.not_lt_zero _)⟩ ?_
  rintro m ρ1 k1 ⟨wt, a, s1, s2, s3, s4, rfl, rfl, wnd, wlt, wb, ha, wd⟩
  have wl := nodup_le n wt wnd fun s hs => (wlt s hs).1
  refine et_test (ev_op (ev_var rfl (ev_ownLen rfl ?_)))
  walk_at "go"
  rw [List.length_map]
  refine if_split (fun h1 => ?_) (fun h1 => ?_)
  rotate_left
  · have ea : a = wt.length := by have := of_decide_eq_false h1; omega
    refine sw_freeze 2 rfl ?_
    walk_at "go"
    refine ⟨inW_len _ _, fun s hs => ?_⟩
    rw [List.getD_eq_getElem?_getD, inW_get hs, Option.getD_some, decide_eq_true_eq]
    refine ⟨fun h => (wlt s h).2, fun r => ?_⟩
    induction r with
    | base h => exact wb _ h
    | @next s t r ht ih =>
      have hs' : s < n := by
        refine Nat.lt_of_not_le fun le => ?_
        have : steps.getD s [] = [] := by rw [List.getD_eq_getElem?_getD, List.getElem?_eq_none (by rw [ok.len]; exact le)]; rfl
        rw [this] at ht
        cases ht
      obtain ⟨i, hi, e⟩ := List.mem_iff_getElem.mp (ih hs')
      exact wd i s (by omega) (by rw [List.getElem?_eq_getElem hi, e]) t ht
  have ha1 : a < wt.length := by have := of_decide_eq_true h1; omega
  have hwa : wt[a]? = some wt[a] := List.getElem?_eq_getElem ha1
  obtain ⟨slt0, srch⟩ := wlt wt[a] (List.getElem_mem ha1)
  obtain ⟨r1, r2, r3⟩ := ok.getD slt0
  generalize hs0 : wt[a] = s0 at hwa slt0 srch r1 r2 r3
  generalize hts : steps.getD s0 [] = ts at r1 r2 r3
  refine sw_seq (sw_set (ev_ownIx rfl (ev_var rfl ⟨a, rfl, nI s0, at_map hwa, ?_⟩)))
  walk_at "go"
  refine sw_forW ?_
  walk_at "go"
  refine rd_ixL rfl (at_map r1) ?_
  walk_at "go"
  rw [List.length_map]
  refine ⟨fun j ρ _ => ∃ wt : List Nat, ρ = [.dat (stepsZ steps), .dat (.list (begins.map nI)), .own ((inW n wt).map lz), .dat (nI s0), .own (wt.map nI), .dat (nI a), .no, .no, .no] ∧ wt.Nodup ∧ (∀ s ∈ wt, s < n ∧ Rch steps begins s) ∧ (∀ s ∈ begins, s ∈ wt) ∧ a < wt.length ∧ wt[a]? = some s0 ∧
    (∀ i s, i < a → wt[i]? = some s → ∀ t ∈ steps.getD s [], t ∈ wt) ∧ ∀ t ∈ ts.take j, t ∈ wt, ⟨_, by walk_at "le", wt, rfl, wnd, wlt, wb, ha1, hwa, wd, fun t h => by simp at h⟩, ?_, ?_⟩
  · clear wnd wlt wb ha wd wl ha1 h1 hwa hs0
    rintro j ρ2 k2 hj ⟨wt, rfl, wnd, wlt, wb, ha1, hwa, wd, wj⟩
    have wl := nodup_le n wt wnd fun s hs => (wlt s hs).1
    rw [itemD_map hj]
    have htn := r3 ts[j] (List.getElem_mem hj)
    have hs0w : s0 ∈ wt := List.mem_of_getElem? hwa
    have etk : ts.take (j + 1) = ts.take j ++ [ts[j]] := by rw [List.take_add_one]; simp [hj]
    generalize htj : ts[j] = t0 at htn etk
    have trch : Rch steps begins t0 := .next srch (by rw [hts, ← htj]; exact List.getElem_mem hj)
    have e0 : ((inW n wt).map lz)[s0]? = some (.int 0) := by
      rw [List.getElem?_map, inW_get slt0]; simp [hs0w, lz]
    walk_at "tg"
    refine sw_seq (sw_set (ev_op (ev_ownIx rfl (ev_var rfl ⟨s0, rfl, _, e0, ?_⟩))))
    refine ev_var rfl (rd_add ?_)
    refine sw_if (et_or (et_test (ev_op (ev_ownIx rfl (ev_var rfl ⟨t0, rfl, lz (decide (t0 ∈ wt)), by rw [List.getElem?_map, inW_get htn]; rfl, ?_⟩)))))
    walk_at "go"
    by_cases hin : t0 ∈ wt
    · rw [show isNone (lz (decide (t0 ∈ wt))) = false by simp [hin, lz, isNone]]
      refine if_split (fun z => by cases z) (fun _ => ?_)
      refine et_test (ev_op (ev_var rfl ?_))
      refine ev_ownIx rfl (ev_var rfl ⟨t0, rfl, .int 0, by rw [List.getElem?_map, inW_get htn]; simp [hin, lz], ?_⟩)
      walk_at "go"
      refine if_split (fun z => by simp at z) (fun _ => ?_)
      walk_at "go"
      refine ⟨_, by walk_at "le", wt, rfl, wnd, wlt, wb, ha1, hwa, wd, fun t ht => ?_⟩
      rw [etk] at ht
      rcases List.mem_append.mp ht with ht | ht
      · exact wj t ht
      · rw [List.mem_singleton.mp ht]; exact hin
    · rw [show isNone (lz (decide (t0 ∈ wt))) = true by simp [hin, lz, isNone]]
      refine if_split (fun _ => ?_) (fun z => by cases z)
      refine sw_seq (sw_setL (ev_var rfl (ev_var rfl ⟨_, t0, rfl, rfl, by simp [inW]; exact htn, ?_⟩)) ⟨_, rfl⟩)
      refine sw_append (ev_var rfl ⟨_, rfl, by rw [List.length_map]; omega, ?_⟩) ⟨_, rfl⟩
      rw [show PyData.int (0 + 0) = PyData.int 0 from rfl, inW_add htn]
      have e1 : wt.map nI ++ [nI t0] = (wt ++ [t0]).map nI := by rw [List.map_append]; rfl
      have ml : ∀ {x : Nat}, x ∈ wt → x ∈ wt ++ [t0] := fun h => List.mem_append_left _ h
      rw [e1]
      refine ⟨_, by walk_at "le", wt ++ [t0], rfl, ?_, fun s hs => ?_, fun s hs => ml (wb s hs), by rw [List.length_append]; omega, by rw [List.getElem?_append_left ha1]; exact hwa, fun i s hi hw t ht => ?_, fun t ht => ?_⟩
      · rw [List.nodup_append]
        exact ⟨wnd, by simp, fun x hx y hy => by
          rw [List.mem_singleton.mp hy]
          rintro rfl
          exact hin hx⟩
      · rcases List.mem_append.mp hs with hs | hs
        · exact wlt s hs
        · rw [List.mem_singleton.mp hs]; exact ⟨htn, trch⟩
      · rw [List.getElem?_append_left (by omega)] at hw
        exact ml (wd i s hi hw t ht)
      · rw [etk] at ht
        rcases List.mem_append.mp ht with ht | ht
        · exact ml (wj t ht)
        · rw [List.mem_singleton.mp ht]; simp
  · rintro ρ2 k2 ⟨wt, rfl, wnd, wlt, wb, ha1, hwa, wd, wj⟩
    have wl := nodup_le n wt wnd fun s hs => (wlt s hs).1
    rw [List.take_length] at wj
    refine sw_aug ⟨_, rfl⟩ ?_
    walk_at "go"
    refine ⟨_, _, rfl, rfl, n - (a + 1), by omega, wt, a + 1, _, _, _, _, rfl, rfl, wnd, wlt, wb, by omega, fun i s hi hw t ht => ?_⟩
    by_cases e : i = a
    · subst e
      rw [hwa] at hw
      cases hw
      rw [hts] at ht
      exact wj t ht
    · exact wd i s (by omega) hw t ht
def R_turned (ds : List PyData) (r : PyData) : Prop := ∃ (steps : List (List Nat)) (n : Nat), ds = [stepsZ steps] ∧ StepsOk steps n 100 ∧ n ≤ 100 ∧ r = stepsZ (bkOf steps n)
theorem ok__turned (T : Txt K mg A) (B : Tbs base mg A) : FnOk P w K mg base CX0 1 A.f__turned A.d__turned ["steps"] (spP K 1 R_turned) := by
  refine T.F__turned.ok sc__turned (fun vs H Q E h => ?_) (fun cdv Ar outer s H vs Q E hr h => ?_)
  · exact spP.len h
  refine ⟨_, (pss_cons (ps_setLc (i := 1) (own := [("_", 6)]) (by rfl) sc__turned.nd rfl rfl (sw_true rfl rfl rfl (by decide +kernel)) (kPiL K (pv 0)) (blkOk_by (own := [("_", 6)]) (N := N__turned) (sc := defScope s__turned) (by decide +kernel)) (fun _ _ _ _ _ => (pg_name (i := 6) sc__turned.nd rfl (Or.inl rfl))) (fun _ _ _ _ _ => pts_nil) (fun _ _ _ _ _ => (pe_lst pa_nil)))
    (pss_cons (ps_for PassesOwn.never rfl (kEnum K (by rfl) T.z_enumerate (pa_cons (pv 0) pa_nil)) (kTgT K (n := 2) (by rfl) (pgs_cons (pg_name (i := 2) sc__turned.nd rfl (Or.inl rfl)) (pgs_cons (pg_name (i := 3) sc__turned.nd rfl (Or.inl rfl)) pgs_nil)))
    (pss_one (ps_for PassesOwn.never rfl (kPiL K (pv 3)) (kTgT K (n := 2) (by rfl) (pgs_cons (pg_name (i := 4) sc__turned.nd rfl (Or.inl rfl)) (pgs_cons (pg_name (i := 5) sc__turned.nd rfl (Or.inl rfl)) pgs_nil)))
    (pss_one (ps_expr (kBm K (pe_bm PySem.F.plainAttrs_list PySem.F.slot_list_append PySem.F.type_list_append mt_append (pe_ix (kIxL K) (pv 1) (pv 4) (fun _ _ => rfl)) (pa_cons (pe_tup (pa_cons (pv 2) (pa_cons (pv 5) pa_nil))) pa_nil))))))))
    (pss_one (ps_ret (pv 1))))), ?_⟩
  refine spP.ok h fun W ds r hR => ?_
  obtain ⟨steps, n, rfl, hk, hn, rfl⟩ := hR
  have hlen := hk.len
  walk_at "st"
  refine sw_ll (ei_list (ev_var rfl ⟨_, rfl, ?_⟩))
  rw [List.length_map, hlen]
  refine ⟨by omega, fun j hj => ?_, by simp, fun l as ok hl => ?_⟩
  · walk_at "tg"
  refine sw_forW ?_
  walk_at "go"
  refine ⟨fun i ρ kk => ρ = [.dat (stepsZ steps), .raw (.ref l), .no, .no, .no, .no, .no] ∧ kk = (0, backD (evD (evN steps i)) n), ⟨_, by walk_at "le", rfl, by rw [show evD (evN steps 0) = [] from rfl, backD_nil]⟩, ?_, ?_⟩
  · rintro i ρ1 k2 hi ⟨rfl, rfl⟩
    rw [List.length_map] at hi
    rw [itemD_map hi]
    have hr := (hk.row steps[i] (List.getElem_mem hi))
    have erow : steps.getD i [] = steps[i] := by rw [List.getD_eq_getElem?_getD, List.getElem?_eq_getElem hi]; rfl
    have hi2 : i < n := by omega
    generalize steps[i] = row at hr erow ⊢
    walk_at "tg"
    refine sw_forW ?_
    walk_at "go"
    rw [List.length_map]
    refine ⟨fun j ρ kk => ρ = [.dat (stepsZ steps), .raw (.ref l), .dat (nI i), .dat (.list (row.map stepZ)), .no, .no, .no] ∧ kk = (0, backD (evD (evN steps i ++ (row.take j).map fun t => (t, i))) n), ⟨_, by walk_at "le", rfl, by simp⟩, ?_, ?_⟩
    · rintro j ρ1 k2 hj ⟨rfl, rfl⟩
      have ht := hr.2 row[j] (List.getElem_mem hj)
      rw [itemD_map hj]
      have le1 := evN_len hk i (by omega)
      walk_at "tg"
      refine sw_llappend ok rfl (ev_var rfl ⟨row[j], rfl, by rw [hl]; exact ht, ev_tup (ea_cons (ev_var rfl (ea_cons (ev_var rfl (ea_nil ⟨by simp, ?_, ?_⟩)))))⟩)
      · refine Nat.lt_of_le_of_lt (backD_row ht) ?_
        unfold evD
        rw [List.length_map, List.length_append, List.length_map, List.length_take]
        omega
      · refine ⟨_, by walk_at "le", rfl, ?_⟩
        have e : row.take (j + 1) = row.take j ++ [row[j]] := by rw [List.take_add_one]; simp [hj]
        rw [e, List.map_append, ← List.append_assoc]
        unfold evD
        rw [List.map_append (l₁ := evN steps i ++ _)]
        exact congrArg (Prod.mk 0) (backD_app ht)
    · rintro ρ1 k2 ⟨rfl, rfl⟩
      refine ⟨_, by walk_at "le", rfl, ?_⟩
      rw [evN_next, List.take_length, erow]
  · rintro ρ1 k2 ⟨rfl, rfl⟩
    rw [List.length_map, hlen]
    refine ⟨rfl, ?_⟩
    walk_at "go"
    exact bkOf_D steps n
end

abbrev rowD (r : List (Option Nat)) : PyData := .tuple (r.map optD)
abbrev kindD (L : Nat) (rows : List (List (Option Nat))) (ends : List Bool) : PyData := .tuple [nI L, .tuple (rows.map rowD), .tuple (ends.map PyData.bool)]
structure KOk (L N : Nat) (rows : List (List (Option Nat))) (ends : List Bool) : Prop where
  lr : rows.length = N
  le : ends.length = N
  row : ∀ r ∈ rows, r.length = L ∧ ∀ t, some t ∈ r → t < N
  l1 : 1 ≤ L
  l4 : L ≤ 4
  n1 : 1 ≤ N
  n9 : N ≤ 9
def stepsOf (rows : List (List (Option Nat))) : List (List Nat) := rows.map fun r => r.filterMap id
def endsOf (N : Nat) (ends : List Bool) : List Nat := (List.range N).filter fun s => ends.getD s false
def keepB (Bv : List Bool) : Option Nat → Option Nat
  | some t => if Bv.getD t false = true then some t else none
  | none => none
def trRow (L : Nat) (rows : List (List (Option Nat))) (Av Bv : List Bool) (s : Nat) : List (Option Nat) := if Av.getD s false = true then (rows.getD s []).map (keepB Bv) else List.replicate L none
def trD (L : Nat) (rows : List (List (Option Nat))) (Av Bv : List Bool) (s : Nat) : PyData := if Av.getD s false = true then .list ((trRow L rows Av Bv s).map optD) else .tuple ((trRow L rows Av Bv s).map optD)
def lastOf (N : Nat) (ends Av : List Bool) : List Bool := (List.range N).map fun s => ends.getD s false && Av.getD s false
def trimD (L N : Nat) (rows : List (List (Option Nat))) (ends Av Bv : List Bool) : PyData := .tuple [nI L, .list ((List.range N).map (trD L rows Av Bv)), .list ((lastOf N ends Av).map PyData.bool)]
structure Trims (N : Nat) (rows : List (List (Option Nat))) (ends Av Bv : List Bool) : Prop where
  la : Av.length = N
  lb : Bv.length = N
  a : ∀ s, s < N → (Av.getD s false = true ↔ Rch (stepsOf rows) [0] s)
  b : ∀ s, s < N → (Bv.getD s false = true ↔ Rch (bkOf (stepsOf rows) N) (endsOf N ends) s)
theorem stepsOf_ok {L N : Nat} {rows : List (List (Option Nat))} {ends : List Bool} (k : KOk L N rows ends) : StepsOk (stepsOf rows) N 4 := by
  refine ⟨by unfold stepsOf; rw [List.length_map]; exact k.lr, fun r hr => ?_⟩
  obtain ⟨x, hx, rfl⟩ := List.mem_map.mp hr
  obtain ⟨h1, h2⟩ := k.row x hx
  refine ⟨?_, fun t ht => ?_⟩
  · have := List.length_filterMap_le id x
    have := k.l4
    omega
  · obtain ⟨o, ho, e⟩ := List.mem_filterMap.mp ht
    have e : o = some t := e
    subst e
    exact h2 t ho
theorem stepRow (r : List (Option Nat)) : (((List.range r.length).filter fun i => (r.getD i none).isSome).map fun i => PyData.tuple [optD (r.getD i none), .int 0]) = (r.filterMap id).map stepZ := by
  have h : (List.range r.length).map (fun i => r.getD i none) = r := by
    apply List.ext_getElem?
    intro i
    rw [List.getElem?_map]
    by_cases hi : i < r.length
    · rw [List.getElem?_range hi]; simp [hi]
    · have : (List.range r.length)[i]? = none := by simp; omega
      rw [this]; simp [hi]
  have h2 : ((List.range r.length).filter fun i => (r.getD i none).isSome).map (fun i => r.getD i none) = r.filter (·.isSome) := by
    conv => rhs; rw [← h]
    rw [List.filter_map]
    rfl
  have h3 : ((List.range r.length).filter fun i => (r.getD i none).isSome).map (fun i => PyData.tuple [optD (r.getD i none), .int 0]) = (r.filter (·.isSome)).map fun o => PyData.tuple [optD o, .int 0] := by
    rw [← h2, List.map_map]; rfl
  rw [h3]
  clear h h2 h3
  induction r with
  | nil => rfl
  | cons o r ih =>
    cases o with
    | none => rw [List.filter_cons_of_neg (by decide), ih]; rfl
    | some t => rw [List.filter_cons_of_pos (by rfl), List.map_cons, ih]; rfl
theorem itemD_rep {d : PyData} {n i : Nat} (h : i < n) : itemD (List.replicate n d) i = d := by simp [itemD, h]
theorem lz_none (b : Bool) : isNone (lz b) = !b := by cases b <;> rfl
theorem range_mapB (ws : List Bool) (f : Bool → PyData) : (((List.range ws.length).filter fun _ => true).map fun j => f (ws.getD j false)) = ws.map f := by
  rw [List.filter_eq_self.mpr fun _ _ => rfl]
  apply List.ext_getElem?
  intro i
  rw [List.getElem?_map, List.getElem?_map]
  by_cases h : i < ws.length
  · rw [List.getElem?_range h]; simp [h]
  · have h2 : (List.range ws.length)[i]? = none := by simp; omega
    rw [h2]; simp [h]
theorem getDB {l : List Bool} {s n : Nat} (hl : l.length = n) (h : s < n) : l[s]? = some (l.getD s false) := by
  have : s < l.length := by omega
  rw [List.getD_eq_getElem?_getD, List.getElem?_eq_getElem this]; rfl
theorem getDO {l : List (Option Nat)} {s n : Nat} (hl : l.length = n) (h : s < n) : l[s]? = some (l.getD s none) := by
  have : s < l.length := by omega
  rw [List.getD_eq_getElem?_getD, List.getElem?_eq_getElem this]; rfl
theorem getDR {l : List (List (Option Nat))} {s n : Nat} (hl : l.length = n) (h : s < n) : l[s]? = some (l.getD s []) := by
  have : s < l.length := by omega
  rw [List.getD_eq_getElem?_getD, List.getElem?_eq_getElem this]; rfl
theorem itemD_at {α : Type} {f : α → PyData} {xs : List α} {j : Nat} {x : α} (h : xs[j]? = some x) : itemD (xs.map f) j = f x := by
  unfold itemD
  rw [List.getElem?_map, h]; rfl
section
variable {P : Program} {w : World} {K : PySem.W.Frag} {mg : Str → Option Value} {base : Heap} {A : Adrs}
def R_within (ds : List PyData) (G : PyData → Prop) : Prop := ∃ (L N : Nat) (rows : List (List (Option Nat))) (ends : List Bool), ds = [kindD L rows ends, .tuple (List.replicate L (.int 0)), .int 0] ∧ KOk L N rows ends ∧
  G = fun r => ∃ Av Bv, r = .tuple [trimD L N rows ends Av Bv, .list (Bv.map lz)] ∧ Trims N rows ends Av Bv
theorem ok_within (T : Txt K mg A) (B : Tbs base mg A) : FnOk P w K mg base CX0 2 A.f_within A.d_within ["kind", "unit", "most"] (spQ K 3 R_within) := by
  have G_least_counts : FnOk P w K mg base CX0 1 A.f_least_counts A.d_least_counts ["steps", "begins"] (spQ K 2 R_least) := ok_least_counts T B
  have G__turned : FnOk P w K mg base CX0 1 A.f__turned A.d__turned ["steps"] (spP K 1 R_turned) := ok__turned T B
  refine T.F_within.ok sc_within (fun vs H Q E h => ?_) (fun cdv Ar outer s H vs Q E hr h => ?_)
  · exact spQ.len h
  refine ⟨_, (pss_cons (ps_asg (pv 0) (kTgT K (n := 3) (by rfl) (pgs_cons (pg_name (i := 3) sc_within.nd rfl (Or.inl rfl)) (pgs_cons (pg_name (i := 4) sc_within.nd rfl (Or.inl rfl)) (pgs_cons (pg_name (i := 5) sc_within.nd rfl (Or.inl rfl)) pgs_nil)))))
    (pss_cons (ps_setLc (i := 6) (own := [("row", 11)]) (by rfl) sc_within.nd rfl rfl (sw_true rfl rfl rfl (by decide +kernel)) (kPiT K (pv 4)) (blkOk_by (own := [("row", 11)]) (N := N_within) (sc := defScope s_within) (by decide +kernel)) (fun _ _ _ _ _ => (pg_name (i := 11) sc_within.nd rfl (Or.inl rfl))) (fun _ _ _ _ _ => pts_nil) (fun _ _ _ _ _ => (pe_lc (own := [("target", 16), ("count", 14)]) rfl sc_within.nd (kZip K true true (by rfl) T.z_zip (pa_cons (pv 11) (pa_cons (pv 1) pa_nil))) (blkOk_by (own := [("target", 16), ("count", 14)]) (by kernel_rfl)) (fun _ _ _ _ _ => (kTgT K (n := 2) (by rfl) (pgs_cons (pg_name (i := 16) sc_within.nd rfl (Or.inl rfl)) (pgs_cons (pg_name (i := 14) sc_within.nd rfl (Or.inl rfl)) pgs_nil)))) (fun _ _ _ _ _ => (pts_one (pt_cmpR op_notN (pv 16) pe_non (nomark _)))) (fun _ _ _ _ _ => (pe_tup (pa_cons (pv 16) (pa_cons (pv 14) pa_nil)))))))
    (pss_cons (ps_set (i := 7) sc_within.nd rfl (Or.inl rfl) (pe_call G_least_counts (hr.mono (by first | decide | omega)) rfl T.m_least_counts T.k_least_counts T.b_least_counts .nil pass0 (pa_cons (pv 6) (pa_cons (pe_lst (pa_cons pe_int pa_nil)) pa_nil))))
    (pss_cons (ps_set (i := 8) sc_within.nd rfl (Or.inl rfl) (pe_call G_least_counts (hr.mono (by first | decide | omega)) rfl T.m_least_counts T.k_least_counts T.b_least_counts .nil pass0 (pa_cons (pe_call G__turned (hr.mono (by first | decide | omega)) rfl T.m__turned T.k__turned T.b__turned .nil pass0 (pa_cons (pv 6) pa_nil)) (pa_cons (pe_lc (own := [("state", 17), ("end", 15)]) rfl sc_within.nd (kEnumT K (by rfl) T.z_enumerate (pa_cons (pv 5) pa_nil)) (blkOk_by (own := [("state", 17), ("end", 15)]) (N := N_within) (sc := defScope s_within) (by decide +kernel)) (fun _ _ _ _ _ => (kTgT K (n := 2) (by rfl) (pgs_cons (pg_name (i := 17) sc_within.nd rfl (Or.inl rfl)) (pgs_cons (pg_name (i := 15) sc_within.nd rfl (Or.inl rfl)) pgs_nil)))) (fun _ _ _ _ _ => (pts_one (pt_val (pv 15)))) (fun _ _ _ _ _ => (pv 17))) pa_nil))))
    (pss_cons (ps_set (i := 9) sc_within.nd rfl (Or.inr rfl) (pe_lc (own := [("count", 14)]) rfl sc_within.nd (kPiL K (pv 8)) (blkOk_by (own := [("count", 14)]) (N := N_within) (sc := defScope s_within) (by decide +kernel)) (fun _ _ _ _ _ => (pg_name (i := 14) sc_within.nd rfl (Or.inl rfl))) (fun _ _ _ _ _ => pts_nil) (fun _ _ _ _ _ => (pe_ifExp (pt_cmpR op_isN (pv 14) pe_non (nomark _)) (pe_un un_neg pe_int) (pe_op op_sub (pv 2) (pv 14))))))
    (pss_cons (ps_set (i := 10) sc_within.nd rfl (Or.inl rfl) (pe_lst pa_nil))
    (pss_cons (ps_for PassesOwn.never rfl (kZip K true false (by rfl) T.z_zip (pa_cons (pv 4) (pa_cons (pv 7) pa_nil))) (kTgT K (n := 2) (by rfl) (pgs_cons (pg_name (i := 11) sc_within.nd rfl (Or.inl rfl)) (pgs_cons (pg_name (i := 12) sc_within.nd rfl (Or.inr rfl)) pgs_nil)))
    (pss_one (ps_if (pt_cmpR op_isN (pv 12) pe_non (nomark _)) (pss_one (ps_expr (kBm K (pe_bm PySem.F.plainAttrs_list PySem.F.slot_list_append PySem.F.type_list_append mt_append (pv 10) (pa_cons (pe_op (kTimes K) (pe_tup (pa_cons pe_non pa_nil)) (pv 3)) pa_nil)))))
    (pss_one (ps_expr (kBm K (pe_bm PySem.F.plainAttrs_list PySem.F.slot_list_append PySem.F.type_list_append mt_append (pv 10) (pa_cons (pe_lc (own := [("target", 16), ("count", 14)]) rfl sc_within.nd (kZip K true true (by rfl) T.z_zip (pa_cons (pv 11) (pa_cons (pv 1) pa_nil))) (blkOk_by (own := [("target", 16), ("count", 14)]) (N := N_within) (sc := defScope s_within) (by decide +kernel)) (fun _ _ _ _ _ => (kTgT K (n := 2) (by rfl) (pgs_cons (pg_name (i := 16) sc_within.nd rfl (Or.inl rfl)) (pgs_cons (pg_name (i := 14) sc_within.nd rfl (Or.inl rfl)) pgs_nil)))) (fun _ _ _ _ _ => pts_nil) (fun _ _ _ _ _ => (pe_ifExp (PW.pt (pw_and (pt_cmpR op_notN (pv 16) pe_non (nomark _)) (pw_and1 (pt_cmpR op_le (pe_op op_add (pv 12) (pv 14)) (pe_ix (kIxL K) (pv 9) (pv 16) (fun _ _ => rfl)) (nomark _))))) (pv 16) pe_non))) pa_nil))))))))
    (pss_cons (ps_setLc (i := 13) (own := [("end", 15), ("so_far", 12)]) (by rfl) sc_within.nd rfl rfl (sw_true rfl rfl rfl (by decide +kernel)) (kZip K true false (by rfl) T.z_zip (pa_cons (pv 5) (pa_cons (pv 7) pa_nil))) (blkOk_by (own := [("end", 15), ("so_far", 12)]) (N := N_within) (sc := defScope s_within) (by decide +kernel)) (fun _ _ _ _ _ => (kTgT K (n := 2) (by rfl) (pgs_cons (pg_name (i := 15) sc_within.nd rfl (Or.inl rfl)) (pgs_cons (pg_name (i := 12) sc_within.nd rfl (Or.inl rfl)) pgs_nil)))) (fun _ _ _ _ _ => pts_nil) (fun _ _ _ _ _ => (pe_and (pv 15) (pe_and (pe_cmpR op_notN (pv 12) pe_non (nomark _)) (pe_one (pe_cmpR op_le (pv 12) (pv 2) (nomark _)))))))
    (pss_one (ps_ret (pe_tup (pa_cons (pe_tup (pa_cons (pv 3) (pa_cons (pv 10) (pa_cons (pv 13) pa_nil)))) (pa_cons (pv 8) pa_nil))))))))))))), ?_⟩
  refine spQ.ok h fun W ds G hR => ?_
  obtain ⟨L, N, rows, ends, rfl, ok, rfl⟩ := hR
  have n9 := ok.n9
  have l4 := ok.l4
  have sok := stepsOf_ok ok
  walk_at "st"
  walk_at "go"
  -- the steps
  refine ev_lcP (fun _ => true) (fun i => PyData.list (((rows.getD i []).filterMap id).map stepZ)) (ei_tup (ev_var rfl ⟨_, rfl, ?_⟩))
  rw [List.length_map, ok.lr]
  refine ⟨by omega, fun i hi => ?_, ?_⟩
  · have hrow := getDR ok.lr hi
    have rok := ok.row _ (List.mem_of_getElem? hrow)
    rw [itemD_at hrow]
    generalize rows.getD i [] = row at rok
    walk_at "go"
    refine ev_lcP (fun i => (row.getD i none).isSome) (fun i => PyData.tuple [optD (row.getD i none), .int 0]) (ei_zipTT ?_)
    walk_at "go"
    rw [List.length_map, List.length_replicate]
    refine ⟨rok.1, ?_⟩
    rw [rok.1]
    refine ⟨by omega, fun j hj => ?_, ?_⟩
    · rw [itemD_at (getDO rok.1 hj), itemD_rep hj]
      walk_at "go"
      cases ho : row.getD j none with
      | none => exact ⟨rfl, rfl, fun z => by cases z⟩
      | some t =>
        refine ⟨rfl, rfl, fun _ => ?_⟩
        walk_at "go"
        try exact ⟨rfl, rfl⟩
    · have := stepRow row
      rw [rok.1] at this
      rw [this]
      exact ⟨rfl, rfl⟩
  have esteps : (((List.range N).filter fun _ => true).map fun i => PyData.list (((rows.getD i []).filterMap id).map stepZ)) = (stepsOf rows).map fun ts => PyData.list (ts.map stepZ) := by
    rw [List.filter_eq_self.mpr fun _ _ => rfl]
    unfold stepsOf
    rw [List.map_map]
    apply List.ext_getElem?
    intro i
    rw [List.getElem?_map, List.getElem?_map]
    by_cases h : i < N
    · rw [List.getElem?_range h, getDR ok.lr h]; rfl
    · have h1 : (List.range N)[i]? = none := by simp; omega
      have h2 : rows[i]? = none := by simp; rw [ok.lr]; omega
      rw [h1, h2]; rfl
  rw [esteps]
  walk_at "go"
  refine rc_q rfl ⟨stepsOf rows, [0], N, rfl, ⟨sok.len, fun r hr => ⟨by have := (sok.row r hr).1; omega, (sok.row r hr).2⟩⟩, by omega, by simp, fun b hb => by rw [List.mem_singleton.mp hb]; have := ok.n1; omega, rfl⟩ ?_
  rintro _ ⟨Av, rfl, la, ha⟩
  walk_at "go"
  refine rc_pure rfl ⟨stepsOf rows, N, rfl, ⟨sok.len, fun r hr => ⟨by have := (sok.row r hr).1; omega, (sok.row r hr).2⟩⟩, by omega, rfl⟩ ?_
  walk_at "go"
  refine ev_lcP (fun s => ends.getD s false) (fun s => nI s) (ei_enumT (ea_cons (ev_var rfl (ea_nil ⟨_, rfl, ?_⟩))))
  rw [List.length_map, ok.le]
  refine ⟨by omega, fun s hs => ?_, ?_⟩
  · dsimp only
    rw [itemD_at (getDB ok.le hs)]
    walk_at "go"
    refine fun _ => ?_
    walk_at "go"
  have eends : (((List.range N).filter fun s => ends.getD s false).map fun s => nI s) = (endsOf N ends).map nI := rfl
  rw [eends]
  walk_at "go"
  have bok := bkOf_ok sok
  refine rc_q rfl ⟨bkOf (stepsOf rows) N, endsOf N ends, N, rfl, ⟨bok.len, fun r hr => ⟨by have := (bok.row r hr).1; omega, (bok.row r hr).2⟩⟩, by omega, List.Pairwise.filter _ List.nodup_range, fun b hb => List.mem_range.mp (List.mem_filter.mp hb).1, rfl⟩ ?_
  rintro _ ⟨Bv, rfl, lb, hb⟩
  walk_at "go"
  -- the room
  refine ev_lcP (fun _ => true) (fun s => if Bv.getD s false = true then PyData.int 0 else .int (-1)) (ei_list (ev_var rfl ⟨_, rfl, ?_⟩))
  rw [List.length_map, lb]
  refine ⟨by omega, fun s hs => ?_, ?_⟩
  · rw [itemD_at (getDB lb hs)]
    walk_at "go"
    rw [lz_none]
    cases hB : Bv.getD s false with
    | true =>
      refine if_split (fun z => by cases z) (fun _ => ?_)
      rw [show lz true = PyData.int 0 from rfl]
      walk_at "go"
      try exact ⟨rfl, rfl⟩
    | false =>
      refine if_split (fun _ => ?_) (fun z => by cases z)
      walk_at "go"
      try exact ⟨rfl, rfl⟩
  have eroom : (((List.range N).filter fun _ => true).map fun s => if Bv.getD s false = true then PyData.int 0 else .int (-1)) = Bv.map fun b => if b = true then PyData.int 0 else .int (-1) := by
    rw [← lb]; exact range_mapB Bv (fun b => if b = true then PyData.int 0 else .int (-1))
  rw [eroom]
  walk_at "tg"
  refine sw_seq (sw_own (ea_nil ⟨by simp, ?_⟩))
  refine sw_seq (sw_forW (ei_zipTL ?_))
  walk_at "go"
  rw [List.length_map, List.length_map, ok.lr, la]
  refine ⟨rfl, ?_⟩
  refine ⟨fun j ρ _ => ρ = [.dat (kindD L rows ends), .dat (.tuple (List.replicate L (.int 0))), .dat (.int 0), .dat (nI L), .dat (.tuple (rows.map rowD)), .dat (.tuple (ends.map PyData.bool)), .dat (stepsZ (stepsOf rows)), .dat (.list (Av.map lz)), .dat (.list (Bv.map lz)), .dat (.list (Bv.map fun b => if b = true then PyData.int 0 else .int (-1))), .own ((List.range j).map (trD L rows Av Bv)), .no, .no, .no, .no, .no, .no, .no],
    ⟨_, by walk_at "le", rfl⟩, ?_, ?_⟩
  · rintro j ρ1 k2 hj rfl
    have hrow := getDR ok.lr hj
    have rok := ok.row _ (List.mem_of_getElem? hrow)
    rw [itemD_at hrow, itemD_at (getDB la hj)]
    walk_at "go"
    rw [lz_none]
    have app : (List.range (j + 1)).map (trD L rows Av Bv) = (List.range j).map (trD L rows Av Bv) ++ [trD L rows Av Bv j] := by rw [List.range_succ, List.map_append]; rfl
    cases hA : Av.getD j false with
    | false =>
      have e : trD L rows Av Bv j = .tuple (List.replicate L .none) := by
        unfold trD trRow
        rw [if_neg (by rw [hA]; decide), if_neg (by rw [hA]; decide), List.map_replicate]
        rfl
      refine if_split (fun _ => ?_) (fun z => by cases z)
      refine sw_append (ev_op (ev_tup (ea_cons (ev_non (ea_nil ⟨by simp, ev_var rfl (rd_times ok.l1 (by omega) ⟨_, rfl, by simp; omega, ?_⟩)⟩))))) ⟨_, rfl⟩
      rw [app, e]
      exact ⟨_, by walk_at "le", rfl⟩
    | true =>
      have e : trD L rows Av Bv j = .list (((rows.getD j []).map (keepB Bv)).map optD) := by
        unfold trD trRow
        rw [if_pos hA, if_pos hA]
      refine if_split (fun z => by cases z) (fun _ => ?_)
      generalize hrw : rows.getD j [] = row at rok e
      rw [app, e]
      refine sw_append (ev_lcP (fun _ => true) (fun i => optD (keepB Bv (row.getD i none))) (ei_zipTT ?_)) ⟨_, rfl⟩
      walk_at "go"
      rw [List.length_map, List.length_replicate]
      refine ⟨rok.1, ?_⟩
      rw [rok.1]
      refine ⟨by omega, fun i hi => ?_, ?_⟩
      · have ho := getDO rok.1 hi
        rw [itemD_at ho, itemD_rep hi]
        rw [show lz true = PyData.int 0 from rfl]
        walk_at "go"
        cases hoi : row.getD i none with
        | none =>
          rw [show (!isNone (optD none)) = false from rfl]
          refine if_split (fun z => by cases z) (fun _ => ?_)
          walk_at "go"
          exact ⟨rfl, rfl⟩
        | some t =>
          have tn : t < N := rok.2 t (by rw [hoi] at ho; exact List.mem_of_getElem? ho)
          rw [show (!isNone (optD (some t))) = true from rfl]
          refine if_split (fun _ => ?_) (fun z => by cases z)
          walk_at "go"
          refine rd_ixL (j := t) rfl (at_map (getDB lb tn)) ?_
          cases hB : Bv.getD t false with
          | true =>
            rw [if_pos rfl]
            walk_at "go"
            refine if_split (fun _ => ?_) (fun z => by simp at z)
            walk_at "go"
            exact ⟨by show optD (some t) = optD (if Bv.getD t false = true then some t else none); rw [if_pos hB], rfl⟩
          | false =>
            rw [if_neg (by decide)]
            walk_at "go"
            refine if_split (fun z => by simp at z) (fun _ => ?_)
            walk_at "go"
            exact ⟨by show PyData.none = optD (if Bv.getD t false = true then some t else none); rw [if_neg (by rw [hB]; decide)]; rfl, rfl⟩
      · have em : (((List.range L).filter fun _ => true).map fun i => optD (keepB Bv (row.getD i none))) = (row.map (keepB Bv)).map optD := by
          rw [List.filter_eq_self.mpr fun _ _ => rfl, List.map_map]
          apply List.ext_getElem?
          intro i
          rw [List.getElem?_map, List.getElem?_map]
          by_cases h : i < L
          · rw [List.getElem?_range h, getDO rok.1 h]; rfl
          · have h1 : (List.range L)[i]? = none := by simp; omega
            have h2 : row[i]? = none := by simp; rw [rok.1]; omega
            rw [h1, h2]; rfl
        rw [em]
        refine ⟨_, rfl, by simp; omega, ?_⟩
        exact ⟨_, by walk_at "le", rfl⟩
  rintro ρ1 k2 rfl
  refine sw_freeze 10 rfl ?_
  walk_at "go"
  refine ev_lcP (fun _ => true) (fun s => PyData.bool (ends.getD s false && Av.getD s false)) (ei_zipTL ?_)
  walk_at "go"
  rw [List.length_map, List.length_map, ok.le, la]
  refine ⟨rfl, by omega, fun s hs => ?_, ?_⟩
  · rw [itemD_at (getDB ok.le hs), itemD_at (getDB la hs)]
    walk_at "go"
    cases hE : ends.getD s false with
    | false =>
      refine if_split (fun z => by cases z) (fun _ => ?_)
      exact ⟨rfl, rfl⟩
    | true =>
      refine if_split (fun _ => ?_) (fun z => by cases z)
      walk_at "go"
      rw [lz_none]
      cases hA : Av.getD s false with
      | false =>
        refine if_split (fun z => by cases z) (fun _ => ?_)
        exact ⟨rfl, rfl⟩
      | true =>
        refine if_split (fun _ => ?_) (fun z => by cases z)
        rw [show lz true = PyData.int 0 from rfl]
        walk_at "go"
        exact ⟨rfl, rfl⟩
  have elast : (((List.range N).filter fun _ => true).map fun s => PyData.bool (ends.getD s false && Av.getD s false)) = (lastOf N ends Av).map PyData.bool := by
    rw [List.filter_eq_self.mpr fun _ _ => rfl]
    unfold lastOf
    rw [List.map_map]; rfl
  rw [elast]
  walk_at "go"
  exact ⟨la, lb, ha, hb⟩
def R_trimmed (ds : List PyData) (G : PyData → Prop) : Prop := ∃ (L N : Nat) (rows : List (List (Option Nat))) (ends : List Bool), ds = [kindD L rows ends] ∧ KOk L N rows ends ∧
  G = fun r => ∃ Av Bv, r = trimD L N rows ends Av Bv ∧ Trims N rows ends Av Bv
theorem ok_trimmed (T : Txt K mg A) (B : Tbs base mg A) : FnOk P w K mg base CX0 3 A.f_trimmed A.d_trimmed ["kind"] (spQ K 1 R_trimmed) := by
  have G_within : FnOk P w K mg base CX0 2 A.f_within A.d_within ["kind", "unit", "most"] (spQ K 3 R_within) := ok_within T B
  refine T.F_trimmed.ok sc_trimmed (fun vs H Q E h => ?_) (fun cdv Ar outer s H vs Q E hr h => ?_)
  · exact spQ.len h
  refine ⟨_, (pss_one (ps_ret (pe_ix (kIxT K) (pe_call G_within (hr.mono (by first | decide | omega)) rfl T.m_within T.k_within T.b_within .nil pass0 (pa_cons (pv 0) (pa_cons (pe_op (kTimes K) (pe_tup (pa_cons pe_int pa_nil)) (pe_ix (kIxT K) (pv 0) pe_int (fun _ _ => rfl))) (pa_cons pe_int pa_nil)))) pe_int (fun _ _ => rfl)))), ?_⟩
  refine spQ.ok h fun W ds G hR => ?_
  obtain ⟨L, N, rows, ends, rfl, ok, rfl⟩ := hR
  have l4 := ok.l4
  walk_at "st"
  walk_at "go"
  refine rd_times ok.l1 (by omega) ?_
  walk_at "go"
  refine rc_q rfl ⟨L, N, rows, ends, rfl, ok, rfl⟩ ?_
  rintro _ ⟨Av, Bv, rfl, t⟩
  walk_at "go"
  exact t
end

-- SPLIT
structure FwI {γ : Type} (Ok : γ → Prop) (Nd : PyData → Prop) (k : γ) (sn : List PyData) (fo : List FI) : Prop where
  ok : Ok k
  seen : ∀ d ∈ sn, Nd d
  nodes : ∀ x ∈ fo, (∀ d ∈ x.1, Nd d) ∧ x.1.length ≤ 60000
  words : ∀ i x, fo[i]? = some x → WordAt (fo.map fun x => x.2.1) i x.2.2 ∧ x.2.2.length ≤ i
  few : fo.length ≤ 60000
theorem encFI_tup (x : FI) : ∃ p q, encFI x = .tuple [.list x.1, p, q] := by
  unfold encFI
  split
  · exact ⟨_, _, rfl⟩
  · exact ⟨_, _, rfl⟩
theorem itemD_mem {ds : List PyData} {j : Nat} (h : j < ds.length) : itemD ds j ∈ ds := by
  unfold itemD
  rw [List.getElem?_eq_getElem h]
  exact List.getElem_mem h
theorem any_items (l : List PyData) (f : PyData → Bool) : (((List.range l.length).map fun j => f (itemD l j)).any id) = l.any f := by
  rw [List.any_map, Bool.eq_iff_iff, List.any_eq_true, List.any_eq_true]
  constructor
  · rintro ⟨j, hj, h⟩
    exact ⟨_, itemD_mem (List.mem_range.mp hj), h⟩
  · rintro ⟨d, hd, h⟩
    obtain ⟨j, hj, rfl⟩ := List.mem_iff_getElem.mp hd
    refine ⟨j, List.mem_range.mpr hj, ?_⟩
    show f (itemD l j) = true
    unfold itemD
    simpa [hj] using h
section
variable {P : Program} {w : World} {K : PySem.W.Frag} {mg : Str → Option Value} {base : Heap} {A : Adrs}
def R_wordF (ds : List PyData) (r : PyData) : Prop := ∃ (fo : List FI) (a : Nat) (ws : List Nat), ds = [.list (fo.map encFI), nI a] ∧ WordAt (fo.map fun x => x.2.1) a ws ∧ ws.length ≤ 100000 ∧ r = nX ws
theorem ok__word (T : Txt K mg A) (B : Tbs base mg A) : FnOk P w K mg base CX0 1 A.f__word A.d__word ["found", "at"] (spP K 2 R_wordF) := by
  refine T.F__word.ok sc__word (fun vs H Q E h => ?_) (fun cdv Ar outer s H vs Q E hr h => ?_)
  · exact spP.len h
  refine ⟨_, (pss_cons (ps_set (i := 2) sc__word.nd rfl (Or.inl rfl) (pe_lst pa_nil))
    (pss_cons (ps_while PassesOwn.never (pt_cmpR op_notN (pe_ix (kIxT K) (pe_ix (kIxL K) (pv 0) (pv 1) (fun _ _ => rfl)) pe_int (fun _ _ => rfl)) pe_non (nomark _))
    (pss_cons (ps_asg (pe_ix (kIxL K) (pv 0) (pv 1) (fun _ _ => rfl)) (kTgT K (n := 3) (by rfl) (pgs_cons (pg_name (i := 3) sc__word.nd rfl (Or.inl rfl)) (pgs_cons (pg_name (i := 1) sc__word.nd rfl (Or.inl rfl)) (pgs_cons (pg_name (i := 4) sc__word.nd rfl (Or.inl rfl)) pgs_nil)))))
    (pss_one (ps_expr (kBm K (pe_bm PySem.F.plainAttrs_list PySem.F.slot_list_append PySem.F.type_list_append mt_append (pv 2) (pa_cons (pe_ix ix_str (pe_gs rfl T.c_LETTERS) (pv 4) (fun _ _ => rfl)) pa_nil)))))))
    (pss_one (ps_ret (kJoin K (pe_join pe_str (kRevL K (pv 2)))))))), ?_⟩
  refine spP.ok h fun W ds r hR => ?_
  obtain ⟨fo, a0, ws, rfl, wa, hz, rfl⟩ := hR
  walk_at "st"
  refine sw_seq (sw_own (ea_nil ⟨by decide, ?_⟩))
  refine sw_seq (sw_while (fun m ρ _ => ∃ (a : Nat) (w' suf : List Nat) (s t : Slot), ρ = [.dat (.list (fo.map encFI)), .dat (nI a), .own (suf.map fun c => PyData.str (txt [c])), s, t] ∧ m = a ∧ WordAt (fo.map fun x => x.2.1) a w' ∧ ws = w' ++ suf.reverse) a0 ⟨a0, ws, [], .no, .no, rfl, rfl, wa, by simp⟩ ?_)
  rintro m ρ1 k1 ⟨a, w', suf, s, t, rfl, rfl, wa', rfl⟩
  walk_at "go"
  cases wa' with
  | nil h =>
    obtain ⟨x, hx, ex⟩ := Option.map_eq_some_iff.mp ((List.getElem?_map ..).symm.trans h)
    refine rd_ixL rfl (at_map hx) ?_
    rw [show encFI x = .tuple [.list x.1, .none, .none] by unfold encFI; rw [ex]]
    walk_at "go"
    rw [show (!isNone .none) = false from rfl]
    refine if_split (fun z => by cases z) (fun _ => ?_)
    refine sw_freeze 2 rfl ?_
    refine sw_ret (ev_join (ev_str ⟨_, rfl, ev_revL (ev_var rfl ⟨_, rfl, ?_⟩)⟩))
    rw [← List.map_reverse]
    refine ⟨suf.reverse.map fun c => txt [c], by rw [List.map_map]; rfl, ?_, ?_⟩
    · rw [len1, List.length_map, List.length_reverse]
      have : (Str.ofString "").length = 0 := rfl
      rw [this]
      simp at hz
      omega
    · rw [join1]
      simp
  | @snoc _ k c w2 h hk hc wa2 =>
    obtain ⟨x, hx, ex⟩ := Option.map_eq_some_iff.mp ((List.getElem?_map ..).symm.trans h)
    have en : encFI x = .tuple [.list x.1, nI k, nI c] := by unfold encFI; rw [ex]
    refine rd_ixL rfl (at_map hx) ?_
    rw [en]
    walk_at "go"
    rw [show (!isNone (nI k)) = true from rfl]
    refine if_split (fun _ => ?_) (fun z => by cases z)
    walk_at "go"
    refine rd_ixL rfl (at_map hx) ?_
    rw [en]
    walk_at "tg"
    refine sw_append ?_ ⟨_, rfl⟩
    walk_at "go"
    rw [txt_LET]
    refine rd_ixX (by simp) (show c < (List.range 26).length by simp; omega) ?_
    have : (List.range 26)[c]'(by simp; omega) = c := by simp
    rw [this]
    refine ⟨_, rfl, by simp at hz ⊢; omega, k, hk, k, w2, suf ++ [c], .dat (.list x.1), .dat (nI c), ?_, rfl, wa2, by simp⟩
    rw [List.map_append]
    rfl
def R1 {γ : Type} (aft : γ → PyData → Nat → List PyData × γ) (Ok : γ → Prop) (Nd : PyData → Prop) (L : Nat) (k : γ) (ds : List PyData) (Φ : PyData → γ → Prop) : Prop := ∃ (d : PyData) (le : Nat), ds = [d, nI le] ∧ Ok k ∧ Nd d ∧ le < L ∧ Φ (.list (aft k d le).1) (aft k d le).2
def R2 {γ : Type} (fin : PyData → Bool) (Ok : γ → Prop) (Nd : PyData → Prop) (k : γ) (ds : List PyData) (Φ : PyData → γ → Prop) : Prop := ∃ d : PyData, ds = [d] ∧ Ok k ∧ Nd d ∧ Φ (.bool (fin d)) k
def encW : Option (List Nat) → PyData | none => .none | some w => nX w
structure Fw {γ : Type} (aft : γ → PyData → Nat → List PyData × γ) (fin : PyData → Bool) (key : PyData → NestedKey) (Ok : γ → Prop) (Nd : PyData → Prop) (L : Nat) (bs : List PyData) (k : γ) : Prop where
  l26 : L ≤ 26
  ok : Ok k
  step : ∀ k d le, Ok k → Nd d → le < L → Ok (aft k d le).2 ∧ (∀ t ∈ (aft k d le).1, Nd t) ∧ (aft k d le).1.length ≤ 10000
  nd : ∀ d ∈ bs, Nd d
  isk : ∀ d, Nd d → IsK d (key d)
  dif : (bs.map key).Nodup
  few : bs.length ≤ 10000
def R_fw (P : Program) (w : World) (K : PySem.W.Frag) (mg : Str → Option Value) (base : Heap) (as : List (PyData ⊕ Addr)) (γ : Type) (W : Wd γ) (k : γ) (Φ : PyData → γ → Prop) : Prop :=
  ∃ (f1 f2 : Addr) (L : Nat) (bs : List PyData) (aft : γ → PyData → Nat → List PyData × γ) (fin : PyData → Bool) (key : PyData → NestedKey) (Ok : γ → Prop) (Nd : PyData → Prop) (fuel : Nat) (res : Option (List Nat)) (k2 : γ),
    as = [.inl (nI L), .inl (.list bs), .inr f1, .inr f2] ∧ CloOk P w K mg base 2 f1 (cloSp K W 2 (R1 aft Ok Nd L)) ∧ CloOk P w K mg base 2 f2 (cloSp K W 1 (R2 fin Ok Nd)) ∧ (∀ k N H, W.I k N H → IsFn H f1) ∧ (∀ k N H, W.I k N H → IsFn H f2) ∧
    Fw aft fin key Ok Nd L bs k ∧ fwRun aft fin key L fuel k bs [(bs, none, [])] 0 = some (res, k2) ∧ Φ (encW res) k2
theorem ok_first_word (T : Txt K mg A) (B : Tbs base mg A) : FnOk P w K mg base CX0 4 A.f_first_word A.d_first_word ["letters", "begins", "after", "is_end"] (spX K 4 (R_fw P w K mg base)) := by
  have G__word : FnOk P w K mg base CX0 1 A.f__word A.d__word ["found", "at"] (spP K 2 R_wordF) := ok__word T B
  refine T.F_first_word.ok sc_first_word (fun vs H Q E h => ?_) (fun cdv Ar outer s H vs Q E hr h => ?_)
  · exact spX.len h
  obtain ⟨γ, W, k0, as, Φ, ax, _, wi, hR, fin⟩ := h
  obtain ⟨f1, f2, L, bs, aft, fn, key, Ok, Nd, fuel, res, k2, rfl, C_after, C_is_end, hf1, hf2, F, run, hΦ⟩ := hR
  have C_after : CloOk _ _ _ _ _ _ f1 _ := C_after
  refine ⟨_, (pss_cons (ps_setDcN (K := K) (i := 4) (own := [("node", 10)]) (room9 hr) (by rfl) sc_first_word.nd rfl rfl (sw_trueD rfl rfl rfl (by decide +kernel)) (kPiL K (pv 1)) (blkOk_by (own := [("node", 10)]) (N := N_first_word) (sc := defScope s_first_word) (by decide +kernel)) (fun _ _ _ _ _ => (pg_name (i := 10) sc_first_word.nd rfl (Or.inl rfl))) (fun _ _ _ _ _ => pts_nil) (fun _ _ _ _ _ => (pv 10)) (fun _ _ _ _ _ => pe_bl))
    (pss_cons (ps_set (i := 5) sc_first_word.nd rfl (Or.inl rfl) (pe_lst (pa_cons (pe_tup (pa_cons (pv 1) (pa_cons pe_non (pa_cons pe_non pa_nil)))) pa_nil)))
    (pss_cons (ps_set (i := 6) sc_first_word.nd rfl (Or.inl rfl) pe_int)
    (pss_cons (ps_while PassesOwn.never (pt_cmpR op_lt (pv 6) (pe_callB (id := "len") (kLenQ K) (by rfl) T.z_len (by decide +kernel) (pa_cons (pv 5) pa_nil)) (nomark _))
    (pss_cons (ps_set (i := 7) sc_first_word.nd rfl (Or.inl rfl) (pe_ix (kIxT K) (pe_ix (kIxL K) (pv 5) (pv 6) (fun _ _ => rfl)) pe_int (fun _ _ => rfl)))
    (pss_cons (ps_if (pt_val (pe_callB (id := "any") (kAny K rfl) (by rfl) T.z_any (by decide +kernel) (pa_cons (pe_lc (own := [("node", 10)]) rfl sc_first_word.nd (kPiL K (pv 7)) (blkOk_by (own := [("node", 10)]) (N := N_first_word) (sc := defScope s_first_word) (by decide +kernel)) (fun _ _ _ _ _ => (pg_name (i := 10) sc_first_word.nd rfl (Or.inl rfl))) (fun _ _ _ _ _ => pts_nil) (fun _ _ _ _ _ => (pe_callC C_is_end (hr.mono (by first | decide | omega)) (i := 3) rfl (by first | exact Or.inl rfl | exact Or.inr (Or.inl rfl) | exact Or.inr (Or.inr rfl)) (pa_cons (pv 10) pa_nil)))) pa_nil))) (pss_one (ps_ret (pe_call G__word (hr.mono (by first | decide | omega)) rfl T.m__word T.k__word T.b__word .nil pass0 (pa_cons (pv 5) (pa_cons (pv 6) pa_nil)))))
    pss_nil)
    (pss_cons (ps_for PassesOwn.never rfl (pi_range1 (by rfl) T.z_range (pa_cons (pv 0) pa_nil)) (pg_name (i := 8) sc_first_word.nd rfl (Or.inl rfl))
    (pss_cons (ps_set (i := 9) sc_first_word.nd rfl (Or.inl rfl) (pe_lst pa_nil))
    (pss_cons (ps_for PassesOwn.never rfl (kPiL K (pv 7)) (pg_name (i := 10) sc_first_word.nd rfl (Or.inl rfl))
    (pss_one (ps_for PassesOwn.never rfl (kPiL K (pe_callC C_after (hr.mono (by first | decide | omega)) (i := 2) rfl (by first | exact Or.inl rfl | exact Or.inr (Or.inl rfl) | exact Or.inr (Or.inr rfl)) (pa_cons (pv 10) (pa_cons (pv 8) pa_nil)))) (pg_name (i := 11) sc_first_word.nd rfl (Or.inl rfl))
    (pss_one (ps_if (pt_cmp (pc_nnotin (K := K) (room9 hr) (pv 11) (pv 4)) (by rfl)) (pss_cons (ps_nput (K := K) (room9 hr) (pv 4) (pv 11) pe_bl rfl)
    (pss_one (ps_expr (kBm K (pe_bm PySem.F.plainAttrs_list PySem.F.slot_list_append PySem.F.type_list_append mt_append (pv 9) (pa_cons (pv 11) pa_nil))))))
    pss_nil)))))
    (pss_one (ps_if (kTruth K (pv 9) (by intro _; rfl)) (pss_one (ps_expr (kBm K (pe_bm PySem.F.plainAttrs_list PySem.F.slot_list_append PySem.F.type_list_append mt_append (pv 5) (pa_cons (pe_tup (pa_cons (pv 9) (pa_cons (pv 6) (pa_cons (pv 8) pa_nil)))) pa_nil)))))
    pss_nil)))))
    (pss_one (ps_aug (i := 6) sc_first_word.nd rfl (Or.inl rfl) pe_int ip_add))))))
    (pss_one (ps_ret pe_non)))))), ?_⟩
  refine spX.ok ax wi fin ?_
  simp only [restX, List.map_cons, List.map_nil, List.length_cons, List.length_nil, List.cons_append, List.nil_append, Nat.reduceAdd, Nat.reduceSub, Nat.zero_add, Nat.sub_self, List.replicate, slotX]
  refine sw_seq (sw_dcN (fun i => key (itemD bs i)) (fun _ => .bool true) (ei_list (ev_var rfl ⟨_, rfl, ?_⟩)))
  have few := F.few
  refine ⟨by omega, fun i hi => ?_, ?_⟩
  · have ei : itemD bs i = bs[i] := by unfold itemD; simp [hi]
    walk_at "tg"
    refine et_yes ⟨rfl, rfl, ev_var rfl ⟨rfl, ?_, ev_bl ⟨rfl, rfl⟩⟩⟩
    rw [ei]
    exact F.isk _ (F.nd _ (List.getElem_mem hi))
  rw [kvN_seenK F.dif bs.length (Nat.le_refl _), List.take_length]
  refine sw_seq (sw_own ?_)
  walk_at "ev"
  walk_at "go"
  refine sw_while (fun m ρ k => ∃ (sn : List PyData) (fo : List FI) (a : Nat) (s7 s8 s9 s10 s11 : Slot), ρ = [.dat (nI L), .dat (.list bs), .raw (.ref f1), .raw (.ref f2), .ownN (DN P w) (seenK key sn), .own (fo.map encFI), .dat (nI a), s7, s8, s9, s10, s11] ∧
    fwRun aft fn key L m k sn fo a = some (res, k2) ∧ FwI Ok Nd k sn fo ∧ a ≤ fo.length) fuel ⟨bs, [(bs, none, [])], 0, _, _, _, _, _, rfl, run, ?_, by simp⟩ ?_
  · refine ⟨F.ok, F.nd, fun x hx => ?_, fun i x hx => ?_, by simp⟩
    · rw [List.mem_singleton.mp hx]
      exact ⟨F.nd, by show bs.length ≤ _; omega⟩
    · cases i with
      | zero => cases hx; exact ⟨.nil rfl, Nat.le_refl _⟩
      | succ i => simp at hx
  rintro m ρ1 k1 ⟨sn, fo, a, s7, s8, s9, s10, s11, rfl, run, I, ha⟩
  refine et_test (ev_op (ev_var rfl (ev_ownLen rfl (rd_lt ⟨_, rfl, ?_⟩))))
  rw [List.length_map]
  cases m with
  | zero => cases run
  | succ m =>
  refine if_split (fun h => ?_) (fun h => ?_)
  rotate_left
  · have h := of_decide_eq_false h
    have e : fo[a]? = none := List.getElem?_eq_none (by omega)
    rw [fwRun, e] at run
    cases run
    walk_at "go"
    exact hΦ
  have ha2 : a < fo.length := by have := of_decide_eq_true h; omega
  have hx : fo[a]? = some fo[a] := List.getElem?_eq_getElem ha2
  generalize fo[a] = x at hx
  obtain ⟨p1, q1, ex⟩ := encFI_tup x
  refine sw_seq (sw_set (ev_op (ev_ownIx rfl (ev_var rfl ⟨a, rfl, encFI x, at_map hx, ev_int ?_⟩))))
  rw [ex]
  refine rd_ixT0 ?_
  dsimp only [wipeR, List.set_cons_succ, List.set_cons_zero]
  obtain ⟨nx, lx⟩ := I.nodes x (List.mem_of_getElem? hx)
  refine sw_seq (sw_if ?_)
  walk_at "go"
  refine ev_lcP (fun _ => true) (fun j => .bool (fn (itemD x.1 j))) (ei_list (ev_var rfl ⟨_, rfl, ?_⟩))
  refine ⟨by omega, fun j hj => ?_, ?_⟩
  · walk_at "tg"
    refine et_yes ⟨rfl, rfl, fun _ => ?_⟩
    refine ev_callC rfl hf2 (ea_cons (ev_var rfl (ea_nil ⟨rfl, _, rfl, I.ok, nx _ (itemD_mem hj), rfl, rfl⟩)))
  walk_at "go"
  refine rc_any ((List.range x.1.length).map fun j => fn (itemD x.1 j)) (by rw [List.map_map, List.filter_eq_self.mpr fun _ _ => rfl]; rfl) ?_
  rw [any_items]
  refine ⟨_, rfl, ?_⟩
  rw [fwRun, hx] at run
  dsimp only at run
  refine if_split (fun h => ?_) (fun h => ?_)
  · rw [if_pos h] at run
    cases run
    refine sw_freeze 5 rfl ?_
    walk_at "go"
    obtain ⟨w1, w2⟩ := I.words a x hx
    refine rc_pure rfl ⟨fo, a, x.2.2, rfl, w1, ?_, rfl⟩ hΦ
    have := I.few
    omega
  rw [if_neg (by rw [h]; exact Bool.false_ne_true)] at run
  have hs : ((List.range L).foldl (letF aft key x.1 a x.2.2) (k1, sn, fo)).2.1.length ≤ 60000 ∧ ((List.range L).foldl (letF aft key x.1 a x.2.2) (k1, sn, fo)).2.2.length ≤ 60000 :=
    Classical.byContradiction fun hc => by rw [if_neg hc] at run; cases run
  rw [if_pos hs] at run
  have l26 := F.l26
  have c1 : ∀ j, (((List.range L).take j).foldl (letF aft key x.1 a x.2.2) (k1, sn, fo)).2.1.length ≤ 60000 := fun j => Nat.le_trans (fold_take (fun S : γ × List PyData × List FI => S.2.1.length) _ (letF_sn x.1 a x.2.2) _ _ j) hs.1
  have c2 : ∀ j, (((List.range L).take j).foldl (letF aft key x.1 a x.2.2) (k1, sn, fo)).2.2.length ≤ 60000 := fun j => Nat.le_trans (fold_take (fun S : γ × List PyData × List FI => S.2.2.length) _ (letF_fo x.1 a x.2.2) _ _ j) hs.2
  refine sw_nx (sw_seq (sw_forW ?_))
  walk_at "go"
  refine ⟨by omega, by omega, ?_⟩
  refine ⟨fun j ρ k => ∃ S, S = ((List.range L).take j).foldl (letF aft key x.1 a x.2.2) (k1, sn, fo) ∧ ρ = [.dat (nI L), .dat (.list bs), .raw (.ref f1), .raw (.ref f2), .ownN (DN P w) (seenK key S.2.1), .own (S.2.2.map encFI), .dat (nI a), .dat (.list x.1), .no, .no, .no, .no] ∧ k = S.1 ∧
    FwI Ok Nd S.1 S.2.1 S.2.2 ∧ S.2.2[a]? = some x, ⟨_, by walk_at "le", _, rfl, rfl, rfl, I, hx⟩, ?_, ?_⟩
  · rintro j ρ2 kk hj ⟨S, hS, rfl, rfl, IS, hxS⟩
    have hj : j < L := by omega
    have hjr : j < (List.range L).length := by rw [List.length_range]; exact hj
    have hS1 : ((List.range L).take (j + 1)).foldl (letF aft key x.1 a x.2.2) (k1, sn, fo) = letF aft key x.1 a x.2.2 S j := by
      rw [take_fold _ _ _ hjr, ← hS, List.getElem_range]
    have d1 : (letF aft key x.1 a x.2.2 S j).2.1.length ≤ 60000 := by rw [← hS1]; exact c1 (j + 1)
    have d2 : (letF aft key x.1 a x.2.2 S j).2.2.length ≤ 60000 := by rw [← hS1]; exact c2 (j + 1)
    have d3 : ∀ i, ((x.1.take i).foldl (nodeF aft key j) (S.1, S.2.1, [])).2.1.length ≤ 60000 := fun i => Nat.le_trans (fold_take (fun S : γ × List PyData × List PyData => S.2.1.length) _ (fun S t => addT_sn _ _) _ _ i) d1
    walk_at "tg"
    refine sw_seq (sw_own (ea_nil ⟨by simp, ?_⟩))
    refine sw_seq (sw_forW (ei_list (ev_var rfl ⟨_, rfl, ?_⟩)))
    dsimp only [wipeR, List.set_cons_succ, List.set_cons_zero]
    refine ⟨fun i ρ k => ∃ R, R = (x.1.take i).foldl (nodeF aft key j) (S.1, S.2.1, []) ∧ ρ = [.dat (nI L), .dat (.list bs), .raw (.ref f1), .raw (.ref f2), .ownN (DN P w) (seenK key R.2.1), .own (S.2.2.map encFI), .dat (nI a), .dat (.list x.1), .dat (nI j), .own R.2.2, .no, .no] ∧ k = R.1 ∧
      Ok R.1 ∧ (∀ d ∈ R.2.1, Nd d) ∧ (∀ d ∈ R.2.2, Nd d) ∧ R.2.2.length ≤ R.2.1.length, ⟨_, by walk_at "le", _, rfl, rfl, rfl, IS.ok, IS.seen, (fun _ z => nomatch z), Nat.zero_le _⟩, ?_, ?_⟩
    · rintro i ρ3 kk hi ⟨R, hR, rfl, rfl, okR, nR, nT, lT⟩
      have hR1 : (x.1.take (i + 1)).foldl (nodeF aft key j) (S.1, S.2.1, []) = nodeF aft key j R x.1[i] := by rw [take_fold _ _ _ hi, ← hR]
      have ei : itemD x.1 i = x.1[i] := by unfold itemD; simp [hi]
      rw [ei]
      have ndi := nx _ (List.getElem_mem hi)
      have e1 : (nodeF aft key j R x.1[i]).2.1.length ≤ 60000 := by rw [← hR1]; exact d3 (i + 1)
      generalize x.1[i] = d at hR1 ndi e1
      obtain ⟨st1, st2, st3⟩ := F.step R.1 d j okR ndi hj
      have e2 : ∀ t, (((aft R.1 d j).1.take t).foldl (addT key) R.2).1.length ≤ 60000 := fun t => Nat.le_trans (fold_take (fun S : List PyData × List PyData => S.1.length) _ (fun S t => (addT_mono S t).1) _ _ t) e1
      walk_at "tg"
      refine sw_forW (ei_list (ev_callC rfl hf1 (ea_cons (ev_var rfl (ea_cons (ev_var rfl (ea_nil ⟨rfl, d, j, rfl, okR, ndi, hj, _, rfl, ?_⟩)))))))
      refine ⟨fun t ρ k => ∃ q, q = ((aft R.1 d j).1.take t).foldl (addT key) R.2 ∧ ρ = [.dat (nI L), .dat (.list bs), .raw (.ref f1), .raw (.ref f2), .ownN (DN P w) (seenK key q.1), .own (S.2.2.map encFI), .dat (nI a), .dat (.list x.1), .dat (nI j), .own q.2, .dat d, .no] ∧ k = (aft R.1 d j).2 ∧
        (∀ d ∈ q.1, Nd d) ∧ (∀ d ∈ q.2, Nd d) ∧ q.2.length ≤ q.1.length, ⟨_, by walk_at "le", _, rfl, rfl, rfl, nR, nT, lT⟩, ?_, ?_⟩
      · rintro t ρ4 kk ht ⟨q, hq, rfl, rfl, nq1, nq2, lq⟩
        have hq1 : ((aft R.1 d j).1.take (t + 1)).foldl (addT key) R.2 = addT key q (aft R.1 d j).1[t] := by rw [take_fold _ _ _ ht, ← hq]
        have et : itemD (aft R.1 d j).1 t = (aft R.1 d j).1[t] := by unfold itemD; simp [ht]
        have ndt := st2 _ (List.getElem_mem ht)
        have lq1 : q.1.length ≤ 60000 := by rw [hq]; exact e2 t
        rw [et]
        generalize (aft R.1 d j).1[t] = g at hq1 ndt
        walk_at "tg"
        refine sw_if (et_B (ev_nnotin (atN_own rfl) (ev_var rfl ⟨key g, F.isk _ ndt, _, rfl, ?_⟩)))
        rw [look_seenK]
        refine if_split (fun h => ?_) (fun h => ?_)
        · have hn : key g ∉ q.1.map key := by simpa using h
          have eq : addT key q g = (q.1 ++ [g], q.2 ++ [g]) := if_neg hn
          refine sw_seq (sw_nput rfl (ev_bl (ev_var rfl ⟨key g, F.isk _ ndt, by unfold seenK; rw [List.length_map]; omega, ?_⟩)))
          rw [put_seenK hn]
          refine sw_append (ev_var rfl ⟨_, rfl, by omega, ?_⟩) ⟨_, rfl⟩
          rw [eq] at hq1
          dsimp only [List.set_cons_succ, List.set_cons_zero]
          refine ⟨_, by walk_at "le", (q.1 ++ [g], q.2 ++ [g]), hq1.symm, rfl, rfl, ?_, ?_, ?_⟩
          · exact fun y hy => (List.mem_append.mp hy).elim (nq1 y) fun z => by rw [List.mem_singleton.mp z]; exact ndt
          · exact fun y hy => (List.mem_append.mp hy).elim (nq2 y) fun z => by rw [List.mem_singleton.mp z]; exact ndt
          · simp; exact lq
        · have hn : key g ∈ q.1.map key := by simpa using h
          have eq : addT key q g = q := if_pos hn
          refine sw_nx ?_
          exact ⟨_, by walk_at "le", q, by rw [hq1, eq], rfl, rfl, nq1, nq2, lq⟩
      · rintro ρ4 kk ⟨q, hq, rfl, rfl, nq1, nq2, lq⟩
        rw [List.take_length] at hq
        have eR : nodeF aft key j R d = ((aft R.1 d j).2, q) := by rw [hq]; rfl
        rw [eR] at hR1
        exact ⟨_, by walk_at "le", ((aft R.1 d j).2, q), hR1.symm, rfl, rfl, st1, nq1, nq2, lq⟩
    · rintro ρ3 kk ⟨R, hR, rfl, rfl, okR, nR, nT, lT⟩
      rw [List.take_length] at hR
      refine sw_freeze 9 rfl ?_
      dsimp only [List.set_cons_succ, List.set_cons_zero]
      refine sw_if ?_
      walk_at "go"
      have eL : letF aft key x.1 a x.2.2 S j = (R.1, R.2.1, if R.2.2 = [] then S.2.2 else S.2.2 ++ [(R.2.2, some (a, j), x.2.2 ++ [j])]) := by rw [hR]; rfl
      have lR : R.2.1.length ≤ 60000 := by have := d3 x.1.length; rw [List.take_length, ← hR] at this; exact this
      have haS : a < S.2.2.length := (List.getElem?_eq_some_iff.mp hxS).1
      refine ⟨by first | exact True.intro | (show _ ≤ _; omega), ?_⟩
      refine if_split (fun h => ?_) (fun h => ?_)
      · have hne : R.2.2 ≠ [] := fun e => by rw [e] at h; cases h
        rw [if_neg hne] at eL
        refine sw_append (ev_tup (ea_cons (ev_var rfl (ea_cons (ev_var rfl (ea_cons (ev_var rfl (ea_nil ⟨by simp, _, rfl, ?_, ?_⟩)))))))) ⟨_, rfl⟩
        · rw [List.length_map]; have := IS.few; omega
        have em : (S.2.2 ++ [(R.2.2, some (a, j), x.2.2 ++ [j])]).map encFI = S.2.2.map encFI ++ [.tuple [.list R.2.2, nI a, nI j]] := by rw [List.map_append]; rfl
        rw [← em]
        dsimp only [List.set_cons_succ, List.set_cons_zero]
        rw [eL] at hS1 d2
        refine ⟨_, by walk_at "le", (R.1, R.2.1, S.2.2 ++ [(R.2.2, some (a, j), x.2.2 ++ [j])]), hS1.symm, rfl, rfl, ⟨okR, nR, fun y hy => ?_, fun i y hy => ?_, d2⟩, ?_⟩
        · rcases List.mem_append.mp hy with hy | hy
          · exact IS.nodes y hy
          · rw [List.mem_singleton.mp hy]
            exact ⟨nT, by show R.2.2.length ≤ _; omega⟩
        · obtain ⟨w1, w2⟩ := IS.words a x hxS
          by_cases hi : i < S.2.2.length
          · rw [List.getElem?_append_left hi] at hy
            obtain ⟨v1, v2⟩ := IS.words i y hy
            exact ⟨by rw [List.map_append]; exact v1.more _, v2⟩
          · have hi2 : i = S.2.2.length := by
              have := (List.getElem?_eq_some_iff.mp hy).1
              rw [List.length_append, List.length_singleton] at this
              omega
            subst hi2
            rw [List.getElem?_append_right (Nat.le_refl _), Nat.sub_self] at hy
            cases hy
            refine ⟨.snoc (k := a) ?_ haS (by omega) ?_, by show (x.2.2 ++ [j]).length ≤ _; simp; omega⟩
            · rw [List.map_append, List.getElem?_append_right (by simp)]
              simp
            · rw [List.map_append]
              exact w1.more _
        · rw [List.getElem?_append_left haS]
          exact hxS
      · have he : R.2.2 = [] := by
          cases e : R.2.2 with
          | nil => rfl
          | cons => rw [e] at h; cases h
        rw [if_pos he] at eL
        rw [eL] at hS1
        refine sw_nx ?_
        exact ⟨_, by walk_at "le", (R.1, R.2.1, S.2.2), hS1.symm, rfl, rfl, ⟨okR, nR, IS.nodes, IS.words, IS.few⟩, hxS⟩
  · rintro ρ2 kk ⟨S, hS, rfl, rfl, IS, hxS⟩
    refine sw_aug ⟨_, rfl⟩ (ev_int ⟨_, 1, rfl, rfl, ?_⟩)
    have e0 : (List.range L).take (((L : Nat) : Int)).toNat = List.range L := by
      rw [show ((L : Nat) : Int).toNat = L from by omega]
      exact List.take_of_length_le (by rw [List.length_range]; exact Nat.le_refl _)
    rw [e0] at hS
    rw [← hS] at run
    have haS : a < S.2.2.length := (List.getElem?_eq_some_iff.mp hxS).1
    exact ⟨m, by omega, S.2.1, S.2.2, a + 1, _, _, _, _, _, rfl, run, IS, haS⟩
end

-- SPLIT
def nodeA (s : Nat) (v : Int) : PyData := .tuple [nI s, .int v]
def keyA : PyData → NestedKey | .tuple [.int s, .int v] => .tup [.num s, .num v] | _ => .none
theorem keyA_is (s : Nat) (v : Int) : IsK (nodeA s v) (keyA (nodeA s v)) := ⟨⟨_, rfl⟩, rfl, by show NestedKey.depth (.tup [.num _, .num _]) ≤ 8; simp [NestedKey.depth, NestedKey.depthAll]⟩
def bestA (best : List PyData) (j : Nat) (total : Int) : List PyData × List PyData := match best[j]? with
  | some (.int b) => if b ≥ total then ([], best) else ([nodeA j total], best.set j (.int total))
  | _ => ([nodeA j total], best.set j (.int total))
def aftA (stp : Nat → Nat → Option Nat) (fm : List Int) (k : List PyData) (d : PyData) (le : Nat) : List PyData × List PyData := match d with
  | .tuple [.int s, .int so] => match stp s.toNat le with
    | none => ([], k)
    | some j => bestA k j (so + fm.getD le 0)
  | _ => ([], k)
def finA (lst : List Bool) (b : Int) : PyData → Bool | .tuple [.int s, .int so] => lst.getD s.toNat false && decide (b < so) | _ => false
def bOk (k : List PyData) : Prop := ∀ x ∈ k, x = .none ∨ ∃ i, x = .int i
section
variable {K : PySem.W.Frag} {γ : Type} {W : Wd γ} {ρ : Rho} {k : γ} {Φ : PyData → γ → Prop}
theorem rd_ixQ {x : PyData} {ds : List PyData} {i : Int} {j : Nat} {d : PyData} (hx : x = .list ds ∨ x = .tuple ds) (hi : i = (j : Int)) (h : ds[j]? = some d) (q : Φ d k) : RD K W (rIx K) x (.int i) ρ k Φ := fun L0 H0 L H σ vx vy S tx ty Q c => by
  rcases hx with rfl | rfl
  · exact .inl (rd_ixL hi h q L0 H0 L H σ vx vy S tx ty Q c)
  · exact .inr (.inl (rd_ixT hi h q L0 H0 L H σ vx vy S tx ty Q c))
end
section
variable {P : Program} {w : World} {K : PySem.W.Frag} {mg : Str → Option Value} {base : Heap} {A : Adrs}
def R_endA (ds : List PyData) (r : PyData) : Prop := ∃ (st : Nat) (so b : Int) (lst : List Bool), ds = [nodeA st so, .list (lst.map .bool), .int b] ∧ st < lst.length ∧ r = .bool (finA lst b (nodeA st so))
theorem ok_above__is_end (T : Txt K mg A) (B : Tbs base mg A) : ∀ (cl : List (Str × Addr)) (f c : Addr), NOk P w K mg base L2.CX0 1 f (NF.of inn_above__is_end "is_end" ("above.<locals>." ++ "is_end") cl c) ["node"] ["ends", "bound"] (spN 1 (spP K 3 R_endA)) := by
  intro cl f c
  refine innerOk (N := N_above__is_end) sc_above__is_end (fun _ _ _ us hl => match us, hl with | [_], _ => rfl) (fun Ar outer s H vs Q E hr h => ?_)
  refine ⟨_, (pss_one (ps_ret (pe_and (pe_ix (kIxL K) (pv 1) (pe_ix (kIxT K) (pv 0) pe_int (fun _ _ => rfl)) (fun _ _ => rfl)) (pe_one (pe_cmpR op_gt (pe_ix (kIxT K) (pv 0) pe_int (fun _ _ => rfl)) (pv 2) (nomark _)))))), ?_⟩
  refine spP.ok h fun W ds r hR => ?_
  obtain ⟨st, so, b, lst, rfl, he, rfl⟩ := hR
  have hg : lst[st]? = some (lst.getD st false) := by rw [List.getD_eq_getElem?_getD, List.getElem?_eq_getElem he]; rfl
  have ef : finA lst b (nodeA st so) = (lst.getD st false && decide (b < so)) := rfl
  rw [ef]
  rw [show nodeA st so = PyData.tuple [nI st, .int so] from rfl]
  walk_at "st"
  walk_at "go"
  refine rd_ixL rfl (at_map hg) ?_
  walk_at "go"
  generalize lst.getD st false = e
  cases e with
  | false => exact rfl
  | true =>
    walk_at "go"
    rfl
def R_aftA (k : List PyData) (ds : List PyData) (Φ : PyData → List PyData → Prop) : Prop := ∃ (st le : Nat) (so : Int) (rowsD cells : List PyData) (x : PyData) (fm : List Int) (stp : Nat → Nat → Option Nat),
  ds = [nodeA st so, nI le, .list rowsD, .tuple (fm.map .int)] ∧ rowsD[st]? = some x ∧ (x = .list cells ∨ x = .tuple cells) ∧ cells[le]? = some (optD (stp st le)) ∧ le < fm.length ∧ (∀ j, stp st le = some j → j < k.length) ∧ bOk k ∧
  Φ (.list (aftA stp fm k (nodeA st so) le).1) (aftA stp fm k (nodeA st so) le).2
theorem ok_above__after (T : Txt K mg A) (B : Tbs base mg A) : ∀ (cl : List (Str × Addr)) (f c : Addr), NOk P w K mg base L2.CX0 1 f (NF.of inn_above__after "after" ("above.<locals>." ++ "after") cl c) ["node", "letter"] ["rows", "form", "best"] (spN 2 (spB K 5 (listBox K) R_aftA)) := by
  intro cl f c
  refine innerOk (N := N_above__after) sc_above__after (fun _ _ _ us hl => match us, hl with | [_, _], _ => rfl) (fun Ar outer s H vs Q E hr h => ?_)
  refine ⟨_, (pss_cons (ps_asg (pv 0) (kTgT K (n := 2) (by rfl) (pgs_cons (pg_name (i := 5) sc_above__after.nd rfl (Or.inl rfl)) (pgs_cons (pg_name (i := 6) sc_above__after.nd rfl (Or.inl rfl)) pgs_nil))))
    (pss_cons (ps_set (i := 7) sc_above__after.nd rfl (Or.inl rfl) (pe_ix (kIxQ K) (pe_ix (kIxL K) (pv 2) (pv 5) (fun _ _ => rfl)) (pv 1) (fun _ _ => rfl)))
    (pss_cons (ps_if (pt_cmpR op_isN (pv 7) pe_non (nomark _)) (pss_one (ps_ret (pe_lst pa_nil)))
    pss_nil)
    (pss_cons (ps_set (i := 8) sc_above__after.nd rfl (Or.inl rfl) (pe_op op_add (pv 6) (pe_ix (kIxT K) (pv 3) (pv 1) (fun _ _ => rfl))))
    (pss_cons (ps_if (PW.pt (pw_and (pt_cmpR op_notN (pe_ix (kIxL K) (pv 4) (pv 7) (fun _ _ => rfl)) pe_non (nomark _)) (pw_and1 (pt_cmpR op_ge (pe_ix (kIxL K) (pv 4) (pv 7) (fun _ _ => rfl)) (pv 8) (nomark _))))) (pss_one (ps_ret (pe_lst pa_nil)))
    pss_nil)
    (pss_cons (ps_asg (pv 8) (pg_sub (pv 4) (pv 7) set_list))
    (pss_one (ps_ret (pe_lst (pa_cons (pe_tup (pa_cons (pv 7) (pa_cons (pv 8) pa_nil))) pa_nil)))))))))), ?_⟩
  refine spB.ok h fun l M Hs tr hl ds k Φ hR => ?_
  obtain ⟨st, le, so, rowsD, cells, x, fm, stp, rfl, hr1, hx, hr2, hf, hj, hb, hq⟩ := hR
  have hfm : fm[le]? = some (fm.getD le 0) := by rw [List.getD_eq_getElem?_getD, List.getElem?_eq_getElem hf]; rfl
  have ea : aftA stp fm k (nodeA st so) le = match stp st le with | none => ([], k) | some j => bestA k j (so + fm.getD le 0) := rfl
  rw [ea] at hq
  rw [show nodeA st so = PyData.tuple [nI st, .int so] from rfl]
  simp only [restX, List.map_cons, List.map_nil, List.length_cons, List.length_nil, List.cons_append, List.nil_append, Nat.reduceAdd, Nat.reduceSub, Nat.zero_add, Nat.sub_self, List.replicate, slotX]
  walk_at "go"
  refine rd_ixL rfl hr1 ?_
  walk_at "go"
  refine rd_ixQ hx rfl hr2 ?_
  walk_at "go"
  cases e : stp st le with
  | none =>
    rw [e] at hq
    rw [show isNone (optD none) = true from rfl]
    refine if_split (fun _ => ?_) (fun z => by cases z)
    walk_at "go"
    exact hq
  | some j =>
    rw [e] at hq
    dsimp only at hq
    rw [show isNone (optD (some j)) = false from rfl]
    refine if_split (fun z => by cases z) (fun _ => ?_)
    have jl := hj j e
    have hkj : k[j]? = some k[j] := List.getElem?_eq_getElem jl
    have hbj := hb _ (List.getElem_mem jl)
    unfold bestA at hq
    rw [hkj] at hq
    generalize k[j] = o at hkj hbj hq
    rw [show optD (some j) = nI j from rfl]
    walk_at "go"
    refine rd_ixT rfl (at_map hfm) ?_
    walk_at "go"
    refine ⟨o, hkj, ?_⟩
    walk_at "go"
    generalize so + fm.getD le 0 = total at hq
    rcases hbj with rfl | ⟨b, rfl⟩
    · rw [show (!isNone .none) = false from rfl]
      refine if_split (fun z => by cases z) (fun _ => ?_)
      walk_at "go"
      refine ⟨jl, ?_⟩
      walk_at "go"
      exact hq
    · rw [show (!isNone (.int b)) = true from rfl]
      refine if_split (fun _ => ?_) (fun z => by cases z)
      walk_at "go"
      refine ⟨_, hkj, ?_⟩
      walk_at "go"
      refine if_split (fun h => ?_) (fun h => ?_)
      · have h := of_decide_eq_true h
        dsimp only at hq
        rw [if_pos (show b ≥ total from h)] at hq
        walk_at "go"
        exact hq
      · have h := of_decide_eq_false h
        dsimp only at hq
        rw [if_neg (show ¬ b ≥ total from h)] at hq
        walk_at "go"
        refine ⟨jl, ?_⟩
        walk_at "go"
        exact hq
def stpA (L N : Nat) (rows : List (List (Option Nat))) (Av Bv : List Bool) (s c : Nat) : Option Nat := (trRow L rows Av Bv s).getD c none
def best0 (N : Nat) : List PyData := (List.replicate N PyData.none).set 0 (.int 0)
def R_above (ds : List PyData) (r : PyData) : Prop := ∃ (L N : Nat) (rows : List (List (Option Nat))) (ends : List Bool) (fm : List Int) (b : Int) (res : Option (List Nat)), ds = [kindD L rows ends, .tuple (fm.map .int), .int b] ∧ KOk L N rows ends ∧ fm.length = L ∧ r = encW res ∧
  ∀ Av Bv, Trims N rows ends Av Bv → ∃ fuel k2, fwRun (aftA (stpA L N rows Av Bv) fm) (finA (lastOf N ends Av) b) keyA L fuel (best0 N) [nodeA 0 0] [([nodeA 0 0], none, [])] 0 = some (res, k2)
theorem cloSp_imp {γ : Type} {W : Wd γ} {n : Nat} {R R' : γ → List PyData → (PyData → γ → Prop) → Prop} {vs : List V} {H : Hp} {Q : VK} {E : XK} (h : cloSp K W n R vs H Q E) (hi : ∀ k ds Φ, R k ds Φ → R' k ds Φ) : cloSp K W n R' vs H Q E := by
  obtain ⟨N, k, ds, Φ, h1, h2, h3, h4, h5, h6, h7⟩ := h
  exact ⟨N, k, ds, Φ, h1, h2, h3, h4, h5, hi _ _ _ h6, h7⟩
theorem trRow_len {L N : Nat} {rows : List (List (Option Nat))} {ends Av Bv : List Bool} (ok : KOk L N rows ends) {s : Nat} (hs : s < N) : (trRow L rows Av Bv s).length = L := by
  unfold trRow
  split
  · rw [List.length_map]
    have hs2 : s < rows.length := by rw [ok.lr]; exact hs
    rw [List.getD_eq_getElem?_getD, List.getElem?_eq_getElem hs2]
    exact (ok.row _ (List.getElem_mem hs2)).1
  · simp
theorem stpA_lt {L N : Nat} {rows : List (List (Option Nat))} {ends Av Bv : List Bool} (ok : KOk L N rows ends) {s c j : Nat} (hs : s < N) (h : stpA L N rows Av Bv s c = some j) : j < N := by
  unfold stpA trRow at h
  split at h
  · have hs2 : s < rows.length := by rw [ok.lr]; exact hs
    rw [List.getD_eq_getElem?_getD, List.getElem?_map] at h
    cases e : (rows.getD s [])[c]? with
    | none => rw [e] at h; cases h
    | some t =>
      rw [e] at h
      cases t with
      | none => cases h
      | some t =>
        have hk : keepB Bv (some t) = some j := h
        have et : t = j := by
          by_cases hb : Bv.getD t false = true
          · rw [show keepB Bv (some t) = some t from if_pos hb] at hk
            exact Option.some.inj hk
          · rw [show keepB Bv (some t) = none from if_neg hb] at hk
            cases hk
        subst et
        have hm : some t ∈ rows.getD s [] := List.mem_of_getElem? e
        rw [List.getD_eq_getElem?_getD, List.getElem?_eq_getElem hs2] at hm
        exact (ok.row _ (List.getElem_mem hs2)).2 t hm
  · rw [List.getD_eq_getElem?_getD, List.getElem?_replicate] at h
    split at h <;> cases h
def OkA (N : Nat) (k : List PyData) : Prop := k.length = N ∧ bOk k
def NdA (N : Nat) (d : PyData) : Prop := ∃ (s : Nat) (v : Int), d = nodeA s v ∧ s < N
theorem bestA_ok {N : Nat} {k : List PyData} {j : Nat} {v : Int} (hk : OkA N k) (hj : j < N) : OkA N (bestA k j v).2 ∧ (∀ t ∈ (bestA k j v).1, NdA N t) ∧ (bestA k j v).1.length ≤ 10000 := by
  have up : OkA N (k.set j (.int v)) := ⟨by rw [List.length_set]; exact hk.1, fun x hx => by
    rcases List.mem_or_eq_of_mem_set hx with h | h
    · exact hk.2 x h
    · exact .inr ⟨v, h⟩⟩
  have one : ∀ t ∈ [nodeA j v], NdA N t := fun t ht => ⟨j, v, List.mem_singleton.mp ht, hj⟩
  unfold bestA
  split
  · split
    · exact ⟨hk, (fun _ z => nomatch z), by simp⟩
    · exact ⟨up, one, by simp⟩
  · exact ⟨up, one, by simp⟩
theorem fwA {L N : Nat} {rows : List (List (Option Nat))} {ends Av Bv : List Bool} (ok : KOk L N rows ends) (fm : List Int) (b : Int) : Fw (aftA (stpA L N rows Av Bv) fm) (finA (lastOf N ends Av) b) keyA (OkA N) (NdA N) L [nodeA 0 0] (best0 N) where
  l26 := by have := ok.l4; omega
  ok := ⟨by simp [best0], fun x hx => by
    rcases List.mem_or_eq_of_mem_set hx with h | h
    · exact .inl (List.mem_replicate.mp h).2
    · exact .inr ⟨0, h⟩⟩
  step := fun k d le hk hd hl => by
    obtain ⟨s, v, rfl, hs⟩ := hd
    have ea : aftA (stpA L N rows Av Bv) fm k (nodeA s v) le = match stpA L N rows Av Bv s le with | none => ([], k) | some j => bestA k j (v + fm.getD le 0) := rfl
    rw [ea]
    cases e : stpA L N rows Av Bv s le with
    | none => exact ⟨hk, (fun _ z => nomatch z), by simp⟩
    | some j => exact bestA_ok hk (stpA_lt ok hs e)
  nd := fun d hd => ⟨0, 0, List.mem_singleton.mp hd, ok.n1⟩
  isk := fun d hd => by
    obtain ⟨s, v, rfl, _⟩ := hd
    exact keyA_is s v
  dif := by simp
  few := by simp
theorem ok_above (T : Txt K mg A) (B : Tbs base mg A) : FnOk P w K mg base CX0 7 A.f_above A.d_above ["kind", "form", "bound"] (spT K (TT A) 3 R_above) := by
  have G_trimmed : FnOk P w K mg base CX0 3 A.f_trimmed A.d_trimmed ["kind"] (spQ K 1 R_trimmed) := ok_trimmed T B
  have G_first_word : FnOk P w K mg base CX0 4 A.f_first_word A.d_first_word ["letters", "begins", "after", "is_end"] (spX K 4 (R_fw P w K mg base)) := ok_first_word T B
  refine T.C_above.ok sc_above (fun vs H Q E h => ?_) (fun Ar outer s H vs Q E hr h => ?_)
  · exact spT.len h
  refine ⟨_, (pss_cons (ps_asg (pe_call G_trimmed (hr.mono (by first | decide | omega)) rfl T.m_trimmed T.k_trimmed T.b_trimmed .nil pass0 (pa_cons (pv 0) pa_nil)) (kTgT K (n := 3) (by rfl) (pgs_cons (pg_name (i := 3) sc_above.nd rfl (Or.inl rfl)) (pgs_cons (pg_name (i := 4) sc_above.nd rfl (Or.inr rfl)) (pgs_cons (pg_name (i := 5) sc_above.nd rfl (Or.inr rfl)) pgs_nil)))))
    (pss_cons (ps_set (i := 6) sc_above.nd rfl (Or.inr rfl) (pe_op op_rep (pe_lst (pa_cons pe_non pa_nil)) (pe_callB (id := "len") (kLenQ K) (by rfl) T.z_len (by decide +kernel) (pa_cons (pv 4) pa_nil))))
    (pss_cons (ps_asg pe_int (pg_sub (pv 6) pe_int set_list))
    (pss_cons (ps_ndefX (st := inn_above__after) (i := 7) (by rfl) B.t_above rfl fre_above__after rfl rfl rfl sc_above.nd rfl (Or.inl rfl) (Or.inl rfl))
    (pss_cons (ps_ndefX (st := inn_above__is_end) (i := 8) (by rfl) B.t_above rfl fre_above__is_end rfl rfl rfl sc_above.nd rfl (Or.inl rfl) (Or.inl rfl))
    (pss_one (ps_ret (pe_callL (l := [(_, ["rows", "form", "best"], [4, 1, 6]), (_, ["ends", "bound"], [5, 2])]) (fun _ => rfl) G_first_word (hr.mono (by first | decide | omega)) rfl T.m_first_word T.k_first_word T.b_first_word (fun ok => List.forall_mem_cons.mpr ⟨Caps.made ok fre_above__after frm_above__after rfl, List.forall_mem_cons.mpr ⟨Caps.made ok fre_above__is_end frm_above__is_end rfl, fun _ h => nomatch h⟩⟩) (pa_cons (pv 3) (pa_cons (pe_lst (pa_cons (pe_tup (pa_cons pe_int (pa_cons pe_int pa_nil))) pa_nil)) (pa_cons (pv 7) (pa_cons (pv 8) pa_nil)))))))))))), ?_⟩
  refine spT.ok h fun W hW ds r hR => ?_
  obtain ⟨L, N, rows, ends, fm, b, res, rfl, ok, hfm, rfl, hrun⟩ := hR
  have n1 := ok.n1
  have n9 := ok.n9
  walk_at "st"
  walk_at "go"
  refine rc_q rfl ⟨L, N, rows, ends, rfl, ok, rfl⟩ ?_
  rintro _ ⟨Av, Bv, rfl, tr⟩
  obtain ⟨fuel, k2, run⟩ := hrun Av Bv tr
  rw [show trimD L N rows ends Av Bv = .tuple [nI L, .list ((List.range N).map (trD L rows Av Bv)), .list ((lastOf N ends Av).map PyData.bool)] from rfl]
  walk_at "go"
  refine ⟨by simp; omega, ?_⟩
  refine sw_seq (sw_setL ?_ ⟨_, rfl⟩)
  walk_at "go"
  refine ⟨_, 0, rfl, rfl, by simp; omega, ?_⟩
  try dsimp only [List.set_cons_succ, List.set_cons_zero]
  refine sw_seq (sw_ndef (T := TT A) (nm := nm_above) (by simp [TT]) (by intro p hp e; simp [TT] at hp; rw [hp]) (fun c => by rfl) ?_)
  refine sw_seq (sw_ndef (T := TT A) (nm := nm_above) (by simp [TT]) (by intro p hp e; simp [TT] at hp; rw [hp]) (fun c => by rfl) ?_)
  try dsimp only [List.set_cons_succ, List.set_cons_zero]
  have eb : (List.replicate ((List.range N).map (trD L rows Av Bv)).length PyData.none).set 0 (.int 0) = best0 N := by rw [List.length_map, List.length_range]; rfl
  rw [eb]
  refine sw_retLB (i := 6) (s0 := .own _) rfl rfl (listBox K) (fun o L N H h => own_box o L N H h) ?_
  refine ey_dat ?_
  walk_at "go"
  refine ey_dat ?_
  walk_at "go"
  refine ey_fn rfl (ey_fn rfl (ey_nil ?_))
  refine ⟨rfl, fun ax Wc isf mt fns pur box => ?_⟩
  cases mt with
  | dat mt => cases mt with
    | dat mt => cases mt with
      | fn i1 mt => cases mt with
        | fn i2 mt =>
          cases mt
          obtain ⟨c1, b1⟩ := box _ List.mem_cons_self [4, 1] [.list ((List.range N).map (trD L rows Av Bv)), .tuple (fm.map .int)] rfl rfl _ _ i1 (fun c => ⟨rfl, rfl⟩)
          obtain ⟨c2, b2⟩ := pur _ (List.mem_cons_of_mem _ List.mem_cons_self) [.list ((lastOf N ends Av).map PyData.bool), .int b] rfl _ _ i2 (fun c => ⟨rfl, rfl⟩)
          refine ⟨_, _, L, [nodeA 0 0], aftA (stpA L N rows Av Bv) fm, finA (lastOf N ends Av) b, keyA, OkA N, NdA N, fuel, res, k2, rfl,
            (((clo_of (ok_above__after T B _ _ c1)).more (by decide)).imp (b1 2 R_aftA)).imp (fun vs H Q E h => cloSp_imp h ?_), (((clo_of (ok_above__is_end T B _ _ c2)).more (by decide)).imp (b2 1 R_endA)).imp (fun vs H Q E h => cloSp_imp h ?_), fns _ _ i1, fns _ _ i2, fwA ok fm b, run, rfl⟩
          · rintro k ds Φ ⟨d, le, rfl, okk, ⟨s, v, rfl, hs⟩, hl, hq⟩
            refine ⟨s, le, v, (List.range N).map (trD L rows Av Bv), (trRow L rows Av Bv s).map optD, trD L rows Av Bv s, fm, stpA L N rows Av Bv, rfl, ?_, ?_, ?_, by omega, fun j e => by rw [okk.1]; exact stpA_lt ok hs e, okk.2, hq⟩
            · rw [List.getElem?_map, List.getElem?_range hs]; rfl
            · unfold trD
              split
              · exact .inl rfl
              · exact .inr rfl
            · have hl2 : le < (trRow L rows Av Bv s).length := by rw [trRow_len ok hs]; exact hl
              rw [List.getElem?_map, List.getElem?_eq_getElem hl2]
              unfold stpA
              rw [List.getD_eq_getElem?_getD, List.getElem?_eq_getElem hl2]
              rfl
          · rintro k ds Φ ⟨d, rfl, okk, ⟨s, v, rfl, hs⟩, hq⟩
            exact ⟨_, ⟨s, v, b, lastOf N ends Av, rfl, by unfold lastOf; rw [List.length_map, List.length_range]; exact hs, rfl⟩, hq⟩
end

-- SPLIT
/-! ### above's search with a queue of (state, sum, word) -/
abbrev QN := Nat × Int × List Nat
def qNode (n : QN) : PyData := nodeA n.1 n.2.1
def qStep (stp : Nat → Nat → Option Nat) (fm : List Int) (s : Nat) (v : Int) (w : List Nat) (S : List PyData × List QN) (le : Nat) : List PyData × List QN := match stp s le with
  | none => S
  | some t => if (bestA S.1 t (v + fm.getD le 0)).1 = [] then S else ((bestA S.1 t (v + fm.getD le 0)).2, S.2 ++ [(t, v + fm.getD le 0, w ++ [le])])
def qRun (stp : Nat → Nat → Option Nat) (fm : List Int) (lst : List Bool) (b : Int) (L : Nat) : Nat → List PyData → List QN → Nat → Option (Option (List Nat))
  | 0, _, _, _ => none
  | f + 1, k, q, a => match q[a]? with
    | none => some none
    | some n => if (lst.getD n.1 false && decide (b < n.2.1)) = true then some (some n.2.2) else
      if ((List.range L).foldl (qStep stp fm n.1 n.2.1 n.2.2) (k, q)).2.length ≤ 60000 then qRun stp fm lst b L f ((List.range L).foldl (qStep stp fm n.1 n.2.1 n.2.2) (k, q)).1 ((List.range L).foldl (qStep stp fm n.1 n.2.1 n.2.2) (k, q)).2 (a + 1) else none
/-- each node of the queue is below what is best at its state -/
structure QI (N : Nat) (k : List PyData) (q : List QN) : Prop where
  len : k.length = N
  ok : bOk k
  low : ∀ n ∈ q, ∃ m : Int, k[n.1]? = some (.int m) ∧ n.2.1 ≤ m
/-- the queue and the lists that are found -/
structure QF (q : List QN) (sn : List PyData) (fo : List FI) : Prop where
  seen : sn = q.map qNode
  nodes : fo.map (fun x => x.1) = q.map fun n => [qNode n]
  words : fo.map (fun x => x.2.2) = q.map fun n => n.2.2
theorem nodeA_key {s t : Nat} {v u : Int} (h : keyA (nodeA s v) = keyA (nodeA t u)) : s = t ∧ v = u := by
  have h : NestedKey.tup [.num (s : Int), .num v] = NestedKey.tup [.num (t : Int), .num u] := h
  injection h with h
  injection h with h1 h2
  injection h1 with h1
  injection h2 with h2 h3
  injection h2 with h2
  exact ⟨by omega, h2⟩
theorem bestA_cases {k : List PyData} {t : Nat} {total : Int} (hb : bOk k) (ht : t < k.length) :
    (∃ m : Int, k[t]? = some (.int m) ∧ total ≤ m ∧ bestA k t total = ([], k)) ∨ ((∀ m : Int, k[t]? = some (.int m) → m < total) ∧ bestA k t total = ([nodeA t total], k.set t (.int total))) := by
  have e : k[t]? = some k[t] := List.getElem?_eq_getElem ht
  rcases hb _ (List.getElem_mem ht) with h | ⟨m, h⟩
  · rw [h] at e
    refine .inr ⟨fun m hm => (by rw [e] at hm; cases hm), ?_⟩
    unfold bestA
    rw [e]
  · rw [h] at e
    by_cases c : total ≤ m
    · refine .inl ⟨m, e, c, ?_⟩
      unfold bestA
      rw [e]
      exact if_pos c
    · refine .inr ⟨fun m' hm => (by rw [e] at hm; cases hm; omega), ?_⟩
      unfold bestA
      rw [e]
      exact if_neg c
theorem q_letF {stp : Nat → Nat → Option Nat} {fm : List Int} {N : Nat} {s : Nat} {v : Int} {w : List Nat} {a le : Nat} {k : List PyData} {q : List QN} {sn : List PyData} {fo : List FI} (hst : ∀ j, stp s le = some j → j < N) (I : QI N k q) (F : QF q sn fo) :
    QI N (qStep stp fm s v w (k, q) le).1 (qStep stp fm s v w (k, q) le).2 ∧
    (letF (aftA stp fm) keyA [nodeA s v] a w (k, sn, fo) le).1 = (qStep stp fm s v w (k, q) le).1 ∧
    QF (qStep stp fm s v w (k, q) le).2 (letF (aftA stp fm) keyA [nodeA s v] a w (k, sn, fo) le).2.1 (letF (aftA stp fm) keyA [nodeA s v] a w (k, sn, fo) le).2.2 := by
  have ea : aftA stp fm k (nodeA s v) le = match stp s le with | none => ([], k) | some j => bestA k j (v + fm.getD le 0) := rfl
  have el : letF (aftA stp fm) keyA [nodeA s v] a w (k, sn, fo) le = ((aftA stp fm k (nodeA s v) le).2, ((aftA stp fm k (nodeA s v) le).1.foldl (addT keyA) (sn, [])).1,
    if ((aftA stp fm k (nodeA s v) le).1.foldl (addT keyA) (sn, [])).2 = [] then fo else fo ++ [(((aftA stp fm k (nodeA s v) le).1.foldl (addT keyA) (sn, [])).2, some (a, le), w ++ [le])]) := rfl
  cases e : stp s le with
  | none =>
    have hA : aftA stp fm k (nodeA s v) le = ([], k) := by rw [ea, e]
    have hQ : qStep stp fm s v w (k, q) le = (k, q) := by unfold qStep; rw [e]
    rw [el, hA, hQ]
    exact ⟨I, rfl, F⟩
  | some t =>
    have ht := hst t e
    have hA : aftA stp fm k (nodeA s v) le = bestA k t (v + fm.getD le 0) := by rw [ea, e]
    have hQ : qStep stp fm s v w (k, q) le = if (bestA k t (v + fm.getD le 0)).1 = [] then (k, q) else ((bestA k t (v + fm.getD le 0)).2, q ++ [(t, v + fm.getD le 0, w ++ [le])]) := by unfold qStep; rw [e]
    rcases bestA_cases (t := t) (total := v + fm.getD le 0) I.ok (by rw [I.len]; exact ht) with ⟨m, h1, h2, h3⟩ | ⟨h1, h3⟩
    · rw [h3] at hA hQ
      rw [el, hA, hQ]
      exact ⟨I, rfl, F⟩
    · rw [h3] at hA hQ
      rw [if_neg (by simp)] at hQ
      rw [el, hA, hQ]
      clear hA hQ el ea h3
      generalize v + fm.getD le 0 = total at h1
      dsimp only
      have hn : keyA (nodeA t total) ∉ sn.map keyA := fun hm => by
        rw [F.seen, List.map_map] at hm
        obtain ⟨n, hn, e2⟩ := List.mem_map.mp hm
        obtain ⟨e3, e4⟩ := nodeA_key (show keyA (nodeA n.1 n.2.1) = keyA (nodeA t total) from e2)
        obtain ⟨m, g1, g2⟩ := I.low n hn
        rw [e3] at g1
        have := h1 m g1
        omega
      have ead : ([nodeA t total] : List PyData).foldl (addT keyA) (sn, []) = (sn ++ [nodeA t total], [nodeA t total]) := if_neg hn
      rw [ead, if_neg (by simp)]
      have htk : t < k.length := by rw [I.len]; exact ht
      refine ⟨⟨by rw [List.length_set]; exact I.len, fun x hx => ?_, fun n hn => ?_⟩, rfl, ⟨?_, ?_, ?_⟩⟩
      · rcases List.mem_or_eq_of_mem_set hx with h | h
        · exact I.ok x h
        · exact .inr ⟨total, h⟩
      · rcases List.mem_append.mp hn with hn | hn
        · obtain ⟨m, g1, g2⟩ := I.low n hn
          by_cases et : n.1 = t
          · rw [et] at g1
            have := h1 m g1
            exact ⟨total, by rw [et]; simp [htk], by omega⟩
          · exact ⟨m, by rw [List.getElem?_set_ne (fun z => et z.symm)]; exact g1, g2⟩
        · rw [List.mem_singleton.mp hn]
          exact ⟨total, by simp [htk], Int.le_refl _⟩
      · rw [F.seen, List.map_append]; rfl
      · rw [List.map_append, List.map_append, F.nodes]; rfl
      · rw [List.map_append, List.map_append, F.words]; rfl
theorem q_fold {stp : Nat → Nat → Option Nat} {fm : List Int} {N : Nat} {s : Nat} {v : Int} {w : List Nat} {a : Nat} (hst : ∀ c j, stp s c = some j → j < N) : ∀ (ls : List Nat) (k : List PyData) (q : List QN) (sn : List PyData) (fo : List FI), QI N k q → QF q sn fo →
    QI N (ls.foldl (qStep stp fm s v w) (k, q)).1 (ls.foldl (qStep stp fm s v w) (k, q)).2 ∧ (ls.foldl (letF (aftA stp fm) keyA [nodeA s v] a w) (k, sn, fo)).1 = (ls.foldl (qStep stp fm s v w) (k, q)).1 ∧
    QF (ls.foldl (qStep stp fm s v w) (k, q)).2 (ls.foldl (letF (aftA stp fm) keyA [nodeA s v] a w) (k, sn, fo)).2.1 (ls.foldl (letF (aftA stp fm) keyA [nodeA s v] a w) (k, sn, fo)).2.2
  | [], k, q, sn, fo, I, F => ⟨I, rfl, F⟩
  | le :: ls, k, q, sn, fo, I, F => by
    obtain ⟨I1, e1, F1⟩ := q_letF (fm := fm) (v := v) (w := w) (a := a) (hst le) I F
    have := q_fold (fm := fm) (v := v) (w := w) (a := a) hst ls _ _ _ _ I1 F1
    rw [List.foldl_cons, List.foldl_cons]
    have ez : letF (aftA stp fm) keyA [nodeA s v] a w (k, sn, fo) le = ((qStep stp fm s v w (k, q) le).1, (letF (aftA stp fm) keyA [nodeA s v] a w (k, sn, fo) le).2.1, (letF (aftA stp fm) keyA [nodeA s v] a w (k, sn, fo) le).2.2) := by rw [← e1]
    rw [ez]
    exact this
theorem QF.len {q : List QN} {sn : List PyData} {fo : List FI} (F : QF q sn fo) : sn.length = q.length ∧ fo.length = q.length := by
  refine ⟨by rw [F.seen, List.length_map], ?_⟩
  have := congrArg List.length F.nodes
  simpa using this
theorem QF.at {q : List QN} {sn : List PyData} {fo : List FI} (F : QF q sn fo) {a : Nat} {n : QN} (h : q[a]? = some n) : ∃ x, fo[a]? = some x ∧ x.1 = [qNode n] ∧ x.2.2 = n.2.2 := by
  have h1 : (fo.map fun x => x.1)[a]? = some [qNode n] := by rw [F.nodes, List.getElem?_map, h]; rfl
  have h2 : (fo.map fun x => x.2.2)[a]? = some n.2.2 := by rw [F.words, List.getElem?_map, h]; rfl
  rw [List.getElem?_map] at h1 h2
  cases e : fo[a]? with
  | none => rw [e] at h1; cases h1
  | some x =>
    rw [e] at h1 h2
    exact ⟨x, rfl, Option.some.inj h1, Option.some.inj h2⟩
/-- the search with the queue is first_word's -/
theorem fw_q {stp : Nat → Nat → Option Nat} {fm : List Int} {lst : List Bool} {b : Int} {L N : Nat} (hst : ∀ s c j, s < N → stp s c = some j → j < N) : ∀ (f : Nat) (k : List PyData) (q : List QN) (sn : List PyData) (fo : List FI) (a : Nat) (res : Option (List Nat)), QI N k q → QF q sn fo →
    qRun stp fm lst b L f k q a = some res → ∃ k2, fwRun (aftA stp fm) (finA lst b) keyA L f k sn fo a = some (res, k2)
  | 0, _, _, _, _, _, _, _, _, h => by cases h
  | f + 1, k, q, sn, fo, a, res, I, F, h => by
    rw [qRun] at h
    rw [fwRun]
    cases e : q[a]? with
    | none =>
      rw [e] at h
      have hf : fo[a]? = none := by
        have := List.getElem?_eq_none_iff.mp e
        exact List.getElem?_eq_none (by rw [F.len.2]; exact this)
      rw [hf]
      cases h
      exact ⟨_, rfl⟩
    | some n =>
      rw [e] at h
      obtain ⟨x, hx, x1, x2⟩ := F.at e
      rw [hx]
      dsimp only at h ⊢
      have sN : n.1 < N := by
        obtain ⟨m, g, _⟩ := I.low n (List.mem_of_getElem? e)
        rw [← I.len]
        exact (List.getElem?_eq_some_iff.mp g).1
      have ef : x.1.any (finA lst b) = (lst.getD n.1 false && decide (b < n.2.1)) := by
        rw [x1, List.any_cons, List.any_nil, Bool.or_false]
        rfl
      rw [ef]
      by_cases hg : (lst.getD n.1 false && decide (b < n.2.1)) = true
      · rw [if_pos hg] at h ⊢
        cases h
        exact ⟨_, by rw [x2]⟩
      · rw [if_neg hg] at h ⊢
        obtain ⟨I1, e1, F1⟩ := q_fold (fm := fm) (v := n.2.1) (w := n.2.2) (a := a) (fun c j => hst n.1 c j sN) (List.range L) k q sn fo I F
        have en : qNode n = nodeA n.1 n.2.1 := rfl
        rw [x1, x2, en]
        split at h
        · rename_i hl
          have l1 := F1.len
          rw [if_pos ⟨by rw [l1.1]; exact hl, by rw [l1.2]; exact hl⟩, e1]
          exact fw_q hst f _ _ _ _ _ res I1 F1 h
        · cases h
theorem q_start {N : Nat} (h : 1 ≤ N) : QI N (best0 N) [(0, 0, [])] ∧ QF [(0, 0, [])] [nodeA 0 0] [([nodeA 0 0], none, [])] := by
  refine ⟨⟨by simp [best0], fun x hx => ?_, fun n hn => ?_⟩, ⟨rfl, rfl, rfl⟩⟩
  · rcases List.mem_or_eq_of_mem_set hx with h | h
    · exact .inl (List.mem_replicate.mp h).2
    · exact .inr ⟨0, h⟩
  · rw [List.mem_singleton.mp hn]
    refine ⟨0, ?_, Int.le_refl _⟩
    unfold best0
    rw [List.getElem?_set_self (by simp; omega)]

-- SPLIT

/-! ### what the search with the queue finds -/
def wF (fm : List Int) (w : List Nat) : Int := (w.map fun c => fm.getD c 0).sum
theorem wF_snoc (fm : List Int) (w : List Nat) (c : Nat) : wF fm (w ++ [c]) = wF fm w + fm.getD c 0 := by
  unfold wF
  rw [List.map_append, List.sum_append]
  simp
structure QS (stp : Nat → Nat → Option Nat) (fm : List Int) (lst : List Bool) (b : Int) (L : Nat) (k : List PyData) (q : List QN) (a j : Nat) : Prop where
  zero : q[0]? = some (0, 0, [])
  run : ∀ n ∈ q, runF stp 0 n.2.2 = some n.1 ∧ n.2.1 = wF fm n.2.2
  top : ∀ (t : Nat) (m : Int), k[t]? = some (.int m) → ∃ n ∈ q, n.1 = t ∧ n.2.1 = m
  inc : ∀ (i i' : Nat) (n n' : QN), i < i' → q[i]? = some n → q[i']? = some n' → slt n.2.2 n'.2.2
  par : ∀ n ∈ q, n.2.2 = [] ∨ ∃ (i c : Nat) (p : QN), q[i]? = some p ∧ n.2.2 = p.2.2 ++ [c] ∧ (i < a ∨ (i = a ∧ c < j))
  cov : ∀ (i c t : Nat) (p : QN), q[i]? = some p → (i < a ∨ (i = a ∧ c < j)) → c < L → stp p.1 c = some t → ∃ n ∈ q, n.1 = t ∧ p.2.1 + fm.getD c 0 ≤ n.2.1 ∧ ¬ slt (p.2.2 ++ [c]) n.2.2
  ng : ∀ (i : Nat) (p : QN), i < a → q[i]? = some p → ¬ (lst.getD p.1 false && decide (b < p.2.1)) = true
section
variable {stp : Nat → Nat → Option Nat} {fm : List Int} {lst : List Bool} {b : Int} {L N : Nat} {k : List PyData} {q : List QN} {a j : Nat}
theorem QS.bef (B : QS stp fm lst b L k q a j) {x n : QN} (hx : q[a]? = some x) (hn : n ∈ q) : slt n.2.2 (x.2.2 ++ [j]) := by
  rcases B.par n hn with h | ⟨i, c, p, hp, h, hi | ⟨rfl, hc⟩⟩
  · rw [h]; exact slt_nil _ _
  · rw [h]; exact slt_snoc.mpr (.inl (B.inc i a p x hi hp hx))
  · rw [hx] at hp
    cases hp
    rw [h]; exact slt_snoc.mpr (.inr ⟨rfl, hc⟩)
theorem QS.start (h : k = best0 N) (hN : 1 ≤ N) : QS stp fm lst b L k [(0, 0, [])] 0 0 := by
  subst h
  refine ⟨rfl, fun n hn => ?_, fun t m ht => ?_, fun i i' n n' hi h1 h2 => ?_, fun n hn => ?_, fun i c t p hp hi => ?_, fun i p hi => by omega⟩
  · rw [List.mem_singleton.mp hn]; exact ⟨rfl, rfl⟩
  · refine ⟨_, .head _, ?_⟩
    unfold best0 at ht
    by_cases e : t = 0
    · subst e
      rw [List.getElem?_set_self (by simp; omega)] at ht
      cases ht
      exact ⟨rfl, rfl⟩
    · rw [List.getElem?_set_ne (fun z => e z.symm), List.getElem?_replicate] at ht
      split at ht <;> cases ht
  · have : i' = 0 := by
      have := (List.getElem?_eq_some_iff.mp h2).1
      simp at this
      exact this
    omega
  · rw [List.mem_singleton.mp hn]; exact .inl rfl
  · rcases hi with h | ⟨_, h⟩ <;> omega
theorem QS.step (B : QS stp fm lst b L k q a j) (I : QI N k q) (hst : ∀ s c t, s < N → stp s c = some t → t < N) {x : QN} (hx : q[a]? = some x) :
    QS stp fm lst b L (qStep stp fm x.1 x.2.1 x.2.2 (k, q) j).1 (qStep stp fm x.1 x.2.1 x.2.2 (k, q) j).2 a (j + 1) ∧ (qStep stp fm x.1 x.2.1 x.2.2 (k, q) j).2[a]? = some x := by
  have hal : a < q.length := (List.getElem?_eq_some_iff.mp hx).1
  have hxm : x ∈ q := List.mem_of_getElem? hx
  have xN : x.1 < N := by
    obtain ⟨m, g, _⟩ := I.low x hxm
    rw [← I.len]
    exact (List.getElem?_eq_some_iff.mp g).1
  have later : ∀ {i c : Nat}, (i < a ∨ (i = a ∧ c < j)) → (i < a ∨ (i = a ∧ c < j + 1)) := fun h => h.imp id fun h => ⟨h.1, by omega⟩
  have stay : ∀ (hc : ∀ t, stp x.1 j = some t → ∃ n ∈ q, n.1 = t ∧ x.2.1 + fm.getD j 0 ≤ n.2.1 ∧ ¬ slt (x.2.2 ++ [j]) n.2.2), QS stp fm lst b L k q a (j + 1) := fun hc =>
    ⟨B.zero, B.run, B.top, B.inc, fun n hn => (B.par n hn).imp id fun ⟨i, c, p, h1, h2, h3⟩ => ⟨i, c, p, h1, h2, later h3⟩, fun i c t p hp hi hcL ht => by
      by_cases e : i = a ∧ c = j
      · obtain ⟨rfl, rfl⟩ := e
        rw [hx] at hp
        cases hp
        exact hc t ht
      · exact B.cov i c t p hp (hi.imp id fun h => ⟨h.1, by omega⟩) hcL ht, B.ng⟩
  cases e : stp x.1 j with
  | none =>
    have hQ : qStep stp fm x.1 x.2.1 x.2.2 (k, q) j = (k, q) := by unfold qStep; rw [e]
    rw [hQ]
    exact ⟨stay fun t ht => (by rw [e] at ht; cases ht), hx⟩
  | some t =>
    have ht := hst _ _ _ xN e
    have hQ : qStep stp fm x.1 x.2.1 x.2.2 (k, q) j = if (bestA k t (x.2.1 + fm.getD j 0)).1 = [] then (k, q) else ((bestA k t (x.2.1 + fm.getD j 0)).2, q ++ [(t, x.2.1 + fm.getD j 0, x.2.2 ++ [j])]) := by unfold qStep; rw [e]
    rcases bestA_cases (t := t) (total := x.2.1 + fm.getD j 0) I.ok (by rw [I.len]; exact ht) with ⟨m, h1, h2, h3⟩ | ⟨h1, h3⟩
    · rw [h3] at hQ
      rw [hQ]
      refine ⟨stay fun t' ht' => ?_, hx⟩
      rw [e] at ht'
      cases ht'
      obtain ⟨n, hn, n1, n2⟩ := B.top t m h1
      exact ⟨n, hn, n1, by rw [n2]; exact h2, slt_asymm (B.bef hx hn)⟩
    · rw [h3, if_neg (by simp)] at hQ
      rw [hQ]
      dsimp only
      have old : ∀ {i : Nat} {n : QN}, q[i]? = some n → (q ++ [(t, x.2.1 + fm.getD j 0, x.2.2 ++ [j])])[i]? = some n := fun h => by
        rw [List.getElem?_append_left (List.getElem?_eq_some_iff.mp h).1]; exact h
      have back : ∀ {i : Nat} {n : QN}, i ≤ a → (q ++ [(t, x.2.1 + fm.getD j 0, x.2.2 ++ [j])])[i]? = some n → q[i]? = some n := fun hi h => by
        rw [List.getElem?_append_left (by omega)] at h; exact h
      have tk : t < k.length := by rw [I.len]; exact ht
      refine ⟨⟨old B.zero, fun n hn => ?_, fun t' m hm => ?_, fun i i' n n' hi hn hn' => ?_, fun n hn => ?_, fun i c t' p hp hi hcL ht' => ?_, fun i p hi hp => B.ng i p hi (back (by omega) hp)⟩, old hx⟩
      · rcases List.mem_append.mp hn with hn | hn
        · exact B.run n hn
        · rw [List.mem_singleton.mp hn]
          obtain ⟨r1, r2⟩ := B.run x hxm
          exact ⟨by rw [runF_snoc, r1]; exact e, by rw [wF_snoc, ← r2]⟩
      · by_cases et : t' = t
        · subst et
          rw [List.getElem?_set_self tk] at hm
          cases hm
          exact ⟨_, List.mem_append_right _ (.head _), rfl, rfl⟩
        · rw [List.getElem?_set_ne (fun z => et z.symm)] at hm
          obtain ⟨n, hn, r⟩ := B.top t' m hm
          exact ⟨n, List.mem_append_left _ hn, r⟩
      · have hl' : i' < q.length + 1 := by have := (List.getElem?_eq_some_iff.mp hn').1; simpa using this
        rw [List.getElem?_append_left (by omega)] at hn
        by_cases hi2 : i' < q.length
        · rw [List.getElem?_append_left hi2] at hn'
          exact B.inc i i' n n' hi hn hn'
        · have : i' = q.length := by omega
          subst this
          rw [List.getElem?_append_right (Nat.le_refl _), Nat.sub_self] at hn'
          cases hn'
          exact B.bef hx (List.mem_of_getElem? hn)
      · rcases List.mem_append.mp hn with hn | hn
        · exact (B.par n hn).imp id fun ⟨i, c, p, h1, h2, h3⟩ => ⟨i, c, p, old h1, h2, later h3⟩
        · rw [List.mem_singleton.mp hn]
          exact .inr ⟨a, j, x, old hx, rfl, .inr ⟨rfl, by omega⟩⟩
      · have hp2 := back (by omega) hp
        by_cases e2 : i = a ∧ c = j
        · obtain ⟨rfl, rfl⟩ := e2
          rw [hx] at hp2
          cases hp2
          rw [e] at ht'
          cases ht'
          exact ⟨_, List.mem_append_right _ (.head _), rfl, Int.le_refl _, slt_irrefl _⟩
        · obtain ⟨n, hn, r⟩ := B.cov i c t' p hp2 (hi.imp id fun h => ⟨h.1, by omega⟩) hcL ht'
          exact ⟨n, List.mem_append_left _ hn, r⟩
end
section
variable {stp : Nat → Nat → Option Nat} {fm : List Int} {lst : List Bool} {b : Int} {L N : Nat} {k : List PyData} {q : List QN} {a : Nat}
theorem QS.next (B : QS stp fm lst b L k q a L) {x : QN} (hx : q[a]? = some x) (hg : ¬ (lst.getD x.1 false && decide (b < x.2.1)) = true) : QS stp fm lst b L k q (a + 1) 0 :=
  ⟨B.zero, B.run, B.top, B.inc, fun n hn => (B.par n hn).imp id fun ⟨i, c, p, h1, h2, h3⟩ => ⟨i, c, p, h1, h2, .inl (by omega)⟩, fun i c t p hp hi hcL ht => B.cov i c t p hp (by omega) hcL ht, fun i p hi hp => by
    by_cases e : i = a
    · subst e
      rw [hx] at hp
      cases hp
      exact hg
    · exact B.ng i p (by omega) hp⟩
theorem QS.early (B : QS stp fm lst b L k q a 0) {u : List Nat} (hu : ∀ x, q[a]? = some x → slt u x.2.2) {i : Nat} {p : QN} (hp : q[i]? = some p) (hle : ¬ slt u p.2.2) : i < a := by
  have il := (List.getElem?_eq_some_iff.mp hp).1
  refine Nat.lt_of_not_le fun h => ?_
  have al : a < q.length := by omega
  have hx : q[a]? = some q[a] := List.getElem?_eq_getElem al
  have h1 := hu _ hx
  by_cases e : i = a
  · subst e
    rw [hx] at hp
    cases hp
    exact hle h1
  · exact hle (slt_trans h1 (B.inc a i _ p (by omega) hx hp))
theorem QS.reach (B : QS stp fm lst b L k q a 0) (hL : ∀ s c t, stp s c = some t → c < L) : ∀ (n : Nat) (u : List Nat) (s : Nat), u.length = n → (∀ x, q[a]? = some x → slt u x.2.2) → runF stp 0 u = some s →
    ∃ (i : Nat) (p : QN), q[i]? = some p ∧ i < a ∧ p.1 = s ∧ wF fm u ≤ p.2.1 ∧ ¬ slt u p.2.2
  | 0, u, s, hn, hu, hr => by
    have e : u = [] := List.length_eq_zero_iff.mp hn
    subst e
    cases hr
    exact ⟨0, _, B.zero, B.early hu B.zero (slt_irrefl _), rfl, Int.le_refl _, slt_irrefl _⟩
  | n + 1, u, s, hn, hu, hr => by
    obtain ⟨u', c, rfl⟩ : ∃ u' c, u = u' ++ [c] := by
      have hne : u ≠ [] := fun e => by rw [e] at hn; cases hn
      exact ⟨u.dropLast, u.getLast hne, (List.dropLast_concat_getLast hne).symm⟩
    rw [runF_snoc] at hr
    cases hs : runF stp 0 u' with
    | none => rw [hs] at hr; cases hr
    | some s' =>
      rw [hs] at hr
      have hr : stp s' c = some s := hr
      have hl : u'.length = n := by simpa using hn
      obtain ⟨i, p, hp, hi, h1, h2, h3⟩ := B.reach hL n u' s' hl (fun x hx => slt_trans (.inl (by simp)) (hu x hx)) hs
      obtain ⟨m, hm, m1, m2, m3⟩ := B.cov i c s p hp (.inl hi) (hL _ _ _ hr) (by rw [h1]; exact hr)
      obtain ⟨i2, hi2, e2⟩ := List.mem_iff_getElem.mp hm
      have hp2 : q[i2]? = some m := by rw [List.getElem?_eq_getElem hi2, e2]
      have le : ¬ slt (u' ++ [c]) m.2.2 := fun h => m3 (slt_le (fun z => (slt_snoc.mp z).elim h3 fun z => Nat.lt_irrefl _ z.2) h)
      exact ⟨i2, m, hp2, B.early hu hp2 le, m1, by rw [wF_snoc]; omega, le⟩
/-- a word that is read and ends well, and is worth more than the bound -/
def AccA (stp : Nat → Nat → Option Nat) (fm : List Int) (lst : List Bool) (b : Int) (u : List Nat) : Prop := ∃ s, runF stp 0 u = some s ∧ lst.getD s false = true ∧ b < wF fm u
theorem QS.no (B : QS stp fm lst b L k q a 0) (hL : ∀ s c t, stp s c = some t → c < L) {u : List Nat} (hu : ∀ x, q[a]? = some x → slt u x.2.2) : ¬ AccA stp fm lst b u := by
  rintro ⟨s, hr, hl, hb⟩
  obtain ⟨i, p, hp, hi, h1, h2, _⟩ := B.reach hL _ u s rfl hu hr
  refine B.ng i p hi hp ?_
  rw [h1, hl, decide_eq_true (by omega)]
  rfl
/-- what the search returns -/
def FirstA (stp : Nat → Nat → Option Nat) (fm : List Int) (lst : List Bool) (b : Int) : Option (List Nat) → Prop
  | none => ∀ u, ¬ AccA stp fm lst b u
  | some w => AccA stp fm lst b w ∧ ∀ u, AccA stp fm lst b u → ¬ slt u w
theorem qs_fold (hst : ∀ s c t, s < N → stp s c = some t → t < N) {x : QN} : ∀ (n : Nat) (k : List PyData) (q : List QN), QS stp fm lst b L k q a 0 → QI N k q → q[a]? = some x →
    QS stp fm lst b L ((List.range n).foldl (qStep stp fm x.1 x.2.1 x.2.2) (k, q)).1 ((List.range n).foldl (qStep stp fm x.1 x.2.1 x.2.2) (k, q)).2 a n ∧
    QI N ((List.range n).foldl (qStep stp fm x.1 x.2.1 x.2.2) (k, q)).1 ((List.range n).foldl (qStep stp fm x.1 x.2.1 x.2.2) (k, q)).2 ∧ ((List.range n).foldl (qStep stp fm x.1 x.2.1 x.2.2) (k, q)).2[a]? = some x
  | 0, k, q, B, I, hx => ⟨B, I, hx⟩
  | n + 1, k, q, B, I, hx => by
    obtain ⟨B1, I1, h1⟩ := qs_fold hst n k q B I hx
    rw [List.range_succ, List.foldl_append, List.foldl_cons, List.foldl_nil]
    obtain ⟨B2, h2⟩ := B1.step I1 hst h1
    have xN : x.1 < N := by
      obtain ⟨m, g, _⟩ := I1.low x (List.mem_of_getElem? h1)
      rw [← I1.len]
      exact (List.getElem?_eq_some_iff.mp g).1
    refine ⟨B2, ?_, h2⟩
    have I2 := q_fold (fm := fm) (v := x.2.1) (w := x.2.2) (a := a) (s := x.1) (N := N) (fun c j => hst x.1 c j xN) (List.range (n + 1)) k q (q.map qNode) (q.map fun n => ([qNode n], none, n.2.2)) I ⟨rfl, by rw [List.map_map]; rfl, by rw [List.map_map]; rfl⟩
    have := I2.1
    rw [List.range_succ, List.foldl_append, List.foldl_cons, List.foldl_nil] at this
    exact this
theorem qRun_first (hst : ∀ s c t, s < N → stp s c = some t → t < N) (hL : ∀ s c t, stp s c = some t → c < L) : ∀ (f : Nat) (k : List PyData) (q : List QN) (a : Nat) (res : Option (List Nat)), QS stp fm lst b L k q a 0 → QI N k q →
    qRun stp fm lst b L f k q a = some res → FirstA stp fm lst b res
  | 0, _, _, _, _, _, _, h => by cases h
  | f + 1, k, q, a, res, B, I, h => by
    rw [qRun] at h
    cases e : q[a]? with
    | none =>
      rw [e] at h
      cases h
      exact fun u => B.no hL fun x hx => by rw [e] at hx; cases hx
    | some x =>
      rw [e] at h
      dsimp only at h
      by_cases hg : (lst.getD x.1 false && decide (b < x.2.1)) = true
      · rw [if_pos hg] at h
        cases h
        obtain ⟨g1, g2⟩ := Bool.and_eq_true_iff.mp hg
        obtain ⟨r1, r2⟩ := B.run x (List.mem_of_getElem? e)
        refine ⟨⟨x.1, r1, g1, by rw [← r2]; exact of_decide_eq_true g2⟩, fun u hu hl => B.no hL (u := u) (fun y hy => ?_) hu⟩
        rw [e] at hy
        cases hy
        exact hl
      · rw [if_neg hg] at h
        obtain ⟨B1, I1, h1⟩ := qs_fold hst L k q B I e
        split at h
        · exact qRun_first hst hL f _ _ _ res (B1.next h1 hg) I1 h
        · cases h
end

-- SPLIT
/-! ### how many entries the queue can have -/
theorem len_le_of {α : Type} [DecidableEq α] : ∀ (l ss : List α), l.Nodup → (∀ x ∈ l, x ∈ ss) → l.length ≤ ss.length
  | [], ss, _, _ => Nat.zero_le _
  | x :: l, ss, nd, h => by
    obtain ⟨n1, n2⟩ := List.nodup_cons.mp nd
    have p := List.perm_cons_erase (h x (.head _))
    have e := p.length_eq
    rw [List.length_cons] at e
    have := len_le_of l (ss.erase x) n2 fun y hy => by
      rcases List.mem_cons.mp (p.mem_iff.mp (h y (.tail _ hy))) with z | z
      · exact absurd (z ▸ hy) n1
      · exact z
    rw [List.length_cons]
    omega
/-- sums rise, state by state -/
def Rise (q : List QN) : Prop := q.Pairwise fun n n' => n.1 = n'.1 → n.2.1 < n'.2.1
section
variable {stp : Nat → Nat → Option Nat} {fm : List Int} {N s : Nat} {v : Int} {w : List Nat} {k : List PyData} {q : List QN} {le : Nat}
theorem rise_step (hst : ∀ j, stp s le = some j → j < N) (I : QI N k q) (R : Rise q) : Rise (qStep stp fm s v w (k, q) le).2 := by
  cases e : stp s le with
  | none =>
    have hQ : qStep stp fm s v w (k, q) le = (k, q) := by unfold qStep; rw [e]
    rw [hQ]
    exact R
  | some t =>
    have hQ : qStep stp fm s v w (k, q) le = if (bestA k t (v + fm.getD le 0)).1 = [] then (k, q) else ((bestA k t (v + fm.getD le 0)).2, q ++ [(t, v + fm.getD le 0, w ++ [le])]) := by unfold qStep; rw [e]
    rcases bestA_cases (t := t) (total := v + fm.getD le 0) I.ok (by rw [I.len]; exact hst t e) with ⟨m, h1, h2, h3⟩ | ⟨h1, h3⟩
    · rw [h3] at hQ
      rw [hQ]
      exact R
    · rw [h3, if_neg (by simp)] at hQ
      rw [hQ]
      refine List.pairwise_append.mpr ⟨R, List.pairwise_singleton _ _, fun n hn n' hn' hs => ?_⟩
      rw [List.mem_singleton.mp hn'] at hs ⊢
      obtain ⟨m, g1, g2⟩ := I.low n hn
      have hs : n.1 = t := hs
      rw [hs] at g1
      have := h1 m g1
      show n.2.1 < v + fm.getD le 0
      omega
end
theorem rise_len {q : List QN} {N : Nat} {low : Int} {W : Nat} (R : Rise q) (h : ∀ n ∈ q, n.1 < N ∧ low ≤ n.2.1 ∧ n.2.1 < low + W) : q.length ≤ N * W := by
  have nd : (q.map fun n => (n.1, n.2.1)).Nodup := by
    refine List.pairwise_map.mpr (List.Pairwise.imp (fun {n n'} hlt he => ?_) R)
    have h1 := congrArg Prod.fst he
    have h2 := congrArg Prod.snd he
    have := hlt h1
    simp at h2
    omega
  have sub : ∀ p ∈ (q.map fun n => (n.1, n.2.1)), p ∈ (List.range N).flatMap fun s => (List.range W).map fun d : Nat => (s, low + (d : Int)) := fun p hp => by
    obtain ⟨n, hn, rfl⟩ := List.mem_map.mp hp
    obtain ⟨h1, h2, h3⟩ := h n hn
    refine List.mem_flatMap.mpr ⟨n.1, List.mem_range.mpr h1, List.mem_map.mpr ⟨(n.2.1 - low).toNat, List.mem_range.mpr (by omega), ?_⟩⟩
    rw [Int.toNat_of_nonneg (by omega)]
    congr 1
    omega
  have := len_le_of _ _ nd sub
  rw [List.length_map, List.length_flatMap] at this
  have e : ((List.range N).map fun s => ((List.range W).map fun d : Nat => (s, low + (d : Int))).length) = List.replicate N W := by
    apply List.ext_getElem
    · simp
    · intro i h1 h2
      simp
  rw [e, List.sum_replicate_nat] at this
  exact this
theorem runF_split {δ : Nat → Nat → Option Nat} {b s : Nat} {w : List Nat} (h : runF δ b w = some s) (i : Nat) : ∃ t, runF δ b (w.take i) = some t ∧ runF δ t (w.drop i) = some s := by
  rw [← List.take_append_drop i w, runF_app] at h
  cases e : runF δ b (w.take i) with
  | none => rw [e] at h; cases h
  | some t =>
    rw [e] at h
    exact ⟨t, rfl, h⟩
theorem runF_in {δ : Nat → Nat → Option Nat} {N : Nat} (hst : ∀ s c t, s < N → δ s c = some t → t < N) : ∀ (w : List Nat) (b s : Nat), b < N → runF δ b w = some s → s < N
  | [], b, s, hb, h => by cases h; exact hb
  | c :: w, b, s, hb, h => by
    cases e : δ b c with
    | none => rw [runF, e] at h; cases h
    | some t =>
      rw [runF, e] at h
      exact runF_in hst w t s (hst b c t hb e) h
/-- what is reached is reached by fewer letters than there are states -/
theorem short_run {δ : Nat → Nat → Option Nat} {N b s : Nat} (hst : ∀ s c t, s < N → δ s c = some t → t < N) (hb : b < N) : ∀ (n : Nat) (w : List Nat), w.length ≤ n → runF δ b w = some s → ∃ u, u.length + 1 ≤ N ∧ runF δ b u = some s
  | 0, w, hn, h => ⟨w, by omega, h⟩
  | n + 1, w, hn, h => by
    by_cases hrep : ∃ i j, i < j ∧ j ≤ w.length ∧ (runF δ b (w.take i)).getD 0 = (runF δ b (w.take j)).getD 0
    · obtain ⟨i, j, hij, hj, he⟩ := hrep
      obtain ⟨t1, a1, b1⟩ := runF_split h i
      obtain ⟨t2, a2, b2⟩ := runF_split h j
      rw [a1, a2] at he
      have he : t1 = t2 := he
      subst he
      refine short_run hst hb n (w.take i ++ w.drop j) ?_ ?_
      · rw [List.length_append, List.length_take, List.length_drop]
        omega
      · rw [runF_app, a1]
        exact b2
    · have nd : ((List.range (w.length + 1)).map fun i => (runF δ b (w.take i)).getD 0).Nodup := by
        refine List.pairwise_map.mpr (List.pairwise_iff_getElem.mpr fun i j hi hj hij he => hrep ⟨i, j, hij, ?_, ?_⟩)
        · have : j < w.length + 1 := by simpa using hj
          omega
        · simpa using he
      have hl := len_le_of _ (List.range N) nd fun x hx => by
        obtain ⟨i, _, rfl⟩ := List.mem_map.mp hx
        obtain ⟨t, a1, _⟩ := runF_split h i
        rw [a1]
        exact List.mem_range.mpr (runF_in hst _ b t hb a1)
      rw [List.length_map, List.length_range, List.length_range] at hl
      exact ⟨w, hl, h⟩
theorem wF_low {fm : List Int} {M : Nat} (hM : ∀ c, (fm.getD c 0).natAbs ≤ M) : ∀ w : List Nat, - ((M * w.length : Nat) : Int) ≤ wF fm w ∧ wF fm w ≤ ((M * w.length : Nat) : Int)
  | [] => by simp [wF]
  | c :: w => by
    obtain ⟨h1, h2⟩ := wF_low hM w
    have e : wF fm (c :: w) = fm.getD c 0 + wF fm w := by unfold wF; rw [List.map_cons, List.sum_cons]
    have hc := hM c
    rw [e, List.length_cons, Nat.mul_add, Nat.mul_one]
    omega
/-- sums above B come from an entry just above it -/
def Up (B : Int) (M : Nat) (q : List QN) : Prop := ∀ n ∈ q, n.2.1 ≤ B ∨ ∃ p ∈ q, B < p.2.1 ∧ p.2.2.length ≤ n.2.2.length ∧ n.2.1 ≤ B + ((M * (n.2.2.length - p.2.2.length + 1) : Nat) : Int)
theorem qStep_cases (stp : Nat → Nat → Option Nat) (fm : List Int) (s : Nat) (v : Int) (w : List Nat) (k : List PyData) (q : List QN) (le : Nat) :
    (qStep stp fm s v w (k, q) le).2 = q ∨ ∃ t, (qStep stp fm s v w (k, q) le).2 = q ++ [(t, v + fm.getD le 0, w ++ [le])] := by
  unfold qStep
  split
  · exact .inl rfl
  · split
    · exact .inl rfl
    · exact .inr ⟨_, rfl⟩
theorem up_step {stp : Nat → Nat → Option Nat} {fm : List Int} {B : Int} {M : Nat} (hM : ∀ c, (fm.getD c 0).natAbs ≤ M) {k : List PyData} {q : List QN} {x : QN} (hx : x ∈ q) (U : Up B M q) (le : Nat) : Up B M (qStep stp fm x.1 x.2.1 x.2.2 (k, q) le).2 := by
  rcases qStep_cases stp fm x.1 x.2.1 x.2.2 k q le with e | ⟨t, e⟩
  · rw [e]; exact U
  · rw [e]
    intro n hn
    rcases List.mem_append.mp hn with hn | hn
    · rcases U n hn with h | ⟨p, hp, r⟩
      · exact .inl h
      · exact .inr ⟨p, List.mem_append_left _ hp, r⟩
    · have hc := hM le
      have en := List.mem_singleton.mp hn
      by_cases hv : x.2.1 + fm.getD le 0 ≤ B
      · rw [en]; exact .inl hv
      · right
        rcases U x hx with h | ⟨p, hp, h1, h2, h3⟩
        · refine ⟨n, List.mem_append_right _ (by rw [en]; exact .head _), ?_, Nat.le_refl _, ?_⟩
          · rw [en]; show B < x.2.1 + fm.getD le 0; omega
          · rw [Nat.sub_self, Nat.zero_add, Nat.mul_one, en]; show x.2.1 + fm.getD le 0 ≤ _; omega
        · refine ⟨p, List.mem_append_left _ hp, h1, ?_, ?_⟩
          · rw [en]; show p.2.2.length ≤ (x.2.2 ++ [le]).length; simp; omega
          · rw [en]
            show x.2.1 + fm.getD le 0 ≤ B + ((M * ((x.2.2 ++ [le]).length - p.2.2.length + 1) : Nat) : Int)
            have : (x.2.2 ++ [le]).length - p.2.2.length + 1 = (x.2.2.length - p.2.2.length + 1) + 1 := by simp; omega
            rw [this, Nat.mul_add M _ 1, Nat.mul_one]
            omega
theorem up_fold {stp : Nat → Nat → Option Nat} {fm : List Int} {lst : List Bool} {b : Int} {L N : Nat} {B : Int} {M : Nat} (hst : ∀ s c t, s < N → stp s c = some t → t < N) (hM : ∀ c, (fm.getD c 0).natAbs ≤ M) {a : Nat} {x : QN} {k : List PyData} {q : List QN} (Q : QS stp fm lst b L k q a 0) (I : QI N k q) (hx : q[a]? = some x) (U : Up B M q) (R : Rise q) :
    ∀ n : Nat, Up B M ((List.range n).foldl (qStep stp fm x.1 x.2.1 x.2.2) (k, q)).2 ∧ Rise ((List.range n).foldl (qStep stp fm x.1 x.2.1 x.2.2) (k, q)).2
  | 0 => ⟨U, R⟩
  | n + 1 => by
    obtain ⟨U1, R1⟩ := up_fold (lst := lst) (b := b) (L := L) hst hM Q I hx U R n
    obtain ⟨B1, I1, h1⟩ := qs_fold hst n k q Q I hx
    rw [List.range_succ, List.foldl_append, List.foldl_cons, List.foldl_nil]
    have hxm := List.mem_of_getElem? h1
    have xN : x.1 < N := by
      obtain ⟨m, g, _⟩ := I1.low x hxm
      rw [← I1.len]
      exact (List.getElem?_eq_some_iff.mp g).1
    generalize (List.range n).foldl (qStep stp fm x.1 x.2.1 x.2.2) (k, q) = S at U1 R1 I1 hxm
    obtain ⟨k1, q1⟩ := S
    exact ⟨up_step hM hxm U1 n, rise_step (fun j => hst x.1 n j xN) I1 R1⟩
theorem slt_len {x y : List Nat} (h : slt x y) : x.length ≤ y.length := by
  rcases h with h | ⟨h, _⟩ <;> omega
theorem nslt_len {x y : List Nat} (h : ¬ slt x y) : y.length ≤ x.length := Nat.le_of_not_lt fun z => h (.inl z)
section
variable {stp : Nat → Nat → Option Nat} {fm : List Int} {lst : List Bool} {b B : Int} {L N M : Nat} {k : List PyData} {q : List QN} {a : Nat}
/-- a word in the queue is at most one letter longer than the entry that is looked at next -/
theorem QS.near (Q : QS stp fm lst b L k q a 0) {n x : QN} (hn : n ∈ q) (hx : q[a]? = some x) : n.2.2.length ≤ x.2.2.length + 1 := by
  rcases Q.par n hn with h | ⟨i, c, p, hp, h, hi⟩
  · rw [h]; simp
  · have hi : i < a := by omega
    have := slt_len (Q.inc i a p x hi hp hx)
    rw [h]; simp; omega
theorem q_bound (hst : ∀ s c t, s < N → stp s c = some t → t < N) (hL : ∀ s c t, stp s c = some t → c < L) (hM : ∀ c, (fm.getD c 0).natAbs ≤ M) (hN : 1 ≤ N)
    (use : ∀ s, (∃ w, runF stp 0 w = some s) → ∃ p t, p.length + 1 ≤ N ∧ runF stp s p = some t ∧ lst.getD t false = true) (Q : QS stp fm lst b L k q a 0) (I : QI N k q) (R : Rise q) (U : Up B M q) (hB : b + ((M * N : Nat) : Int) ≤ B) :
    ∀ n ∈ q, n.1 < N ∧ -((M * N : Nat) : Int) ≤ n.2.1 ∧ n.2.1 ≤ max B (-((M * N : Nat) : Int)) + ((M * (N + 1) : Nat) : Int) := by
  intro n hn
  obtain ⟨r1, r2⟩ := Q.run n hn
  refine ⟨runF_in hst _ 0 n.1 (by omega) r1, ?_, ?_⟩
  · by_cases hl : n.2.2.length ≤ N
    · have := (wF_low hM n.2.2).1
      have := Nat.mul_le_mul_left M hl
      rw [r2]
      omega
    · obtain ⟨u, hu, ru⟩ := short_run hst (by omega) _ n.2.2 (Nat.le_refl _) r1
      obtain ⟨i, p, hp, hi, h1, h2, h3⟩ := Q.reach hL _ u n.1 rfl (fun x hx => .inl (by have := Q.near hn hx; omega)) ru
      have l1 := nslt_len h3
      obtain ⟨j, hj, ej⟩ := List.mem_iff_getElem.mp hn
      have hj2 : q[j]? = some n := by rw [List.getElem?_eq_getElem hj, ej]
      have hij : i < j := by
        rcases Nat.lt_trichotomy i j with h | h | h
        · exact h
        · subst h
          rw [hp] at hj2
          cases hj2
          omega
        · have := slt_len (Q.inc j i n p h hj2 hp)
          omega
      obtain ⟨hi2, ei⟩ := List.getElem?_eq_some_iff.mp hp
      have rise := List.pairwise_iff_getElem.mp R i j hi2 hj hij
      rw [ei, ej] at rise
      have := rise h1
      have := (wF_low hM u).1
      have := Nat.mul_le_mul_left M (show u.length ≤ N by omega)
      omega
  · have m0 : 0 ≤ ((M * (N + 1) : Nat) : Int) := Int.natCast_nonneg _
    rcases U n hn with h | ⟨p, hp, h1, h2, h3⟩
    · have := Int.le_max_left B (-((M * N : Nat) : Int))
      omega
    · obtain ⟨pr1, pr2⟩ := Q.run p hp
      obtain ⟨v, t, hv, rv, ht⟩ := use p.1 ⟨_, pr1⟩
      have hacc : AccA stp fm lst b (p.2.2 ++ v) := by
        refine ⟨t, by rw [runF_app, pr1]; exact rv, ht, ?_⟩
        have e : wF fm (p.2.2 ++ v) = wF fm p.2.2 + wF fm v := by unfold wF; rw [List.map_append, List.sum_append]
        have := (wF_low hM v).1
        have := Nat.mul_le_mul_left M (show v.length ≤ N by omega)
        rw [e, ← pr2]
        omega
      have hex : ∃ x, q[a]? = some x ∧ ¬ slt (p.2.2 ++ v) x.2.2 := Classical.byContradiction fun hc => Q.no hL (u := p.2.2 ++ v) (fun x hx => Classical.byContradiction fun z => hc ⟨x, hx, z⟩) hacc
      obtain ⟨x, hx, hs⟩ := hex
      have l1 := nslt_len hs
      rw [List.length_append] at l1
      have l2 := Q.near hn hx
      have := Nat.mul_le_mul_left M (show n.2.2.length - p.2.2.length + 1 ≤ N + 1 by omega)
      have := Int.le_max_left B (-((M * N : Nat) : Int))
      omega
/-- the search ends -/
theorem qRun_ends (hst : ∀ s c t, s < N → stp s c = some t → t < N) (hL : ∀ s c t, stp s c = some t → c < L) (hM : ∀ c, (fm.getD c 0).natAbs ≤ M) (hN : 1 ≤ N)
    (use : ∀ s, (∃ w, runF stp 0 w = some s) → ∃ p t, p.length + 1 ≤ N ∧ runF stp s p = some t ∧ lst.getD t false = true) (hB : b + ((M * N : Nat) : Int) ≤ B) {W : Nat} (hW : N * W ≤ 60000) (hW2 : max B (-((M * N : Nat) : Int)) + ((M * (N + 1) : Nat) : Int) + ((M * N : Nat) : Int) < W) :
    ∀ (f : Nat) (k : List PyData) (q : List QN) (a : Nat), QS stp fm lst b L k q a 0 → QI N k q → Rise q → Up B M q → 60001 ≤ f + a → a ≤ q.length → q.length ≤ 60000 → ∃ res, qRun stp fm lst b L f k q a = some res
  | 0, k, q, a, _, _, _, _, h1, h2, h3 => by omega
  | f + 1, k, q, a, Q, I, R, U, h1, h2, h3 => by
    rw [qRun]
    cases e : q[a]? with
    | none => exact ⟨_, rfl⟩
    | some x =>
      dsimp only
      by_cases hg : (lst.getD x.1 false && decide (b < x.2.1)) = true
      · rw [if_pos hg]; exact ⟨_, rfl⟩
      · rw [if_neg hg]
        obtain ⟨Q1, I1, e1⟩ := qs_fold hst L k q Q I e
        obtain ⟨U1, R1⟩ := up_fold (lst := lst) (b := b) (L := L) (B := B) hst hM Q I e U R L
        have Q2 := Q1.next e1 hg
        have bd := q_bound hst hL hM hN use Q2 I1 R1 U1 hB
        have hl := rise_len (N := N) (low := -((M * N : Nat) : Int)) (W := W) R1 fun n hn => by
          obtain ⟨g1, g2, g3⟩ := bd n hn
          exact ⟨g1, g2, by omega⟩
        have hl2 := Nat.le_trans hl hW
        rw [if_pos hl2]
        exact qRun_ends hst hL hM hN use hB hW hW2 f _ _ (a + 1) Q2 I1 R1 U1 (by omega) (List.getElem?_eq_some_iff.mp e1).1 hl2
end

-- SPLIT
/-! ### what is trimmed has the same words -/
def trRows (L N : Nat) (rows : List (List (Option Nat))) (Av Bv : List Bool) : List (List (Option Nat)) := (List.range N).map (trRow L rows Av Bv)
theorem trStep {L N : Nat} {rows : List (List (Option Nat))} {Av Bv : List Bool} {s c : Nat} (hs : s < N) : stepL (trRows L N rows Av Bv) s c = if Av.getD s false = true then keepB Bv (stepL rows s c) else none := by
  have e : (trRows L N rows Av Bv).getD s [] = trRow L rows Av Bv s := by simp [trRows, hs]
  unfold stepL
  rw [e]
  unfold trRow
  by_cases h : Av.getD s false = true
  · rw [if_pos h, if_pos h]
    generalize rows.getD s [] = r
    rw [List.getD_eq_getElem?_getD, List.getElem?_map, List.getD_eq_getElem?_getD]
    cases r[c]? <;> rfl
  · rw [if_neg h, if_neg h, List.getD_eq_getElem?_getD]
    by_cases hc : c < L
    · simp [hc]
    · simp [hc]
theorem stepL_mem {rows : List (List (Option Nat))} {s c t : Nat} (h : stepL rows s c = some t) : t ∈ (stepsOf rows).getD s [] := by
  unfold stepL at h
  have e : (stepsOf rows).getD s [] = (rows.getD s []).filterMap id := by
    unfold stepsOf
    rw [List.getD_eq_getElem?_getD, List.getElem?_map, List.getD_eq_getElem?_getD]
    cases rows[s]? <;> rfl
  rw [e, List.mem_filterMap]
  rw [List.getD_eq_getElem?_getD] at h
  cases hc : (rows.getD s [])[c]? with
  | none => rw [hc] at h; cases h
  | some o =>
    rw [hc] at h
    exact ⟨o, List.mem_of_getElem? hc, h⟩
theorem stepL_lt {L N : Nat} {rows : List (List (Option Nat))} {ends : List Bool} (k : KOk L N rows ends) {s c t : Nat} (h : stepL rows s c = some t) : t < N ∧ s < N ∧ c < L := by
  unfold stepL at h
  have hs : s < N := by
    refine Nat.lt_of_not_le fun le => ?_
    have : rows.getD s [] = [] := by rw [List.getD_eq_getElem?_getD, List.getElem?_eq_none (by rw [k.lr]; exact le)]; rfl
    rw [this] at h
    cases h
  have hrow := getDR k.lr hs
  have rok := k.row _ (List.mem_of_getElem? hrow)
  rw [List.getD_eq_getElem?_getD] at h
  cases hc : (rows.getD s [])[c]? with
  | none => rw [hc] at h; cases h
  | some o =>
    rw [hc] at h
    have h : o = some t := h
    subst h
    exact ⟨rok.2 t (List.mem_of_getElem? hc), hs, by have := (List.getElem?_eq_some_iff.mp hc).1; omega⟩
def InK (rows : List (List (Option Nat))) (ends : List Bool) (w : List Nat) : Prop := AccF (stepL rows) 0 (fun s => ends.getD s false) w
theorem lastOf_get {N s : Nat} {ends Av : List Bool} (h : s < N) : (lastOf N ends Av).getD s false = (ends.getD s false && Av.getD s false) := by simp [lastOf, h]
theorem run_lt {L N : Nat} {rows : List (List (Option Nat))} {ends : List Bool} (k : KOk L N rows ends) : ∀ (w : List Nat) (s t : Nat), s < N → runF (stepL rows) s w = some t → t < N ∧ ∀ c ∈ w, c < L
  | [], s, t, hs, h => by cases h; exact ⟨hs, fun _ z => nomatch z⟩
  | c :: w, s, t, hs, h => by
    obtain ⟨s', h1, h2⟩ := Option.bind_eq_some_iff.mp (show ((stepL rows s c).bind fun t => runF (stepL rows) t w) = some t from h)
    obtain ⟨g1, _, g2⟩ := stepL_lt k h1
    obtain ⟨a, b⟩ := run_lt k w s' t g1 h2
    exact ⟨a, fun x hx => (List.mem_cons.mp hx).elim (fun e => e ▸ g2) (b x)⟩
theorem trim_in {L N : Nat} {rows : List (List (Option Nat))} {ends Av Bv : List Bool} (k : KOk L N rows ends) (T : Trims N rows ends Av Bv) : ∀ (w : List Nat) (s t : Nat), s < N → Rch (stepsOf rows) [0] s → runF (stepL rows) s w = some t → ends.getD t false = true →
    runF (stepL (trRows L N rows Av Bv)) s w = some t ∧ Rch (stepsOf rows) [0] t ∧ Rch (bkOf (stepsOf rows) N) (endsOf N ends) s
  | [], s, t, hs, hr, h, he => by
    cases h
    exact ⟨rfl, hr, .base (List.mem_filter.mpr ⟨List.mem_range.mpr hs, he⟩)⟩
  | c :: w, s, t, hs, hr, h, he => by
    obtain ⟨s', h1, h2⟩ := Option.bind_eq_some_iff.mp (show ((stepL rows s c).bind fun t => runF (stepL rows) t w) = some t from h)
    obtain ⟨g1, _, _⟩ := stepL_lt k h1
    obtain ⟨i1, i2, i3⟩ := trim_in k T w s' t g1 (.next hr (stepL_mem h1)) h2 he
    refine ⟨?_, i2, .next i3 (bkOf_mem.mpr ⟨g1, hs, stepL_mem h1⟩)⟩
    show ((stepL (trRows L N rows Av Bv) s c).bind fun t => runF (stepL (trRows L N rows Av Bv)) t w) = some t
    rw [trStep hs, if_pos ((T.a s hs).mpr hr), h1]
    show ((if Bv.getD s' false = true then some s' else none).bind _) = _
    rw [if_pos ((T.b s' g1).mpr i3)]
    exact i1
theorem trim_out {L N : Nat} {rows : List (List (Option Nat))} {ends Av Bv : List Bool} (k : KOk L N rows ends) : ∀ (w : List Nat) (s t : Nat), s < N → runF (stepL (trRows L N rows Av Bv)) s w = some t → runF (stepL rows) s w = some t ∧ t < N
  | [], s, t, hs, h => by cases h; exact ⟨rfl, hs⟩
  | c :: w, s, t, hs, h => by
    obtain ⟨s', h1, h2⟩ := Option.bind_eq_some_iff.mp (show ((stepL (trRows L N rows Av Bv) s c).bind fun t => runF (stepL (trRows L N rows Av Bv)) t w) = some t from h)
    rw [trStep hs] at h1
    have h3 : stepL rows s c = some s' := by
      split at h1
      · cases hd : stepL rows s c with
        | none => rw [hd] at h1; cases h1
        | some x =>
          rw [hd] at h1
          have h1 : (if Bv.getD x false = true then some x else none) = some s' := h1
          split at h1
          · exact h1
          · cases h1
      · cases h1
    obtain ⟨g1, _, _⟩ := stepL_lt k h3
    obtain ⟨a, b⟩ := trim_out k w s' t g1 h2
    refine ⟨?_, b⟩
    show ((stepL rows s c).bind fun t => runF (stepL rows) t w) = some t
    rw [h3]
    exact a
theorem trim_acc {L N : Nat} {rows : List (List (Option Nat))} {ends Av Bv : List Bool} (k : KOk L N rows ends) (T : Trims N rows ends Av Bv) (w : List Nat) : AccF (stepL (trRows L N rows Av Bv)) 0 (fun s => (lastOf N ends Av).getD s false) w ↔ InK rows ends w := by
  have n1 := k.n1
  constructor
  · rintro ⟨t, h1, h2⟩
    obtain ⟨a, b⟩ := trim_out k w 0 t (by omega) h1
    refine ⟨t, a, ?_⟩
    have h2 : (lastOf N ends Av).getD t false = true := h2
    rw [lastOf_get b, Bool.and_eq_true] at h2
    exact h2.1
  · rintro ⟨t, h1, h2⟩
    obtain ⟨a, b⟩ := run_lt k w 0 t (by omega) h1
    obtain ⟨i1, i2, _⟩ := trim_in k T w 0 t (by omega) (.base (by simp)) h1 h2
    refine ⟨t, i1, ?_⟩
    have h2 : ends.getD t false = true := h2
    show (lastOf N ends Av).getD t false = true
    rw [lastOf_get a, h2, (T.a t a).mpr i2]
    rfl
theorem trStep_big {L N : Nat} {rows : List (List (Option Nat))} {ends Av Bv : List Bool} (k : KOk L N rows ends) (s c : Nat) (h : L ≤ c) : stepL (trRows L N rows Av Bv) s c = none := by
  by_cases hs : s < N
  · rw [trStep hs]
    cases hd : stepL rows s c with
    | none => split <;> rfl
    | some t => have := (stepL_lt k hd).2.2; omega
  · unfold stepL
    have : (trRows L N rows Av Bv).getD s [] = [] := by
      rw [List.getD_eq_getElem?_getD, List.getElem?_eq_none (by simp [trRows]; omega)]; rfl
    rw [this]
    rfl

/-! ### the trimmed kind: each state that is come to leads to an end -/
theorem mem_stepL {rows : List (List (Option Nat))} {s t : Nat} (h : t ∈ (stepsOf rows).getD s []) : ∃ c, stepL rows s c = some t := by
  have e : (stepsOf rows).getD s [] = (rows.getD s []).filterMap id := by
    unfold stepsOf
    rw [List.getD_eq_getElem?_getD, List.getElem?_map, List.getD_eq_getElem?_getD]
    cases rows[s]? <;> rfl
  rw [e, List.mem_filterMap] at h
  obtain ⟨o, ho, eo⟩ := h
  obtain ⟨c, hc, rfl⟩ := List.mem_iff_getElem.mp ho
  refine ⟨c, ?_⟩
  unfold stepL
  rw [List.getD_eq_getElem?_getD (l := rows.getD s []), List.getElem?_eq_getElem hc]
  exact eo
theorem alive_word {N s : Nat} {rows : List (List (Option Nat))} {ends : List Bool} (h : Rch (bkOf (stepsOf rows) N) (endsOf N ends) s) : s < N ∧ ∃ w t, runF (stepL rows) s w = some t ∧ ends.getD t false = true := by
  induction h with
  | base h =>
    obtain ⟨h1, h2⟩ := List.mem_filter.mp h
    exact ⟨List.mem_range.mp h1, [], _, rfl, h2⟩
  | next _ hm ih =>
    obtain ⟨_, b1, b2⟩ := bkOf_mem.mp hm
    obtain ⟨_, w, t, h1, h2⟩ := ih
    obtain ⟨c, hc⟩ := mem_stepL b2
    refine ⟨b1, c :: w, t, ?_, h2⟩
    show ((stepL rows _ c).bind fun t => runF (stepL rows) t w) = some t
    rw [hc]
    exact h1
theorem stpA_eq {L N : Nat} {rows : List (List (Option Nat))} {ends Av Bv : List Bool} (T : Trims N rows ends Av Bv) : stpA L N rows Av Bv = stepL (trRows L N rows Av Bv) := by
  funext s c
  unfold stpA stepL trRows
  by_cases hs : s < N
  · rw [List.getD_eq_getElem?_getD (l := (List.range N).map _), List.getElem?_map, List.getElem?_range hs]
    rfl
  · have e1 : Av.getD s false = false := by
      rw [List.getD_eq_getElem?_getD, List.getElem?_eq_none (by rw [T.la]; omega)]
      rfl
    have e2 : ((List.range N).map (trRow L rows Av Bv)).getD s [] = [] := by
      rw [List.getD_eq_getElem?_getD, List.getElem?_eq_none (by simp; omega)]
      rfl
    rw [e2]
    unfold trRow
    rw [if_neg (by rw [e1]; exact Bool.false_ne_true), List.getD_eq_getElem?_getD, List.getElem?_replicate]
    split <;> rfl
theorem run_rch {L N : Nat} {rows : List (List (Option Nat))} {ends : List Bool} (k : KOk L N rows ends) : ∀ (w : List Nat) (s t : Nat), Rch (stepsOf rows) [0] s → runF (stepL rows) s w = some t → Rch (stepsOf rows) [0] t
  | [], s, t, hr, h => by cases h; exact hr
  | c :: w, s, t, hr, h => by
    obtain ⟨s', h1, h2⟩ := Option.bind_eq_some_iff.mp (show ((stepL rows s c).bind fun t => runF (stepL rows) t w) = some t from h)
    exact run_rch k w s' t (.next hr (stepL_mem h1)) h2
theorem useA {L N : Nat} {rows : List (List (Option Nat))} {ends Av Bv : List Bool} (k : KOk L N rows ends) (T : Trims N rows ends Av Bv) (h0 : Bv.getD 0 false = true) {s : Nat} {w : List Nat} (hw : runF (stpA L N rows Av Bv) 0 w = some s) :
    ∃ p t, p.length + 1 ≤ N ∧ runF (stpA L N rows Av Bv) s p = some t ∧ (lastOf N ends Av).getD t false = true := by
  have n1 := k.n1
  obtain ⟨hr, hs⟩ := trim_out k w 0 s (by omega) (by rw [← stpA_eq T]; exact hw)
  have rs := run_rch k w 0 s (.base (.head _)) hr
  have bs : Bv.getD s false = true := by
    rcases snoc_of w with rfl | ⟨v, c, rfl⟩
    · cases hw
      exact h0
    · rw [stpA_eq T, runF_snoc] at hw
      cases e : runF (stepL (trRows L N rows Av Bv)) 0 v with
      | none => rw [e] at hw; cases hw
      | some s' =>
        rw [e] at hw
        have hw : stepL (trRows L N rows Av Bv) s' c = some s := hw
        obtain ⟨_, hs'⟩ := trim_out k v 0 s' (by omega) e
        rw [trStep hs'] at hw
        split at hw
        · cases e2 : stepL rows s' c with
          | none => rw [e2] at hw; cases hw
          | some t =>
            rw [e2] at hw
            by_cases hb : Bv.getD t false = true
            · rw [show keepB Bv (some t) = some t from if_pos hb] at hw
              rw [← Option.some.inj hw]; exact hb
            · rw [show keepB Bv (some t) = none from if_neg hb] at hw
              cases hw
        · cases hw
  obtain ⟨_, v, t, h1, h2⟩ := alive_word ((T.b s hs).mp bs)
  obtain ⟨i1, i2, _⟩ := trim_in k T v s t hs rs h1 h2
  have ht : t < N := (run_lt k v s t hs h1).1
  obtain ⟨p, hp, hp2⟩ := short_run (δ := stpA L N rows Av Bv) (N := N) (fun s c j hs h => stpA_lt k hs h) hs _ v (Nat.le_refl _) (by rw [stpA_eq T]; exact i1)
  exact ⟨p, t, hp, hp2, by rw [lastOf_get ht, h2, (T.a t ht).mpr i2]; rfl⟩
/-- the first word of the kind above the bound -/
def FirstK (rows : List (List (Option Nat))) (ends : List Bool) (fm : List Int) (b : Int) : Option (List Nat) → Prop
  | none => ∀ u, ¬ (InK rows ends u ∧ b < wF fm u)
  | some w => (InK rows ends w ∧ b < wF fm w) ∧ ∀ u, (InK rows ends u ∧ b < wF fm u) → ¬ slt u w
theorem firstK_one {rows : List (List (Option Nat))} {ends : List Bool} {fm : List Int} {b : Int} : ∀ {r r' : Option (List Nat)}, FirstK rows ends fm b r → FirstK rows ends fm b r' → r = r'
  | none, none, _, _ => rfl
  | none, some w, h, g => absurd g.1 (h w)
  | some w, none, h, g => absurd h.1 (g w)
  | some w, some v, h, g => by
    rcases slt_tri w v with e | e | e
    · exact absurd e (g.2 w h.1)
    · rw [e]
    · exact absurd e (h.2 v g.1)
theorem accA_iff {L N : Nat} {rows : List (List (Option Nat))} {ends Av Bv : List Bool} (k : KOk L N rows ends) (T : Trims N rows ends Av Bv) {fm : List Int} {b : Int} {u : List Nat} : AccA (stpA L N rows Av Bv) fm (lastOf N ends Av) b u ↔ InK rows ends u ∧ b < wF fm u := by
  rw [← trim_acc k T u, ← stpA_eq T]
  constructor
  · rintro ⟨s, h1, h2, h3⟩
    exact ⟨⟨s, h1, h2⟩, h3⟩
  · rintro ⟨⟨s, h1, h2⟩, h3⟩
    exact ⟨s, h1, h2, h3⟩
theorem firstA_K {L N : Nat} {rows : List (List (Option Nat))} {ends Av Bv : List Bool} (k : KOk L N rows ends) (T : Trims N rows ends Av Bv) {fm : List Int} {b : Int} : ∀ {r : Option (List Nat)}, FirstA (stpA L N rows Av Bv) fm (lastOf N ends Av) b r → FirstK rows ends fm b r
  | none, h => fun u hu => h u ((accA_iff k T).mpr hu)
  | some w, h => ⟨(accA_iff k T).mp h.1, fun u hu => h.2 u ((accA_iff k T).mpr hu)⟩
/-- above's search ends with the first word -/
theorem above_runs {L N M W : Nat} {rows : List (List (Option Nat))} {ends Av Bv : List Bool} (k : KOk L N rows ends) (T : Trims N rows ends Av Bv) {fm : List Int} {b : Int} (hM : ∀ c, (fm.getD c 0).natAbs ≤ M) (hW : N * W ≤ 60000) (hW2 : max b 0 + ((3 * (M * N) + M : Nat) : Int) < W) :
    ∃ res, (∃ fuel k2, fwRun (aftA (stpA L N rows Av Bv) fm) (finA (lastOf N ends Av) b) keyA L fuel (best0 N) [nodeA 0 0] [([nodeA 0 0], none, [])] 0 = some (res, k2)) ∧ FirstK rows ends fm b res := by
  have n1 := k.n1
  have hst : ∀ s c t, s < N → stpA L N rows Av Bv s c = some t → t < N := fun s c t hs h => stpA_lt k hs h
  have hL : ∀ s c t, stpA L N rows Av Bv s c = some t → c < L := fun s c t h => Nat.lt_of_not_le fun z => by
    rw [stpA_eq T, trStep_big k s c z] at h
    cases h
  obtain ⟨I, F⟩ := q_start n1
  have Q : QS (stpA L N rows Av Bv) fm (lastOf N ends Av) b L (best0 N) [(0, 0, [])] 0 0 := QS.start rfl n1
  have run : ∃ fuel res, qRun (stpA L N rows Av Bv) fm (lastOf N ends Av) b L fuel (best0 N) [(0, 0, [])] 0 = some res := by
    cases h0 : Bv.getD 0 false with
    | true =>
      refine ⟨60001, ?_⟩
      have mm : ((M * (N + 1) : Nat) : Int) = ((M * N : Nat) : Int) + (M : Int) := by rw [Nat.mul_add, Nat.mul_one]; omega
      have m0 : 0 ≤ ((M * N : Nat) : Int) := Int.natCast_nonneg _
      refine qRun_ends (B := max b 0 + ((M * N : Nat) : Int)) hst hL hM n1 (fun s ⟨w, hw⟩ => useA k T h0 hw) (by have := Int.le_max_left b 0; omega) hW ?_ 60001 _ _ 0 Q I (List.pairwise_singleton _ _) ?_ (by omega) (Nat.zero_le _) (by simp)
      · have := Int.le_max_right b 0
        rw [Int.max_eq_left (by omega), mm]
        omega
      · intro n hn
        rw [List.mem_singleton.mp hn]
        left
        have := Int.le_max_right b 0
        show (0 : Int) ≤ _
        omega
    | false =>
      have dead : ¬ Rch (bkOf (stepsOf rows) N) (endsOf N ends) 0 := fun h => by
        have := (T.b 0 (by omega)).mpr h
        rw [h0] at this
        cases this
      have no : ∀ c, stpA L N rows Av Bv 0 c = none := fun c => by
        rw [stpA_eq T, trStep (by omega)]
        split
        · cases e : stepL rows 0 c with
          | none => rfl
          | some t =>
            have ht := (stepL_lt k e).1
            refine if_neg fun hb => dead (.next ((T.b t ht).mp hb) (bkOf_mem.mpr ⟨ht, by omega, stepL_mem e⟩))
        · rfl
      have ng : (lastOf N ends Av).getD 0 false = false := by
        rw [lastOf_get (by omega)]
        cases e : ends.getD 0 false with
        | false => rfl
        | true => exact absurd (.base (List.mem_filter.mpr ⟨List.mem_range.mpr (by omega), e⟩)) dead
      have fold : ∀ n, (List.range n).foldl (qStep (stpA L N rows Av Bv) fm 0 0 []) (best0 N, [(0, 0, [])]) = (best0 N, [(0, 0, [])]) := fun n => by
        induction n with
        | zero => rfl
        | succ n ih =>
          rw [List.range_succ, List.foldl_append, ih, List.foldl_cons, List.foldl_nil]
          unfold qStep
          rw [no]
      refine ⟨2, none, ?_⟩
      rw [qRun]
      dsimp only [List.getElem?_cons_zero]
      rw [if_neg (by rw [ng]; simp), fold, if_pos (by simp)]
      rfl
  obtain ⟨fuel, res, hr⟩ := run
  obtain ⟨k2, hf⟩ := fw_q hst fuel _ _ _ _ 0 res I F hr
  exact ⟨res, ⟨fuel, k2, hf⟩, firstA_K k T (qRun_first hst hL fuel _ _ 0 res Q I hr)⟩
/-- what above promises, by words alone -/
theorem above_words {L N M W : Nat} {rows : List (List (Option Nat))} {ends : List Bool} (k : KOk L N rows ends) {fm : List Int} {b : Int} {res : Option (List Nat)} (hf : fm.length = L) (hM : ∀ c, (fm.getD c 0).natAbs ≤ M) (hW : N * W ≤ 60000) (hW2 : max b 0 + ((3 * (M * N) + M : Nat) : Int) < W) (h : FirstK rows ends fm b res) :
    R_above [kindD L rows ends, .tuple (fm.map .int), .int b] (encW res) := ⟨L, N, rows, ends, fm, b, res, rfl, k, hf, rfl, fun Av Bv T => by
  obtain ⟨res', hrun, h'⟩ := above_runs k T hM hW hW2
  rw [firstK_one h h']
  exact hrun⟩

-- SPLIT
section
variable {P : Program} {w : World} {K : PySem.W.Frag} {mg : Str → Option Value} {base : Heap} {A : Adrs}
/-- the first of two words -/
def earlyF : Option (List Nat) → Option (List Nat) → Option (List Nat)
  | none, b => b
  | some a, none => some a
  | some a, some b => if a.length = b.length then (if b.map (97 + ·) < a.map (97 + ·) then some b else some a) else if a.length < b.length then some a else some b
def R_early (ds : List PyData) (r : PyData) : Prop := ∃ a b : Option (List Nat), ds = [encW a, encW b] ∧ (∀ w, a = some w → w.length ≤ 100000) ∧ (∀ w, b = some w → w.length ≤ 100000) ∧ r = encW (earlyF a b)
theorem ok_earlier (T : Txt K mg A) (B : Tbs base mg A) : FnOk P w K mg base CX0 1 A.f_earlier A.d_earlier ["one", "other"] (spP K 2 R_early) := by
  refine T.F_earlier.ok sc_earlier (fun vs H Q E h => ?_) (fun cdv Ar outer s H vs Q E hr h => ?_)
  · exact spP.len h
  refine ⟨_, (pss_cons (ps_if (PW.pt (pw_or (pt_cmpR op_isN (pv 0) pe_non (nomark _)) (pw_or1 (pt_cmpR op_isN (pv 1) pe_non (nomark _))))) (pss_one (ps_ret (pe_ifExp (pt_cmpR op_isN (pv 0) pe_non (nomark _)) (pv 1) (pv 0))))
    pss_nil)
    (pss_cons (ps_if (pt_cmpR op_ne (pe_callB (id := "len") call_len_str (by rfl) T.z_len (by decide +kernel) (pa_cons (pv 0) pa_nil)) (pe_callB (id := "len") call_len_str (by rfl) T.z_len (by decide +kernel) (pa_cons (pv 1) pa_nil)) (nomark _)) (pss_one (ps_ret (pe_ifExp (pt_cmpR op_lt (pe_callB (id := "len") call_len_str (by rfl) T.z_len (by decide +kernel) (pa_cons (pv 0) pa_nil)) (pe_callB (id := "len") call_len_str (by rfl) T.z_len (by decide +kernel) (pa_cons (pv 1) pa_nil)) (nomark _)) (pv 0) (pv 1))))
    pss_nil)
    (pss_one (ps_ret (pe_callB (id := "min") (call_minS rfl) (by rfl) T.z_min (by decide +kernel) (pa_cons (pv 0) (pa_cons (pv 1) pa_nil))))))), ?_⟩
  refine spP.ok h fun W ds r hR => ?_
  obtain ⟨a, b, rfl, la, lb, rfl⟩ := hR
  walk_at "st"
  cases a with
  | none =>
    rw [show encW none = PyData.none from rfl]
    walk_at "go"
    rw [if_pos (show isNone PyData.none = true from rfl)]
    walk_at "go"
    rw [if_pos (show isNone PyData.none = true from rfl)]
    walk_at "go"
    rfl
  | some a =>
    have la := la a rfl
    cases b with
    | none =>
      rw [show encW none = PyData.none from rfl, show encW (some a) = nX a from rfl]
      walk_at "go"
      rw [if_neg (show ¬ isNone (nX a) = true from Bool.false_ne_true)]
      walk_at "go"
      rw [if_pos (show isNone PyData.none = true from rfl)]
      walk_at "go"
      rw [if_neg (show ¬ isNone (nX a) = true from Bool.false_ne_true)]
      walk_at "go"
      rfl
    | some b =>
      have lb := lb b rfl
      rw [show encW (some b) = nX b from rfl, show encW (some a) = nX a from rfl]
      walk_at "go"
      rw [if_neg (show ¬ isNone (nX a) = true from Bool.false_ne_true)]
      walk_at "go"
      rw [if_neg (show ¬ isNone (nX b) = true from Bool.false_ne_true)]
      walk_at "go"
      refine rc_lenX la ?_
      walk_at "go"
      refine rc_lenX lb ?_
      walk_at "go"
      refine if_split (fun h => ?_) (fun h => ?_)
      · have hne : a.length ≠ b.length := fun e => by rw [e, decide_eq_true rfl] at h; cases h
        walk_at "go"
        refine rc_lenX la ?_
        walk_at "go"
        refine rc_lenX lb ?_
        walk_at "go"
        refine if_split (fun h => ?_) (fun h => ?_)
        · have h := of_decide_eq_true h
          walk_at "go"
          show nX a = encW (earlyF (some a) (some b))
          rw [earlyF, if_neg hne, if_pos (by omega)]
          rfl
        · have h := of_decide_eq_false h
          walk_at "go"
          show nX b = encW (earlyF (some a) (some b))
          rw [earlyF, if_neg hne, if_neg (by omega)]
          rfl
      · have he : a.length = b.length := by
          have := of_decide_eq_true (by simpa using h : decide (((a.length : Nat) : Int) = (b.length : Int)) = true)
          omega
        walk_at "go"
        refine rc_minS ?_
        have e1 : (txt a).cps.toList = a.map (97 + ·) := by simp [txt]
        have e2 : (txt b).cps.toList = b.map (97 + ·) := by simp [txt]
        rw [e1, e2, earlyF, if_pos he]
        by_cases hl : b.map (97 + ·) < a.map (97 + ·)
        · rw [if_pos hl, if_pos hl]; rfl
        · rw [if_neg hl, if_neg hl]; rfl
end

section
variable {P : Program} {w : World} {K : PySem.W.Frag} {mg : Str → Option Value} {base : Heap} {A : Adrs}
def R_unlike (ds : List PyData) (r : PyData) : Prop := ∃ (kd : PyData) (f g : List Int) (r1 r2 : Option (List Nat)), ds = [kd, .tuple (f.map .int), .tuple (g.map .int)] ∧ f.length = g.length ∧ f.length ≤ 100 ∧ R_above [kd, .tuple ((List.zipWith (· - ·) f g).map .int), .int 0] (encW r1) ∧ R_above [kd, .tuple (((List.zipWith (· - ·) f g).map fun x => -x).map .int), .int 0] (encW r2) ∧
  (∀ w, r1 = some w → w.length ≤ 100000) ∧ (∀ w, r2 = some w → w.length ≤ 100000) ∧ r = encW (earlyF r1 r2)
theorem ok_unlike (T : Txt K mg A) (B : Tbs base mg A) : FnOk P w K mg base CX0 8 A.f_unlike A.d_unlike ["kind", "one", "other"] (spT K (TT A) 3 R_unlike) := by
  have G_earlier : FnOk P w K mg base CX0 1 A.f_earlier A.d_earlier ["one", "other"] (spP K 2 R_early) := ok_earlier T B
  have G_above : FnOk P w K mg base CX0 7 A.f_above A.d_above ["kind", "form", "bound"] (spT K (TT A) 3 R_above) := ok_above T B
  refine T.F_unlike.ok sc_unlike (fun vs H Q E h => ?_) (fun cdv Ar outer s H vs Q E hr h => ?_)
  · exact spT.len h
  refine ⟨_, (pss_cons (ps_set (i := 3) sc_unlike.nd rfl (Or.inl rfl) (pe_callTy (T := "tuple") (kTupOf K) (by rfl) T.z_tuple (by decide +kernel) (pa_cons (pe_lc (own := [("item", 4), ("less", 5)]) rfl sc_unlike.nd (kZip K true true (by rfl) T.z_zip (pa_cons (pv 1) (pa_cons (pv 2) pa_nil))) (blkOk_by (own := [("item", 4), ("less", 5)]) (N := N_unlike) (sc := defScope s_unlike) (by decide +kernel)) (fun _ _ _ _ _ => (kTgT K (n := 2) (by rfl) (pgs_cons (pg_name (i := 4) sc_unlike.nd rfl (Or.inl rfl)) (pgs_cons (pg_name (i := 5) sc_unlike.nd rfl (Or.inl rfl)) pgs_nil)))) (fun _ _ _ _ _ => pts_nil) (fun _ _ _ _ _ => (pe_op op_sub (pv 4) (pv 5)))) pa_nil)))
    (pss_one (ps_ret (pe_call G_earlier (hr.mono (by first | decide | omega)) rfl T.m_earlier T.k_earlier T.b_earlier .nil pass0 (pa_cons (pe_call G_above (hr.mono (by first | decide | omega)) rfl T.m_above T.k_above T.b_above .nil pass0 (pa_cons (pv 0) (pa_cons (pv 3) (pa_cons pe_int pa_nil)))) (pa_cons (pe_call G_above (hr.mono (by first | decide | omega)) rfl T.m_above T.k_above T.b_above .nil pass0 (pa_cons (pv 0) (pa_cons (pe_callTy (T := "tuple") (kTupOf K) (by rfl) T.z_tuple (by decide +kernel) (pa_cons (pe_lc (own := [("item", 4)]) rfl sc_unlike.nd (kPiT K (pv 3)) (blkOk_by (own := [("item", 4)]) (N := N_unlike) (sc := defScope s_unlike) (by decide +kernel)) (fun _ _ _ _ _ => (pg_name (i := 4) sc_unlike.nd rfl (Or.inl rfl))) (fun _ _ _ _ _ => pts_nil) (fun _ _ _ _ _ => (pe_un un_neg (pv 4)))) pa_nil)) (pa_cons pe_int pa_nil)))) pa_nil)))))), ?_⟩
  refine spT.ok h fun W hW ds r hR => ?_
  obtain ⟨kd, f, g, r1, r2, rfl, hl, hl2, h1, h2, l1, l2, rfl⟩ := hR
  walk_at "st"
  walk_at "go"
  refine ev_lcP (fun _ => true) (fun j => .int ((List.zipWith (· - ·) f g).getD j 0)) (ei_zipTT ?_)
  walk_at "go"
  refine ⟨by simp [hl], ?_⟩
  rw [List.length_map]
  refine ⟨by omega, fun j hj => ?_, ?_⟩
  · have e1 : itemD (f.map .int) j = .int f[j] := by unfold itemD; simp [hj]
    have e2 : itemD (g.map .int) j = .int g[j] := by unfold itemD; simp [show j < g.length by omega]
    rw [e1, e2]
    walk_at "go"
    refine ⟨?_, rfl⟩
    rw [List.getD_eq_getElem?_getD, List.getElem?_eq_getElem (by simp; omega)]
    simp
  · have em : (List.map (fun j => PyData.int ((List.zipWith (· - ·) f g).getD j 0)) (List.filter (fun _ => true) (List.range f.length))) = (List.zipWith (· - ·) f g).map .int := by
      rw [List.filter_eq_self.mpr fun _ _ => rfl]
      apply List.ext_getElem
      · simp [hl]
      · intro i a1 a2
        rw [List.getElem_map, List.getElem_map, List.getElem_range, List.getD_eq_getElem?_getD, List.getElem?_eq_getElem (by simpa using a2)]
        rfl
    rw [em]
    generalize hz : List.zipWith (· - ·) f g = Z at h1 h2
    have lZ : Z.length ≤ 100 := by rw [← hz]; simp; omega
    refine ea_nil (rc_tupL ?_)
    walk_at "tg"
    refine sw_ret (ev_call (ea_cons (ev_callT (ea_cons (ev_var rfl (ea_cons (ev_var rfl (ea_cons (ev_int (ea_nil ⟨rfl, _, h1, ?_⟩))))))))))
    refine ea_cons (ev_callT (ea_cons (ev_var rfl (ea_cons (ev_cb (ea_cons (ev_lcP (fun _ => true) (fun j => .int (-(Z.getD j 0))) (ei_tup (ev_var rfl ⟨_, rfl, ?_⟩)))))))))
    rw [List.length_map]
    refine ⟨by omega, fun j hj => ?_, ?_⟩
    · have e1 : itemD (Z.map .int) j = .int (Z.getD j 0) := by unfold itemD; rw [List.getElem?_map, List.getD_eq_getElem?_getD, List.getElem?_eq_getElem hj]; rfl
      rw [e1]
      walk_at "tg"
      exact et_yes ⟨rfl, rfl, fun _ => ev_un (ev_var rfl (ru_neg ⟨rfl, rfl⟩))⟩
    · have em2 : (List.map (fun j => PyData.int (-(Z.getD j 0))) (List.filter (fun _ => true) (List.range Z.length))) = (Z.map fun x => -x).map .int := by
        rw [List.filter_eq_self.mpr fun _ _ => rfl]
        apply List.ext_getElem
        · simp
        · intro i a1 a2
          rw [List.getElem_map, List.getElem_map, List.getElem_map, List.getElem_range, List.getD_eq_getElem?_getD, List.getElem?_eq_getElem (by simpa using a2)]
          rfl
      rw [em2]
      refine ea_nil (rc_tupL (ea_cons (ev_int (ea_nil ⟨rfl, _, h2, ea_nil (rc_pure rfl ⟨r1, r2, rfl, l1, l2, rfl⟩ rfl)⟩))))
end

-- SPLIT
/-! ### the law's own rows: for each state the greatest worth of ways of so many letters to an end -/
theorem wF_cons (fm : List Int) (c : Nat) (w : List Nat) : wF fm (c :: w) = fm.getD c 0 + wF fm w := by unfold wF; rw [List.map_cons, List.sum_cons]
theorem wF_app (fm : List Int) (v w : List Nat) : wF fm (v ++ w) = wF fm v + wF fm w := by unfold wF; rw [List.map_append, List.sum_append]
/-- the greatest of some, none of none -/
def IsMax (l : List Int) (o : Option Int) : Prop := match o with | none => l = [] | some m => m ∈ l ∧ ∀ y, y ∈ l → y ≤ m
def maxO : List Int → Option Int
  | [] => none
  | x :: xs => some (match maxO xs with | none => x | some y => if x ≤ y then y else x)
theorem maxO_is : ∀ l, IsMax l (maxO l)
  | [] => rfl
  | x :: xs => by
    have ih := maxO_is xs
    unfold maxO
    cases e : maxO xs with
    | none =>
      rw [e] at ih
      have ih : xs = [] := ih
      subst ih
      exact ⟨by simp, fun y hy => by rw [List.mem_singleton.mp hy]; exact Int.le_refl _⟩
    | some m =>
      rw [e] at ih
      obtain ⟨h1, h2⟩ : m ∈ xs ∧ ∀ y, y ∈ xs → y ≤ m := ih
      dsimp only
      by_cases c : x ≤ m
      · rw [if_pos c]
        exact ⟨.tail _ h1, fun y hy => (List.mem_cons.mp hy).elim (fun e => e ▸ c) (h2 y)⟩
      · rw [if_neg c]
        exact ⟨.head _, fun y hy => (List.mem_cons.mp hy).elim (fun e => by rw [e]; exact Int.le_refl _) fun hy => by have := h2 y hy; omega⟩
theorem IsMax.one {l : List Int} : ∀ {o o' : Option Int}, IsMax l o → IsMax l o' → o = o'
  | none, none, _, _ => rfl
  | none, some m, h, g => by
    have h : l = [] := h
    rw [h] at g
    exact nomatch g.1
  | some m, none, h, g => by
    have g : l = [] := g
    rw [g] at h
    exact nomatch h.1
  | some m, some m', h, g => by
    have h1 := h.2 m' g.1
    have h2 := g.2 m h.1
    rw [Int.le_antisymm h2 h1]
section
variable (δ : Nat → Nat → Option Nat) (goal : Nat → Bool) (fm : List Int) (L : Nat)
/-- what a state's letters come to, by the row ahead -/
def someW (prev : Nat → Option Int) (s n : Nat) : List Int := (List.range n).filterMap fun j => (δ s j).bind fun t => (prev t).map fun v => fm.getD j 0 + v
def bw : Nat → Nat → Option Int
  | 0, s => if goal s = true then some 0 else none
  | n + 1, s => maxO (someW δ fm (bw n) s L)
/-- the letters that lead on to more than is lacking -/
def goodJ (prev : Nat → Option Int) (s : Nat) (lack : Int) (j : Nat) : Bool := match δ s j with
  | none => false
  | some t => match prev t with | none => false | some v => decide (lack < fm.getD j 0 + v)
def lw : Nat → Nat → Int → Option (List Nat)
  | 0, _, _ => some []
  | n + 1, s, lack => match (List.range L).filter (goodJ δ fm (bw δ goal fm L n) s lack) with
    | [] => none
    | j :: _ => match δ s j with | none => none | some t => (lw n t (lack - fm.getD j 0)).map (j :: ·)
def goodN (b : Int) (n : Nat) : Bool := match bw δ goal fm L n 0 with | none => false | some v => decide (b < v)
def lfirst (m : Nat) (b : Int) : Option (List Nat) := match (List.range m).filter (goodN δ goal fm L b) with
  | [] => none
  | n :: _ => lw δ goal fm L n 0 b
end
section
variable {δ : Nat → Nat → Option Nat} {goal : Nat → Bool} {fm : List Int} {L : Nat}
theorem mem_someW {prev : Nat → Option Int} {s n : Nat} {x : Int} : x ∈ someW δ fm prev s n ↔ ∃ j t v, j < n ∧ δ s j = some t ∧ prev t = some v ∧ x = fm.getD j 0 + v := by
  unfold someW
  rw [List.mem_filterMap]
  constructor
  · rintro ⟨j, hj, h⟩
    obtain ⟨t, h1, h2⟩ := Option.bind_eq_some_iff.mp h
    obtain ⟨v, h3, h4⟩ := Option.map_eq_some_iff.mp h2
    exact ⟨j, t, v, List.mem_range.mp hj, h1, h3, h4.symm⟩
  · rintro ⟨j, t, v, hj, h1, h2, rfl⟩
    exact ⟨j, List.mem_range.mpr hj, by rw [h1]; show (prev t).map _ = _; rw [h2]; rfl⟩
theorem bw_word : ∀ (n s : Nat) (v : Int), bw δ goal fm L n s = some v → ∃ w t, w.length = n ∧ runF δ s w = some t ∧ goal t = true ∧ wF fm w = v
  | 0, s, v, h => by
    unfold bw at h
    split at h
    · rename_i g
      cases h
      exact ⟨[], s, rfl, rfl, g, rfl⟩
    · cases h
  | n + 1, s, v, h => by
    have hm := maxO_is (someW δ fm (bw δ goal fm L n) s L)
    rw [show maxO (someW δ fm (bw δ goal fm L n) s L) = some v from h] at hm
    obtain ⟨j, t, u, _, h1, h2, rfl⟩ := mem_someW.mp hm.1
    obtain ⟨w, e, a, b, c, d⟩ := bw_word n t u h2
    exact ⟨j :: w, e, by rw [List.length_cons, a], by show (δ s j).bind _ = _; rw [h1]; exact b, c, by rw [wF_cons, d]⟩
theorem bw_best (hL : ∀ s c t, δ s c = some t → c < L) : ∀ (w : List Nat) (s t : Nat), runF δ s w = some t → goal t = true → ∃ v, bw δ goal fm L w.length s = some v ∧ wF fm w ≤ v
  | [], s, t, h, g => by
    cases h
    exact ⟨0, if_pos g, Int.le_refl _⟩
  | c :: w, s, t, h, g => by
    obtain ⟨s', h1, h2⟩ := Option.bind_eq_some_iff.mp (show ((δ s c).bind fun t => runF δ t w) = some t from h)
    obtain ⟨v, h3, h4⟩ := bw_best hL w s' t h2 g
    have hm := maxO_is (someW δ fm (bw δ goal fm L w.length) s L)
    have hin : fm.getD c 0 + v ∈ someW δ fm (bw δ goal fm L w.length) s L := mem_someW.mpr ⟨c, s', v, hL _ _ _ h1, h1, h3, rfl⟩
    show ∃ v, maxO (someW δ fm (bw δ goal fm L w.length) s L) = some v ∧ _
    cases e : maxO (someW δ fm (bw δ goal fm L w.length) s L) with
    | none =>
      rw [e] at hm
      have hm : someW δ fm (bw δ goal fm L w.length) s L = [] := hm
      rw [hm] at hin
      exact nomatch hin
    | some m =>
      rw [e] at hm
      have := hm.2 _ hin
      exact ⟨m, rfl, by rw [wF_cons]; omega⟩
theorem filter_least {p : Nat → Bool} {n x : Nat} {xs : List Nat} (h : (List.range n).filter p = x :: xs) : p x = true ∧ x < n ∧ ∀ y, y < n → p y = true → x ≤ y := by
  have hx : x ∈ (List.range n).filter p := by rw [h]; exact .head _
  obtain ⟨h1, h2⟩ := List.mem_filter.mp hx
  refine ⟨h2, List.mem_range.mp h1, fun y hy hp => ?_⟩
  have hm : y ∈ (List.range n).filter p := List.mem_filter.mpr ⟨List.mem_range.mpr hy, hp⟩
  have pw : ((List.range n).filter p).Pairwise (· < ·) := List.Pairwise.filter _ List.pairwise_lt_range
  rw [h] at hm pw
  rcases List.mem_cons.mp hm with e | e
  · omega
  · exact Nat.le_of_lt ((List.pairwise_cons.mp pw).1 y e)
theorem goodJ_iff {prev : Nat → Option Int} {s j : Nat} {lack : Int} : goodJ δ fm prev s lack j = true ↔ ∃ t v, δ s j = some t ∧ prev t = some v ∧ lack < fm.getD j 0 + v := by
  unfold goodJ
  cases h1 : δ s j with
  | none => simp
  | some t =>
    dsimp only
    cases h2 : prev t with
    | none => simp [h2]
    | some v => simp [h2]
theorem lw_is (hL : ∀ s c t, δ s c = some t → c < L) : ∀ (n s : Nat) (lack v : Int), bw δ goal fm L n s = some v → lack < v →
    ∃ w t, lw δ goal fm L n s lack = some w ∧ w.length = n ∧ runF δ s w = some t ∧ goal t = true ∧ lack < wF fm w ∧ ∀ u t', u.length = n → runF δ s u = some t' → goal t' = true → lack < wF fm u → ¬ lexN u w
  | 0, s, lack, v, h, hv => by
    obtain ⟨w, t, a, b, c, d⟩ := bw_word 0 s v h
    have e : w = [] := List.length_eq_zero_iff.mp a
    subst e
    exact ⟨[], t, rfl, rfl, b, c, by rw [d]; exact hv, fun u t' hu _ _ _ hl => by rw [List.length_eq_zero_iff.mp hu] at hl; exact hl⟩
  | n + 1, s, lack, v, h, hv => by
    -- any word of so many letters above what is lacking begins with a good letter
    have good : ∀ (c : Nat) (u : List Nat) (t' : Nat), u.length = n → runF δ s (c :: u) = some t' → goal t' = true → lack < wF fm (c :: u) → c < L ∧ goodJ δ fm (bw δ goal fm L n) s lack c = true := fun c u t' hu hr hg hw => by
      obtain ⟨s', h1, h2⟩ := Option.bind_eq_some_iff.mp (show ((δ s c).bind fun t => runF δ t u) = some t' from hr)
      obtain ⟨x, h3, h4⟩ := bw_best hL u s' t' h2 hg
      rw [hu] at h3
      rw [wF_cons] at hw
      exact ⟨hL _ _ _ h1, goodJ_iff.mpr ⟨s', x, h1, h3, by omega⟩⟩
    obtain ⟨w0, t0, a, b, c, d⟩ := bw_word (n + 1) s v h
    have ne : ∃ j js, (List.range L).filter (goodJ δ fm (bw δ goal fm L n) s lack) = j :: js := by
      cases w0 with
      | nil => cases a
      | cons c0 u0 =>
        obtain ⟨g1, g2⟩ := good c0 u0 t0 (by simpa using a) b c (by rw [d]; exact hv)
        cases e : (List.range L).filter (goodJ δ fm (bw δ goal fm L n) s lack) with
        | nil =>
          have hm : c0 ∈ (List.range L).filter (goodJ δ fm (bw δ goal fm L n) s lack) := List.mem_filter.mpr ⟨List.mem_range.mpr g1, g2⟩
          rw [e] at hm
          exact nomatch hm
        | cons j js => exact ⟨j, js, rfl⟩
    obtain ⟨j, js, ej⟩ := ne
    obtain ⟨gj, jL, least⟩ := filter_least ej
    obtain ⟨t, x, h1, h2, h3⟩ := goodJ_iff.mp gj
    obtain ⟨w, t2, k1, k2, k3, k4, k5, k6⟩ := lw_is hL n t (lack - fm.getD j 0) x h2 (by omega)
    refine ⟨j :: w, t2, ?_, by rw [List.length_cons, k2], by show (δ s j).bind _ = _; rw [h1]; exact k3, k4, by rw [wF_cons]; omega, fun u t' hu hr hg hw hl => ?_⟩
    · rw [lw, ej]
      dsimp only
      rw [h1]
      dsimp only
      rw [k1]
      rfl
    · cases u with
      | nil => cases hu
      | cons c0 u0 =>
        have hu : u0.length = n := by simpa using hu
        obtain ⟨g1, g2⟩ := good c0 u0 t' hu hr hg hw
        have := least c0 g1 g2
        rcases hl with hl | ⟨e, hl⟩
        · omega
        · subst e
          obtain ⟨s', q1, q2⟩ := Option.bind_eq_some_iff.mp (show ((δ s c0).bind fun t => runF δ t u0) = some t' from hr)
          rw [h1] at q1
          cases q1
          rw [wF_cons] at hw
          exact k6 u0 t' hu q2 hg (by omega) hl
/-- the first of the words shorter than m above the bound -/
theorem lfirst_is (hL : ∀ s c t, δ s c = some t → c < L) (m : Nat) (b : Int) :
    (lfirst δ goal fm L m b = none ∧ ∀ u, u.length < m → ¬ (AccF δ 0 goal u ∧ b < wF fm u)) ∨ ∃ w, lfirst δ goal fm L m b = some w ∧ (AccF δ 0 goal w ∧ b < wF fm w) ∧ ∀ u, (AccF δ 0 goal u ∧ b < wF fm u) → ¬ slt u w := by
  have good : ∀ u, (AccF δ 0 goal u ∧ b < wF fm u) → goodN δ goal fm L b u.length = true := fun u ⟨⟨t, h1, h2⟩, h3⟩ => by
    obtain ⟨v, h4, h5⟩ := bw_best (fm := fm) hL u 0 t h1 h2
    unfold goodN
    rw [h4]
    exact decide_eq_true (by omega)
  unfold lfirst
  cases e : (List.range m).filter (goodN δ goal fm L b) with
  | nil =>
    refine .inl ⟨rfl, fun u hu h => ?_⟩
    have hm : u.length ∈ (List.range m).filter (goodN δ goal fm L b) := List.mem_filter.mpr ⟨List.mem_range.mpr hu, good u h⟩
    rw [e] at hm
    exact nomatch hm
  | cons n ns =>
    obtain ⟨g, nm, least⟩ := filter_least e
    have hb : ∃ v, bw δ goal fm L n 0 = some v ∧ b < v := by
      unfold goodN at g
      cases h : bw δ goal fm L n 0 with
      | none => rw [h] at g; cases g
      | some v => rw [h] at g; exact ⟨v, rfl, of_decide_eq_true g⟩
    obtain ⟨v, h1, h2⟩ := hb
    obtain ⟨w, t, k1, k2, k3, k4, k5, k6⟩ := lw_is hL n 0 b v h1 h2
    refine .inr ⟨w, k1, ⟨⟨t, k3, k4⟩, k5⟩, fun u hu hl => ?_⟩
    rcases hl with hl | ⟨hl, hx⟩
    · have := least u.length (by omega) (good u hu)
      omega
    · obtain ⟨⟨t', a, c⟩, d⟩ := hu
      exact k6 u t' (by omega) a c d hx
/-! ### how long the first word above a bound is -/
theorem cut_out {b t : Nat} {w : List Nat} (h : runF δ b w = some t) {i j : Nat} (hij : i ≤ j) (he : runF δ b (w.take i) = runF δ b (w.take j)) : runF δ b (w.take i ++ w.drop j) = some t := by
  obtain ⟨t1, a1, b1⟩ := runF_split h j
  rw [runF_app, he, a1]
  exact b1
theorem wF_cut (w : List Nat) {i j : Nat} (hij : i ≤ j) : wF fm (w.take i ++ w.drop j) = wF fm w - (wF fm (w.take j) - wF fm (w.take i)) := by
  have h1 : wF fm w = wF fm (w.take j) + wF fm (w.drop j) := by rw [← wF_app, List.take_append_drop]
  rw [wF_app, h1]
  omega
/-- a shortest word above the bound -/
structure Short (δ : Nat → Nat → Option Nat) (goal : Nat → Bool) (fm : List Int) (b : Int) (w : List Nat) : Prop where
  acc : AccF δ 0 goal w
  ab : b < wF fm w
  least : ∀ u, AccF δ 0 goal u → b < wF fm u → w.length ≤ u.length
theorem Short.up {b : Int} {w : List Nat} (S : Short δ goal fm b w) {i j : Nat} (hij : i < j) (hj : j ≤ w.length) (he : runF δ 0 (w.take i) = runF δ 0 (w.take j)) : wF fm (w.take i) < wF fm (w.take j) := by
  refine Int.lt_of_not_ge fun c => ?_
  obtain ⟨t, h1, h2⟩ := S.acc
  have := S.least (w.take i ++ w.drop j) ⟨t, cut_out h1 (by omega) he, h2⟩ (by rw [wF_cut w (by omega)]; have := S.ab; omega)
  rw [List.length_append, List.length_take, List.length_drop] at this
  omega
theorem first_short {N M W : Nat} {b : Int} {w : List Nat} (hst : ∀ s c t, s < N → δ s c = some t → t < N) (hN : 1 ≤ N) (hM : ∀ c, (fm.getD c 0).natAbs ≤ M) (S : Short δ goal fm b w) (hW : max b 0 + ((2 * (M * N) : Nat) : Int) < W) : w.length ≤ N * W + N := by
  obtain ⟨t, h1, h2⟩ := S.acc
  have at_ : ∀ i, ∃ s, runF δ 0 (w.take i) = some s ∧ s < N ∧ runF δ s (w.drop i) = some t := fun i => by
    obtain ⟨s, a, c⟩ := runF_split h1 i
    exact ⟨s, a, runF_in hst _ 0 s (by omega) a, c⟩
  have low : ∀ i, -((M * N : Nat) : Int) ≤ wF fm (w.take i) := fun i => by
    obtain ⟨s, a, c, d⟩ := at_ i
    obtain ⟨u, hu, ru⟩ := short_run hst (by omega) _ (w.take i) (Nat.le_refl _) a
    have l1 := (wF_low hM u).1
    have l2 := Nat.mul_le_mul_left M (show u.length ≤ N by omega)
    by_cases hi : (w.take i).length ≤ N
    · have := (wF_low hM (w.take i)).1
      have := Nat.mul_le_mul_left M hi
      omega
    · refine Classical.byContradiction fun c2 => ?_
      have acc : AccF δ 0 goal (u ++ w.drop i) := ⟨t, by rw [runF_app, ru]; exact d, h2⟩
      have ew : wF fm w = wF fm (w.take i) + wF fm (w.drop i) := by rw [← wF_app, List.take_append_drop]
      have := S.least _ acc (by rw [wF_app]; have := S.ab; omega)
      rw [List.length_append, List.length_drop] at this
      rw [List.length_take] at hi
      omega
  have high : ∀ i, i + N ≤ w.length → wF fm (w.take i) ≤ max b 0 + ((M * N : Nat) : Int) := fun i hi => by
    obtain ⟨s, a, c, d⟩ := at_ i
    obtain ⟨u, hu, ru⟩ := short_run hst c _ (w.drop i) (Nat.le_refl _) d
    refine Classical.byContradiction fun c2 => ?_
    have l1 := (wF_low hM u).1
    have l2 := Nat.mul_le_mul_left M (show u.length ≤ N by omega)
    have acc : AccF δ 0 goal (w.take i ++ u) := ⟨t, by rw [runF_app, a]; exact ru, h2⟩
    have := Int.le_max_left b 0
    have := S.least _ acc (by rw [wF_app]; omega)
    rw [List.length_append, List.length_take] at this
    omega
  have R : Rise ((List.range (w.length - N)).map fun i => ((runF δ 0 (w.take i)).getD 0, wF fm (w.take i), ([] : List Nat))) := by
    refine List.pairwise_map.mpr (List.pairwise_iff_getElem.mpr fun i j hi hj hij he => ?_)
    simp only [List.getElem_range] at he ⊢
    have hj' : j < w.length - N := by simpa using hj
    obtain ⟨s1, a1, _⟩ := at_ i
    obtain ⟨s2, a2, _⟩ := at_ j
    have he : (runF δ 0 (w.take i)).getD 0 = (runF δ 0 (w.take j)).getD 0 := he
    rw [a1, a2] at he
    have he : s1 = s2 := he
    exact S.up hij (by omega) (by rw [a1, a2, he])
  have := rise_len (N := N) (low := -((M * N : Nat) : Int)) (W := W) R fun n hn => by
    obtain ⟨i, hi, rfl⟩ := List.mem_map.mp hn
    have hi := List.mem_range.mp hi
    obtain ⟨s, a, c, d⟩ := at_ i
    have l1 := low i
    have l2 := high i (by omega)
    refine ⟨by show (runF δ 0 (w.take i)).getD 0 < N; rw [a]; exact c, l1, ?_⟩
    show wF fm (w.take i) < _
    have := Int.le_max_right b 0
    have : ((2 * (M * N) : Nat) : Int) = ((M * N : Nat) : Int) + ((M * N : Nat) : Int) := by omega
    omega
  rw [List.length_map, List.length_range] at this
  omega
/-- where no ring gains, it has fewer letters than there are states -/
theorem flat_short {N : Nat} {b : Int} {w : List Nat} (hst : ∀ s c t, s < N → δ s c = some t → t < N) (hN : 1 ≤ N) (h : Nat → Int) (S : Short δ goal fm b w)
    (pot : ∀ (v : List Nat) (c s t : Nat), runF δ 0 v = some s → δ s c = some t → (∃ u x, runF δ t u = some x ∧ goal x = true) → h s + fm.getD c 0 ≤ h t) : w.length + 1 ≤ N := by
  obtain ⟨t, h1, h2⟩ := S.acc
  have at_ : ∀ i, ∃ s, runF δ 0 (w.take i) = some s ∧ s < N ∧ runF δ s (w.drop i) = some t := fun i => by
    obtain ⟨s, a, c⟩ := runF_split h1 i
    exact ⟨s, a, runF_in hst _ 0 s (by omega) a, c⟩
  have walk : ∀ (d i : Nat) (s s' : Nat), i + d ≤ w.length → runF δ 0 (w.take i) = some s → runF δ 0 (w.take (i + d)) = some s' → h s + (wF fm (w.take (i + d)) - wF fm (w.take i)) ≤ h s' := fun d => by
    induction d with
    | zero =>
      intro i s s' hi a a'
      rw [Nat.add_zero, a] at a'
      cases a'
      rw [Nat.add_zero]
      omega
    | succ d ih =>
      intro i s s' hi a a'
      obtain ⟨s1, b1, _, _⟩ := at_ (i + d)
      have ih := ih i s s1 (by omega) a b1
      have hd : i + d < w.length := by omega
      have et : w.take (i + (d + 1)) = w.take (i + d) ++ [w[i + d]] := by rw [show i + (d + 1) = i + d + 1 by omega, List.take_add_one]; simp [hd]
      obtain ⟨s2, c1, _, c3⟩ := at_ (i + (d + 1))
      rw [a'] at c1
      cases c1
      rw [et, runF_snoc, b1] at a'
      have a' : δ s1 w[i + d] = some s' := a'
      have := pot _ _ _ _ b1 a' ⟨_, _, c3, h2⟩
      rw [et, wF_snoc]
      omega
  have nd : ((List.range (w.length + 1)).map fun i => (runF δ 0 (w.take i)).getD 0).Nodup := by
    refine List.pairwise_map.mpr (List.pairwise_iff_getElem.mpr fun i j hi hj hij he => ?_)
    simp only [List.getElem_range] at he
    have hj' : j < w.length + 1 := by simpa using hj
    obtain ⟨s1, a1, _⟩ := at_ i
    obtain ⟨s2, a2, _⟩ := at_ j
    rw [a1, a2] at he
    have he : s1 = s2 := he
    subst he
    have u := S.up hij (by omega) (by rw [a1, a2])
    have ej : i + (j - i) = j := by omega
    have := walk (j - i) i s1 s1 (by omega) a1 (by rw [ej]; exact a2)
    rw [ej] at this
    omega
  have hl := len_le_of _ (List.range N) nd fun x hx => by
    obtain ⟨i, _, rfl⟩ := List.mem_map.mp hx
    obtain ⟨s, a, c, _⟩ := at_ i
    rw [a]
    exact List.mem_range.mpr c
  rw [List.length_map, List.length_range, List.length_range] at hl
  exact hl
end
/-- the law's search, where all words of interest are shorter than m -/
theorem lfirst_K {L : Nat} {rows : List (List (Option Nat))} {ends : List Bool} {fm : List Int} {b : Int} {m : Nat} (hL : ∀ s c t, stepL rows s c = some t → c < L) (hm : ∀ w, Short (stepL rows) (fun s => ends.getD s false) fm b w → w.length < m) :
    FirstK rows ends fm b (lfirst (stepL rows) (fun s => ends.getD s false) fm L m b) := by
  rcases lfirst_is (goal := fun s => ends.getD s false) (fm := fm) hL m b with ⟨h1, h2⟩ | ⟨w, h1, h2, h3⟩
  · rw [h1]
    intro u hu
    -- a shortest one
    have ex : ∃ n, ∃ w : List Nat, w.length = n ∧ InK rows ends w ∧ b < wF fm w := ⟨_, u, rfl, hu⟩
    obtain ⟨n, ⟨w, e, w1, w2⟩, least⟩ : ∃ n, (∃ w : List Nat, w.length = n ∧ InK rows ends w ∧ b < wF fm w) ∧ ∀ k, (∃ w : List Nat, w.length = k ∧ InK rows ends w ∧ b < wF fm w) → n ≤ k := by
      refine Classical.byContradiction fun no => ?_
      have all : ∀ n k, k ≤ n → ¬ ∃ w : List Nat, w.length = k ∧ InK rows ends w ∧ b < wF fm w := fun n => by
        induction n with
        | zero =>
          intro k hk h
          exact no ⟨k, h, fun k' _ => by omega⟩
        | succ n ih =>
          intro k hk h
          refine no ⟨k, h, fun k' h' => Nat.le_of_not_lt fun z => ih k' (by omega) h'⟩
      obtain ⟨n, hn⟩ := ex
      exact all n n (Nat.le_refl _) hn
    have S : Short (stepL rows) (fun s => ends.getD s false) fm b w := ⟨w1, w2, fun v v1 v2 => by rw [e]; exact least _ ⟨v, rfl, v1, v2⟩⟩
    exact h2 w (hm w S) ⟨w1, w2⟩
  · rw [h1]
    exact ⟨h2, h3⟩

/-! ### the first word whose worth is not 0, by layers -/
abbrev LE := List Nat × Int × Nat
def FirstU (rows : List (List (Option Nat))) (ends : List Bool) (gp : List Int) : Option (List Nat) → Prop
  | none => ∀ u, ¬ (InK rows ends u ∧ wF gp u ≠ 0)
  | some w => (InK rows ends w ∧ wF gp w ≠ 0) ∧ ∀ u, (InK rows ends u ∧ wF gp u ≠ 0) → ¬ slt u w
theorem firstU_one {rows : List (List (Option Nat))} {ends : List Bool} {gp : List Int} : ∀ {r r' : Option (List Nat)}, FirstU rows ends gp r → FirstU rows ends gp r' → r = r'
  | none, none, _, _ => rfl
  | none, some w, h, g => absurd g.1 (h w)
  | some w, none, h, g => absurd h.1 (g w)
  | some w, some v, h, g => by
    rcases slt_tri w v with e | e | e
    · exact absurd e (g.2 w h.1)
    · rw [e]
    · exact absurd e (h.2 v g.1)
theorem wF_neg (gp : List Int) (w : List Nat) : wF (gp.map fun x => -x) w = - wF gp w := by
  induction w with
  | nil => rfl
  | cons c w ih =>
    rw [wF_cons, wF_cons, ih]
    have : (gp.map fun x => -x).getD c 0 = - gp.getD c 0 := by
      rw [List.getD_eq_getElem?_getD, List.getD_eq_getElem?_getD, List.getElem?_map]
      cases gp[c]? <;> simp
    omega
theorem firstU_neg {rows : List (List (Option Nat))} {ends : List Bool} {gp : List Int} : ∀ {r : Option (List Nat)}, FirstU rows ends gp r → FirstU rows ends (gp.map fun x => -x) r
  | none, h => fun u ⟨a, b⟩ => h u ⟨a, fun z => b (by rw [wF_neg, z]; rfl)⟩
  | some w, h => ⟨⟨h.1.1, fun z => h.1.2 (by rw [wF_neg] at z; omega)⟩, fun u ⟨a, b⟩ => h.2 u ⟨a, fun z => b (by rw [wF_neg, z]; rfl)⟩⟩
/-! words of the same length as texts -/
theorem lexN_map (n : Nat) : ∀ a b : List Nat, lexN (a.map (n + ·)) (b.map (n + ·)) ↔ lexN a b
  | [], [] => Iff.rfl
  | [], _ :: _ => Iff.rfl
  | _ :: _, [] => Iff.rfl
  | x :: a, y :: b => by
    have ih := lexN_map n a b
    show (n + x < n + y ∨ (n + x = n + y ∧ lexN (a.map (n + ·)) (b.map (n + ·)))) ↔ (x < y ∨ (x = y ∧ lexN a b))
    rw [ih]
    constructor
    · rintro (h | ⟨h, g⟩)
      · exact .inl (by omega)
      · exact .inr ⟨by omega, g⟩
    · rintro (h | ⟨h, g⟩)
      · exact .inl (by omega)
      · exact .inr ⟨by omega, g⟩
theorem txt_lex {a b : List Nat} (h : a.length = b.length) : (a.map (97 + ·) < b.map (97 + ·)) ↔ lexN a b := by
  rw [lexN_lt _ _ (by simp [h]), lexN_map]
theorem lexN_asymm {a b : List Nat} (h : lexN a b) : ¬ lexN b a := fun g => lexN_irrefl a (lexN_trans a b a h g)
theorem lexN_le {a b c : List Nat} (hl : a.length = b.length) (h : ¬ lexN b a) (g : lexN b c) : lexN a c := by
  rcases lexN_tri a b hl with e | e | e
  · exact lexN_trans a b c e g
  · rw [e]; exact g
  · exact absurd e h
/-- not above, by what is not above -/
theorem lexN_nle {a b c : List Nat} (hl : a.length = b.length) (h1 : ¬ lexN b a) (h2 : ¬ lexN c b) : ¬ lexN c a := fun z => by
  rcases lexN_tri a b hl with e | e | e
  · exact h2 (lexN_trans c a b z e)
  · rw [e] at z; exact h2 z
  · exact h1 e
theorem pw_short {α : Type} {R : α → α → Prop} : ∀ {l : List α}, l.length ≤ 1 → l.Pairwise R
  | [], _ => .nil
  | [x], _ => List.pairwise_singleton _ _
  | _ :: _ :: _, h => by simp at h
structure LayerOk (δ : Nat → Nat → Option Nat) (gp : List Int) (N n : Nat) (ly : List LE) : Prop where
  len : ∀ e ∈ ly, e.1.length = n
  run : ∀ e ∈ ly, runF δ 0 e.1 = some e.2.2
  num : ∀ e ∈ ly, e.2.1 = wF gp e.1
  srt : ly.Pairwise fun e e' => lexN e.1 e'.1
  cov : ∀ (u : List Nat) (s : Nat) (c : Int), u.length = n → runF δ 0 u = some s → wF gp u ≠ c → ∃ e ∈ ly, e.2.2 = s ∧ e.2.1 ≠ c ∧ ¬ lexN u e.1
  few : ly.length ≤ 2 * N
section
variable {δ : Nat → Nat → Option Nat} {gp : List Int} {L N n : Nat} {ly cs : List LE}
theorem layer0 (hN : 1 ≤ N) : LayerOk δ gp N 0 [([], 0, 0)] where
  len := fun e he => by rw [List.mem_singleton.mp he]; rfl
  run := fun e he => by rw [List.mem_singleton.mp he]; rfl
  num := fun e he => by rw [List.mem_singleton.mp he]; rfl
  srt := List.pairwise_singleton _ _
  cov := fun u s c hu hr hc => by
    have e : u = [] := List.length_eq_zero_iff.mp hu
    subst e
    cases hr
    exact ⟨_, .head _, rfl, hc, lexN_irrefl _⟩
  few := by simp; omega
/-- one letter more of one entry -/
def stepE (δ : Nat → Nat → Option Nat) (gp : List Int) (e : LE) (j : Nat) : Option LE := (δ e.2.2 j).map fun t => (e.1 ++ [j], e.2.1 + gp.getD j 0, t)
def cand (δ : Nat → Nat → Option Nat) (gp : List Int) (L : Nat) (ly : List LE) : List LE := ly.flatMap fun e => (List.range L).filterMap (stepE δ gp e)
/-- what is known of one letter more -/
structure CandOk (δ : Nat → Nat → Option Nat) (gp : List Int) (n : Nat) (cs : List LE) : Prop where
  len : ∀ e ∈ cs, e.1.length = n
  run : ∀ e ∈ cs, runF δ 0 e.1 = some e.2.2
  num : ∀ e ∈ cs, e.2.1 = wF gp e.1
  srt : cs.Pairwise fun e e' => lexN e.1 e'.1
  cov : ∀ (u : List Nat) (s : Nat) (c : Int), u.length = n → runF δ 0 u = some s → wF gp u ≠ c → ∃ e ∈ cs, e.2.2 = s ∧ e.2.1 ≠ c ∧ ¬ lexN u e.1
theorem cand_mem {e' : LE} : e' ∈ cand δ gp L ly ↔ ∃ e ∈ ly, ∃ j t, j < L ∧ δ e.2.2 j = some t ∧ e' = (e.1 ++ [j], e.2.1 + gp.getD j 0, t) := by
  unfold cand stepE
  rw [List.mem_flatMap]
  constructor
  · rintro ⟨e, he, h⟩
    obtain ⟨j, hj, h⟩ := List.mem_filterMap.mp h
    obtain ⟨t, ht, rfl⟩ := Option.map_eq_some_iff.mp h
    exact ⟨e, he, j, t, List.mem_range.mp hj, ht, rfl⟩
  · rintro ⟨e, he, j, t, hj, ht, rfl⟩
    exact ⟨e, he, List.mem_filterMap.mpr ⟨j, List.mem_range.mpr hj, by rw [ht]; rfl⟩⟩
theorem cand_ok (hL : ∀ s c t, δ s c = some t → c < L) (K : LayerOk δ gp N n ly) : CandOk δ gp (n + 1) (cand δ gp L ly) where
  len := fun e' h => by
    obtain ⟨e, he, j, t, _, _, rfl⟩ := cand_mem.mp h
    simp [K.len e he]
  run := fun e' h => by
    obtain ⟨e, he, j, t, _, ht, rfl⟩ := cand_mem.mp h
    show runF δ 0 (e.1 ++ [j]) = some t
    rw [runF_snoc, K.run e he]
    exact ht
  num := fun e' h => by
    obtain ⟨e, he, j, t, _, _, rfl⟩ := cand_mem.mp h
    show e.2.1 + gp.getD j 0 = wF gp (e.1 ++ [j])
    rw [wF_snoc, K.num e he]
  srt := by
    unfold cand
    refine List.pairwise_flatMap.mpr ⟨fun e he => ?_, K.srt.imp_of_mem fun {e e'} he he' hlt x hx y hy => ?_⟩
    · refine List.Pairwise.filterMap _ (R := fun a b : Nat => a < b) (fun a b hab x hx y hy => ?_) List.pairwise_lt_range
      obtain ⟨t, _, rfl⟩ := Option.map_eq_some_iff.mp hx
      obtain ⟨t', _, rfl⟩ := Option.map_eq_some_iff.mp hy
      exact (lexN_snoc _ _ _ _ rfl).mpr (.inr ⟨rfl, hab⟩)
    · obtain ⟨j, _, hx⟩ := List.mem_filterMap.mp hx
      obtain ⟨t, _, rfl⟩ := Option.map_eq_some_iff.mp hx
      obtain ⟨j', _, hy⟩ := List.mem_filterMap.mp hy
      obtain ⟨t', _, rfl⟩ := Option.map_eq_some_iff.mp hy
      exact (lexN_snoc _ _ _ _ (by rw [K.len e he, K.len e' he'])).mpr (.inl hlt)
  cov := fun u s c hu hr hc => by
    rcases snoc_of u with rfl | ⟨v, j, rfl⟩
    · cases hu
    · rw [runF_snoc] at hr
      obtain ⟨s', h1, h2⟩ := Option.bind_eq_some_iff.mp hr
      rw [wF_snoc] at hc
      have hv : v.length = n := by simpa using hu
      obtain ⟨e, he, rfl, h4, h5⟩ := K.cov v s' (c - gp.getD j 0) hv h1 (by omega)
      refine ⟨_, cand_mem.mpr ⟨e, he, j, s, hL _ _ _ h2, h2, rfl⟩, rfl, by show e.2.1 + gp.getD j 0 ≠ c; omega, fun z => ?_⟩
      rcases (lexN_snoc _ _ _ _ (by rw [hv, K.len e he])).mp z with z | ⟨_, z⟩
      · exact h5 z
      · omega
/-- the first one, and the first one with another number -/
def pick : List LE → List LE
  | [] => []
  | e :: es => e :: ((e :: es).filter fun x => decide (x.2.1 ≠ e.2.1)).take 1
theorem pick_sub : ∀ {es : List LE} {x : LE}, x ∈ pick es → x ∈ es
  | e :: es, x, h => by
    rcases List.mem_cons.mp h with rfl | h
    · exact .head _
    · exact (List.mem_filter.mp (List.mem_of_mem_take h)).1
theorem pick_few (es : List LE) : (pick es).length ≤ 2 := by
  cases es with
  | nil => exact Nat.zero_le _
  | cons e es =>
    show (((e :: es).filter fun x => decide (x.2.1 ≠ e.2.1)).take 1).length + 1 ≤ 2
    rw [List.length_take]
    omega
theorem take_one_least {p : LE → Bool} : ∀ {es : List LE} {x : LE}, (es.Pairwise fun a b => lexN a.1 b.1) → x ∈ es → p x = true → ∃ y ∈ (es.filter p).take 1, ¬ lexN x.1 y.1
  | e :: es, x, pw, hx, hp => by
    obtain ⟨h1, h2⟩ := List.pairwise_cons.mp pw
    by_cases c : p e = true
    · rw [List.filter_cons_of_pos c]
      refine ⟨e, by simp, ?_⟩
      rcases List.mem_cons.mp hx with rfl | hx
      · exact lexN_irrefl _
      · exact lexN_asymm (h1 x hx)
    · rw [List.filter_cons_of_neg c]
      rcases List.mem_cons.mp hx with rfl | hx
      · exact absurd hp c
      · exact take_one_least h2 hx hp
theorem pick_cov {es : List LE} (pw : es.Pairwise fun a b => lexN a.1 b.1) {x : LE} (hx : x ∈ es) {c : Int} (hc : x.2.1 ≠ c) : ∃ y ∈ pick es, y.2.1 ≠ c ∧ ¬ lexN x.1 y.1 := by
  cases es with
  | nil => exact nomatch hx
  | cons e es =>
    by_cases he : e.2.1 = c
    · obtain ⟨y, hy, h⟩ := take_one_least (p := fun x => decide (x.2.1 ≠ e.2.1)) pw hx (decide_eq_true (by rw [he]; exact hc))
      refine ⟨y, .tail _ hy, ?_, h⟩
      have := (List.mem_filter.mp (List.mem_of_mem_take hy)).2
      rw [← he]
      exact of_decide_eq_true this
    · refine ⟨e, .head _, he, ?_⟩
      rcases List.mem_cons.mp hx with rfl | hx
      · exact lexN_irrefl _
      · exact lexN_asymm ((List.pairwise_cons.mp pw).1 x hx)
/-- the states that are met, in the order of their first entries -/
def sts (cs : List LE) : List Nat := cs.foldl (fun l c => if c.2.2 ∈ l then l else l ++ [c.2.2]) []
theorem sts_snoc (cs : List LE) (c : LE) : sts (cs ++ [c]) = if c.2.2 ∈ sts cs then sts cs else sts cs ++ [c.2.2] := by unfold sts; rw [List.foldl_append]; rfl
theorem sts_ok : ∀ (cs : List LE), (sts cs).Nodup ∧ (∀ c ∈ cs, c.2.2 ∈ sts cs) ∧ ∀ t ∈ sts cs, ∃ c ∈ cs, c.2.2 = t := by
  intro cs
  have key : ∀ (n : Nat) (cs : List LE), cs.length = n → (sts cs).Nodup ∧ (∀ c ∈ cs, c.2.2 ∈ sts cs) ∧ ∀ t ∈ sts cs, ∃ c ∈ cs, c.2.2 = t := fun n => by
    induction n with
    | zero =>
      intro cs h
      rw [List.length_eq_zero_iff.mp h]
      exact ⟨List.nodup_nil, (fun _ z => nomatch z), fun _ z => nomatch z⟩
    | succ n ih =>
      intro cs h
      have hne : cs ≠ [] := fun e => by rw [e] at h; cases h
      obtain ⟨ds, c, rfl⟩ : ∃ ds c, cs = ds ++ [c] := ⟨cs.dropLast, cs.getLast hne, (List.dropLast_concat_getLast hne).symm⟩
      obtain ⟨a, b, d⟩ := ih ds (by simpa using h)
      rw [sts_snoc]
      by_cases hm : c.2.2 ∈ sts ds
      · rw [if_pos hm]
        refine ⟨a, fun x hx => ?_, fun t ht => ?_⟩
        · rcases List.mem_append.mp hx with hx | hx
          · exact b x hx
          · rw [List.mem_singleton.mp hx]; exact hm
        · obtain ⟨x, hx, e⟩ := d t ht
          exact ⟨x, List.mem_append_left _ hx, e⟩
      · rw [if_neg hm]
        refine ⟨List.nodup_append.mpr ⟨a, by simp, fun x hx y hy => ?_⟩, fun x hx => ?_, fun t ht => ?_⟩
        · rw [List.mem_singleton.mp hy]
          exact fun e => hm (e ▸ hx)
        · rcases List.mem_append.mp hx with hx | hx
          · exact List.mem_append_left _ (b x hx)
          · rw [List.mem_singleton.mp hx]; exact List.mem_append_right _ (List.mem_singleton_self _)
        · rcases List.mem_append.mp ht with ht | ht
          · obtain ⟨x, hx, e⟩ := d t ht
            exact ⟨x, List.mem_append_left _ hx, e⟩
          · rw [List.mem_singleton.mp ht]
            exact ⟨c, List.mem_append_right _ (List.mem_singleton_self _), rfl⟩
  exact key cs.length cs rfl
def ofState (cs : List LE) (t : Nat) : List LE := cs.filter fun c => decide (c.2.2 = t)
/-- the layer that is one letter longer: the picked ones of each state, in order -/
theorem layer_next {ss : List Nat} {ly' : List LE} (hst : ∀ s c t, s < N → δ s c = some t → t < N) (hN : 1 ≤ N) (C : CandOk δ gp n cs) (hs : ss.Perm (sts cs)) (hp : ly'.Perm (ss.flatMap fun t => pick (ofState cs t))) (hsort : ly'.Pairwise fun e e' => ¬ lexN e'.1 e.1) : LayerOk δ gp N n ly' := by
  obtain ⟨nd, s1, s2⟩ := sts_ok cs
  have mem : ∀ x ∈ ly', ∃ t ∈ ss, x ∈ pick (ofState cs t) ∧ x ∈ cs ∧ x.2.2 = t := fun x hx => by
    obtain ⟨t, ht, h⟩ := List.mem_flatMap.mp (hp.mem_iff.mp hx)
    have h2 := List.mem_filter.mp (pick_sub h)
    exact ⟨t, ht, h, h2.1, of_decide_eq_true h2.2⟩
  have ndw : (ss.flatMap fun t => pick (ofState cs t)).Pairwise fun e e' => e.1 ≠ e'.1 := by
    refine List.pairwise_flatMap.mpr ⟨fun t ht => ?_, ((hs.nodup_iff.mpr nd).imp fun {t t'} h => h).imp fun {t t'} hne x hx y hy e => ?_⟩
    · cases hf : ofState cs t with
      | nil => exact List.Pairwise.nil
      | cons e es =>
        have hcs : ∀ z ∈ e :: es, z ∈ cs := fun z hz => (List.mem_filter.mp (show z ∈ ofState cs t by rw [hf]; exact hz)).1
        refine List.pairwise_cons.mpr ⟨fun y hy z => ?_, ?_⟩
        · have h2 := List.mem_filter.mp (List.mem_of_mem_take hy)
          have h3 := of_decide_eq_true h2.2
          rw [C.num y (hcs y h2.1), C.num e (hcs e (.head _)), z] at h3
          exact h3 rfl
        · have : (((e :: es).filter fun x => decide (x.2.1 ≠ e.2.1)).take 1).length ≤ 1 := by rw [List.length_take]; omega
          exact pw_short this
    · have hx2 := List.mem_filter.mp (pick_sub hx)
      have hy2 := List.mem_filter.mp (pick_sub hy)
      have r1 := C.run x hx2.1
      have r2 := C.run y hy2.1
      rw [e, r2] at r1
      have e1 := of_decide_eq_true hx2.2
      have e2 := of_decide_eq_true hy2.2
      exact hne (by rw [← e1, ← e2]; exact (Option.some.inj r1).symm)
  have ndl : ly'.Pairwise fun e e' => e.1 ≠ e'.1 := hp.pairwise_iff (fun {a b} h z => h z.symm) |>.mpr ndw
  have slt_ : ∀ t ∈ sts cs, t < N := fun t ht => by
    obtain ⟨c, hc, rfl⟩ := s2 t ht
    exact runF_in hst c.1 0 _ (by omega) (C.run c hc)
  refine ⟨fun e he => ?_, fun e he => ?_, fun e he => ?_, ?_, fun u s c hu hr hc => ?_, ?_⟩
  · obtain ⟨t, _, _, h, _⟩ := mem e he; exact C.len e h
  · obtain ⟨t, _, _, h, _⟩ := mem e he; exact C.run e h
  · obtain ⟨t, _, _, h, _⟩ := mem e he; exact C.num e h
  · refine (List.Pairwise.and_mem.mp (hsort.and ndl)).imp fun {a b} ⟨ha, hb, h1, h2⟩ => ?_
    obtain ⟨_, _, _, ca, _⟩ := mem a ha
    obtain ⟨_, _, _, cb, _⟩ := mem b hb
    rcases lexN_tri a.1 b.1 (by rw [C.len a ca, C.len b cb]) with e | e | e
    · exact e
    · exact absurd e h2
    · exact absurd e h1
  · obtain ⟨e, he, rfl, h4, h5⟩ := C.cov u s c hu hr hc
    have pw : (ofState cs e.2.2).Pairwise fun a b => lexN a.1 b.1 := List.Pairwise.filter _ C.srt
    obtain ⟨y, hy, g1, g2⟩ := pick_cov pw (List.mem_filter.mpr ⟨he, decide_eq_true rfl⟩) h4
    have hyc := List.mem_filter.mp (pick_sub hy)
    refine ⟨y, hp.mem_iff.mpr (List.mem_flatMap.mpr ⟨e.2.2, hs.mem_iff.mpr (s1 e he), hy⟩), of_decide_eq_true hyc.2, g1, ?_⟩
    exact lexN_nle (by rw [C.len y hyc.1, C.len e he]) g2 h5
  · rw [hp.length_eq, List.length_flatMap]
    have hl : ss.length ≤ N := by
      have := len_le_of ss (List.range N) (hs.nodup_iff.mpr nd) fun t ht => List.mem_range.mpr (slt_ t (hs.mem_iff.mp ht))
      rwa [List.length_range] at this
    have gen : ∀ ss : List Nat, (ss.map fun t => (pick (ofState cs t)).length).sum ≤ 2 * ss.length := fun ss => by
      induction ss with
      | nil => exact Nat.le_refl _
      | cons t ss ih =>
        rw [List.map_cons, List.sum_cons, List.length_cons]
        have := pick_few (ofState cs t)
        omega
    exact Nat.le_trans (gen ss) (by omega)
/-- where there is one, there is a short one -/
theorem unl_short {goal : Nat → Bool} {w : List Nat} (hst : ∀ s c t, s < N → δ s c = some t → t < N) (hN : 1 ≤ N) (acc : AccF δ 0 goal w) (hw : wF gp w ≠ 0) (least : ∀ u, AccF δ 0 goal u → wF gp u ≠ 0 → w.length ≤ u.length) : w.length ≤ 2 * N := by
  obtain ⟨t, h1, h2⟩ := acc
  have at_ : ∀ i, ∃ s, runF δ 0 (w.take i) = some s ∧ s < N ∧ runF δ s (w.drop i) = some t := fun i => by
    obtain ⟨s, a, c⟩ := runF_split h1 i
    exact ⟨s, a, runF_in hst _ 0 s (by omega) a, c⟩
  by_cases hl : w.length ≤ N
  · omega
  have rep : ∃ i j, i < j ∧ j ≤ N ∧ runF δ 0 (w.take i) = runF δ 0 (w.take j) := by
    refine Classical.byContradiction fun no => ?_
    have nd : ((List.range (N + 1)).map fun i => (runF δ 0 (w.take i)).getD 0).Nodup := by
      refine List.pairwise_map.mpr (List.pairwise_iff_getElem.mpr fun i j hi hj hij he => no ⟨i, j, hij, ?_, ?_⟩)
      · have : j < N + 1 := by simpa using hj
        omega
      · simp only [List.getElem_range] at he
        obtain ⟨s1, a1, _⟩ := at_ i
        obtain ⟨s2, a2, _⟩ := at_ j
        rw [a1, a2] at he
        have he : s1 = s2 := he
        rw [a1, a2, he]
    have := len_le_of _ (List.range N) nd fun x hx => by
      obtain ⟨i, _, rfl⟩ := List.mem_map.mp hx
      obtain ⟨s, a, c, _⟩ := at_ i
      rw [a]
      exact List.mem_range.mpr c
    rw [List.length_map, List.length_range, List.length_range] at this
    omega
  obtain ⟨i, j, hij, hj, he⟩ := rep
  have hcut : wF gp (w.take i ++ w.drop j) = 0 := by
    refine Classical.byContradiction fun z => ?_
    have := least _ ⟨t, cut_out h1 (by omega) he, h2⟩ z
    rw [List.length_append, List.length_take, List.length_drop] at this
    omega
  rw [wF_cut w (by omega)] at hcut
  obtain ⟨s, a, c, d⟩ := at_ j
  obtain ⟨y, hy, ry⟩ := short_run hst c _ (w.drop j) (Nat.le_refl _) d
  have accJ : AccF δ 0 goal (w.take j ++ y) := ⟨t, by rw [runF_app, a]; exact ry, h2⟩
  have accI : AccF δ 0 goal (w.take i ++ y) := ⟨t, by rw [runF_app, he, a]; exact ry, h2⟩
  by_cases z : wF gp (w.take j ++ y) = 0
  · have : wF gp (w.take i ++ y) ≠ 0 := by
      rw [wF_app] at z ⊢
      omega
    have := least _ accI this
    rw [List.length_append, List.length_take] at this
    omega
  · have := least _ accJ z
    rw [List.length_append, List.length_take] at this
    omega
end

-- SPLIT
section
variable {P : Program} {w : World} {K : PySem.W.Frag} {mg : Str → Option Value} {base : Heap} {A : Adrs}
theorem ok__law_deck (T : Txt K mg A) (B : Tbs base mg A) : FnOk P w K mg base CX0 1 A.f__law_deck A.d__law_deck ["_law_script"] (spDeck K) := by
  refine T.F__law_deck.ok sc__law_deck (fun vs H Q E h => ?_) (fun cdv Ar outer s H vs Q E hr h => ?_)
  · obtain ⟨_, _, rfl, _⟩ := h
    rfl
  obtain ⟨a, ns, rfl, hS, hl, k⟩ := h
  refine ⟨_, (pss_one (ps_ret (pe_lst (pa_cons (pe_lc (own := [("_law_cell", 1)]) rfl sc__law_deck.nd (kPiL K (pe_slice (kSlL K) (pv 0) po_none (po_some pe_int))) (blkOk_by (own := [("_law_cell", 1)]) (N := N__law_deck) (sc := defScope s__law_deck) (by decide +kernel)) (fun _ _ _ _ _ => (pg_name (i := 1) sc__law_deck.nd rfl (Or.inl rfl))) (fun _ _ _ _ _ => pts_nil) (fun _ _ _ _ _ => (pe_callB (id := "abs") call_abs (by rfl) T.z_abs (by decide +kernel) (pa_cons (pv 1) pa_nil)))) (pa_cons pe_int pa_nil))))), ?_⟩
  refine ⟨_, rfl, _, rfl, a, ns.map V.int, rfl, hS, fun l hl0 => ?_⟩
  have cut : cutV (ns.map V.int) none (some 63) = ns.map V.int := by
    unfold cutV
    rw [show HT.sIx (ns.map V.int).length 0 none = 0 from rfl, show (some (63 : Int)) = some ((63 : Nat) : Int) from rfl, HT.sIx_nat, List.drop_zero, List.length_map]
    exact List.take_of_length_le (by rw [List.length_map]; omega)
  rw [cut]
  refine ⟨l, rfl, ⟨_, SqL.of upd_same⟩, fun D hD => ?_⟩
  have hDl : D ≠ l := by
    intro e
    rw [e, upd_same] at hD
    cases hD
  have hD0 : H D = none := (upd_ne hDl).symm.trans hD
  refine lc_list (K := K) (a := l) (xs := ns.map V.int) (fun i H' => H' D = some (.lst (((ns.take i).map fun c => if c < 0 then -c else c).map V.int)) ∧ H' l = some (.lst (ns.map V.int)) ∧ Same H H')
    ⟨upd_same, by rw [upd_ne hDl.symm, upd_same], Same.newer (Same.new hl0) hD0⟩ (fun i H' _ h => SqL.of h.2.1) ?_ ?_
  · rintro i x H' hx ⟨h1, h2, h3⟩
    rw [List.getElem?_map] at hx
    obtain ⟨c, hc, rfl⟩ := Option.map_eq_some_iff.mp hx
    have hi : i < ns.length := (List.getElem?_eq_some_iff.mp hc).1
    refine ⟨rfl, ?_⟩
    refine yes_ ?_
    refine ⟨_, rfl, c, rfl, _, h1, ?_, ?_, ?_, ?_⟩
    · rw [List.length_map, List.length_map, List.length_take]
      exact Nat.lt_of_le_of_lt (show min i ns.length ≤ 63 by omega) (by decide)
    · rw [upd_same, List.take_add_one, hc, List.map_append, List.map_append]
      rfl
    · rw [upd_ne hDl.symm]
      exact h2
    · exact Same.newer h3 hD0
  · rintro H' ⟨h1, h2, h3⟩
    refine ⟨(show 2 ≤ sizeLine by decide), fun p hp => ?_⟩
    have hDp : D ≠ p := ne_of_none h1 hp
    refine k _ p D (Same.free h3 hp) hD0 ⟨upd_same, _, by rw [upd_ne hDp]; exact h1, ?_, ?_⟩ (Same.newer h3 (Same.free h3 hp))
    · intro c hc
      obtain ⟨b, _, rfl⟩ := List.mem_map.mp hc
      split <;> omega
    · rw [List.length_map, List.length_take]
      omega
theorem ok_draw0 (T : Txt K mg A) : FnOk P w K mg base CX0 1 A.f__law_draw A.d__law_draw ["_law_deck_here", "_law_many"] spDraw := by
  refine T.F__law_draw.ok sc__law_draw (fun vs H Q E h => ?_) (fun cdv Ar outer s H vs Q E hr h => ?_)
  · obtain ⟨_, _, _, _, rfl, _⟩ := h
    rfl
  obtain ⟨p, q, n, many, rfl, hD, hn, h0, h9, k⟩ := h
  obtain ⟨cs, hq, hc, hl⟩ := hD.cells
  have hp := hD.top
  have pq := hD.ne
  refine ⟨_, (pss_cons (ps_asg (pe_op op_add (pe_ix (kIxL K) (pv 0) pe_int (fun _ _ => rfl)) pe_int) (pg_sub (pv 0) pe_int set_list))
    (pss_cons (ps_asg (pe_tup (pa_cons pe_int (pa_cons (pe_un un_neg pe_int) pa_nil))) (kTgT K (n := 2) (by rfl) (pgs_cons (pg_name (i := 2) sc__law_draw.nd rfl (Or.inl rfl)) (pgs_cons (pg_name (i := 3) sc__law_draw.nd rfl (Or.inl rfl)) pgs_nil))))
    (pss_cons (ps_if (pt_cmpR op_gt (pe_callB (id := "len") (kLenQ K) (by rfl) T.z_len (by decide +kernel) (pa_cons (pe_ix (kIxL K) (pv 0) pe_int (fun _ _ => rfl)) pa_nil)) pe_int (nomark _)) (pss_cons (ps_set (i := 3) sc__law_draw.nd rfl (Or.inl rfl) (pe_op op_mod (pe_callTy (T := "int") call_int1 (by rfl) T.z_int (by decide +kernel) (pa_cons (pe_ix (kIxL K) (pv 0) pe_int (fun _ _ => rfl)) pa_nil)) (pe_callB (id := "len") (kLenQ K) (by rfl) T.z_len (by decide +kernel) (pa_cons (pe_ix (kIxL K) (pv 0) pe_int (fun _ _ => rfl)) pa_nil))))
    (pss_one (ps_set (i := 2) sc__law_draw.nd rfl (Or.inl rfl) (pe_ix (kIxL K) (pe_ix (kIxL K) (pv 0) pe_int (fun _ _ => rfl)) (pv 3) (fun _ _ => rfl)))))
    pss_nil)
    (pss_cons (ps_if (pt_cmpR op_ge (pv 2) (pe_op op_pow pe_int pe_int) (nomark _)) (pss_cons (ps_asg (pe_op op_fdiv (pe_callTy (T := "int") call_int1 (by rfl) T.z_int (by decide +kernel) (pa_cons (pv 2) pa_nil)) (pv 1)) (pg_sub (pe_ix (kIxL K) (pv 0) pe_int (fun _ _ => rfl)) (pv 3) set_list))
    (pss_one (ps_ret (pe_op op_mod (pe_callTy (T := "int") call_int1 (by rfl) T.z_int (by decide +kernel) (pa_cons (pv 2) pa_nil)) (pv 1)))))
    pss_nil)
    (pss_cons (ps_set (i := 4) sc__law_draw.nd rfl (Or.inl rfl) (pe_op op_add (pe_op op_add (pe_op op_mod (pe_callTy (T := "int") call_int1 (by rfl) T.z_int (by decide +kernel) (pa_cons (pv 2) pa_nil)) pe_int) (pe_op op_mul pe_int (pe_ix (kIxL K) (pv 0) pe_int (fun _ _ => rfl)))) pe_int))
    (pss_one (ps_ret (pe_op op_mod (pe_callTy (T := "int") call_int1 (by rfl) T.z_int (by decide +kernel) (pa_cons (pe_op op_mod (pe_callTy (T := "int") call_int1 (by rfl) T.z_int (by decide +kernel) (pa_cons (pe_op op_pow (pv 4) pe_int) pa_nil)) pe_int) pa_nil)) (pv 1))))))))), ?_⟩
  refine ⟨_, rfl, p, _, 1, _, rfl, rfl, SqL.of hp, rfl, _, _, rfl, rfl, _, rfl, p, _, 1, 1, rfl, rfl, hp, rfl, ?_⟩
  refine ⟨_, rfl, by decide, fun t ht => ?_⟩
  refine ⟨t, _, rfl, SqT.of upd_same, rfl, ?_⟩
  have tp : t ≠ p := by
    intro e
    rw [e, upd_same] at ht
    cases ht
  have ht0 : H t = none := (upd_ne tp).symm.trans ht
  have tq : t ≠ q := fun e => by rw [e, hq] at ht0; cases ht0
  have hp2 : (upd (upd H p (.lst ([V.ref q, V.int (n : Int)].set 1 (.int ((n : Int) + 1))))) t (.tup [V.int 0, .int (-1)])) p = some (.lst [V.ref q, V.int ((n : Int) + 1)]) := by
    rw [upd_ne tp.symm, upd_same]
    rfl
  have hq2 : (upd (upd H p (.lst ([V.ref q, V.int (n : Int)].set 1 (.int ((n : Int) + 1))))) t (.tup [V.int 0, .int (-1)])) q = some (.lst (cs.map V.int)) := by
    rw [upd_ne tq.symm, upd_ne pq.symm]
    exact hq
  have he2 : Ext [p, q] H (upd (upd H p (.lst ([V.ref q, V.int (n : Int)].set 1 (.int ((n : Int) + 1))))) t (.tup [V.int 0, .int (-1)])) :=
    Ext.trans (Ext.put (by simp)) (Ext.new ht)
  revert hp2 hq2 he2
  intro hp2 hq2 he2
  refine two_ ?_
  dsimp only
  revert hp2 hq2 he2
  generalize upd (upd H p (.lst ([V.ref q, V.int (n : Int)].set 1 (.int ((n : Int) + 1))))) t (.tup [V.int 0, .int (-1)]) = H2
  intro hp2 hq2 he2
  refine sq (fun σ' H' => H' = H2 ∧ ∃ (c : Int) (z : Int), 0 ≤ c ∧ σ' = [some (.ref p), some (.int many), some (.int c), some (.int z), none] ∧ (c = 0 ∨ ∃ i : Nat, z = (i : Int) ∧ cs[i]? = some c)) (fun N hN => ?_) ?_
  · refine ⟨_, rfl, p, _, 0, _, rfl, rfl, SqL.of hp2, rfl, q, _, rfl, .inl (SqL.of hq2), _, _, rfl, rfl, _, rfl, idec (fun hlen => ?_) (fun hlen => ?_)⟩
    · rw [List.length_map] at hlen
      have hm0 : 0 ≤ ((n : Int) + 1) % (cs.length : Int) := Int.emod_nonneg _ (by omega)
      have hm1 : ((n : Int) + 1) % (cs.length : Int) < cs.length := Int.emod_lt_of_pos _ (by omega)
      obtain ⟨i, hi⟩ : ∃ i : Nat, ((n : Int) + 1) % (cs.length : Int) = (i : Int) := ⟨_, (Int.toNat_of_nonneg hm0).symm⟩
      have hil : i < cs.length := by omega
      obtain ⟨c, hci⟩ : ∃ c, cs[i]? = some c := ⟨cs[i], by simp [hil]⟩
      refine ⟨_, rfl, p, _, 1, _, rfl, rfl, SqL.of hp2, rfl, .inl ⟨_, rfl, _, rfl, p, _, 0, _, rfl, rfl, SqL.of hp2, rfl, q, _, rfl, .inl (SqL.of hq2), _, _, rfl, rfl, ?_, ?_⟩⟩
      · rw [List.length_map]
        exact hlen
      · dsimp only
        rw [List.length_map, hi]
        refine ⟨_, rfl, p, _, 0, _, rfl, rfl, SqL.of hp2, rfl, _, rfl, q, _, (i : Int), .int c, rfl, rfl, SqL.of hq2, atI_nat (by rw [List.getElem?_map, hci]; rfl), ?_⟩
        exact hN _ _ ⟨rfl, c, (i : Int), hc c (List.mem_of_getElem? hci), rfl, .inr ⟨i, rfl, hci⟩⟩
    · exact hN _ _ ⟨rfl, 0, -1, Int.le_refl 0, rfl, .inl rfl⟩
  rintro σ' H' ⟨rfl, c, z, hc0, rfl, hcz⟩
  refine sq (fun σ' H'' => H'' = H' ∧ σ' = [some (.ref p), some (.int many), some (.int c), some (.int z), none]) (fun N hN => ?_) ?_
  · refine ⟨_, rfl, (10 : Int), (18 : Int), rfl, rfl, ⟨by decide, by decide, by decide⟩, _, _, rfl, rfl, _, rfl, idec (fun hbig => ?_) (fun _ => ?_)⟩
    · -- a great cell
      obtain ⟨i, rfl, hci⟩ : ∃ i : Nat, z = (i : Int) ∧ cs[i]? = some c := by
        rcases hcz with rfl | h
        · exact absurd hbig (by decide)
        · exact h
      have hil : i < cs.length := (List.getElem?_eq_some_iff.mp hci).1
      refine ⟨_, rfl, .inl ⟨_, rfl, _, rfl, _, _, rfl, rfl, ⟨h0, by omega⟩, ?_⟩⟩
      refine ⟨_, rfl, p, _, 0, _, rfl, rfl, SqL.of hp2, rfl, _, rfl, q, _, (i : Int), i, rfl, rfl, hq2, ?_, ?_⟩
      · unfold ixN
        rw [List.length_map, if_pos (by omega), if_pos (by omega)]
        simp
      refine ⟨_, rfl, .inl ⟨_, rfl, _, rfl, _, _, rfl, rfl, h0, ?_⟩⟩
      refine k _ _ ⟨by rw [upd_ne pq]; exact hp2, cs.set i (c / many), by rw [upd_same, List.map_set], ?_, by rw [List.length_set]; exact hl⟩ (Ext.trans he2 (Ext.put (by simp))) (Int.emod_nonneg _ (by omega)) (Int.emod_lt_of_pos _ h0)
      intro d hd
      rcases List.mem_or_eq_of_mem_set hd with h | rfl
      · exact hc d h
      · exact Int.ediv_nonneg hc0 (by omega)
    · exact hN _ _ ⟨rfl, rfl⟩
  rintro σ' H'' ⟨rfl, rfl⟩
  have hm0 : 0 ≤ c % 2147483563 := Int.emod_nonneg _ (by decide)
  have hm1 : c % 2147483563 < 2147483563 := Int.emod_lt_of_pos _ (by decide)
  refine ⟨_, rfl, .inl ⟨_, rfl, _, _, rfl, rfl, (show (0 : Int) < 2147483563 by decide), _, rfl, p, _, 1, _, rfl, rfl, SqL.of hp2, rfl, _, _, rfl, rfl, .inl ⟨by decide, by decide⟩, _, _, rfl, rfl, _, _, rfl, rfl, ?_⟩⟩
  refine ⟨_, rfl, _, _, rfl, rfl, ⟨by decide, by decide, by omega⟩, .inl ⟨_, rfl, _, _, rfl, rfl, (show (0 : Int) < 2147483629 by decide), .inl ⟨_, rfl, _, rfl, _, _, rfl, rfl, h0, ?_⟩⟩⟩
  exact k _ _ ⟨hp2, cs, hq2, hc, hl⟩ he2 (Int.emod_nonneg _ (by omega)) (Int.emod_lt_of_pos _ h0)
theorem ok__law_draw (T : Txt K mg A) (B : Tbs base mg A) : FnOk P w K mg base CX0 1 A.f__law_draw A.d__law_draw ["_law_deck_here", "_law_many"] (spD K 2 R_draw) :=
  FnOk.less (ok_draw0 T) fun vs H Q E h => by
    obtain ⟨M, p, q, n, us, ds, c, G, rfl, dk, hp, hq, ta, tr, hl, ⟨many, rfl, h1, h2, rfl, rfl⟩, hn, k⟩ := h
    obtain ⟨v, rfl, t⟩ := ta.one_
    cases t
    refine ⟨p, q, n, many, rfl, dk, by omega, h1, h2, fun H' r dk' e r0 r1 => ?_⟩
    obtain ⟨r', rfl⟩ : ∃ r' : Nat, r = (r' : Int) := ⟨r.toNat, by omega⟩
    exact k _ (nI r') H' (n + 1) dk' (Nat.le_refl _) e (.int _) ⟨r', r1, rfl⟩
end
section
variable {P : Program} {w : World} {K : PySem.W.Frag} {mg : Str → Option Value} {base : Heap} {A : Adrs}
theorem ok__law_one (T : Txt K mg A) (B : Tbs base mg A) : FnOk P w K mg base CX0 2 A.f__law_one A.d__law_one ["_law_deck_here", "_law_items"] (spD K 2 R_one) := by
  have G__law_draw : FnOk P w K mg base CX0 1 A.f__law_draw A.d__law_draw ["_law_deck_here", "_law_many"] (spD K 2 R_draw) := ok__law_draw T B
  refine T.F__law_one.ok sc__law_one (fun vs H Q E h => ?_) (fun cdv Ar outer s H vs Q E hr h => ?_)
  · exact spD.len h
  refine ⟨_, (pss_one (ps_ret (pe_ix (kIxQ K) (pv 1) (pe_call G__law_draw (hr.mono (by first | decide | omega)) rfl T.m__law_draw T.k__law_draw T.b__law_draw .nil pass0 (pa_cons (pv 0) (pa_cons (pe_callB (id := "len") (kLenA K) (by rfl) T.z_len (by decide +kernel) (pa_cons (pv 1) pa_nil)) pa_nil))) (fun _ _ => rfl)))), ?_⟩
  refine spD.ok h fun M p q hp hq Hs tr ds cc k0 G hR hk0 => ?_
  obtain ⟨rfl, hR⟩ := hR
  have main : ∀ (x : PyData) (n : Nat), ds = [x] → lenD x = some n → 0 < n → n ≤ 1000 → sizeOk x → (∀ j, j < n → ∃ d, nthD x j = some d ∧ G d) →
      SW K (deckW M p q Hs tr hp hq) (tRet (tOp (rIx K) (tVar 1) (tCall (spD K 2 R_draw) [] E0 (tCons (tVar 0) (tCons (tCB (rLenA K) (tCons (tVar 1) tNil)) tNil))))) [.raw (.ref p), .dat x] k0 ⟨fun _ k => G .none ∧ k ≤ k0 + 1, fun d k => G d ∧ k ≤ k0 + 1, fun _ _ => False, fun _ _ => False⟩ := fun x n e hn n0 n1 hz hG => by
    walk_at "go"
    refine rc_lenA hn (by omega) ?_
    walk_at "go"
    refine ⟨by omega, by omega, by omega, fun r hr => ?_⟩
    obtain ⟨d, h1, h2⟩ := hG r (by omega)
    exact U.rd_ixQ rfl hz h1 ⟨h2, Nat.le_refl _⟩
  rcases hR with ⟨es, rfl | rfl, h0, h1, rfl⟩ | ⟨ws, rfl, h0, h1, rfl⟩
  · exact main (.list es) es.length rfl rfl (List.length_pos_iff.mpr h0) h1 trivial fun j hj => ⟨es[j], by simp [nthD, hj], List.getElem_mem hj⟩
  · exact main (.tuple es) es.length rfl rfl (List.length_pos_iff.mpr h0) h1 trivial fun j hj => ⟨es[j], by simp [nthD, hj], List.getElem_mem hj⟩
  · exact main (.str (txt ws)) ws.length rfl (by simp [lenD, txt_len]) (List.length_pos_iff.mpr h0) h1 (by show (txt ws).length ≤ 100000; rw [txt_len]; omega) fun j hj => ⟨.str (txt [ws[j]]), by simp [nthD, txt_get, hj, txt], ws[j], List.getElem_mem hj, rfl⟩
end

theorem keepF {α : Type} (f : α → Bool) (d : α) (l : List α) : (((List.range l.length).filter fun i => f (l.getD i d)).map fun i => l.getD i d) = l.filter f := by
  have h : (List.range l.length).map (fun i => l.getD i d) = l := by
    apply List.ext_getElem?
    intro i
    rw [List.getElem?_map]
    by_cases hi : i < l.length
    · rw [List.getElem?_range hi]; simp [hi]
    · have : (List.range l.length)[i]? = none := by simp; omega
      rw [this]; simp [hi]
  conv => rhs; rw [← h]
  rw [List.filter_map]
  rfl
theorem getDX {α : Type} {l : List α} {d : α} {i : Nat} (h : i < l.length) : l[i]? = some (l.getD i d) := by
  rw [List.getD_eq_getElem?_getD, List.getElem?_eq_getElem h]; rfl

-- SPLIT
/-! ### the law's layers, over data -/
def encE (e : LE) : PyData := .tuple [nX e.1, .int e.2.1, nI e.2.2]
def encG (cs : List LE) : List (Int × List PyData) := (sts cs).map fun t => (((t : Nat) : Int), (ofState cs t).map encE)
theorem encG_len (cs : List LE) : (encG cs).length ≤ cs.length := by
  unfold encG
  rw [List.length_map]
  have key : ∀ (l : List LE) (acc : List Nat), (l.foldl (fun l c => if c.2.2 ∈ l then l else l ++ [c.2.2]) acc).length ≤ acc.length + l.length := fun l => by
    induction l with
    | nil => intro acc; simp
    | cons c l ih =>
      intro acc
      rw [List.foldl_cons, List.length_cons]
      have := ih (if c.2.2 ∈ acc then acc else acc ++ [c.2.2])
      split at this
      · rename_i h
        rw [if_pos h]
        omega
      · rename_i h
        rw [if_neg h]
        simp at this
        omega
  have := key cs []
  simpa [sts] using this
theorem encG_row {cs : List LE} {kv : Int × List PyData} (h : kv ∈ encG cs) : kv.2.length ≤ cs.length := by
  obtain ⟨t, _, rfl⟩ := List.mem_map.mp h
  show ((ofState cs t).map encE).length ≤ _
  rw [List.length_map]
  exact List.length_filter_le _ _
theorem encG_add (cs : List LE) (c : LE) : addDL (encG cs) ((c.2.2 : Nat) : Int) (encE c) = encG (cs ++ [c]) := by
  have e1 : (encG cs).any (fun kv => decide (kv.1 = ((c.2.2 : Nat) : Int))) = decide (c.2.2 ∈ sts cs) := by
    unfold encG
    rw [List.any_map, Bool.eq_iff_iff, List.any_eq_true, decide_eq_true_eq]
    constructor
    · rintro ⟨t, ht, h⟩
      have h : ((t : Nat) : Int) = ((c.2.2 : Nat) : Int) := of_decide_eq_true h
      have : t = c.2.2 := by omega
      exact this ▸ ht
    · exact fun h => ⟨_, h, decide_eq_true rfl⟩
  have e2 : ∀ t, ofState (cs ++ [c]) t = if t = c.2.2 then ofState cs t ++ [c] else ofState cs t := fun t => by
    unfold ofState
    rw [List.filter_append]
    by_cases h : t = c.2.2
    · rw [if_pos h, List.filter_cons_of_pos (by simp [h])]; rfl
    · rw [if_neg h, List.filter_cons_of_neg (by simp; exact fun z => h z.symm)]; simp
  unfold addDL
  rw [e1]
  unfold encG
  rw [sts_snoc]
  by_cases h : c.2.2 ∈ sts cs
  · rw [if_pos (decide_eq_true h), if_pos h, List.map_map]
    refine List.map_congr_left fun t _ => ?_
    show (if ((t : Nat) : Int) = ((c.2.2 : Nat) : Int) then _ else _) = _
    rw [e2]
    by_cases ht : t = c.2.2
    · rw [if_pos (by omega), if_pos ht, List.map_append]; rfl
    · rw [if_neg (by omega), if_neg ht]
  · rw [if_neg (by simpa using h), if_neg h, List.map_append]
    congr 1
    · refine List.map_congr_left fun t ht => ?_
      rw [e2, if_neg (fun z : t = c.2.2 => h (z ▸ ht))]
    · have e0 : ofState cs c.2.2 = [] := List.filter_eq_nil_iff.mpr fun x hx z => h (by have z : x.2.2 = c.2.2 := of_decide_eq_true z; rw [← z]; exact (sts_ok cs).2.1 x hx)
      show [(((c.2.2 : Nat) : Int), [encE c])] = [(((c.2.2 : Nat) : Int), (ofState (cs ++ [c]) c.2.2).map encE)]
      rw [e2, if_pos rfl, e0]
      rfl
theorem encG_look {cs : List LE} {t : Nat} (h : t ∈ sts cs) : lookD ((encG cs).map fun kv => ((.inl kv.1 : Key), PyData.list kv.2)) (.inl ((t : Nat) : Int)) = some (.list ((ofState cs t).map encE)) := by
  unfold encG
  rw [List.map_map]
  generalize sts cs = l at h
  induction l with
  | nil => exact nomatch h
  | cons x l ih =>
    rw [List.map_cons, lookD_cons]
    show (if (.inl ((x : Nat) : Int) : Key) = .inl ((t : Nat) : Int) then some (PyData.list ((ofState cs x).map encE)) else _) = _
    by_cases e : x = t
    · subst e
      rw [if_pos rfl]
    · rw [if_neg (fun z => e (by injection z with z; omega))]
      exact ih ((List.mem_cons.mp h).resolve_left fun z => e z.symm)
theorem opt_cases {α : Type} (o : Option α) : o = none ∨ ∃ a, o = some a := by cases o <;> simp
def toK3 (e : LE) : K3 := (txt e.1, e.2.1, ((e.2.2 : Nat) : Int))
def ofK3 (p : K3) : LE := (p.1.cps.toList.map (· - 97), p.2.1, p.2.2.toNat)
theorem ofK3_to (e : LE) : ofK3 (toK3 e) = e := by
  obtain ⟨w, v, s⟩ := e
  show (((txt w).cps.toList.map (· - 97)), v, ((s : Nat) : Int).toNat) = (w, v, s)
  have : (txt w).cps.toList.map (· - 97) = w := by
    unfold txt
    simp only [List.map_map]
    conv => rhs; rw [← List.map_id w]
    exact List.map_congr_left fun x _ => by show 97 + x - 97 = x; omega
  rw [this]
  simp
theorem encE_3 (es : List LE) : es.map encE = (es.map toK3).map enc3 := by rw [List.map_map]; rfl
theorem cut_one (ds : List PyData) : U.cutD ds none (some 1) = ds.take 1 := by
  cases ds with
  | nil => rfl
  | cons d ds => exact cut_take (j := 1) (by simp)
theorem nI_map (l : List Nat) : l.map nI = (l.map Int.ofNat).map PyData.int := by rw [List.map_map]; rfl
section
variable {P : Program} {w : World} {K : PySem.W.Frag} {mg : Str → Option Value} {base : Heap} {A : Adrs}
def R_llayer (ds : List PyData) (G : PyData → Prop) : Prop := ∃ (L N : Nat) (rows : List (List (Option Nat))) (ends : List Bool) (gp : List Int) (n : Nat) (ly : List LE), ds = [kindD L rows ends, .list (gp.map .int), .list (ly.map encE)] ∧ KOk L N rows ends ∧ gp.length = L ∧ LayerOk (stepL rows) gp N n ly ∧ n ≤ 1000 ∧
  G = fun d => ∃ ly', d = .list (ly'.map encE) ∧ LayerOk (stepL rows) gp N (n + 1) ly'
theorem ok__law_layer (T : Txt K mg A) (B : Tbs base mg A) : FnOk P w K mg base CX0 1 A.f__law_layer A.d__law_layer ["_law_kind_here", "_law_gaps", "_law_layer_here"] (spQ K 3 R_llayer) := by
  refine T.F__law_layer.ok sc__law_layer (fun vs H Q E h => ?_) (fun cdv Ar outer s H vs Q E hr h => ?_)
  · exact spQ.len h
  refine ⟨_, (pss_cons (ps_set (i := 3) sc__law_layer.nd rfl (Or.inl rfl) pe_dnewK)
    (pss_cons (ps_for PassesOwn.never rfl (kPiL K (pv 2)) (kTgT K (n := 3) (by rfl) (pgs_cons (pg_name (i := 4) sc__law_layer.nd rfl (Or.inl rfl)) (pgs_cons (pg_name (i := 5) sc__law_layer.nd rfl (Or.inl rfl)) (pgs_cons (pg_name (i := 6) sc__law_layer.nd rfl (Or.inl rfl)) pgs_nil))))
    (pss_one (ps_for PassesOwn.never rfl (pi_range1 (by rfl) T.z_range (pa_cons (pe_ix (kIxT K) (pv 0) pe_int (fun _ _ => rfl)) pa_nil)) (pg_name (i := 7) sc__law_layer.nd rfl (Or.inl rfl))
    (pss_cons (ps_set (i := 8) sc__law_layer.nd rfl (Or.inl rfl) (pe_ix (kIxT K) (pe_ix (kIxT K) (pe_ix (kIxT K) (pv 0) pe_int (fun _ _ => rfl)) (pv 6) (fun _ _ => rfl)) (pv 7) (fun _ _ => rfl)))
    (pss_one (ps_if (pt_cmpR op_notN (pv 8) pe_non (nomark _)) (pss_one (ps_expr (kBm K (pe_bm PySem.F.plainAttrs_list PySem.F.slot_list_append PySem.F.type_list_append mt_append (pe_dsetd (pv 3) (pv 8) (pe_lst pa_nil) ⟨rfl, rfl, rfl, rfl⟩) (pa_cons (pe_tup (pa_cons (pe_op op_add_str (pv 4) (pe_ix ix_str pe_str (pv 7) (fun _ _ => rfl))) (pa_cons (pe_op op_add (pv 5) (pe_ix (kIxL K) (pv 1) (pv 7) (fun _ _ => rfl))) (pa_cons (pv 8) pa_nil)))) pa_nil)))))
    pss_nil))))))
    (pss_cons (ps_set (i := 9) sc__law_layer.nd rfl (Or.inl rfl) (pe_lst pa_nil))
    (pss_cons (ps_for PassesOwn.never rfl (kPiL K (pe_callB (id := "sorted") (kSortI K) (by rfl) T.z_sorted (by decide +kernel) (pa_cons (pe_callTy (T := "list") (call_list_dK (by rfl)) (by rfl) T.z_list (by decide +kernel) (pa_cons (pv 3) pa_nil)) pa_nil))) (pg_name (i := 6) sc__law_layer.nd rfl (Or.inl rfl))
    (pss_cons (ps_set (i := 10) sc__law_layer.nd rfl (Or.inr rfl) (pe_ix (kIxL K) (pe_dget (room1 hr) (pv 3) (pv 6) (fun _ _ => rfl)) pe_int (fun _ _ => rfl)))
    (pss_cons (ps_expr (kBm K (pe_bm PySem.F.plainAttrs_list PySem.F.slot_list_append PySem.F.type_list_append mt_append (pv 9) (pa_cons (pv 10) pa_nil))))
    (pss_one (ps_expr (kBm K (pe_bm PySem.F.plainAttrs_list PySem.F.slot_list_extend PySem.F.type_list_extend mt_extend (pv 9) (pa_cons (pe_slice (kSlL K) (pe_lc (own := [("_law_row", 11)]) rfl sc__law_layer.nd (kPiL K (pe_dget (room1 hr) (pv 3) (pv 6) (fun _ _ => rfl))) (blkOk_by (own := [("_law_row", 11)]) (N := N__law_layer) (sc := defScope s__law_layer) (by decide +kernel)) (fun _ _ _ _ _ => (pg_name (i := 11) sc__law_layer.nd rfl (Or.inl rfl))) (fun _ _ _ _ _ => (pts_one (pt_cmpR op_ne (pe_ix (kIxT K) (pv 11) pe_int (fun _ _ => rfl)) (pe_ix (kIxT K) (pv 10) pe_int (fun _ _ => rfl)) (nomark _)))) (fun _ _ _ _ _ => (pv 11))) po_none (po_some pe_int)) pa_nil))))))))
    (pss_one (ps_ret (pe_callB (id := "sorted") (kSort3 K) (by rfl) T.z_sorted (by decide +kernel) (pa_cons (pv 9) pa_nil)))))))), ?_⟩
  refine spQ.ok h fun W ds G hR => ?_
  obtain ⟨L, N, rows, ends, gp, n, ly, rfl, ok, hgl, hly, hn, rfl⟩ := hR
  have n1 := ok.n1
  have n9 := ok.n9
  have l4 := ok.l4
  have lr := ok.lr
  have few := hly.few
  have hL : ∀ s c t, stepL rows s c = some t → c < L := fun s c t h => (stepL_lt ok h).2.2
  have hst : ∀ s c t, s < N → stepL rows s c = some t → t < N := fun s c t _ h => (stepL_lt ok h).1
  have candLen : ∀ c : Nat, (cand (stepL rows) gp L (ly.take c)).length ≤ 4 * c := fun c => by
    unfold cand
    rw [List.length_flatMap]
    have gen : ∀ l : List LE, (l.map fun e => ((List.range L).filterMap (stepE (stepL rows) gp e)).length).sum ≤ 4 * l.length := fun l => by
      induction l with
      | nil => exact Nat.le_refl _
      | cons e l ih =>
        rw [List.map_cons, List.sum_cons, List.length_cons]
        have := List.length_filterMap_le (stepE (stepL rows) gp e) (List.range L)
        rw [List.length_range] at this
        omega
    have := gen (ly.take c)
    rw [List.length_take] at this
    omega
  walk_at "st"
  refine sw_dl (i := 3) (by simp) (NoOwn.of rfl) ?_
  dsimp only [List.set_cons_succ, List.set_cons_zero]
  refine swh_for (ei_list (ev_var rfl ⟨_, rfl, ?_⟩))
  rw [List.length_map]
  refine ⟨fun c ρ _ kvs => ρ = [.dat (kindD L rows ends), .dat (.list (gp.map .int)), .dat (.list (ly.map encE)), .no, .no, .no, .no, .no, .no, .no, .no, .no] ∧ kvs = encG (cand (stepL rows) gp L (ly.take c)), ⟨_, by walk_at "le", rfl, rfl⟩, ?_, ?_⟩
  · rintro c ρ1 k2 kvs1 hc ⟨rfl, rfl⟩ _
    rw [itemD_map hc]
    have cl := candLen c
    have et : ly.take (c + 1) = ly.take c ++ [ly[c]] := by rw [List.take_add_one]; simp [hc]
    have hel := hly.len _ (List.getElem_mem hc)
    have her := hly.run _ (List.getElem_mem hc)
    have ec : cand (stepL rows) gp L (ly.take (c + 1)) = cand (stepL rows) gp L (ly.take c) ++ (List.range L).filterMap (stepE (stepL rows) gp ly[c]) := by unfold cand; rw [et, List.flatMap_append]; simp
    dsimp only
    rw [ec]
    generalize cand (stepL rows) gp L (ly.take c) = cs at cl
    generalize ly[c] = e at hel her
    obtain ⟨wd, v, s⟩ := e
    have hel : wd.length = n := hel
    have her : runF (stepL rows) 0 wd = some s := her
    have hs := runF_in hst wd 0 s (by omega) her
    have ra := getDR lr hs
    have rok := ok.row _ (List.mem_of_getElem? ra)
    rw [show encE (wd, v, s) = .tuple [nX wd, .int v, nI s] from rfl]
    walk_at "tg"
    refine ⟨NoOwn.of rfl, swh_for (ei_rng1 ?_)⟩
    walk_at "go"
    refine ⟨by omega, by omega, ?_⟩
    rw [show (L : Int).toNat = L from rfl]
    refine ⟨fun j ρ _ kvs => ρ = [.dat (kindD L rows ends), .dat (.list (gp.map .int)), .dat (.list (ly.map encE)), .no, .dat (nX wd), .dat (.int v), .dat (nI s), .no, .no, .no, .no, .no] ∧ kvs = encG (cs ++ (List.range j).filterMap (stepE (stepL rows) gp (wd, v, s))), ⟨_, by walk_at "le", rfl, by rw [List.range_zero, List.filterMap_nil, List.append_nil]⟩, ?_, ?_⟩
    · rintro j ρ2 k3 kvs2 hj ⟨rfl, rfl⟩ _
      have hgj : gp[j]? = some (gp.getD j 0) := by rw [List.getD_eq_getElem?_getD, List.getElem?_eq_getElem (by omega)]; rfl
      have ej : (List.range (j + 1)).filterMap (stepE (stepL rows) gp (wd, v, s)) = (List.range j).filterMap (stepE (stepL rows) gp (wd, v, s)) ++ (stepE (stepL rows) gp (wd, v, s) j).toList := by
        rw [List.range_succ, List.filterMap_append]
        cases h : stepE (stepL rows) gp (wd, v, s) j with
        | none => rw [List.filterMap_cons, h]; rfl
        | some x => rw [List.filterMap_cons, h]; rfl
      have jl := List.length_filterMap_le (stepE (stepL rows) gp (wd, v, s)) (List.range j)
      rw [List.length_range] at jl
      dsimp only
      rw [ej, ← List.append_assoc]
      have cl2 : (cs ++ (List.range j).filterMap (stepE (stepL rows) gp (wd, v, s))).length ≤ 1000 := by rw [List.length_append]; omega
      generalize cs ++ (List.range j).filterMap (stepE (stepL rows) gp (wd, v, s)) = ds at cl2
      walk_at "tg"
      refine ⟨NoOwn.of rfl, swh_seq (swh_set (by decide) (ev_op ?_))⟩
      walk_at "go"
      refine rd_ixT (j := s) rfl (at_map ra) ?_
      walk_at "go"
      refine rd_ixT (j := j) rfl (at_map (getDO rok.1 hj)) ?_
      walk_at "tg"
      rw [show (rows.getD s []).getD j none = stepL rows s j from rfl]
      refine swh_if (et_test (ev_op ?_))
      walk_at "go"
      rcases opt_cases (stepL rows s j) with hst | ⟨t, hst⟩
      · have e1 : stepE (stepL rows) gp (wd, v, s) j = none := by unfold stepE; rw [hst]; rfl
        rw [hst, e1]
        refine if_split (fun z => by cases z) (fun _ => ?_)
        refine swh_nx ?_
        rw [Option.toList_none, List.append_nil]
        exact ⟨_, by walk_at "le", rfl, rfl⟩
      · have e1 : stepE (stepL rows) gp (wd, v, s) j = some (wd ++ [j], v + gp.getD j 0, t) := by unfold stepE; rw [hst]; rfl
        rw [hst, e1, show optD (some t) = nI t from rfl]
        refine if_split (fun _ => ?_) (fun z => by cases z)
        have gl := encG_len ds
        refine swh_sd (by omega) (fun kv h => by have := encG_row h; omega) ?_
        walk_at "go"
        rw [txt_abcd]
        refine rd_ixX (by simp) (show j < [0, 1, 2, 3].length by show j < 4; omega) ?_
        have hcc : [0, 1, 2, 3][j]'(by show j < 4; omega) = j := by
          have : j = 0 ∨ j = 1 ∨ j = 2 ∨ j = 3 := by omega
          rcases this with rfl | rfl | rfl | rfl <;> rfl
        rw [hcc]
        refine rd_catS (by rw [txt_len]; show wd.length + 1 ≤ _; omega) ?_
        rw [show (⟨#[97 + j]⟩ : Str) = txt [j] from rfl, txt_app]
        walk_at "go"
        refine rd_ixL (j := j) rfl (at_map hgj) ?_
        walk_at "go"
        have ea := encG_add ds (wd ++ [j], v + gp.getD j 0, t)
        refine ⟨_, by walk_at "le", rfl, ea⟩
    · rintro ρ2 k3 kvs2 ⟨rfl, rfl⟩
      exact ⟨_, by walk_at "le", rfl, rfl⟩
  · rintro ρ1 k2 kvs1 ⟨rfl, rfl⟩
    rw [List.take_length]
    have C := cand_ok hL hly
    have cl := candLen ly.length
    rw [List.take_length] at cl
    generalize cand (stepL rows) gp L ly = cs at C cl
    refine ⟨rfl, ?_⟩
    dsimp only [List.set_cons_succ, List.set_cons_zero]
    refine sw_seq (sw_own (ea_nil ⟨by simp, ?_⟩))
    walk_at "tg"
    refine sw_seq (sw_forW (ei_list (ev_cb (ea_cons (ev_listOwnD rfl (ea_nil ?_))))))
    have ek : ((encG cs).map fun kv => ((.inl kv.1 : Key), PyData.list kv.2)).map (fun kv => keyD kv.1) = ((sts cs).map Int.ofNat).map PyData.int := by
      unfold encG
      rw [List.map_map, List.map_map, List.map_map]
      rfl
    rw [ek]
    obtain ⟨ndS, sIn, sOf⟩ := sts_ok cs
    have stN : ∀ t ∈ sts cs, t < N := fun t ht => by
      obtain ⟨c, hc, rfl⟩ := sOf t ht
      exact runF_in hst c.1 0 _ (by omega) (C.run c hc)
    have slen : (sts cs).length ≤ N := by
      have := len_le_of (sts cs) (List.range N) ndS fun t ht => List.mem_range.mpr (stN t ht)
      rwa [List.length_range] at this
    refine rc_sortI (by rw [List.length_map]; omega) fun ns' hp _ => ?_
    obtain ⟨ss, hss, hns⟩ : ∃ ss : List Nat, ss.Perm (sts cs) ∧ ns' = ss.map Int.ofNat := by
      refine ⟨ns'.map Int.toNat, ?_, ?_⟩
      · have := hp.map Int.toNat
        rw [List.map_map] at this
        have e : (sts cs).map (Int.toNat ∘ Int.ofNat) = sts cs := by
          conv => rhs; rw [← List.map_id (sts cs)]
          exact List.map_congr_left fun x _ => rfl
        rwa [e] at this
      · rw [List.map_map]
        conv => lhs; rw [← List.map_id ns']
        refine List.map_congr_left fun x hx => ?_
        obtain ⟨y, _, rfl⟩ := List.mem_map.mp (hp.mem_iff.mp hx)
        rfl
    rw [hns, ← nI_map]
    clear hns hp
    have sslen : ss.length ≤ 9 := by rw [hss.length_eq]; omega
    have flen : ∀ i, ((ss.take i).flatMap fun t => pick (ofState cs t)).length ≤ 2 * 9 := fun i => by
      rw [List.length_flatMap]
      have gen : ∀ l : List Nat, (l.map fun t => (pick (ofState cs t)).length).sum ≤ 2 * l.length := fun l => by
        induction l with
        | nil => exact Nat.le_refl _
        | cons t l ih =>
          rw [List.map_cons, List.sum_cons, List.length_cons]
          have := pick_few (ofState cs t)
          omega
      have := gen (ss.take i)
      rw [List.length_take] at this
      omega
    refine ⟨_, rfl, ?_⟩
    rw [List.length_map]
    refine ⟨fun i ρ _ => ρ = [.dat (kindD L rows ends), .dat (.list (gp.map .int)), .dat (.list (ly.map encE)), .ownD ((encG cs).map fun kv => ((.inl kv.1 : Key), PyData.list kv.2)), .no, .no, .no, .no, .no, .own (((ss.take i).flatMap fun t => pick (ofState cs t)).map encE), .no, .no], ⟨_, by walk_at "le", rfl⟩, ?_, ?_⟩
    · rintro i ρ2 k3 hi rfl
      rw [itemD_map hi]
      have et : ss.take (i + 1) = ss.take i ++ [ss[i]] := by rw [List.take_add_one]; simp [hi]
      have htm : ss[i] ∈ sts cs := hss.mem_iff.mp (List.getElem_mem hi)
      have fl := flen i
      dsimp only
      rw [et, List.flatMap_append, List.flatMap_singleton]
      generalize (ss.take i).flatMap (fun t => pick (ofState cs t)) = old at fl
      generalize ss[i] = t at htm
      have hlook := encG_look htm
      obtain ⟨c0, hc0, hc0t⟩ := sOf t htm
      have hne : ∃ e es, ofState cs t = e :: es := by
        cases h : ofState cs t with
        | nil =>
          have : c0 ∈ ofState cs t := List.mem_filter.mpr ⟨hc0, decide_eq_true hc0t⟩
          rw [h] at this
          exact nomatch this
        | cons e es => exact ⟨e, es, rfl⟩
      obtain ⟨e, es, hes⟩ := hne
      have esl : (e :: es).length ≤ 1000 := by
        rw [← hes]
        have := List.length_filter_le (fun c : LE => decide (c.2.2 = t)) cs
        unfold ofState
        omega
      rw [hes] at hlook ⊢
      walk_at "tg"
      refine sw_seq (sw_set (ev_op (ev_dget rfl (.inl rfl) (ev_var rfl ⟨_, _, rfl, hlook, ?_⟩))))
      walk_at "go"
      refine rd_ixL (j := 0) rfl rfl ?_
      walk_at "tg"
      refine sw_seq (sw_append (ev_var rfl ⟨_, rfl, by rw [List.length_map]; omega, ?_⟩) ⟨_, rfl⟩)
      walk_at "tg"
      refine sw_extend (ev_sl (ev_lcP (fun i => decide (((e :: es).getD i ([], 0, 0)).2.1 ≠ e.2.1)) (fun i => encE ((e :: es).getD i ([], 0, 0))) (ei_list (ev_dget rfl (.inl rfl) (ev_var rfl ⟨_, _, rfl, hlook, ?_⟩))))) ⟨_, rfl⟩
      refine ⟨_, rfl, by rw [List.length_map]; omega, fun i hi => ?_, ?_⟩
      · have hi2 : i < (e :: es).length := by rw [List.length_map] at hi; exact hi
        rw [itemD_map hi2]
        have eg : (e :: es).getD i ([], 0, 0) = (e :: es)[i] := by rw [List.getD_eq_getElem?_getD, List.getElem?_eq_getElem hi2]; rfl
        rw [eg]
        generalize (e :: es)[i] = x
        rw [show encE x = .tuple [nX x.1, .int x.2.1, nI x.2.2] from rfl, show encE e = .tuple [nX e.1, .int e.2.1, nI e.2.2] from rfl]
        dsimp only [wipeR, List.set_cons_succ, List.set_cons_zero]
        walk_at "go"
        refine ⟨by simp, rfl, fun _ => ?_⟩
        walk_at "go"
      · rw [List.length_map]
        have ef : (((List.range (e :: es).length).filter fun i => decide (((e :: es).getD i ([], 0, 0)).2.1 ≠ e.2.1)).map fun i => encE ((e :: es).getD i ([], 0, 0))) = ((e :: es).filter fun x => decide (x.2.1 ≠ e.2.1)).map encE := by
          rw [← keepF (fun x : LE => decide (x.2.1 ≠ e.2.1)) ([], 0, 0) (e :: es), List.map_map]
          rfl
        rw [ef]
        have flt := List.length_filter_le (fun x : LE => decide (x.2.1 ≠ e.2.1)) (e :: es)
        have ep : pick (e :: es) = e :: ((e :: es).filter fun x => decide (x.2.1 ≠ e.2.1)).take 1 := rfl
        rw [ep]
        generalize (e :: es).filter (fun x => decide (x.2.1 ≠ e.2.1)) = fs at flt
        walk_at "go"
        rw [cut_one]
        have e2 : (old.map encE ++ [encE e]) ++ (fs.map encE).take 1 = (old ++ e :: fs.take 1).map encE := by
          rw [List.map_append, List.map_cons, List.map_take, List.append_assoc]
          rfl
        refine ⟨_, _, rfl, rfl, by rw [List.length_append, List.length_map, List.length_take]; simp only [List.length_cons, List.length_nil]; omega, ?_⟩
        rw [← e2]
        exact ⟨_, by walk_at "le", rfl⟩
    · rintro ρ2 k3 rfl
      rw [List.take_length]
      refine sw_freeze 9 rfl (sw_ret (ev_cb (ea_cons (ev_var rfl (ea_nil ?_)))))
      rw [encE_3]
      refine rc_sort3 fun ts' hp hs => ?_
      have back : ts' = (ts'.map ofK3).map toK3 := by
        rw [List.map_map]
        conv => lhs; rw [← List.map_id ts']
        refine List.map_congr_left fun x hx => ?_
        obtain ⟨e, _, rfl⟩ := List.mem_map.mp (hp.mem_iff.mp hx)
        show toK3 e = toK3 (ofK3 (toK3 e))
        rw [ofK3_to]
      have hp2 : (ts'.map ofK3).Perm (ss.flatMap fun t => pick (ofState cs t)) := by
        have := hp.map ofK3
        rw [List.map_map] at this
        have e : (ss.flatMap fun t => pick (ofState cs t)).map (ofK3 ∘ toK3) = ss.flatMap fun t => pick (ofState cs t) := by
          conv => rhs; rw [← List.map_id (ss.flatMap fun t => pick (ofState cs t))]
          exact List.map_congr_left fun x _ => ofK3_to x
        rwa [e] at this
      generalize ts'.map ofK3 = ly' at back hp2
      subst back
      refine ⟨ly', by rw [encE_3], layer_next hst n1 C hss hp2 ?_⟩
      have := List.pairwise_map.mp hs
      refine (List.Pairwise.and_mem.mp this).imp fun {a b} ⟨ha, hb, h⟩ z => ?_
      have hlen : ∀ x ∈ ly', x.1.length = n + 1 := fun x hx => by
        obtain ⟨t, _, h⟩ := List.mem_flatMap.mp (hp2.mem_iff.mp hx)
        exact C.len x (List.mem_filter.mp (pick_sub h)).1
      refine lt3_no.mp h (.inl ?_)
      show (txt b.1).cps.toList < (txt a.1).cps.toList
      have e1 : ∀ w : List Nat, (txt w).cps.toList = w.map (97 + ·) := fun w => by simp [txt]
      rw [e1, e1, txt_lex (by rw [hlen b hb, hlen a ha])]
      exact z
end

-- SPLIT
section
variable {P : Program} {w : World} {K : PySem.W.Frag} {mg : Str → Option Value} {base : Heap} {A : Adrs}
def GKind (L N : Nat) : PyData → Prop := fun d => ∃ (rows : List (List (Option Nat))) (ends : List Bool), d = kindD L rows ends ∧ KOk L N rows ends
def R_lkind (ds : List PyData) (c : Nat) (G : PyData → Prop) : Prop := ∃ L N : Nat, ds = [nI L, nI N] ∧ 1 ≤ L ∧ L ≤ 4 ∧ 1 ≤ N ∧ N ≤ 8 ∧ c = 1 + 9 * N ∧ G = GKind L N
theorem ok__law_kind (T : Txt K mg A) (B : Tbs base mg A) : FnOk P w K mg base CX0 3 A.f__law_kind A.d__law_kind ["_law_deck_here", "_law_letters", "_law_many"] (spD K 3 R_lkind) := by
  have G__law_one : FnOk P w K mg base CX0 2 A.f__law_one A.d__law_one ["_law_deck_here", "_law_items"] (spD K 2 R_one) := ok__law_one T B
  have G__law_draw : FnOk P w K mg base CX0 1 A.f__law_draw A.d__law_draw ["_law_deck_here", "_law_many"] (spD K 2 R_draw) := ok__law_draw T B
  refine T.F__law_kind.ok sc__law_kind (fun vs H Q E h => ?_) (fun cdv Ar outer s H vs Q E hr h => ?_)
  · exact spD.len h
  refine ⟨_, (pss_cons (ps_set (i := 3) sc__law_kind.nd rfl (Or.inr rfl) (pe_call G__law_one (hr.mono (by first | decide | omega)) rfl T.m__law_one T.k__law_one T.b__law_one .nil pass0 (pa_cons (pv 0) (pa_cons (pe_lst (pa_cons pe_int (pa_cons pe_int (pa_cons pe_int pa_nil)))) pa_nil))))
    (pss_cons (ps_set (i := 4) sc__law_kind.nd rfl (Or.inl rfl) (pe_lst pa_nil))
    (pss_cons (ps_for PassesOwn.never rfl (pi_range1 (by rfl) T.z_range (pa_cons (pv 2) pa_nil)) (pg_name (i := 5) sc__law_kind.nd rfl (Or.inl rfl))
    (pss_cons (ps_setLc (i := 6) (own := [("_law_j", 7)]) (by rfl) sc__law_kind.nd rfl rfl (sw_true rfl rfl rfl (by decide +kernel)) (pi_range1 (by rfl) T.z_range (pa_cons (pv 1) pa_nil)) (blkOk_by (own := [("_law_j", 7)]) (N := N__law_kind) (sc := defScope s__law_kind) (by decide +kernel)) (fun _ _ _ _ _ => (pg_name (i := 7) sc__law_kind.nd rfl (Or.inl rfl))) (fun _ _ _ _ _ => pts_nil) (fun _ _ _ _ _ => (pe_ifExp (pt_cmpR op_gt (pe_call G__law_draw (hr.mono (by first | decide | omega)) rfl T.m__law_draw T.k__law_draw T.b__law_draw .nil pass0 (pa_cons (pv 0) (pa_cons (pv 3) pa_nil))) pe_int (nomark _)) (pe_call G__law_draw (hr.mono (by first | decide | omega)) rfl T.m__law_draw T.k__law_draw T.b__law_draw .nil pass0 (pa_cons (pv 0) (pa_cons (pv 2) pa_nil))) pe_non)))
    (pss_one (ps_expr (kBm K (pe_bm PySem.F.plainAttrs_list PySem.F.slot_list_append PySem.F.type_list_append mt_append (pv 4) (pa_cons (pe_callTy (T := "tuple") (kTupOf K) (by rfl) T.z_tuple (by decide +kernel) (pa_cons (pv 6) pa_nil)) pa_nil)))))))
    (pss_one (ps_ret (pe_tup (pa_cons (pv 1) (pa_cons (pe_callTy (T := "tuple") (kTupOf K) (by rfl) T.z_tuple (by decide +kernel) (pa_cons (pv 4) pa_nil)) (pa_cons (pe_callTy (T := "tuple") (kTupOf K) (by rfl) T.z_tuple (by decide +kernel) (pa_cons (pe_lc (own := [("_law_k", 5)]) rfl sc__law_kind.nd (pi_range1 (by rfl) T.z_range (pa_cons (pv 2) pa_nil)) (blkOk_by (own := [("_law_k", 5)]) (N := N__law_kind) (sc := defScope s__law_kind) (by decide +kernel)) (fun _ _ _ _ _ => (pg_name (i := 5) sc__law_kind.nd rfl (Or.inl rfl))) (fun _ _ _ _ _ => pts_nil) (fun _ _ _ _ _ => (pe_cmpR op_gt (pe_call G__law_draw (hr.mono (by first | decide | omega)) rfl T.m__law_draw T.k__law_draw T.b__law_draw .nil pass0 (pa_cons (pv 0) (pa_cons pe_int pa_nil))) pe_int (nomark _)))) pa_nil)) pa_nil))))))))), ?_⟩
  refine spD.ok h fun M p q hp hq Hs tr ds cc k0 G hR hk0 => ?_
  obtain ⟨L, N, rfl, l1, l4, n1, n8, rfl, rfl⟩ := hR
  walk_at "st"
  walk_at "go"
  refine ⟨by omega, by simp, by simp, fun d hd => ?_⟩
  obtain ⟨nn, rfl, a1, a2⟩ : ∃ nn : Nat, d = nI nn ∧ 1 ≤ nn ∧ nn ≤ 9 := by
    simp only [List.mem_cons, List.not_mem_nil, or_false] at hd
    rcases hd with rfl | rfl | rfl
    · exact ⟨2, rfl, by decide, by decide⟩
    · exact ⟨4, rfl, by decide, by decide⟩
    · exact ⟨9, rfl, by decide, by decide⟩
  refine sw_seq (sw_own (ea_nil ⟨by simp, ?_⟩))
  walk_at "tg"
  refine sw_seq (sw_forW (ei_rng1 ?_))
  walk_at "go"
  refine ⟨by omega, by omega, ?_⟩
  refine ⟨fun j ρ k2 => ∃ rows : List (List (Option Nat)), ρ = [.raw (.ref p), .dat (nI L), .dat (nI N), .dat (nI nn), .own (rows.map rowD), .no, .no, .no] ∧ rows.length = j ∧ (∀ r ∈ rows, r.length = L ∧ ∀ t, some t ∈ r → t < N) ∧ k2 ≤ k0 + 1 + 8 * j, ⟨_, by walk_at "le", [], rfl, rfl, (fun _ z => nomatch z), by omega⟩, ?_, ?_⟩
  · rintro j ρ1 k2 hj ⟨rows, rfl, hr, hrow, hk⟩
    have hjN : j < N := hj
    walk_at "tg"
    refine sw_seq (sw_set (ev_lc (ei_rng1 ?_)))
    walk_at "go"
    refine ⟨by omega, by omega, by omega, ?_⟩
    refine ⟨fun i acc k3 => ∃ row : List (Option Nat), acc = row.map optD ∧ row.length = i ∧ (∀ t, some t ∈ row → t < N) ∧ k3 ≤ k0 + 1 + 8 * j + 2 * i, ⟨[], rfl, rfl, (fun _ z => nomatch z), by omega⟩, ?_, ?_⟩
    · rintro i acc k3 hi ⟨row, rfl, hl, hlt, hk3⟩
      have hiL : i < L := hi
      walk_at "go"
      refine ⟨by omega, by omega, by omega, fun z hz => ?_⟩
      walk_at "go"
      refine if_split (fun _ => ?_) (fun _ => ?_)
      · walk_at "go"
        refine ⟨by omega, by omega, by omega, fun r hr2 => ?_⟩
        exact ⟨row ++ [some r], by rw [List.map_append]; rfl, by rw [List.length_append, hl]; rfl, fun t ht => by
          rcases List.mem_append.mp ht with h | h
          · exact hlt t h
          · have := Option.some.inj (List.mem_singleton.mp h)
            omega, by omega⟩
      · walk_at "go"
        refine ⟨row ++ [none], by rw [List.map_append]; rfl, by rw [List.length_append, hl]; rfl, fun t ht => ?_, by omega⟩
        rcases List.mem_append.mp ht with h | h
        · exact hlt t h
        · cases List.mem_singleton.mp h
    · rintro acc k3 _ ⟨row, rfl, hl, hlt, hk3⟩
      have hl : row.length = L := hl
      walk_at "tg"
      refine sw_append ?_ ⟨_, rfl⟩
      walk_at "go"
      refine ⟨by rw [List.length_map]; omega, ?_⟩
      have e1 : rows.map rowD ++ [PyData.tuple (row.map optD)] = (rows ++ [row]).map rowD := by rw [List.map_append]; rfl
      rw [e1]
      exact ⟨_, by walk_at "le", rows ++ [row], rfl, by rw [List.length_append, hr]; rfl, fun r hr' => (by
        rcases List.mem_append.mp hr' with h | h
        · exact hrow r h
        · rw [List.mem_singleton.mp h]; exact ⟨hl, hlt⟩), by omega⟩
  · rintro ρ1 k2 ⟨rows, rfl, hr, hrow, hk⟩
    have hr : rows.length = N := hr
    have hk : k2 ≤ k0 + 1 + 8 * N := hk
    refine sw_freeze 4 rfl ?_
    walk_at "go"
    refine ev_lc (ei_rng1 ?_)
    walk_at "go"
    refine ⟨by omega, by omega, by omega, ?_⟩
    refine ⟨fun i acc k3 => ∃ ends : List Bool, acc = ends.map PyData.bool ∧ ends.length = i ∧ k3 ≤ k0 + 1 + 8 * N + i, ⟨[], rfl, rfl, by omega⟩, ?_, ?_⟩
    · rintro i acc k3 hi ⟨ends, rfl, hl, hk3⟩
      have hiN : i < N := hi
      walk_at "go"
      refine ⟨by omega, fun z hz => ?_⟩
      walk_at "go"
      exact ⟨ends ++ [_], by rw [List.map_append]; rfl, by rw [List.length_append, hl]; rfl, by omega⟩
    · rintro acc k3 _ ⟨ends, rfl, hl, hk3⟩
      have hl : ends.length = N := hl
      have hk3 : k3 ≤ k0 + 1 + 8 * N + N := hk3
      walk_at "go"
      exact ⟨⟨rows, ends, rfl, ⟨hr, hl, hrow, l1, l4, n1, by omega⟩⟩, by omega⟩
def R_lline (ds : List PyData) (c : Nat) (G : PyData → Prop) : Prop := ∃ L N : Nat, ds = [nI L, nI N] ∧ 1 ≤ L ∧ L ≤ 4 ∧ 1 ≤ N ∧ N ≤ 8 ∧ c = 6 * N ∧ G = GKind L N
theorem ok__law_line (T : Txt K mg A) (B : Tbs base mg A) : FnOk P w K mg base CX0 3 A.f__law_line A.d__law_line ["_law_deck_here", "_law_letters", "_law_many"] (spD K 3 R_lline) := by
  have G__law_draw : FnOk P w K mg base CX0 1 A.f__law_draw A.d__law_draw ["_law_deck_here", "_law_many"] (spD K 2 R_draw) := ok__law_draw T B
  refine T.F__law_line.ok sc__law_line (fun vs H Q E h => ?_) (fun cdv Ar outer s H vs Q E hr h => ?_)
  · exact spD.len h
  refine ⟨_, (pss_cons (ps_set (i := 3) sc__law_line.nd rfl (Or.inl rfl) (pe_lst pa_nil))
    (pss_cons (ps_for PassesOwn.never rfl (pi_range1 (by rfl) T.z_range (pa_cons (pv 2) pa_nil)) (pg_name (i := 4) sc__law_line.nd rfl (Or.inr rfl))
    (pss_cons (ps_setLc (i := 5) (own := [("_law_j", 6)]) (by rfl) sc__law_line.nd rfl rfl (sw_true rfl rfl rfl (by decide +kernel)) (pi_range1 (by rfl) T.z_range (pa_cons (pv 1) pa_nil)) (blkOk_by (own := [("_law_j", 6)]) (N := N__law_line) (sc := defScope s__law_line) (by decide +kernel)) (fun _ _ _ _ _ => (pg_name (i := 6) sc__law_line.nd rfl (Or.inl rfl))) (fun _ _ _ _ _ => pts_nil) (fun _ _ _ _ _ => (pe_ifExp (PW.pt (pw_and (pt_cmpR op_lt (pe_op op_add (pv 4) pe_int) (pv 2) (nomark _)) (pw_and1 (pt_cmpR op_gt (pe_call G__law_draw (hr.mono (by first | decide | omega)) rfl T.m__law_draw T.k__law_draw T.b__law_draw .nil pass0 (pa_cons (pv 0) (pa_cons pe_int pa_nil))) pe_int (nomark _))))) (pe_op op_add (pv 4) pe_int) pe_non)))
    (pss_cons (ps_if (pt_cmpR op_lt (pe_op op_add (pv 4) pe_int) (pv 2) (nomark _)) (pss_one (ps_asg (pe_op op_add (pv 4) pe_int) (pg_sub (pv 5) (pe_call G__law_draw (hr.mono (by first | decide | omega)) rfl T.m__law_draw T.k__law_draw T.b__law_draw .nil pass0 (pa_cons (pv 0) (pa_cons (pv 1) pa_nil))) set_list)))
    pss_nil)
    (pss_one (ps_expr (kBm K (pe_bm PySem.F.plainAttrs_list PySem.F.slot_list_append PySem.F.type_list_append mt_append (pv 3) (pa_cons (pe_callTy (T := "tuple") (kTupOf K) (by rfl) T.z_tuple (by decide +kernel) (pa_cons (pv 5) pa_nil)) pa_nil))))))))
    (pss_one (ps_ret (pe_tup (pa_cons (pv 1) (pa_cons (pe_callTy (T := "tuple") (kTupOf K) (by rfl) T.z_tuple (by decide +kernel) (pa_cons (pv 3) pa_nil)) (pa_cons (pe_callTy (T := "tuple") (kTupOf K) (by rfl) T.z_tuple (by decide +kernel) (pa_cons (pe_lc (own := [("_law_k", 4)]) rfl sc__law_line.nd (pi_range1 (by rfl) T.z_range (pa_cons (pv 2) pa_nil)) (blkOk_by (own := [("_law_k", 4)]) (N := N__law_line) (sc := defScope s__law_line) (by decide +kernel)) (fun _ _ _ _ _ => (pg_name (i := 4) sc__law_line.nd rfl (Or.inl rfl))) (fun _ _ _ _ _ => pts_nil) (fun _ _ _ _ _ => (pe_or (pe_cmpR op_eq (pv 4) (pe_op op_sub (pv 2) pe_int) (nomark _)) (pe_one (pe_cmpR op_eq (pe_call G__law_draw (hr.mono (by first | decide | omega)) rfl T.m__law_draw T.k__law_draw T.b__law_draw .nil pass0 (pa_cons (pv 0) (pa_cons pe_int pa_nil))) pe_int (nomark _)))))) pa_nil)) pa_nil)))))))), ?_⟩
  refine spD.ok h fun M p q hp hq Hs tr ds cc k0 G hR hk0 => ?_
  obtain ⟨L, N, rfl, l1, l4, n1, n8, rfl, rfl⟩ := hR
  walk_at "st"
  refine sw_seq (sw_own (ea_nil ⟨by simp, ?_⟩))
  walk_at "tg"
  refine sw_seq (sw_forW (ei_rng1 ?_))
  walk_at "go"
  refine ⟨by omega, by omega, ?_⟩
  refine ⟨fun j ρ k2 => ∃ rows : List (List (Option Nat)), ρ = [.raw (.ref p), .dat (nI L), .dat (nI N), .own (rows.map rowD), .no, .no, .no] ∧ rows.length = j ∧ (∀ r ∈ rows, r.length = L ∧ ∀ t, some t ∈ r → t < N) ∧ k2 ≤ k0 + 5 * j, ⟨_, by walk_at "le", [], rfl, rfl, (fun _ z => nomatch z), by omega⟩, ?_, ?_⟩
  · rintro j ρ1 k2 hj ⟨rows, rfl, hr, hrow, hk⟩
    have hjN : j < N := hj
    walk_at "tg"
    refine sw_seq (sw_ownLc (ei_rng1 ?_))
    walk_at "go"
    refine ⟨by omega, by omega, by omega, ?_⟩
    refine ⟨fun i acc k3 => ∃ row : List (Option Nat), acc = row.map optD ∧ row.length = i ∧ (∀ t, some t ∈ row → t < N) ∧ k3 ≤ k0 + 5 * j + i, ⟨[], rfl, rfl, (fun _ z => nomatch z), by omega⟩, ?_, ?_⟩
    · rintro i acc k3 hi ⟨row, rfl, hl, hlt, hk3⟩
      have hiL : i < L := hi
      have noneD : ∀ k4, k4 ≤ k3 + 1 → ∃ row' : List (Option Nat), row.map optD ++ [PyData.none] = row'.map optD ∧ row'.length = i + 1 ∧ (∀ t, some t ∈ row' → t < N) ∧ k4 ≤ k0 + 5 * j + (i + 1) := fun k4 h4 => by
        refine ⟨row ++ [none], by rw [List.map_append]; rfl, by rw [List.length_append, hl]; rfl, fun t ht => ?_, by omega⟩
        rcases List.mem_append.mp ht with h | h
        · exact hlt t h
        · cases List.mem_singleton.mp h
      walk_at "go"
      refine if_split (fun h1 => ?_) (fun h1 => ?_)
      · have h1 := of_decide_eq_true h1
        walk_at "go"
        refine ⟨by omega, fun z hz => ?_⟩
        walk_at "go"
        refine if_split (fun _ => ?_) (fun _ => ?_)
        · walk_at "go"
          refine ⟨row ++ [some (j + 1)], by rw [List.map_append]; rfl, by rw [List.length_append, hl]; rfl, fun t ht => ?_, by omega⟩
          rcases List.mem_append.mp ht with h | h
          · exact hlt t h
          · have := Option.some.inj (List.mem_singleton.mp h)
            omega
        · walk_at "go"
          exact noneD _ (by omega)
      · walk_at "go"
        exact noneD _ (by omega)
    · rintro acc k3 _ ⟨row, rfl, hl, hlt, hk3⟩
      have hl : row.length = L := hl
      have hk3 : k3 ≤ k0 + 5 * j + L := hk3
      walk_at "tg"
      refine sw_mid (fun ρ k4 => ∃ row' : List (Option Nat), ρ = [.raw (.ref p), .dat (nI L), .dat (nI N), .own (rows.map rowD), .dat (nI j), .own (row'.map optD), .no] ∧ row'.length = L ∧ (∀ t, some t ∈ row' → t < N) ∧ k4 ≤ k0 + 5 * j + L + 1) ?_ ?_
      · refine sw_if (et_test (ev_op ?_))
        walk_at "go"
        refine if_split (fun h1 => ?_) (fun h1 => ?_)
        · have h1 := of_decide_eq_true h1
          refine sw_setL ?_ ⟨_, rfl⟩
          walk_at "go"
          refine ⟨by omega, by omega, by omega, fun z hz => ?_⟩
          refine ⟨_, z, rfl, rfl, by rw [List.length_map]; omega, ?_⟩
          refine ⟨row.set z (some (j + 1)), by rw [List.map_set]; rfl, by rw [List.length_set]; exact hl, fun t ht => ?_, by omega⟩
          rcases List.mem_or_eq_of_mem_set ht with h | h
          · exact hlt t h
          · have := Option.some.inj h
            omega
        · walk_at "go"
          exact ⟨hl, hlt, by omega⟩
      · rintro ρ4 k4 ⟨row', rfl, hl', hlt', hk4⟩
        refine sw_freeze 5 rfl ?_
        refine sw_append ?_ ⟨_, rfl⟩
        walk_at "go"
        refine ⟨by rw [List.length_map]; omega, ?_⟩
        have e1 : rows.map rowD ++ [PyData.tuple (row'.map optD)] = (rows ++ [row']).map rowD := by rw [List.map_append]; rfl
        rw [e1]
        exact ⟨_, by walk_at "le", rows ++ [row'], rfl, by rw [List.length_append, hr]; rfl, fun r hr' => (by
          rcases List.mem_append.mp hr' with h | h
          · exact hrow r h
          · rw [List.mem_singleton.mp h]; exact ⟨hl', hlt'⟩), by omega⟩
  · rintro ρ1 k2 ⟨rows, rfl, hr, hrow, hk⟩
    have hr : rows.length = N := hr
    have hk : k2 ≤ k0 + 5 * N := hk
    refine sw_freeze 3 rfl ?_
    walk_at "go"
    refine ev_lc (ei_rng1 ?_)
    walk_at "go"
    refine ⟨by omega, by omega, by omega, ?_⟩
    refine ⟨fun i acc k3 => ∃ ends : List Bool, acc = ends.map PyData.bool ∧ ends.length = i ∧ k3 ≤ k0 + 5 * N + i, ⟨[], rfl, rfl, by omega⟩, ?_, ?_⟩
    · rintro i acc k3 hi ⟨ends, rfl, hl, hk3⟩
      have hiN : i < N := hi
      walk_at "go"
      refine if_split (fun _ => ?_) (fun _ => ?_)
      · exact ⟨ends ++ [_], by rw [List.map_append]; rfl, by rw [List.length_append, hl]; rfl, by omega⟩
      · walk_at "go"
        refine ⟨by omega, fun z hz => ?_⟩
        walk_at "go"
        exact ⟨ends ++ [_], by rw [List.map_append]; rfl, by rw [List.length_append, hl]; rfl, by omega⟩
    · rintro acc k3 _ ⟨ends, rfl, hl, hk3⟩
      have hl : ends.length = N := hl
      have hk3 : k3 ≤ k0 + 5 * N + N := hk3
      walk_at "go"
      exact ⟨⟨rows, ends, rfl, ⟨hr, hl, hrow, l1, l4, n1, by omega⟩⟩, by omega⟩
structure FmOk (fm : List Int) (L : Nat) : Prop where
  len : fm.length = L
  low : ∀ x ∈ fm, x.natAbs ≤ 99
theorem FmOk.at {fm : List Int} {L : Nat} (h : FmOk fm L) (c : Nat) : (fm.getD c 0).natAbs ≤ 99 := by
  rw [List.getD_eq_getElem?_getD]
  by_cases hc : c < fm.length
  · rw [List.getElem?_eq_getElem hc]
    exact h.low _ (List.getElem_mem hc)
  · rw [List.getElem?_eq_none (by omega)]
    exact Nat.zero_le _
def R_lform (ds : List PyData) (c : Nat) (G : PyData → Prop) : Prop := ∃ L : Nat, ds = [nI L] ∧ 1 ≤ L ∧ L ≤ 4 ∧ c = 5 ∧ G = fun d => ∃ fm : List Int, d = .tuple (fm.map .int) ∧ FmOk fm L
theorem ok__law_form (T : Txt K mg A) (B : Tbs base mg A) : FnOk P w K mg base CX0 3 A.f__law_form A.d__law_form ["_law_deck_here", "_law_letters"] (spD K 2 R_lform) := by
  have G__law_one : FnOk P w K mg base CX0 2 A.f__law_one A.d__law_one ["_law_deck_here", "_law_items"] (spD K 2 R_one) := ok__law_one T B
  have G__law_draw : FnOk P w K mg base CX0 1 A.f__law_draw A.d__law_draw ["_law_deck_here", "_law_many"] (spD K 2 R_draw) := ok__law_draw T B
  refine T.F__law_form.ok sc__law_form (fun vs H Q E h => ?_) (fun cdv Ar outer s H vs Q E hr h => ?_)
  · exact spD.len h
  refine ⟨_, (pss_cons (ps_set (i := 2) sc__law_form.nd rfl (Or.inr rfl) (pe_call G__law_one (hr.mono (by first | decide | omega)) rfl T.m__law_one T.k__law_one T.b__law_one .nil pass0 (pa_cons (pv 0) (pa_cons (pe_lst (pa_cons pe_int (pa_cons pe_int (pa_cons pe_int (pa_cons pe_int pa_nil))))) pa_nil))))
    (pss_one (ps_ret (pe_callTy (T := "tuple") (kTupOf K) (by rfl) T.z_tuple (by decide +kernel) (pa_cons (pe_lc (own := [("_law_k", 3)]) rfl sc__law_form.nd (pi_range1 (by rfl) T.z_range (pa_cons (pv 1) pa_nil)) (blkOk_by (own := [("_law_k", 3)]) (N := N__law_form) (sc := defScope s__law_form) (by decide +kernel)) (fun _ _ _ _ _ => (pg_name (i := 3) sc__law_form.nd rfl (Or.inl rfl))) (fun _ _ _ _ _ => pts_nil) (fun _ _ _ _ _ => (pe_op op_sub (pe_call G__law_draw (hr.mono (by first | decide | omega)) rfl T.m__law_draw T.k__law_draw T.b__law_draw .nil pass0 (pa_cons (pv 0) (pa_cons (pe_op op_add (pe_op op_mul pe_int (pv 2)) pe_int) pa_nil))) (pv 2)))) pa_nil))))), ?_⟩
  refine spD.ok h fun M p q hp hq Hs tr ds cc k0 G hR hk0 => ?_
  obtain ⟨L, rfl, l1, l4, rfl, rfl⟩ := hR
  walk_at "st"
  walk_at "go"
  refine ⟨by omega, by simp, by simp, fun d hd => ?_⟩
  obtain ⟨nn, rfl, a1, a2⟩ : ∃ nn : Nat, d = nI nn ∧ 1 ≤ nn ∧ nn ≤ 99 := by
    simp only [List.mem_cons, List.not_mem_nil, or_false] at hd
    rcases hd with rfl | rfl | rfl | rfl
    · exact ⟨1, rfl, by decide, by decide⟩
    · exact ⟨3, rfl, by decide, by decide⟩
    · exact ⟨9, rfl, by decide, by decide⟩
    · exact ⟨99, rfl, by decide, by decide⟩
  walk_at "go"
  refine ev_lc (ei_rng1 ?_)
  walk_at "go"
  refine ⟨by omega, by omega, by omega, ?_⟩
  refine ⟨fun i acc k3 => ∃ fm : List Int, acc = fm.map .int ∧ FmOk fm i ∧ k3 ≤ k0 + 1 + i, ⟨[], rfl, ⟨rfl, fun _ z => nomatch z⟩, by omega⟩, ?_, ?_⟩
  · rintro i acc k3 hi ⟨fm, rfl, hl, hk3⟩
    have hiL : i < L := hi
    walk_at "go"
    refine rd_mul (.inl ⟨by decide, by decide⟩) ?_
    walk_at "go"
    refine ⟨by omega, by omega, by omega, fun r hr2 => ?_⟩
    walk_at "go"
    refine ⟨fm ++ [(r : Int) - (nn : Int)], by rw [List.map_append]; rfl, ⟨by rw [List.length_append, hl.len]; rfl, fun x hx => ?_⟩, by omega⟩
    rcases List.mem_append.mp hx with h | h
    · exact hl.low x h
    · rw [List.mem_singleton.mp h]
      omega
  · rintro acc k3 _ ⟨fm, rfl, hl, hk3⟩
    have hl : FmOk fm L := hl
    have hk3 : k3 ≤ k0 + 1 + L := hk3
    walk_at "go"
    exact ⟨⟨fm, rfl, hl⟩, by omega⟩
end

-- SPLIT
/-! ### worths by counts -/
theorem worth_counts (fm : List Int) (n : Nat) : ∀ w : List Nat, ((List.range n).map fun j => fm.getD j 0 * ((w.count j : Nat) : Int)).sum = (w.map fun c => if c < n then fm.getD c 0 else 0).sum
  | [] => by
    have : ∀ l : List Nat, (l.map fun j => fm.getD j 0 * (((([] : List Nat).count j : Nat)) : Int)).sum = 0 := fun l => by
      induction l with
      | nil => rfl
      | cons x l ih => rw [List.map_cons, List.sum_cons, ih]; simp
    rw [this]
    rfl
  | c :: w => by
    have add : ∀ l : List Nat, l.Nodup → (l.map fun j => fm.getD j 0 * (((c :: w).count j : Nat) : Int)).sum = (if c ∈ l then fm.getD c 0 else 0) + (l.map fun j => fm.getD j 0 * ((w.count j : Nat) : Int)).sum := fun l => by
      induction l with
      | nil => intro _; rfl
      | cons x l ih =>
        intro hn
        obtain ⟨h1, h2⟩ := List.nodup_cons.mp hn
        rw [List.map_cons, List.sum_cons, ih h2, List.map_cons, List.sum_cons]
        by_cases e : x = c
        · subst e
          rw [if_neg h1, if_pos (.head _), List.count_cons_self]
          rw [show ((w.count x + 1 : Nat) : Int) = (w.count x : Int) + 1 from rfl, Int.mul_add]
          omega
        · have e2 : (c :: w).count x = w.count x := List.count_cons_of_ne (by simpa using fun z => e z.symm)
          rw [e2]
          by_cases hc : c ∈ l
          · rw [if_pos hc, if_pos (.tail _ hc)]; omega
          · rw [if_neg hc, if_neg (fun z => (List.mem_cons.mp z).elim (fun z => e z.symm) hc)]; omega
    rw [add _ List.nodup_range, worth_counts fm n w, List.map_cons, List.sum_cons]
    by_cases h : c < n
    · rw [if_pos h, if_pos (List.mem_range.mpr h)]
    · rw [if_neg h, if_neg (fun z => h (List.mem_range.mp z))]
theorem worth_is (fm : List Int) (w : List Nat) : ((List.range fm.length).map fun j => fm.getD j 0 * ((w.count j : Nat) : Int)).sum = wF fm w := by
  rw [worth_counts]
  unfold wF
  congr 1
  refine List.map_congr_left fun c _ => ?_
  split
  · rfl
  · rename_i h
    rw [List.getD_eq_getElem?_getD, List.getElem?_eq_none (by omega)]
    rfl
theorem abcd_cut {L : Nat} (h : L ≤ 4) : cutS (Str.ofString "abcd") none (some (L : Int)) = txt (List.range L) := by
  rw [txt_abcd, cut_to]
  have : L = 0 ∨ L = 1 ∨ L = 2 ∨ L = 3 ∨ L = 4 := by omega
  rcases this with rfl | rfl | rfl | rfl | rfl <;> rfl
theorem join_ones (ws : List Nat) : Txt.join (Str.ofString "") (ws.map fun c => txt [c]) = txt ws := by
  have := join_txt (ws.map fun c => [c])
  rw [List.map_map] at this
  rw [show (fun c => txt [c]) = txt ∘ fun c => [c] from rfl, this]
  congr 1
  induction ws with
  | nil => rfl
  | cons x xs ih => rw [List.map_cons, List.flatten_cons, ih (by simpa using join_txt (xs.map fun c => [c]))]; rfl
theorem ones_len (ws : List Nat) : ((ws.map fun c => txt [c]).map fun z : Str => z.length).sum = ws.length := by
  rw [List.map_map]
  induction ws with
  | nil => rfl
  | cons x xs ih =>
    rw [List.map_cons, List.sum_cons, ih, List.length_cons]
    show 1 + _ = _
    omega
theorem letters_at {j : Nat} (h : j < 26) : (Str.ofString "abcdefghijklmnopqrstuvwxyz").cps[j]?.getD 0 = 97 + j := by
  have : ∀ j, j < 26 → (Str.ofString "abcdefghijklmnopqrstuvwxyz").cps[j]?.getD 0 = 97 + j := by decide +kernel
  exact this j h
section
variable {P : Program} {w : World} {K : PySem.W.Frag} {mg : Str → Option Value} {base : Heap} {A : Adrs}
def R_worth (ds : List PyData) (r : PyData) : Prop := ∃ (fm : List Int) (u : List Nat), ds = [.tuple (fm.map .int), nX u] ∧ fm.length ≤ 26 ∧ u.length ≤ 1000 ∧ (∀ x ∈ fm, x.natAbs ≤ 99) ∧ r = .int (wF fm u)
theorem ok_worth (T : Txt K mg A) (B : Tbs base mg A) : FnOk P w K mg base CX0 1 A.f_worth A.d_worth ["form", "word"] (spP K 2 R_worth) := by
  refine T.F_worth.ok sc_worth (fun vs H Q E h => ?_) (fun cdv Ar outer s H vs Q E hr h => ?_)
  · exact spP.len h
  refine ⟨_, (pss_one (ps_ret (pe_callB (id := "sum") (kSum K rfl) (by rfl) T.z_sum (by decide +kernel) (pa_cons (pe_lc (own := [("item", 2), ("letter", 3)]) rfl sc_worth.nd (kZipTS K (by rfl) T.z_zip (pa_cons (pv 0) (pa_cons (pe_gs rfl T.c_LETTERS) pa_nil))) (blkOk_by (own := [("item", 2), ("letter", 3)]) (N := N_worth) (sc := defScope s_worth) (by decide +kernel)) (fun _ _ _ _ _ => (kTgT K (n := 2) (by rfl) (pgs_cons (pg_name (i := 2) sc_worth.nd rfl (Or.inl rfl)) (pgs_cons (pg_name (i := 3) sc_worth.nd rfl (Or.inl rfl)) pgs_nil)))) (fun _ _ _ _ _ => pts_nil) (fun _ _ _ _ _ => (pe_op op_mul (pv 2) (kBm K (pe_bm PySem.F.plainAttrs_str PySem.F.slot_str_count PySem.F.type_str_count mt_count (pv 1) (pa_cons (pv 3) pa_nil)))))) pa_nil)))), ?_⟩
  refine spP.ok h fun W ds r hR => ?_
  obtain ⟨fm, u, rfl, hl, hu, hx, rfl⟩ := hR
  walk_at "st"
  refine sw_ret (ev_cb (ea_cons (ev_lcP (fun _ => true) (fun j => .int (fm.getD j 0 * ((u.count j : Nat) : Int))) (ei_zipTS ?_))))
  walk_at "ev"
  rw [List.length_map, show (Str.ofString "abcdefghijklmnopqrstuvwxyz").cps.size = 26 from by decide +kernel, show min fm.length 26 = fm.length by omega]
  refine ⟨by omega, fun j hj => ?_, ?_⟩
  · have hc : (Str.ofString "abcdefghijklmnopqrstuvwxyz").cps[j]?.getD 0 = 97 + j := letters_at (by omega)
    have ef : fm[j] = fm.getD j 0 := by rw [List.getD_eq_getElem?_getD, List.getElem?_eq_getElem hj]; rfl
    have hxj := hx _ (List.getElem_mem hj)
    rw [ef] at hxj
    rw [hc, itemD_map hj, ef]
    walk_at "go"
    refine ev_countS ?_
    walk_at "go"
    rw [txt_count]
    refine rd_mul (.inl ⟨by omega, by omega⟩) ⟨rfl, rfl⟩
  · rw [List.filter_eq_self.mpr fun _ _ => rfl]
    refine ea_nil (rc_sum ((List.range fm.length).map fun j => fm.getD j 0 * ((u.count j : Nat) : Int)) (by rw [List.map_map]; rfl) ?_)
    rw [worth_is]
def R_lworth (ds : List PyData) (r : PyData) : Prop := ∃ (fm : List Int) (u : List Nat), ds = [.tuple (fm.map .int), nX u] ∧ fm.length ≤ 4 ∧ u.length ≤ 1000 ∧ (∀ c ∈ u, c < fm.length) ∧ r = .int (wF fm u)
theorem ok__law_worth (T : Txt K mg A) (B : Tbs base mg A) : FnOk P w K mg base CX0 1 A.f__law_worth A.d__law_worth ["_law_form_here", "_law_word_here"] (spP K 2 R_lworth) := by
  refine T.F__law_worth.ok sc__law_worth (fun vs H Q E h => ?_) (fun cdv Ar outer s H vs Q E hr h => ?_)
  · exact spP.len h
  refine ⟨_, (pss_cons (ps_set (i := 2) sc__law_worth.nd rfl (Or.inl rfl) pe_int)
    (pss_cons (ps_for PassesOwn.never rfl (pi_str (pv 1)) (pg_name (i := 3) sc__law_worth.nd rfl (Or.inl rfl))
    (pss_one (ps_set (i := 2) sc__law_worth.nd rfl (Or.inl rfl) (pe_op op_add (pv 2) (pe_ix (kIxT K) (pv 0) (kBm K (pe_bm PySem.F.plainAttrs_str PySem.F.slot_str_index PySem.F.type_str_index mt_sindex pe_str (pa_cons (pv 3) pa_nil))) (fun _ _ => rfl))))))
    (pss_one (ps_ret (pv 2))))), ?_⟩
  refine spP.ok h fun W ds r hR => ?_
  obtain ⟨fm, u, rfl, hl, hu, hc, rfl⟩ := hR
  walk_at "st"
  walk_at "go"
  refine sw_for (ei_str ?_)
  walk_at "go"
  have hsz : (txt u).cps.size = u.length := by simp [txt]
  rw [hsz]
  refine ⟨fun i ρ _ => ∃ last : Slot, ρ = [.dat (.tuple (fm.map .int)), .dat (nX u), .dat (.int (wF fm (u.take i))), last], ⟨_, rfl⟩, ?_, ?_⟩
  · rintro i ρ1 k2 hi ⟨last, rfl⟩
    have eg : (txt u).cps[i]?.getD 0 = 97 + u[i] := by simp [txt, hi]
    rw [eg]
    have hci := hc _ (List.getElem_mem hi)
    have et : u.take (i + 1) = u.take i ++ [u[i]] := by rw [List.take_add_one]; simp [hi]
    dsimp only
    rw [et, wF_app]
    generalize u[i] = c at hci
    walk_at "tg"
    refine sw_asg (ev_op ?_)
    walk_at "ev"
    refine ⟨by omega, ?_⟩
    have hg : fm[c]? = some (fm.getD c 0) := getDX hci
    refine rd_ixT (j := c) rfl (at_map hg) ?_
    have e1 : wF fm [c] = fm.getD c 0 := by unfold wF; simp
    rw [e1]
    refine rd_add ?_
    walk_at "tg"
    exact ⟨_, rfl⟩
  · rintro ρ1 k2 ⟨last, rfl⟩
    walk_at "go"
    rw [List.take_length]
def R_lword (ds : List PyData) (c : Nat) (G : PyData → Prop) : Prop := ∃ L most : Nat, ds = [nI L, nI most] ∧ 1 ≤ L ∧ L ≤ 4 ∧ most ≤ 400 ∧ c = 1 + most ∧ G = fun d => ∃ u : List Nat, d = nX u ∧ u.length ≤ most ∧ ∀ c ∈ u, c < L
theorem ok__law_word (T : Txt K mg A) (B : Tbs base mg A) : FnOk P w K mg base CX0 3 A.f__law_word A.d__law_word ["_law_deck_here", "_law_letters", "_law_most"] (spD K 3 R_lword) := by
  have G__law_one : FnOk P w K mg base CX0 2 A.f__law_one A.d__law_one ["_law_deck_here", "_law_items"] (spD K 2 R_one) := ok__law_one T B
  have G__law_draw : FnOk P w K mg base CX0 1 A.f__law_draw A.d__law_draw ["_law_deck_here", "_law_many"] (spD K 2 R_draw) := ok__law_draw T B
  refine T.F__law_word.ok sc__law_word (fun vs H Q E h => ?_) (fun cdv Ar outer s H vs Q E hr h => ?_)
  · exact spD.len h
  refine ⟨_, (pss_one (ps_ret (kJoin K (pe_join pe_str (pe_lc (own := [("_law_k", 3)]) rfl sc__law_word.nd (pi_range1 (by rfl) T.z_range (pa_cons (pe_call G__law_draw (hr.mono (by first | decide | omega)) rfl T.m__law_draw T.k__law_draw T.b__law_draw .nil pass0 (pa_cons (pv 0) (pa_cons (pe_op op_add (pv 2) pe_int) pa_nil))) pa_nil)) (blkOk_by (own := [("_law_k", 3)]) (N := N__law_word) (sc := defScope s__law_word) (by decide +kernel)) (fun _ _ _ _ _ => (pg_name (i := 3) sc__law_word.nd rfl (Or.inl rfl))) (fun _ _ _ _ _ => pts_nil) (fun _ _ _ _ _ => (pe_call G__law_one (hr.mono (by first | decide | omega)) rfl T.m__law_one T.k__law_one T.b__law_one .nil pass0 (pa_cons (pv 0) (pa_cons (pe_slice sl_str pe_str po_none (po_some (pv 1))) pa_nil))))))))), ?_⟩
  refine spD.ok h fun M p q hp hq Hs tr ds cc k0 G hR hk0 => ?_
  obtain ⟨L, most, rfl, l1, l4, hm, rfl, rfl⟩ := hR
  walk_at "st"
  refine sw_ret (ev_join (ev_str ⟨_, rfl, ev_lc (ei_rng1 ?_)⟩))
  walk_at "go"
  refine ⟨by omega, by omega, by omega, fun r hr => ?_⟩
  walk_at "go"
  refine ⟨by omega, by omega, by omega, ?_⟩
  have hrm : r ≤ most := by omega
  refine ⟨fun i acc k3 => ∃ u : List Nat, acc = (u.map fun c => PyData.str (txt [c])) ∧ u.length = i ∧ (∀ c ∈ u, c < L) ∧ k3 ≤ k0 + 1 + i, ⟨[], rfl, rfl, (fun _ z => nomatch z), by omega⟩, ?_, ?_⟩
  · rintro i acc k3 hi ⟨u, rfl, hl, hc, hk3⟩
    have hir : i < r := hi
    walk_at "go"
    refine rsl_S (by decide) ?_
    rw [abcd_cut l4]
    walk_at "go"
    refine ⟨by omega, List.range L, rfl, by simp; omega, by simp; omega, fun c hcm => ?_⟩
    exact ⟨u ++ [c], by rw [List.map_append]; rfl, by rw [List.length_append, hl]; rfl, fun x hx => (List.mem_append.mp hx).elim (hc x) fun h => by rw [List.mem_singleton.mp h]; exact List.mem_range.mp hcm, by omega⟩
  · rintro acc k3 _ ⟨u, rfl, hl, hc, hk3⟩
    have hl : u.length = r := hl
    have hk3 : k3 ≤ k0 + 1 + r := hk3
    refine ⟨u.map fun c => txt [c], by rw [List.map_map]; rfl, ?_, ⟨u, by rw [join_ones], by omega, hc⟩, by omega⟩
    rw [ones_len, List.length_map, show (Str.ofString "").length = 0 from by decide +kernel]
    omega
def R_lrounds (ds : List PyData) (c : Nat) (G : PyData → Prop) : Prop := ∃ L : Nat, ds = [nI L] ∧ 1 ≤ L ∧ L ≤ 4 ∧ c = 0 ∧ G = GKind L L
def roundRow (L i : Nat) : List (Option Nat) := (List.range L).map fun j => if j = i then some ((i + 1) % L) else none
theorem ok__law_rounds (T : Txt K mg A) (B : Tbs base mg A) : FnOk P w K mg base CX0 2 A.f__law_rounds A.d__law_rounds ["_law_deck_here", "_law_letters"] (spD K 2 R_lrounds) := by
  refine T.F__law_rounds.ok sc__law_rounds (fun vs H Q E h => ?_) (fun cdv Ar outer s H vs Q E hr h => ?_)
  · exact spD.len h
  refine ⟨_, (pss_cons (ps_set (i := 2) sc__law_rounds.nd rfl (Or.inl rfl) (pe_lst pa_nil))
    (pss_cons (ps_for PassesOwn.never rfl (pi_range1 (by rfl) T.z_range (pa_cons (pv 1) pa_nil)) (pg_name (i := 3) sc__law_rounds.nd rfl (Or.inr rfl))
    (pss_one (ps_expr (kBm K (pe_bm PySem.F.plainAttrs_list PySem.F.slot_list_append PySem.F.type_list_append mt_append (pv 2) (pa_cons (pe_callTy (T := "tuple") (kTupOf K) (by rfl) T.z_tuple (by decide +kernel) (pa_cons (pe_lc (own := [("_law_j", 4)]) rfl sc__law_rounds.nd (pi_range1 (by rfl) T.z_range (pa_cons (pv 1) pa_nil)) (blkOk_by (own := [("_law_j", 4)]) (N := N__law_rounds) (sc := defScope s__law_rounds) (by decide +kernel)) (fun _ _ _ _ _ => (pg_name (i := 4) sc__law_rounds.nd rfl (Or.inl rfl))) (fun _ _ _ _ _ => pts_nil) (fun _ _ _ _ _ => (pe_ifExp (pt_cmpR op_eq (pv 4) (pv 3) (nomark _)) (pe_op op_mod (pe_op op_add (pv 3) pe_int) (pv 1)) pe_non))) pa_nil)) pa_nil))))))
    (pss_one (ps_ret (pe_tup (pa_cons (pv 1) (pa_cons (pe_callTy (T := "tuple") (kTupOf K) (by rfl) T.z_tuple (by decide +kernel) (pa_cons (pv 2) pa_nil)) (pa_cons (pe_op (kCatT K) (pe_tup (pa_cons pe_bl pa_nil)) (pe_op (kTimesZ K) (pe_tup (pa_cons pe_bl pa_nil)) (pe_op op_sub (pv 1) pe_int))) pa_nil)))))))), ?_⟩
  refine spD.ok h fun M p q hp hq Hs tr ds cc k0 G hR hk0 => ?_
  obtain ⟨L, rfl, l1, l4, rfl, rfl⟩ := hR
  walk_at "st"
  refine sw_seq (sw_own (ea_nil ⟨by simp, ?_⟩))
  walk_at "tg"
  refine sw_seq (sw_forW (ei_rng1 ?_))
  walk_at "go"
  refine ⟨by omega, by omega, ?_⟩
  refine ⟨fun i ρ k3 => ρ = [.raw (.ref p), .dat (nI L), .own ((List.range i).map fun i => rowD (roundRow L i)), .no, .no] ∧ k3 = k0, ⟨_, by walk_at "le", rfl, rfl⟩, ?_, ?_⟩
  · rintro i ρ1 k3 hi ⟨rfl, rfl⟩
    have hiL : i < L := hi
    have em : ((i : Int) + 1) % (L : Int) = (((i + 1) % L : Nat) : Int) := by rw [Int.natCast_emod]; rfl
    walk_at "tg"
    refine sw_append (ev_cb (ea_cons (ev_lcP (fun _ => true) (fun j => optD (if j = i then some ((i + 1) % L) else none)) (ei_rng1 ?_)))) ⟨_, rfl⟩
    walk_at "go"
    refine ⟨by omega, by omega, by omega, fun j hj => ?_, ?_⟩
    · walk_at "go"
      by_cases e : j = i
      · rw [decide_eq_true (show (j : Int) = (i : Int) by omega), if_pos e]
        refine if_split (fun _ => ?_) (fun z => by cases z)
        walk_at "go"
        refine rd_mod (by omega) ?_
        rw [em]
        exact ⟨rfl, rfl⟩
      · rw [decide_eq_false (show ¬ (j : Int) = (i : Int) by omega), if_neg e]
        refine if_split (fun z => by cases z) (fun _ => ?_)
        walk_at "go"
        exact ⟨rfl, rfl⟩
    · rw [List.filter_eq_self.mpr fun _ _ => rfl]
      walk_at "go"
      refine ⟨by simp; omega, ?_⟩
      have er : (List.range i).map (fun i => rowD (roundRow L i)) ++ [PyData.tuple ((List.range (L : Int).toNat).map fun j => optD (if j = i then some ((i + 1) % L) else none))] = (List.range (i + 1)).map fun i => rowD (roundRow L i) := by
        rw [List.range_succ, List.map_append]
        congr 1
        show _ = [rowD (roundRow L i)]
        unfold rowD roundRow
        rw [List.map_map]
        rfl
      rw [er]
      exact ⟨_, by walk_at "le", rfl, rfl⟩
  · rintro ρ1 k3 ⟨rfl, rfl⟩
    refine sw_freeze 2 rfl ?_
    walk_at "go"
    rw [show (L : Int) - 1 = ((L - 1 : Nat) : Int) by omega]
    refine rd_timesZ (by omega) ?_
    refine rd_catT (by simp; omega) ?_
    walk_at "go"
    refine ⟨⟨(List.range L).map (roundRow L), true :: List.replicate (L - 1) false, ?_, ⟨by simp, by simp; omega, fun r hr => ?_, l1, l4, l1, by omega⟩⟩, by omega⟩
    · have e : ([PyData.bool true] ++ List.replicate (L - 1) (PyData.bool false)) = (true :: List.replicate (L - 1) false).map PyData.bool := by rw [List.map_cons, List.map_replicate]; rfl
      rw [e]
      unfold kindD
      rw [List.map_map]
      rfl
    · obtain ⟨c, hc, rfl⟩ := List.mem_map.mp hr
      have hm : (c + 1) % L < L := Nat.mod_lt _ l1
      refine ⟨by simp [roundRow], fun t ht => ?_⟩
      obtain ⟨j, _, h⟩ := List.mem_map.mp ht
      split at h
      · have := Option.some.inj h
        omega
      · cases h
end

-- SPLIT
/-! ### the first word that tells two forms apart, layer by layer -/
def isU (ends : List Bool) (e : LE) : Bool := ends.getD e.2.2 false && decide (e.2.1 ≠ 0)
section
variable {rows : List (List (Option Nat))} {ends : List Bool} {gp : List Int} {N n : Nat} {ly : List LE}
theorem unl_found (K : LayerOk (stepL rows) gp N n ly) (least : ∀ u, InK rows ends u → wF gp u ≠ 0 → n ≤ u.length) {e : LE} {es : List LE} (h : ly.filter (isU ends) = e :: es) : FirstU rows ends gp (some e.1) := by
  have he : e ∈ ly.filter (isU ends) := by rw [h]; exact .head _
  obtain ⟨h1, h2⟩ := List.mem_filter.mp he
  have h2 : (ends.getD e.2.2 false && decide (e.2.1 ≠ 0)) = true := h2
  rw [Bool.and_eq_true] at h2
  refine ⟨⟨⟨e.2.2, K.run e h1, h2.1⟩, by rw [← K.num e h1]; exact of_decide_eq_true h2.2⟩, fun u ⟨⟨t, hu, ht⟩, hw⟩ hs => ?_⟩
  have l1 := least u ⟨t, hu, ht⟩ hw
  have l2 := K.len e h1
  rcases hs with hs | ⟨hl, hx⟩
  · omega
  · obtain ⟨x, x1, x2, x3, x4⟩ := K.cov u t 0 (by omega) hu hw
    have hx2 : x ∈ ly.filter (isU ends) := List.mem_filter.mpr ⟨x1, by
      show (ends.getD x.2.2 false && decide (x.2.1 ≠ 0)) = true
      rw [x2, show ends.getD t false = true from ht, decide_eq_true x3]; rfl⟩
    have pw : (ly.filter (isU ends)).Pairwise fun e e' => lexN e.1 e'.1 := K.srt.filter _
    rw [h] at hx2 pw
    rcases List.mem_cons.mp hx2 with rfl | hm
    · exact x4 hx
    · exact x4 (lexN_trans _ _ _ hx ((List.pairwise_cons.mp pw).1 x hm))
theorem unl_more (K : LayerOk (stepL rows) gp N n ly) (least : ∀ u, InK rows ends u → wF gp u ≠ 0 → n ≤ u.length) (h : ly.filter (isU ends) = []) : ∀ u, InK rows ends u → wF gp u ≠ 0 → n + 1 ≤ u.length := fun u ⟨t, hu, ht⟩ hw => by
  have l1 := least u ⟨t, hu, ht⟩ hw
  refine Nat.lt_of_le_of_ne l1 fun e => ?_
  obtain ⟨x, x1, x2, x3, x4⟩ := K.cov u t 0 e.symm hu hw
  have hx2 : x ∈ ly.filter (isU ends) := List.mem_filter.mpr ⟨x1, by
    show (ends.getD x.2.2 false && decide (x.2.1 ≠ 0)) = true
    rw [x2, show ends.getD t false = true from ht, decide_eq_true x3]; rfl⟩
  rw [h] at hx2
  exact nomatch hx2
theorem shortest {p : List Nat → Prop} : ∀ (n : Nat) (u : List Nat), u.length ≤ n → p u → ∃ w, p w ∧ ∀ v, p v → w.length ≤ v.length
  | 0, u, h, hp => ⟨u, hp, fun v _ => by omega⟩
  | n + 1, u, h, hp => by
    by_cases c : ∃ v, p v ∧ v.length ≤ n
    · obtain ⟨v, v1, v2⟩ := c
      exact shortest n v v2 v1
    · exact ⟨u, hp, fun v hv => Nat.le_of_not_lt fun z => c ⟨v, hv, by omega⟩⟩
theorem unl_none {L : Nat} (ok : KOk L N rows ends) (least : ∀ u, InK rows ends u → wF gp u ≠ 0 → 3 * N + 1 ≤ u.length) : FirstU rows ends gp none := fun u ⟨h1, h2⟩ => by
  obtain ⟨w, ⟨w1, w2⟩, w3⟩ := shortest (p := fun u => InK rows ends u ∧ wF gp u ≠ 0) u.length u (Nat.le_refl _) ⟨h1, h2⟩
  have := unl_short (N := N) (fun s c t _ h => (stepL_lt ok h).1) ok.n1 w1 w2 fun v a b => w3 v ⟨a, b⟩
  have := least w w1 w2
  omega
end
section
variable {P : Program} {w : World} {K : PySem.W.Frag} {mg : Str → Option Value} {base : Heap} {A : Adrs}
def R_lfu (ds : List PyData) (r : PyData) : Prop := ∃ (L N : Nat) (rows : List (List (Option Nat))) (ends : List Bool) (f g : List Int) (res : Option (List Nat)), ds = [kindD L rows ends, .tuple (f.map .int), .tuple (g.map .int)] ∧ KOk L N rows ends ∧ f.length = L ∧ g.length = L ∧ FirstU rows ends (List.zipWith (· - ·) f g) res ∧ r = encW res
theorem ok__law_first_unlike (T : Txt K mg A) (B : Tbs base mg A) : FnOk P w K mg base CX0 2 A.f__law_first_unlike A.d__law_first_unlike ["_law_kind_here", "_law_one_here", "_law_other"] (spP K 3 R_lfu) := by
  have G__law_layer : FnOk P w K mg base CX0 1 A.f__law_layer A.d__law_layer ["_law_kind_here", "_law_gaps", "_law_layer_here"] (spQ K 3 R_llayer) := ok__law_layer T B
  refine T.F__law_first_unlike.ok sc__law_first_unlike (fun vs H Q E h => ?_) (fun cdv Ar outer s H vs Q E hr h => ?_)
  · exact spP.len h
  refine ⟨_, (pss_cons (ps_par (i := 3) (j := 4) (by rfl) sc__law_first_unlike.nd rfl rfl (by decide) rfl rfl (pa_cons (pe_lc (own := [("_law_j", 7)]) rfl sc__law_first_unlike.nd (pi_range1 (by rfl) T.z_range (pa_cons (pe_ix (kIxT K) (pv 0) pe_int (fun _ _ => rfl)) pa_nil)) (blkOk_by (own := [("_law_j", 7)]) (N := N__law_first_unlike) (sc := defScope s__law_first_unlike) (by decide +kernel)) (fun _ _ _ _ _ => (pg_name (i := 7) sc__law_first_unlike.nd rfl (Or.inl rfl))) (fun _ _ _ _ _ => pts_nil) (fun _ _ _ _ _ => (pe_op op_sub (pe_ix (kIxT K) (pv 1) (pv 7) (fun _ _ => rfl)) (pe_ix (kIxT K) (pv 2) (pv 7) (fun _ _ => rfl))))) (pa_cons (pe_lst (pa_cons (pe_tup (pa_cons pe_str (pa_cons pe_int (pa_cons pe_int pa_nil)))) pa_nil)) pa_nil)) (by rfl))
    (pss_cons (ps_for PassesOwn.never rfl (pi_range1 (by rfl) T.z_range (pa_cons (pe_op op_add (pe_op op_mul pe_int (pe_callB (id := "len") (kLenQ K) (by rfl) T.z_len (by decide +kernel) (pa_cons (pe_ix (kIxT K) (pv 0) pe_int (fun _ _ => rfl)) pa_nil))) pe_int) pa_nil)) (pg_name (i := 5) sc__law_first_unlike.nd rfl (Or.inl rfl))
    (pss_cons (ps_setLc (i := 6) (own := [("_law_row", 8)]) (by rfl) sc__law_first_unlike.nd rfl rfl (sw_true rfl rfl rfl (by decide +kernel)) (kPiL K (pv 4)) (blkOk_by (own := [("_law_row", 8)]) (N := N__law_first_unlike) (sc := defScope s__law_first_unlike) (by decide +kernel)) (fun _ _ _ _ _ => (pg_name (i := 8) sc__law_first_unlike.nd rfl (Or.inl rfl))) (fun _ _ _ _ _ => (pts_one (PW.pt (pw_and (pt_val (pe_ix (kIxT K) (pe_ix (kIxT K) (pv 0) pe_int (fun _ _ => rfl)) (pe_ix (kIxT K) (pv 8) pe_int (fun _ _ => rfl)) (fun _ _ => rfl))) (pw_and1 (pt_cmpR op_ne (pe_ix (kIxT K) (pv 8) pe_int (fun _ _ => rfl)) pe_int (nomark _))))))) (fun _ _ _ _ _ => (pe_ix (kIxT K) (pv 8) pe_int (fun _ _ => rfl))))
    (pss_cons (ps_if (pt_cmpR (kNeNil K hr) (pv 6) (pe_lst pa_nil) (nomark _)) (pss_one (ps_ret (pe_ix (kIxL K) (pv 6) pe_int (fun _ _ => rfl))))
    pss_nil)
    (pss_one (ps_set (i := 4) sc__law_first_unlike.nd rfl (Or.inl rfl) (pe_call G__law_layer (hr.mono (by first | decide | omega)) rfl T.m__law_layer T.k__law_layer T.b__law_layer .nil pass0 (pa_cons (pv 0) (pa_cons (pv 3) (pa_cons (pv 4) pa_nil)))))))))
    (pss_one (ps_ret pe_non)))), ?_⟩
  refine spP.ok h fun W ds r hR => ?_
  obtain ⟨L, N, rows, ends, f, g, res, rfl, ok, hf, hg, hres, rfl⟩ := hR
  have n1 := ok.n1
  have n9 := ok.n9
  have l4 := ok.l4
  have lr := ok.lr
  walk_at "st"
  refine sw_seq (sw_par (ea_cons (ev_lcP (fun _ => true) (fun j => .int ((List.zipWith (· - ·) f g).getD j 0)) (ei_rng1 ?_))))
  walk_at "go"
  refine ⟨by omega, by omega, by omega, fun j hj => ?_, ?_⟩
  · have e1 : f[j]? = some (f.getD j 0) := getDX (by omega)
    have e2 : g[j]? = some (g.getD j 0) := getDX (by omega)
    have e3 : (List.zipWith (· - ·) f g).getD j 0 = f.getD j 0 - g.getD j 0 := by
      rw [List.getD_eq_getElem?_getD, List.getElem?_zipWith, e1, e2]
      rfl
    rw [e3]
    walk_at "go"
    refine rd_ixT (j := j) rfl (at_map e1) ?_
    walk_at "go"
    refine rd_ixT (j := j) rfl (at_map e2) ?_
    walk_at "go"
  have hz : (List.zipWith (· - ·) f g).length = L := by simp [hf, hg]
  have eg : (List.map (fun j => PyData.int ((List.zipWith (fun x1 x2 : Int => x1 - x2) f g).getD j 0)) (List.filter (fun x => true) (List.range (L : Int).toNat))) = (List.zipWith (· - ·) f g).map .int := by
    rw [List.filter_eq_self.mpr fun _ _ => rfl]
    apply List.ext_getElem
    · simp [hf, hg]
    · intro i a1 a2
      have a2 : i < (List.zipWith (fun x1 x2 : Int => x1 - x2) f g).length := by simpa using a2
      rw [List.getElem_map, List.getElem_map, List.getElem_range, List.getD_eq_getElem?_getD, List.getElem?_eq_getElem a2]
      rfl
  rw [eg]
  generalize (List.zipWith (· - ·) f g) = gp at hres hz
  walk_at "ev"
  refine sw_seq (sw_forW (ei_rng1 ?_))
  walk_at "ev"
  rw [List.length_map]
  refine rd_mul (.inl ⟨by decide, by decide⟩) ?_
  walk_at "ev"
  refine ⟨by omega, by omega, ?_⟩
  rw [show ((3 : Int) * (rows.length : Int) + 1).toNat = 3 * N + 1 by omega]
  refine ⟨fun n ρ _ => ∃ ly : List LE, ρ = [.dat (kindD L rows ends), .dat (.tuple (f.map .int)), .dat (.tuple (g.map .int)), .dat (.list (gp.map .int)), .dat (.list (ly.map encE)), .no, .no, .no, .no] ∧ LayerOk (stepL rows) gp N n ly ∧ (∀ u, InK rows ends u → wF gp u ≠ 0 → n ≤ u.length), ⟨_, by walk_at "le", [([], 0, 0)], rfl, layer0 n1, fun _ _ _ => Nat.zero_le _⟩, ?_, ?_⟩
  · rintro n ρ1 k2 hn ⟨ly, rfl, hly, least⟩
    have few := hly.few
    walk_at "tg"
    refine sw_seq (sw_set (ev_lcP (fun i => isU ends (ly.getD i ([], 0, 0))) (fun i => nX (ly.getD i ([], 0, 0)).1) (ei_list (ev_var rfl ⟨_, rfl, ?_⟩))))
    rw [List.length_map]
    refine ⟨by omega, fun i hi => ?_, ?_⟩
    · rw [itemD_map hi]
      have egd : ly.getD i ([], 0, 0) = ly[i] := by rw [List.getD_eq_getElem?_getD, List.getElem?_eq_getElem hi]; rfl
      have her := hly.run _ (List.getElem_mem hi)
      rw [egd]
      generalize ly[i] = e at her
      obtain ⟨wd, v, s⟩ := e
      have hs := runF_in (fun s c t _ h => (stepL_lt ok h).1) wd 0 s (by omega) her
      rw [show encE (wd, v, s) = .tuple [nX wd, .int v, nI s] from rfl]
      have hes : ends[s]? = some (ends.getD s false) := getDX (by rw [ok.le]; exact hs)
      have hu : isU ends (wd, v, s) = (ends.getD s false && decide (v ≠ 0)) := rfl
      rw [hu]
      walk_at "go"
      refine rd_ixT (j := s) rfl (at_map hes) ?_
      walk_at "go"
      refine if_split (fun h => ?_) (fun h => ?_)
      · rw [h, Bool.true_and]
        walk_at "go"
        refine ⟨by simp, rfl, fun _ => ?_⟩
        walk_at "go"
      · rw [h, Bool.false_and]
        exact ⟨rfl, rfl, fun z => by cases z⟩
    · dsimp only [List.set_cons_succ, List.set_cons_zero]
      have ef : (((List.range ly.length).filter fun i => isU ends (ly.getD i ([], 0, 0))).map fun i => nX (ly.getD i ([], 0, 0)).1) = (ly.filter (isU ends)).map fun e => nX e.1 := by
        rw [← keepF (isU ends) ([], 0, 0) ly, List.map_map]
        rfl
      rw [ef]
      refine sw_seq (sw_if (et_test (ev_op ?_)))
      walk_at "go"
      refine rd_neNilL ?_
      walk_at "go"
      cases hfl : ly.filter (isU ends) with
      | nil =>
        refine if_split (fun z => by cases z) (fun _ => ?_)
        walk_at "go"
        refine rc_q rfl ⟨L, N, rows, ends, gp, n, ly, rfl, ok, hz, hly, by omega, rfl⟩ ?_
        rintro d ⟨ly', rfl, hly'⟩
        walk_at "tg"
        exact ⟨_, by walk_at "le", ly', rfl, hly', unl_more hly least hfl⟩
      | cons e es =>
        refine if_split (fun _ => ?_) (fun z => by cases z)
        walk_at "go"
        refine rd_ixL (j := 0) rfl rfl ?_
        rw [firstU_one hres (unl_found hly least hfl)]
        rfl
  · rintro ρ1 k2 ⟨ly, rfl, hly, least⟩
    walk_at "go"
    rw [firstU_one hres (unl_none ok least)]
    rfl
end

-- SPLIT
/-! ### the program's unlike gives the first word that tells two forms apart -/
theorem firstK_ex {L N : Nat} {rows : List (List (Option Nat))} {ends : List Bool} (ok : KOk L N rows ends) (fm : List Int) (b : Int) : ∃ res, FirstK rows ends fm b res := by
  by_cases h : ∃ u, InK rows ends u ∧ b < wF fm u
  · obtain ⟨u, hu⟩ := h
    have hL : ∀ s c t, stepL rows s c = some t → c < L := fun s c t h => (stepL_lt ok h).2.2
    rcases lfirst_is (fm := fm) (goal := fun s => ends.getD s false) hL (u.length + 1) b with ⟨_, no⟩ | ⟨w, _, h1, h2⟩
    · exact absurd hu (no u (Nat.lt_succ_self _))
    · exact ⟨some w, h1, h2⟩
  · exact ⟨none, fun u hu => h ⟨u, hu⟩⟩
theorem early_two (a b : List Nat) : (slt b a ∧ earlyF (some a) (some b) = some b) ∨ (¬ slt b a ∧ earlyF (some a) (some b) = some a) := by
  show (slt b a ∧ (if a.length = b.length then (if b.map (97 + ·) < a.map (97 + ·) then some b else some a) else if a.length < b.length then some a else some b) = some b) ∨ (¬ slt b a ∧ (if a.length = b.length then (if b.map (97 + ·) < a.map (97 + ·) then some b else some a) else if a.length < b.length then some a else some b) = some a)
  by_cases e : a.length = b.length
  · rw [if_pos e]
    by_cases l : b.map (97 + ·) < a.map (97 + ·)
    · rw [if_pos l]
      exact .inl ⟨.inr ⟨e.symm, (txt_lex e.symm).mp l⟩, rfl⟩
    · rw [if_neg l]
      exact .inr ⟨fun z => z.elim (fun z => by omega) fun z => l ((txt_lex e.symm).mpr z.2), rfl⟩
  · rw [if_neg e]
    by_cases l : a.length < b.length
    · rw [if_pos l]
      exact .inr ⟨fun z => z.elim (fun z => by omega) fun z => e z.1.symm, rfl⟩
    · rw [if_neg l]
      exact .inl ⟨.inl (by omega), rfl⟩
theorem early_U {rows : List (List (Option Nat))} {ends : List Bool} {Z : List Int} {r1 r2 : Option (List Nat)} (h1 : FirstK rows ends Z 0 r1) (h2 : FirstK rows ends (Z.map fun x => -x) 0 r2) : FirstU rows ends Z (earlyF r1 r2) := by
  have two : ∀ u, wF Z u ≠ 0 → 0 < wF Z u ∨ 0 < wF (Z.map fun x => -x) u := fun u h => by
    rw [wF_neg]
    omega
  cases r1 with
  | none =>
    cases r2 with
    | none => exact fun u ⟨a, b⟩ => (two u b).elim (fun z => h1 u ⟨a, z⟩) fun z => h2 u ⟨a, z⟩
    | some b =>
      refine ⟨⟨h2.1.1, fun z => ?_⟩, fun u ⟨a, c⟩ => (two u c).elim (fun z => absurd ⟨a, z⟩ (h1 u)) fun z => h2.2 u ⟨a, z⟩⟩
      have := h2.1.2
      rw [wF_neg, z] at this
      exact absurd this (by decide)
  | some a =>
    have na : wF Z a ≠ 0 := fun z => by
      have := h1.1.2
      rw [z] at this
      exact absurd this (by decide)
    cases r2 with
    | none => exact ⟨⟨h1.1.1, na⟩, fun u ⟨i, c⟩ => (two u c).elim (fun z => h1.2 u ⟨i, z⟩) fun z => absurd ⟨i, z⟩ (h2 u)⟩
    | some b =>
      have nb : wF Z b ≠ 0 := fun z => by
        have := h2.1.2
        rw [wF_neg, z] at this
        exact absurd this (by decide)
      rcases early_two a b with ⟨l, e⟩ | ⟨l, e⟩
      · rw [e]
        exact ⟨⟨h2.1.1, nb⟩, fun u ⟨i, c⟩ hs => (two u c).elim (fun z => h1.2 u ⟨i, z⟩ (slt_trans hs l)) fun z => h2.2 u ⟨i, z⟩ hs⟩
      · rw [e]
        exact ⟨⟨h1.1.1, na⟩, fun u ⟨i, c⟩ hs => (two u c).elim (fun z => h1.2 u ⟨i, z⟩ hs) fun z => h2.2 u ⟨i, z⟩ (slt_le2 hs l)⟩
theorem zipSub_len {f g : List Int} {L : Nat} (hf : f.length = L) (hg : g.length = L) : (List.zipWith (· - ·) f g).length = L := by simp [hf, hg]
theorem zipSub_at {f g : List Int} {L : Nat} (hf : FmOk f L) (hg : FmOk g L) (c : Nat) : ((List.zipWith (· - ·) f g).getD c 0).natAbs ≤ 198 := by
  by_cases h : c < L
  · have e1 : f[c]? = some (f.getD c 0) := getDX (by have := hf.len; omega)
    have e2 : g[c]? = some (g.getD c 0) := getDX (by have := hg.len; omega)
    have e3 : (List.zipWith (· - ·) f g).getD c 0 = f.getD c 0 - g.getD c 0 := by
      rw [List.getD_eq_getElem?_getD, List.getElem?_zipWith, e1, e2]
      rfl
    have := hf.at c
    have := hg.at c
    rw [e3]
    omega
  · rw [List.getD_eq_getElem?_getD, List.getElem?_eq_none (by rw [zipSub_len hf.len hg.len]; omega)]
    exact Nat.zero_le _
theorem neg_at {Z : List Int} {M : Nat} (h : ∀ c, (Z.getD c 0).natAbs ≤ M) (c : Nat) : ((Z.map fun x => -x).getD c 0).natAbs ≤ M := by
  have := h c
  rw [List.getD_eq_getElem?_getD] at this ⊢
  rw [List.getElem?_map]
  cases e : Z[c]? with
  | none => exact Nat.zero_le _
  | some x =>
    rw [e] at this
    have this : x.natAbs ≤ M := this
    show (-x).natAbs ≤ M
    omega
theorem zipSub_neg (f g : List Int) : List.zipWith (· - ·) g f = (List.zipWith (· - ·) f g).map fun x => -x := by
  apply List.ext_getElem?
  intro i
  rw [List.getElem?_map, List.getElem?_zipWith, List.getElem?_zipWith]
  cases f[i]? with
  | none => cases g[i]? <;> rfl
  | some x =>
    cases g[i]? with
    | none => rfl
    | some y =>
      show some (y - x) = some (-(x - y))
      congr 1
      omega
theorem neg_neg_map (Z : List Int) : (Z.map fun x => -x).map (fun x => -x) = Z := by
  rw [List.map_map]
  conv => rhs; rw [← List.map_id Z]
  exact List.map_congr_left fun x _ => by show - -x = x; omega
theorem firstK_long {L N : Nat} {rows : List (List (Option Nat))} {ends : List Bool} {Z : List Int} {res : Option (List Nat)} (ok : KOk L N rows ends) (hZ : ∀ c, (Z.getD c 0).natAbs ≤ 198) (hr : FirstK rows ends Z 0 res) : ∀ u, res = some u → u.length ≤ 100000 := fun u e => by
  subst e
  have n1 := ok.n1
  have n9 := ok.n9
  obtain ⟨⟨⟨t, h1, h2⟩, h3⟩, h4⟩ := hr
  have S : Short (stepL rows) (fun s => ends.getD s false) Z 0 u := ⟨⟨t, h1, h2⟩, h3, fun v v1 v2 => nslt_len (h4 v ⟨v1, v2⟩)⟩
  have hst : ∀ s c t, s < N → stepL rows s c = some t → t < N := fun s c t _ h => (stepL_lt ok h).1
  have := first_short (M := 198) (W := 3565) hst n1 hZ S (by simp only [Int.max_def]; split <;> omega)
  have : N * 3565 ≤ 9 * 3565 := Nat.mul_le_mul_right _ n9
  omega
theorem unl_prog {L N : Nat} {rows : List (List (Option Nat))} {ends : List Bool} {f g : List Int} (ok : KOk L N rows ends) (hf : FmOk f L) (hg : FmOk g L) {res : Option (List Nat)} (hr : FirstU rows ends (List.zipWith (· - ·) f g) res) :
    R_unlike [kindD L rows ends, .tuple (f.map .int), .tuple (g.map .int)] (encW res) := by
  have n9 := ok.n9
  have n1 := ok.n1
  have l4 := ok.l4
  have hz := zipSub_at hf hg
  have hz2 := neg_at hz
  have hl := zipSub_len hf.len hg.len
  obtain ⟨r1, h1⟩ := firstK_ex ok (List.zipWith (· - ·) f g) 0
  obtain ⟨r2, h2⟩ := firstK_ex ok ((List.zipWith (· - ·) f g).map fun x => -x) 0
  rw [firstU_one hr (early_U h1 h2)]
  have hw : N * 5545 ≤ 9 * 5545 := Nat.mul_le_mul_right _ n9
  have hm : max (0 : Int) 0 + ((3 * (198 * N) + 198 : Nat) : Int) < ((5545 : Nat) : Int) := by simp only [Int.max_def]; split <;> omega
  exact ⟨_, f, g, r1, r2, rfl, by rw [hf.len, hg.len], by rw [hf.len]; omega, above_words (M := 198) (W := 5545) ok hl hz (by omega) hm h1,
    above_words (M := 198) (W := 5545) ok (by rw [List.length_map]; exact hl) hz2 (by omega) hm h2, firstK_long ok hz h1, firstK_long ok hz2 h2, rfl⟩
theorem firstU_fine {L N : Nat} {rows : List (List (Option Nat))} {ends : List Bool} {Z : List Int} {res : Option (List Nat)} (ok : KOk L N rows ends) (hr : FirstU rows ends Z res) : Fine 100 0 (encW res) := by
  have n1 := ok.n1
  have n9 := ok.n9
  have l4 := ok.l4
  cases res with
  | none => exact fine_none.more (by decide) (by decide)
  | some u =>
    obtain ⟨⟨⟨t, h1, h2⟩, h3⟩, h4⟩ := hr
    have := unl_short (N := N) (goal := fun s => ends.getD s false) (fun s c t _ h => (stepL_lt ok h).1) n1 ⟨t, h1, h2⟩ h3 fun v v1 v2 => nslt_len (h4 v ⟨v1, v2⟩)
    refine fine_X (fun c hc => ?_) (by omega)
    have := (run_lt ok u 0 t (by omega) h1).2 c hc
    omega
theorem firstU_ex {L N : Nat} {rows : List (List (Option Nat))} {ends : List Bool} (ok : KOk L N rows ends) (Z : List Int) : ∃ res, FirstU rows ends Z res := by
  obtain ⟨r1, h1⟩ := firstK_ex ok Z 0
  obtain ⟨r2, h2⟩ := firstK_ex ok (Z.map fun x => -x) 0
  exact ⟨_, early_U h1 h2⟩
/-- both ways round -/
theorem unl_all {L N : Nat} {rows : List (List (Option Nat))} {ends : List Bool} {f g : List Int} (ok : KOk L N rows ends) (hf : FmOk f L) (hg : FmOk g L) : ∃ res, R_lfu [kindD L rows ends, .tuple (f.map .int), .tuple (g.map .int)] (encW res) ∧
    R_unlike [kindD L rows ends, .tuple (f.map .int), .tuple (g.map .int)] (encW res) ∧ R_unlike [kindD L rows ends, .tuple (g.map .int), .tuple (f.map .int)] (encW res) ∧ Fine 100 0 (encW res) := by
  obtain ⟨res, hr⟩ := firstU_ex ok (List.zipWith (· - ·) f g)
  exact ⟨res, ⟨L, N, rows, ends, f, g, res, rfl, ok, hf.len, hg.len, hr, rfl⟩, unl_prog ok hf hg hr, unl_prog ok hg hf (by rw [zipSub_neg]; exact firstU_neg hr), firstU_fine ok hr⟩

-- SPLIT
/-! ### the law -/
theorem fine_optD {o : Option Nat} {N : Nat} (h : ∀ t, o = some t → t < N) (hN : N ≤ 1000) : Fine 40 0 (optD o) := by
  cases o with
  | none => exact fine_none.more (by decide) (by decide)
  | some t => exact fine_int (Nat.lt_of_le_of_lt (show ((t : Nat) : Int).natAbs ≤ 1000 by have := h t rfl; omega) (by decide))
theorem fine_kind {L N : Nat} {rows : List (List (Option Nat))} {ends : List Bool} (ok : KOk L N rows ends) : Fine 4458 3 (kindD L rows ends) := by
  have l4 := ok.l4
  have n9 := ok.n9
  have f1 : Fine 1485 2 (nI L) := (fine_int (Nat.lt_of_le_of_lt (show ((L : Nat) : Int).natAbs ≤ 1000 by omega) (by decide))).more (by decide) (by decide)
  have f2 : Fine 1485 2 (.tuple (rows.map rowD)) := fine_tup (w := 164) (dp := 1) (n := 9) (fun d hd => by
    obtain ⟨r, hr, rfl⟩ := List.mem_map.mp hd
    obtain ⟨h1, h2⟩ := ok.row r hr
    exact fine_tup (w := 40) (dp := 0) (n := 4) (fun d hd => by
      obtain ⟨o, ho, rfl⟩ := List.mem_map.mp hd
      exact fine_optD (N := N) (fun t e => h2 t (e ▸ ho)) (by omega)) (by rw [List.length_map]; omega)) (by rw [List.length_map, ok.lr]; omega)
  have f3 : Fine 1485 2 (.tuple (ends.map PyData.bool)) := (fine_tup (w := 0) (dp := 0) (n := 9) (fun d hd => by
    obtain ⟨b, _, rfl⟩ := List.mem_map.mp hd
    exact fine_bool b) (by rw [List.length_map, ok.le]; omega)).more (by decide) (by decide)
  exact fine_tup (w := 1485) (dp := 2) (n := 3) (fun d hd => by
    simp only [List.mem_cons, List.not_mem_nil, or_false] at hd
    rcases hd with rfl | rfl | rfl
    · exact f1
    · exact f2
    · exact f3) (Nat.le_refl _)
theorem fine_form {L : Nat} {fm : List Int} (h : FmOk fm L) (l4 : L ≤ 4) : Fine 164 1 (.tuple (fm.map .int)) := fine_tup (w := 40) (dp := 0) (n := 4) (fun d hd => by
  obtain ⟨x, hx, rfl⟩ := List.mem_map.mp hd
  exact fine_int (Nat.lt_of_le_of_lt (h.low x hx) (by decide))) (by rw [List.length_map, h.len]; exact l4)
theorem shown_kept {L N1 N2 N3 : Nat} {r1 r2 r3 : List (List (Option Nat))} {e1 e2 e3 : List Bool} {f g : List Int} (k1 : KOk L N1 r1 e1) (k2 : KOk L N2 r2 e2) (k3 : KOk L N3 r3 e3) (hf : FmOk f L) (hg : FmOk g L) :
    Shown (.list [.list [kindD L r1 e1, kindD L r2 e2, kindD L r3 e3], .tuple (f.map .int), .tuple (g.map .int)]) := by
  have l4 := k1.l4
  have h1 : Fine 13377 4 (.list [kindD L r1 e1, kindD L r2 e2, kindD L r3 e3]) := fine_list (w := 4458) (dp := 3) (n := 3) (fun d hd => by
    simp only [List.mem_cons, List.not_mem_nil, or_false] at hd
    rcases hd with rfl | rfl | rfl
    · exact fine_kind k1
    · exact fine_kind k2
    · exact fine_kind k3) (Nat.le_refl _)
  exact (fine_list (w := 13377) (dp := 4) (n := 3) (fun d hd => by
    simp only [List.mem_cons, List.not_mem_nil, or_false] at hd
    rcases hd with rfl | rfl | rfl
    · exact h1
    · exact (fine_form hf l4).more (by decide) (by decide)
    · exact (fine_form hg l4).more (by decide) (by decide)) (Nat.le_refl _)).shown (by decide) (by decide)
section
variable {P : Program} {w : World} {K : PySem.W.Frag} {mg : Str → Option Value} {base : Heap} {A : Adrs}
theorem ok_law (T : Txt K mg A) (B : Tbs base mg A) : FnG P w K mg base 9 A.f_law A.d_law ["_law_script"] (spLawT K (TT A)) := by
  have G__law_deck : FnOk P w K mg base CX0 1 A.f__law_deck A.d__law_deck ["_law_script"] (spDeck K) := ok__law_deck T B
  have G__law_kind : FnOk P w K mg base CX0 3 A.f__law_kind A.d__law_kind ["_law_deck_here", "_law_letters", "_law_many"] (spD K 3 R_lkind) := ok__law_kind T B
  have G__law_line : FnOk P w K mg base CX0 3 A.f__law_line A.d__law_line ["_law_deck_here", "_law_letters", "_law_many"] (spD K 3 R_lline) := ok__law_line T B
  have G__law_rounds : FnOk P w K mg base CX0 2 A.f__law_rounds A.d__law_rounds ["_law_deck_here", "_law_letters"] (spD K 2 R_lrounds) := ok__law_rounds T B
  have G__law_form : FnOk P w K mg base CX0 3 A.f__law_form A.d__law_form ["_law_deck_here", "_law_letters"] (spD K 2 R_lform) := ok__law_form T B
  have G__law_draw : FnOk P w K mg base CX0 1 A.f__law_draw A.d__law_draw ["_law_deck_here", "_law_many"] (spD K 2 R_draw) := ok__law_draw T B
  have G__law_word : FnOk P w K mg base CX0 3 A.f__law_word A.d__law_word ["_law_deck_here", "_law_letters", "_law_most"] (spD K 3 R_lword) := ok__law_word T B
  have G__law_first_unlike : FnOk P w K mg base CX0 2 A.f__law_first_unlike A.d__law_first_unlike ["_law_kind_here", "_law_one_here", "_law_other"] (spP K 3 R_lfu) := ok__law_first_unlike T B
  have G_worth : FnOk P w K mg base CX0 1 A.f_worth A.d_worth ["form", "word"] (spP K 2 R_worth) := ok_worth T B
  have G__law_worth : FnOk P w K mg base CX0 1 A.f__law_worth A.d__law_worth ["_law_form_here", "_law_word_here"] (spP K 2 R_lworth) := ok__law_worth T B
  have G_unlike : FnOk P w K mg base CX0 8 A.f_unlike A.d_unlike ["kind", "one", "other"] (spT K (TT A) 3 R_unlike) := ok_unlike T B
  refine okG T.F_law sc_law (fun vs H Q E h => ?_) (fun cdv Ar outer s H vs Q E hG hr h => ?_)
  · exact spLawT.len h
  refine ⟨_, (pss_cons (ps_set (i := 1) sc_law.nd rfl (Or.inl rfl) (pe_call G__law_deck (hr.mono (by first | decide | omega)) rfl T.m__law_deck T.k__law_deck T.b__law_deck .nil pass0 (pa_cons (pv 0) pa_nil)))
    (pss_cons (ps_for PassesOwn.never rfl (pi_range1 (by rfl) T.z_range (pa_cons pe_int pa_nil)) (pg_name (i := 2) sc_law.nd rfl (Or.inl rfl))
    (pss_cons (ps_par (i := 3) (j := 4) (by rfl) sc_law.nd rfl rfl (by decide) rfl rfl (pa_cons (pe_op op_add pe_int (pe_call G__law_draw (hr.mono (by first | decide | omega)) rfl T.m__law_draw T.k__law_draw T.b__law_draw .nil pass0 (pa_cons (pv 1) (pa_cons pe_int pa_nil)))) (pa_cons (pe_op op_add pe_int (pe_call G__law_draw (hr.mono (by first | decide | omega)) rfl T.m__law_draw T.k__law_draw T.b__law_draw .nil pass0 (pa_cons (pv 1) (pa_cons pe_int pa_nil)))) pa_nil)) (by rfl))
    (pss_cons (ps_set (i := 5) sc_law.nd rfl (Or.inl rfl) (pe_lst (pa_cons (pe_call G__law_kind (hr.mono (by first | decide | omega)) rfl T.m__law_kind T.k__law_kind T.b__law_kind .nil pass0 (pa_cons (pv 1) (pa_cons (pv 3) (pa_cons (pv 4) pa_nil)))) (pa_cons (pe_call G__law_line (hr.mono (by first | decide | omega)) rfl T.m__law_line T.k__law_line T.b__law_line .nil pass0 (pa_cons (pv 1) (pa_cons (pv 3) (pa_cons (pv 4) pa_nil)))) (pa_cons (pe_call G__law_rounds (hr.mono (by first | decide | omega)) rfl T.m__law_rounds T.k__law_rounds T.b__law_rounds .nil pass0 (pa_cons (pv 1) (pa_cons (pv 3) pa_nil))) pa_nil)))))
    (pss_cons (ps_par3 (i := 6) (j := 7) (l := 8) (by rfl) sc_law.nd rfl rfl rfl (by decide) (by decide) (by decide) rfl rfl rfl (pa_cons (pe_call G__law_form (hr.mono (by first | decide | omega)) rfl T.m__law_form T.k__law_form T.b__law_form .nil pass0 (pa_cons (pv 1) (pa_cons (pv 3) pa_nil))) (pa_cons (pe_call G__law_form (hr.mono (by first | decide | omega)) rfl T.m__law_form T.k__law_form T.b__law_form .nil pass0 (pa_cons (pv 1) (pa_cons (pv 3) pa_nil))) (pa_cons (pe_call G__law_draw (hr.mono (by first | decide | omega)) rfl T.m__law_draw T.k__law_draw T.b__law_draw .nil pass0 (pa_cons (pv 1) (pa_cons (pv 3) pa_nil))) pa_nil))) (by rfl))
    (pss_cons (ps_set (i := 9) sc_law.nd rfl (Or.inl rfl) (pe_ifExp (pt_cmpR op_gt (pe_ix (kIxT K) (pv 6) (pv 8) (fun _ _ => rfl)) pe_int (nomark _)) (pe_un un_neg pe_int) pe_int))
    (pss_cons (ps_set (i := 10) sc_law.nd rfl (Or.inl rfl) (pe_op (kCatT K) (pe_op (kCatT K) (pe_slice (kSlT K) (pv 6) po_none (po_some (pv 8))) (pe_tup (pa_cons (pe_op op_add (pe_ix (kIxT K) (pv 6) (pv 8) (fun _ _ => rfl)) (pv 9)) pa_nil))) (pe_slice (kSlT K) (pv 6) (po_some (pe_op op_add (pv 8) pe_int)) po_none)))
    (pss_cons (ps_set (i := 11) sc_law.nd rfl (Or.inl rfl) (pe_callB (id := "repr") (kRepr K hG hr) (by rfl) T.z_repr (by decide +kernel) (pa_cons (pe_lst (pa_cons (pv 5) (pa_cons (pv 6) (pa_cons (pv 10) pa_nil)))) pa_nil)))
    (pss_cons (ps_for PassesOwn.never rfl (kPiL K (pv 5)) (pg_name (i := 12) sc_law.nd rfl (Or.inl rfl))
    (pss_one (ps_for PassesOwn.never rfl (kPiL K (pe_lst (pa_cons (pv 7) (pa_cons (pv 6) (pa_cons (pv 10) (pa_cons (kRevT K (pv 6)) (pa_cons (pe_op (kCatT K) (pe_slice (kSlT K) (pv 6) (po_some pe_int) po_none) (pe_slice (kSlT K) (pv 6) po_none (po_some pe_int))) pa_nil))))))) (pg_name (i := 13) sc_law.nd rfl (Or.inl rfl))
    (pss_cons (ps_set (i := 14) sc_law.nd rfl (Or.inl rfl) (pe_call G__law_first_unlike (hr.mono (by first | decide | omega)) rfl T.m__law_first_unlike T.k__law_first_unlike T.b__law_first_unlike .nil pass0 (pa_cons (pv 12) (pa_cons (pv 6) (pa_cons (pv 13) pa_nil)))))
    (pss_one (ps_if (pt_cmpR op_ne (pe_callB (id := "repr") (kRepr K hG hr) (by rfl) T.z_repr (by decide +kernel) (pa_cons (pe_lst (pa_cons (pe_call G_unlike (hr.mono (by first | decide | omega)) rfl T.m_unlike T.k_unlike T.b_unlike .nil pass0 (pa_cons (pv 12) (pa_cons (pv 6) (pa_cons (pv 13) pa_nil)))) (pa_cons (pe_call G_unlike (hr.mono (by first | decide | omega)) rfl T.m_unlike T.k_unlike T.b_unlike .nil pass0 (pa_cons (pv 12) (pa_cons (pv 13) (pa_cons (pv 6) pa_nil)))) pa_nil))) pa_nil)) (pe_callB (id := "repr") (kRepr K hG hr) (by rfl) T.z_repr (by decide +kernel) (pa_cons (pe_lst (pa_cons (pv 14) (pa_cons (pv 14) pa_nil))) pa_nil)) (nomark _)) (pss_one (ps_ret pe_bl))
    pss_nil))))))
    (pss_cons (ps_for PassesOwn.never rfl (pi_range1 (by rfl) T.z_range (pa_cons pe_int pa_nil)) (pg_name (i := 15) sc_law.nd rfl (Or.inl rfl))
    (pss_cons (ps_set (i := 16) sc_law.nd rfl (Or.inl rfl) (pe_call G__law_word (hr.mono (by first | decide | omega)) rfl T.m__law_word T.k__law_word T.b__law_word .nil pass0 (pa_cons (pv 1) (pa_cons (pv 3) (pa_cons (pe_ifExp (pt_cmpR op_eq (pv 15) pe_int (nomark _)) pe_int pe_int) pa_nil)))))
    (pss_one (ps_if (pt_cmpR op_ne (pe_callB (id := "repr") (kRepr K hG hr) (by rfl) T.z_repr (by decide +kernel) (pa_cons (pe_call G_worth (hr.mono (by first | decide | omega)) rfl T.m_worth T.k_worth T.b_worth .nil pass0 (pa_cons (pv 6) (pa_cons (pv 16) pa_nil))) pa_nil)) (pe_callB (id := "repr") (kRepr K hG hr) (by rfl) T.z_repr (by decide +kernel) (pa_cons (pe_call G__law_worth (hr.mono (by first | decide | omega)) rfl T.m__law_worth T.k__law_worth T.b__law_worth .nil pass0 (pa_cons (pv 6) (pa_cons (pv 16) pa_nil))) pa_nil)) (nomark _)) (pss_one (ps_ret pe_bl))
    pss_nil))))
    (pss_one (ps_if (pt_cmpR op_ne (pe_callB (id := "repr") (kRepr K hG hr) (by rfl) T.z_repr (by decide +kernel) (pa_cons (pe_lst (pa_cons (pv 5) (pa_cons (pv 6) (pa_cons (pv 10) pa_nil)))) pa_nil)) (pv 11) (nomark _)) (pss_one (ps_ret pe_bl))
    pss_nil)))))))))))
    (pss_one (ps_ret (pe_cmpR op_eq (pe_callB (id := "repr") (kRepr K hG hr) (by rfl) T.z_repr (by decide +kernel) (pa_cons (pe_lst (pa_cons (pe_call G_worth (hr.mono (by first | decide | omega)) rfl T.m_worth T.k_worth T.b_worth .nil pass0 (pa_cons (pe_tup (pa_cons (pe_un un_neg pe_int) pa_nil)) (pa_cons (pe_op op_mulC pe_str pe_int) pa_nil))) (pa_cons (pe_call G_worth (hr.mono (by first | decide | omega)) rfl T.m_worth T.k_worth T.b_worth .nil pass0 (pa_cons (pe_tup (pa_cons pe_int (pa_cons pe_int pa_nil))) (pa_cons pe_str pa_nil))) pa_nil))) pa_nil)) pe_str (nomark _)))))), ?_⟩
  refine spLawT.ok 15 rfl h fun M p q hp hq Hs tr hT hn => ?_
  walk_at "st"
  refine sw_seq (sw_forW (ei_rng1 ?_))
  walk_at "go"
  refine ⟨fun i ρ k => ρ = [.no, .raw (.ref p), .no, .no, .no, .no, .no, .no, .no, .no, .no, .no, .no, .no, .no, .no, .no] ∧ k ≤ 3000 * i, ⟨_, Le.refl _, rfl, Nat.le_refl _⟩, ?_, ?_⟩
  · rintro i ρ1 k2 hi ⟨rfl, hk⟩
    have hi : i < 6 := hi
    walk_at "tg"
    refine sw_seq (sw_par ?_)
    walk_at "go"
    refine ⟨by omega, fun r1 hr1 => ?_⟩
    walk_at "go"
    refine ⟨by omega, fun r2 hr2 => ?_⟩
    obtain ⟨L, hL, l1, l4⟩ : ∃ L : Nat, (1 : Int) + (r1 : Int) = (L : Int) ∧ 1 ≤ L ∧ L ≤ 4 := ⟨1 + r1, by omega, by omega, by omega⟩
    obtain ⟨N, hN, n1, n8⟩ : ∃ N : Nat, (1 : Int) + (r2 : Int) = (N : Int) ∧ 1 ≤ N ∧ N ≤ 8 := ⟨1 + r2, by omega, by omega, by omega⟩
    rw [hL]
    walk_at "go"
    rw [hN]
    walk_at "go"
    refine ⟨1 + 9 * N, _, ⟨L, N, rfl, l1, l4, n1, n8, rfl, rfl⟩, by omega, ?_⟩
    rintro d ⟨rowsA, endsA, rfl, okA⟩
    walk_at "go"
    refine ⟨6 * N, _, ⟨L, N, rfl, l1, l4, n1, n8, rfl, rfl⟩, by omega, ?_⟩
    rintro d ⟨rowsB, endsB, rfl, okB⟩
    walk_at "go"
    refine ⟨0, _, ⟨L, rfl, l1, l4, rfl, rfl⟩, by omega, ?_⟩
    rintro d ⟨rowsC, endsC, rfl, okC⟩
    walk_at "ev"
    refine sw_seq (sw_par3 ?_)
    walk_at "ev"
    refine ⟨5, _, ⟨L, rfl, l1, l4, rfl, rfl⟩, by omega, ?_⟩
    rintro d ⟨f, rfl, hf⟩
    walk_at "ev"
    refine ⟨5, _, ⟨L, rfl, l1, l4, rfl, rfl⟩, by omega, ?_⟩
    rintro d ⟨o, rfl, ho⟩
    walk_at "ev"
    refine ⟨by omega, by omega, by omega, fun a ha => ?_⟩
    have ha : a < L := by omega
    walk_at "ev"
    obtain ⟨k9, hk9⟩ : ∃ k9, k2 + 1 + 1 + (1 + 9 * N) + 6 * N + 0 + 5 + 5 + 1 = k9 := ⟨_, rfl⟩
    rw [hk9]
    have hk9 : k9 ≤ 3000 * i + 200 := by omega
    obtain ⟨ks, hks⟩ : ∃ ks, [kindD L rowsA endsA, kindD L rowsB endsB, kindD L rowsC endsC] = ks := ⟨_, rfl⟩
    have hkall : ∀ d ∈ ks, ∃ N, GKind L N d := fun d hd => by
      rw [← hks] at hd
      simp only [List.mem_cons, List.not_mem_nil, or_false] at hd
      rcases hd with rfl | rfl | rfl
      · exact ⟨_, _, _, rfl, okA⟩
      · exact ⟨_, _, _, rfl, okB⟩
      · exact ⟨_, _, _, rfl, okC⟩
    have hklen : ks.length = 3 := by rw [← hks]; rfl
    have hkshow : ∀ g : List Int, FmOk g L → Shown (.list [.list ks, .tuple (f.map .int), .tuple (g.map .int)]) := fun g hg => by
      rw [← hks]
      exact shown_kept okA okB okC hf hg
    rw [hks]
    clear hks
    have hfa : f[a]? = some (f.getD a 0) := getDX (by rw [hf.len]; exact ha)
    have hfx := hf.at a
    refine sw_mid (fun ρ k => ∃ st : Int, ρ = [.no, .raw (.ref p), .dat (.int i), .dat (.int L), .dat (.int N), .dat (.list ks), .dat (.tuple (f.map .int)), .dat (.tuple (o.map .int)), .dat (.int a), .dat (.int st), .no, .no, .no, .no, .no, .no, .no] ∧ (f.getD a 0 + st).natAbs ≤ 99 ∧ k = k9) ?_ ?_
    · refine sw_set (ev_if (et_test (ev_op ?_)))
      walk_at "ev"
      refine rd_ixT (j := a) rfl (at_map hfa) ?_
      walk_at "ev"
      refine if_split (fun h => ?_) (fun h => ?_)
      · have h := of_decide_eq_true h
        walk_at "ev"
        exact ⟨by omega, rfl⟩
      · have h := of_decide_eq_false h
        walk_at "ev"
        exact ⟨by omega, rfl⟩
    · rintro ρ3 k4 ⟨st, rfl, hst, rfl⟩
      refine sw_seq (sw_set (ev_op (ev_op (ev_sl ?_))))
      walk_at "ev"
      refine rd_ixT (j := a) rfl (at_map hfa) ?_
      walk_at "ev"
      rw [cut_take (by rw [List.length_map, hf.len]; omega)]
      refine rd_catT (by simp; have := hf.len; omega) ?_
      walk_at "ev"
      rw [show (a : Int) + 1 = ((a + 1 : Nat) : Int) from rfl, cut_drop (by rw [List.length_map, hf.len]; omega)]
      refine rd_catT (by simp; have := hf.len; omega) ?_
      obtain ⟨g, hgd, hg⟩ : ∃ g : List Int, (f.map PyData.int).take a ++ [PyData.int (f.getD a 0 + st)] ++ (f.map PyData.int).drop (a + 1) = g.map .int ∧ FmOk g L := by
        refine ⟨f.take a ++ [f.getD a 0 + st] ++ f.drop (a + 1), by rw [List.map_append, List.map_append, List.map_take, List.map_drop]; rfl, ⟨by simp; have := hf.len; omega, fun x hx => ?_⟩⟩
        rcases List.mem_append.mp hx with hx | hx
        · rcases List.mem_append.mp hx with hx | hx
          · exact hf.low x (List.mem_of_mem_take hx)
          · rw [List.mem_singleton.mp hx]; exact hst
        · exact hf.low x (List.mem_of_mem_drop hx)
      rw [hgd]
      have shp := hkshow g hg
      refine sw_seq (sw_set (ev_cb (ea_cons ?_)))
      walk_at "ev"
      refine rc_repr shp ?_
      walk_at "tg"
      obtain ⟨kp, hkp⟩ : ∃ kp, PyData.str (PyData.list [.list ks, .tuple (f.map .int), .tuple (g.map .int)]).shown = kp := ⟨_, rfl⟩
      rw [hkp]
      refine sw_seq (sw_forW (ei_list (ev_var rfl ⟨_, rfl, ?_⟩)))
      refine ⟨fun j ρ k => ρ = [.no, .raw (.ref p), .no, .dat (.int L), .no, .dat (.list ks), .dat (.tuple (f.map .int)), .dat (.tuple (o.map .int)), .no, .no, .dat (.tuple (g.map .int)), .dat kp, .no, .no, .no, .no, .no] ∧ k = k4, ⟨_, by walk_at "le", rfl, rfl⟩, ?_, ?_⟩
      · rintro j ρ4 k5 hj ⟨rfl, rfl⟩
        have hd : itemD ks j ∈ ks := by rw [show itemD ks j = ks[j] by simp [itemD, hj]]; exact List.getElem_mem hj
        obtain ⟨N', rows, ends, e, ok⟩ := hkall _ hd
        rw [e]
        walk_at "tg"
        refine sw_forW (ei_list ?_)
        walk_at "ev"
        refine ev_revT ?_
        walk_at "ev"
        rw [show (1 : Int) = ((1 : Nat) : Int) from rfl, cut_drop (by rw [List.length_map, hf.len]; omega), cut_take (by rw [List.length_map, hf.len]; omega)]
        refine rd_catT (by simp; have := hf.len; omega) ?_
        walk_at "ev"
        obtain ⟨fs, hfs⟩ : ∃ fs, [PyData.tuple (o.map .int), .tuple (f.map .int), .tuple (g.map .int), .tuple (f.map PyData.int).reverse, .tuple ((f.map PyData.int).drop 1 ++ (f.map PyData.int).take 1)] = fs := ⟨_, rfl⟩
        have hfsall : ∀ d ∈ fs, ∃ fm : List Int, d = .tuple (fm.map .int) ∧ FmOk fm L := fun d hd => by
          rw [← hfs] at hd
          simp only [List.mem_cons, List.not_mem_nil, or_false] at hd
          rcases hd with rfl | rfl | rfl | rfl | rfl
          · exact ⟨o, rfl, ho⟩
          · exact ⟨f, rfl, hf⟩
          · exact ⟨g, rfl, hg⟩
          · exact ⟨f.reverse, by rw [List.map_reverse], ⟨by rw [List.length_reverse]; exact hf.len, fun x hx => hf.low x (List.mem_reverse.mp hx)⟩⟩
          · refine ⟨f.drop 1 ++ f.take 1, by rw [List.map_append, List.map_drop, List.map_take], ⟨by simp; have := hf.len; omega, fun x hx => ?_⟩⟩
            rcases List.mem_append.mp hx with hx | hx
            · exact hf.low x (List.mem_of_mem_drop hx)
            · exact hf.low x (List.mem_of_mem_take hx)
        rw [hfs]
        clear hfs
        refine ⟨fun c ρ k => ρ = [.no, .raw (.ref p), .no, .dat (.int L), .no, .dat (.list ks), .dat (.tuple (f.map .int)), .dat (.tuple (o.map .int)), .no, .no, .dat (.tuple (g.map .int)), .dat kp, .dat (kindD L rows ends), .no, .no, .no, .no] ∧ k = k5, ⟨_, by walk_at "le", rfl, rfl⟩, ?_, ?_⟩
        · rintro c ρ5 k6 hc ⟨rfl, rfl⟩
          have hcd : itemD fs c ∈ fs := by rw [show itemD fs c = fs[c] by simp [itemD, hc]]; exact List.getElem_mem hc
          obtain ⟨fm, ef, hfm⟩ := hfsall _ hcd
          rw [ef]
          obtain ⟨res, hlfu, hu1, hu2, hfine⟩ := unl_all ok hf hfm
          have hsh : Shown (.list [encW res, encW res]) := (fine_list (w := 100) (dp := 0) (n := 2) (fun d hd => by
            simp only [List.mem_cons, List.not_mem_nil, or_false] at hd
            rcases hd with rfl | rfl <;> exact hfine) (Nat.le_refl _)).shown (by decide) (by decide)
          walk_at "tg"
          refine sw_seq (sw_set (ev_call ?_))
          walk_at "ev"
          refine rc_pure rfl hlfu ?_
          walk_at "tg"
          refine sw_if (et_test (ev_op (ev_cb (ea_cons (ev_lst (ea_cons (ev_callT ?_)))))))
          walk_at "ev"
          refine ⟨_, hu1, ea_cons (ev_callT ?_)⟩
          walk_at "ev"
          refine ⟨_, hu2, ?_⟩
          walk_at "ev"
          refine rc_repr hsh ?_
          walk_at "ev"
          refine rc_repr hsh ?_
          walk_at "ev"
          rw [decide_eq_true rfl]
          refine if_split (fun z => by cases z) (fun _ => ?_)
          walk_at "go"
          exact ⟨_, by walk_at "le", rfl, rfl⟩
        · rintro ρ5 k6 ⟨rfl, rfl⟩
          exact ⟨_, by walk_at "le", rfl, rfl⟩
      · rintro ρ4 k5 ⟨rfl, rfl⟩
        refine sw_seq (sw_forW (ei_rng1 ?_))
        walk_at "ev"
        refine ⟨fun j ρ k => ρ = [.no, .raw (.ref p), .no, .dat (.int L), .no, .dat (.list ks), .dat (.tuple (f.map .int)), .no, .no, .no, .dat (.tuple (g.map .int)), .dat kp, .no, .no, .no, .no, .no] ∧ k ≤ k5 + 401 * j, ⟨_, by walk_at "le", rfl, Nat.le_refl _⟩, ?_, ?_⟩
        · rintro j ρ5 k6 hj ⟨rfl, hk6⟩
          have hj : j < 4 := hj
          walk_at "tg"
          refine sw_mid (fun ρ k => ∃ u : List Nat, ρ = [.no, .raw (.ref p), .no, .dat (.int L), .no, .dat (.list ks), .dat (.tuple (f.map .int)), .no, .no, .no, .dat (.tuple (g.map .int)), .dat kp, .no, .no, .no, .dat (.int j), .dat (nX u)] ∧ u.length ≤ 400 ∧ (∀ c ∈ u, c < L) ∧ k ≤ k5 + 401 * (j + 1)) ?_ ?_
          · refine sw_set ?_
            walk_at "ev"
            refine if_split (fun _ => ?_) (fun _ => ?_)
            · walk_at "ev"
              refine ⟨401, _, ⟨L, 400, rfl, l1, l4, by omega, rfl, rfl⟩, by omega, ?_⟩
              rintro d ⟨u, rfl, hu, hul⟩
              exact ⟨u, rfl, hu, hul, by omega⟩
            · walk_at "ev"
              refine ⟨10, _, ⟨L, 9, rfl, l1, l4, by omega, rfl, rfl⟩, by omega, ?_⟩
              rintro d ⟨u, rfl, hu, hul⟩
              exact ⟨u, rfl, by omega, hul, by omega⟩
          · rintro ρ6 k7 ⟨u, rfl, hu, hul, hk7⟩
            have hsh : Shown (.int (wF f u)) := (fine_int (by
              have := wF_low hf.at u
              have : 99 * u.length ≤ 99 * 400 := Nat.mul_le_mul_left _ hu
              have : (wF f u).natAbs ≤ 39600 := by omega
              exact Nat.lt_of_le_of_lt this (by decide))).shown (by decide) (by decide)
            refine sw_if (et_test (ev_op ?_))
            walk_at "ev"
            refine rc_pure rfl ⟨f, u, rfl, by rw [hf.len]; omega, by omega, hf.low, rfl⟩ ?_
            walk_at "ev"
            refine rc_repr hsh ?_
            walk_at "ev"
            refine rc_pure rfl ⟨f, u, rfl, by rw [hf.len]; omega, by omega, by rw [hf.len]; exact hul, rfl⟩ ?_
            walk_at "ev"
            refine rc_repr hsh ?_
            walk_at "ev"
            rw [decide_eq_true rfl]
            refine if_split (fun z => by cases z) (fun _ => ?_)
            walk_at "go"
            exact ⟨_, by walk_at "le", rfl, hk7⟩
        · rintro ρ5 k6 ⟨rfl, hk6⟩
          have hk6 : k6 ≤ k5 + 401 * 4 := hk6
          refine sw_if (et_test (ev_op ?_))
          walk_at "ev"
          refine rc_repr shp ?_
          walk_at "ev"
          rw [← hkp]
          walk_at "ev"
          rw [decide_eq_true rfl]
          refine if_split (fun z => by cases z) (fun _ => ?_)
          walk_at "go"
          exact ⟨_, by walk_at "le", rfl, by omega⟩
  · rintro ρ1 k2 ⟨rfl, hk⟩
    refine sw_ret (ev_op ?_)
    walk_at "ev"
    rw [show Str.ofString "a" = (⟨#[97]⟩ : Str) from by decide +kernel]
    refine rd_mulC (n := 400) (by decide) (by decide) ?_
    walk_at "ev"
    have e1 : (PyData.str ⟨(List.replicate 400 97).toArray⟩) = nX (List.replicate 400 0) := by
      show PyData.str _ = PyData.str (txt _)
      unfold txt
      rw [List.map_replicate]
    rw [e1]
    refine rc_pure rfl ⟨[-99], List.replicate 400 0, rfl, by decide, by rw [List.length_replicate]; decide, by decide, rfl⟩ ?_
    walk_at "ev"
    refine rc_pure rfl ⟨[5, 5], [], rfl, by decide, by decide, by decide, rfl⟩ ?_
    have e2 : wF [-99] (List.replicate 400 0) = -39600 := by decide +kernel
    have e3 : wF [5, 5] [] = 0 := rfl
    rw [e2, e3]
    walk_at "ev"
    refine rc_repr ((fine_list (w := 40) (dp := 0) (n := 2) (fun d hd => by
      simp only [List.mem_cons, List.not_mem_nil, or_false] at hd
      rcases hd with rfl | rfl
      · exact fine_int (by decide)
      · exact fine_int (by decide)) (Nat.le_refl _)).shown (by decide) (by decide)) ?_
    have z : (PyData.list [.int (-39600), .int 0]).shown = Str.ofString "[-39600, 0]" := by decide +kernel
    rw [z]
    walk_at "ev"
    rw [decide_eq_true rfl]
end

-- SPLIT
theorem all_mk {l : PySem.W.OpenLaw} {w : World} {K : PySem.W.Frag} {h : Heap} {mg : Str → Option Value} {fa : Addr} (X : K.In h) (G : h.Ns mainGlobals mg) (hfa : mg "law" = some (.ref fa))
    {f_least_counts : Addr} {od_least_counts an_least_counts : Option Addr} {sl_least_counts : Array (Option Value)} {oc_least_counts kV_least_counts dc_least_counts pm_least_counts ct_least_counts : Value} {cd_least_counts : Value}
    {f__turned : Addr} {od__turned an__turned : Option Addr} {sl__turned : Array (Option Value)} {oc__turned kV__turned dc__turned pm__turned ct__turned : Value} {cd__turned : Value}
    {f_within : Addr} {od_within an_within : Option Addr} {sl_within : Array (Option Value)} {oc_within kV_within dc_within pm_within ct_within : Value} {cd_within : Value}
    {f_trimmed : Addr} {od_trimmed an_trimmed : Option Addr} {sl_trimmed : Array (Option Value)} {oc_trimmed kV_trimmed dc_trimmed pm_trimmed ct_trimmed : Value} {cd_trimmed : Value}
    {f__word : Addr} {od__word an__word : Option Addr} {sl__word : Array (Option Value)} {oc__word kV__word dc__word pm__word ct__word : Value} {cd__word : Value}
    {f_first_word : Addr} {od_first_word an_first_word : Option Addr} {sl_first_word : Array (Option Value)} {oc_first_word kV_first_word dc_first_word pm_first_word ct_first_word : Value} {cd_first_word : Value}
    {f_above : Addr} {od_above an_above : Option Addr} {sl_above : Array (Option Value)} {oc_above kV_above dc_above pm_above ct_above : Value} {c_above p_above : Addr} {o2_above : Option Addr} {s2_above : Array (Option Value)} {vs_above : Array Value}
    {f_earlier : Addr} {od_earlier an_earlier : Option Addr} {sl_earlier : Array (Option Value)} {oc_earlier kV_earlier dc_earlier pm_earlier ct_earlier : Value} {cd_earlier : Value}
    {f_unlike : Addr} {od_unlike an_unlike : Option Addr} {sl_unlike : Array (Option Value)} {oc_unlike kV_unlike dc_unlike pm_unlike ct_unlike : Value} {cd_unlike : Value}
    {f_worth : Addr} {od_worth an_worth : Option Addr} {sl_worth : Array (Option Value)} {oc_worth kV_worth dc_worth pm_worth ct_worth : Value} {cd_worth : Value}
    {f__law_deck : Addr} {od__law_deck an__law_deck : Option Addr} {sl__law_deck : Array (Option Value)} {oc__law_deck kV__law_deck dc__law_deck pm__law_deck ct__law_deck : Value} {cd__law_deck : Value}
    {f__law_draw : Addr} {od__law_draw an__law_draw : Option Addr} {sl__law_draw : Array (Option Value)} {oc__law_draw kV__law_draw dc__law_draw pm__law_draw ct__law_draw : Value} {cd__law_draw : Value}
    {f__law_one : Addr} {od__law_one an__law_one : Option Addr} {sl__law_one : Array (Option Value)} {oc__law_one kV__law_one dc__law_one pm__law_one ct__law_one : Value} {cd__law_one : Value}
    {f__law_kind : Addr} {od__law_kind an__law_kind : Option Addr} {sl__law_kind : Array (Option Value)} {oc__law_kind kV__law_kind dc__law_kind pm__law_kind ct__law_kind : Value} {cd__law_kind : Value}
    {f__law_line : Addr} {od__law_line an__law_line : Option Addr} {sl__law_line : Array (Option Value)} {oc__law_line kV__law_line dc__law_line pm__law_line ct__law_line : Value} {cd__law_line : Value}
    {f__law_word : Addr} {od__law_word an__law_word : Option Addr} {sl__law_word : Array (Option Value)} {oc__law_word kV__law_word dc__law_word pm__law_word ct__law_word : Value} {cd__law_word : Value}
    {f__law_form : Addr} {od__law_form an__law_form : Option Addr} {sl__law_form : Array (Option Value)} {oc__law_form kV__law_form dc__law_form pm__law_form ct__law_form : Value} {cd__law_form : Value}
    {f__law_worth : Addr} {od__law_worth an__law_worth : Option Addr} {sl__law_worth : Array (Option Value)} {oc__law_worth kV__law_worth dc__law_worth pm__law_worth ct__law_worth : Value} {cd__law_worth : Value}
    {f__law_layer : Addr} {od__law_layer an__law_layer : Option Addr} {sl__law_layer : Array (Option Value)} {oc__law_layer kV__law_layer dc__law_layer pm__law_layer ct__law_layer : Value} {cd__law_layer : Value}
    {f__law_first_unlike : Addr} {od__law_first_unlike an__law_first_unlike : Option Addr} {sl__law_first_unlike : Array (Option Value)} {oc__law_first_unlike kV__law_first_unlike dc__law_first_unlike pm__law_first_unlike ct__law_first_unlike : Value} {cd__law_first_unlike : Value}
    {f__law_rounds : Addr} {od__law_rounds an__law_rounds : Option Addr} {sl__law_rounds : Array (Option Value)} {oc__law_rounds kV__law_rounds dc__law_rounds pm__law_rounds ct__law_rounds : Value} {cd__law_rounds : Value}
    {f_law : Addr} {od_law an_law : Option Addr} {sl_law : Array (Option Value)} {oc_law kV_law dc_law pm_law ct_law : Value} {cd_law : Value}
    (a_least_counts : PySem.W.nsIn K mainGlobals "least_counts" = some (some (.ref f_least_counts))) (l_least_counts : K.lookup f_least_counts = some ⟨oc_least_counts, od_least_counts, .func (PySem.W.fnOf "least_counts" "least_counts" (defArgs s_least_counts) (defBody s_least_counts) (defScope s_least_counts) .none kV_least_counts dc_least_counts pm_least_counts an_least_counts cd_least_counts ct_least_counts), sl_least_counts⟩) (e_least_counts : PySem.W.codeIn K cd_least_counts "least_counts" = true) (k_least_counts : PySem.W.keepIn K (.ref f_least_counts) = true)
    (a__turned : PySem.W.nsIn K mainGlobals "_turned" = some (some (.ref f__turned))) (l__turned : K.lookup f__turned = some ⟨oc__turned, od__turned, .func (PySem.W.fnOf "_turned" "_turned" (defArgs s__turned) (defBody s__turned) (defScope s__turned) .none kV__turned dc__turned pm__turned an__turned cd__turned ct__turned), sl__turned⟩) (e__turned : PySem.W.codeIn K cd__turned "_turned" = true) (k__turned : PySem.W.keepIn K (.ref f__turned) = true)
    (a_within : PySem.W.nsIn K mainGlobals "within" = some (some (.ref f_within))) (l_within : K.lookup f_within = some ⟨oc_within, od_within, .func (PySem.W.fnOf "within" "within" (defArgs s_within) (defBody s_within) (defScope s_within) .none kV_within dc_within pm_within an_within cd_within ct_within), sl_within⟩) (e_within : PySem.W.codeIn K cd_within "within" = true) (k_within : PySem.W.keepIn K (.ref f_within) = true)
    (a_trimmed : PySem.W.nsIn K mainGlobals "trimmed" = some (some (.ref f_trimmed))) (l_trimmed : K.lookup f_trimmed = some ⟨oc_trimmed, od_trimmed, .func (PySem.W.fnOf "trimmed" "trimmed" (defArgs s_trimmed) (defBody s_trimmed) (defScope s_trimmed) .none kV_trimmed dc_trimmed pm_trimmed an_trimmed cd_trimmed ct_trimmed), sl_trimmed⟩) (e_trimmed : PySem.W.codeIn K cd_trimmed "trimmed" = true) (k_trimmed : PySem.W.keepIn K (.ref f_trimmed) = true)
    (a__word : PySem.W.nsIn K mainGlobals "_word" = some (some (.ref f__word))) (l__word : K.lookup f__word = some ⟨oc__word, od__word, .func (PySem.W.fnOf "_word" "_word" (defArgs s__word) (defBody s__word) (defScope s__word) .none kV__word dc__word pm__word an__word cd__word ct__word), sl__word⟩) (e__word : PySem.W.codeIn K cd__word "_word" = true) (k__word : PySem.W.keepIn K (.ref f__word) = true)
    (a_first_word : PySem.W.nsIn K mainGlobals "first_word" = some (some (.ref f_first_word))) (l_first_word : K.lookup f_first_word = some ⟨oc_first_word, od_first_word, .func (PySem.W.fnOf "first_word" "first_word" (defArgs s_first_word) (defBody s_first_word) (defScope s_first_word) .none kV_first_word dc_first_word pm_first_word an_first_word cd_first_word ct_first_word), sl_first_word⟩) (e_first_word : PySem.W.codeIn K cd_first_word "first_word" = true) (k_first_word : PySem.W.keepIn K (.ref f_first_word) = true)
    (a_above : PySem.W.nsIn K mainGlobals "above" = some (some (.ref f_above))) (l_above : K.lookup f_above = some ⟨oc_above, od_above, .func (PySem.W.fnOf "above" "above" (defArgs s_above) (defBody s_above) (defScope s_above) .none kV_above dc_above pm_above an_above (.ref c_above) ct_above), sl_above⟩) (e_above : PySem.W.codeIn K (.ref c_above) "above" = true) (k_above : PySem.W.keepIn K (.ref f_above) = true)
    (lc_above : K.lookup c_above = some ⟨.type "code", o2_above, .fields vs_above, s2_above⟩) (hp_above : vs_above[11]? = some (.ref p_above)) (hh_above : PySem.W.codeHdIn K c_above p_above = true) (np_above : K.lookup p_above = none) (tt_above : h.get? p_above = some { cls := .none, data := .fields #[] })
    (a_earlier : PySem.W.nsIn K mainGlobals "earlier" = some (some (.ref f_earlier))) (l_earlier : K.lookup f_earlier = some ⟨oc_earlier, od_earlier, .func (PySem.W.fnOf "earlier" "earlier" (defArgs s_earlier) (defBody s_earlier) (defScope s_earlier) .none kV_earlier dc_earlier pm_earlier an_earlier cd_earlier ct_earlier), sl_earlier⟩) (e_earlier : PySem.W.codeIn K cd_earlier "earlier" = true) (k_earlier : PySem.W.keepIn K (.ref f_earlier) = true)
    (a_unlike : PySem.W.nsIn K mainGlobals "unlike" = some (some (.ref f_unlike))) (l_unlike : K.lookup f_unlike = some ⟨oc_unlike, od_unlike, .func (PySem.W.fnOf "unlike" "unlike" (defArgs s_unlike) (defBody s_unlike) (defScope s_unlike) .none kV_unlike dc_unlike pm_unlike an_unlike cd_unlike ct_unlike), sl_unlike⟩) (e_unlike : PySem.W.codeIn K cd_unlike "unlike" = true) (k_unlike : PySem.W.keepIn K (.ref f_unlike) = true)
    (a_worth : PySem.W.nsIn K mainGlobals "worth" = some (some (.ref f_worth))) (l_worth : K.lookup f_worth = some ⟨oc_worth, od_worth, .func (PySem.W.fnOf "worth" "worth" (defArgs s_worth) (defBody s_worth) (defScope s_worth) .none kV_worth dc_worth pm_worth an_worth cd_worth ct_worth), sl_worth⟩) (e_worth : PySem.W.codeIn K cd_worth "worth" = true) (k_worth : PySem.W.keepIn K (.ref f_worth) = true)
    (a__law_deck : PySem.W.nsIn K mainGlobals "_law_deck" = some (some (.ref f__law_deck))) (l__law_deck : K.lookup f__law_deck = some ⟨oc__law_deck, od__law_deck, .func (PySem.W.fnOf "_law_deck" "_law_deck" (defArgs s__law_deck) (defBody s__law_deck) (defScope s__law_deck) .none kV__law_deck dc__law_deck pm__law_deck an__law_deck cd__law_deck ct__law_deck), sl__law_deck⟩) (e__law_deck : PySem.W.codeIn K cd__law_deck "_law_deck" = true) (k__law_deck : PySem.W.keepIn K (.ref f__law_deck) = true)
    (a__law_draw : PySem.W.nsIn K mainGlobals "_law_draw" = some (some (.ref f__law_draw))) (l__law_draw : K.lookup f__law_draw = some ⟨oc__law_draw, od__law_draw, .func (PySem.W.fnOf "_law_draw" "_law_draw" (defArgs s__law_draw) (defBody s__law_draw) (defScope s__law_draw) .none kV__law_draw dc__law_draw pm__law_draw an__law_draw cd__law_draw ct__law_draw), sl__law_draw⟩) (e__law_draw : PySem.W.codeIn K cd__law_draw "_law_draw" = true) (k__law_draw : PySem.W.keepIn K (.ref f__law_draw) = true)
    (a__law_one : PySem.W.nsIn K mainGlobals "_law_one" = some (some (.ref f__law_one))) (l__law_one : K.lookup f__law_one = some ⟨oc__law_one, od__law_one, .func (PySem.W.fnOf "_law_one" "_law_one" (defArgs s__law_one) (defBody s__law_one) (defScope s__law_one) .none kV__law_one dc__law_one pm__law_one an__law_one cd__law_one ct__law_one), sl__law_one⟩) (e__law_one : PySem.W.codeIn K cd__law_one "_law_one" = true) (k__law_one : PySem.W.keepIn K (.ref f__law_one) = true)
    (a__law_kind : PySem.W.nsIn K mainGlobals "_law_kind" = some (some (.ref f__law_kind))) (l__law_kind : K.lookup f__law_kind = some ⟨oc__law_kind, od__law_kind, .func (PySem.W.fnOf "_law_kind" "_law_kind" (defArgs s__law_kind) (defBody s__law_kind) (defScope s__law_kind) .none kV__law_kind dc__law_kind pm__law_kind an__law_kind cd__law_kind ct__law_kind), sl__law_kind⟩) (e__law_kind : PySem.W.codeIn K cd__law_kind "_law_kind" = true) (k__law_kind : PySem.W.keepIn K (.ref f__law_kind) = true)
    (a__law_line : PySem.W.nsIn K mainGlobals "_law_line" = some (some (.ref f__law_line))) (l__law_line : K.lookup f__law_line = some ⟨oc__law_line, od__law_line, .func (PySem.W.fnOf "_law_line" "_law_line" (defArgs s__law_line) (defBody s__law_line) (defScope s__law_line) .none kV__law_line dc__law_line pm__law_line an__law_line cd__law_line ct__law_line), sl__law_line⟩) (e__law_line : PySem.W.codeIn K cd__law_line "_law_line" = true) (k__law_line : PySem.W.keepIn K (.ref f__law_line) = true)
    (a__law_word : PySem.W.nsIn K mainGlobals "_law_word" = some (some (.ref f__law_word))) (l__law_word : K.lookup f__law_word = some ⟨oc__law_word, od__law_word, .func (PySem.W.fnOf "_law_word" "_law_word" (defArgs s__law_word) (defBody s__law_word) (defScope s__law_word) .none kV__law_word dc__law_word pm__law_word an__law_word cd__law_word ct__law_word), sl__law_word⟩) (e__law_word : PySem.W.codeIn K cd__law_word "_law_word" = true) (k__law_word : PySem.W.keepIn K (.ref f__law_word) = true)
    (a__law_form : PySem.W.nsIn K mainGlobals "_law_form" = some (some (.ref f__law_form))) (l__law_form : K.lookup f__law_form = some ⟨oc__law_form, od__law_form, .func (PySem.W.fnOf "_law_form" "_law_form" (defArgs s__law_form) (defBody s__law_form) (defScope s__law_form) .none kV__law_form dc__law_form pm__law_form an__law_form cd__law_form ct__law_form), sl__law_form⟩) (e__law_form : PySem.W.codeIn K cd__law_form "_law_form" = true) (k__law_form : PySem.W.keepIn K (.ref f__law_form) = true)
    (a__law_worth : PySem.W.nsIn K mainGlobals "_law_worth" = some (some (.ref f__law_worth))) (l__law_worth : K.lookup f__law_worth = some ⟨oc__law_worth, od__law_worth, .func (PySem.W.fnOf "_law_worth" "_law_worth" (defArgs s__law_worth) (defBody s__law_worth) (defScope s__law_worth) .none kV__law_worth dc__law_worth pm__law_worth an__law_worth cd__law_worth ct__law_worth), sl__law_worth⟩) (e__law_worth : PySem.W.codeIn K cd__law_worth "_law_worth" = true) (k__law_worth : PySem.W.keepIn K (.ref f__law_worth) = true)
    (a__law_layer : PySem.W.nsIn K mainGlobals "_law_layer" = some (some (.ref f__law_layer))) (l__law_layer : K.lookup f__law_layer = some ⟨oc__law_layer, od__law_layer, .func (PySem.W.fnOf "_law_layer" "_law_layer" (defArgs s__law_layer) (defBody s__law_layer) (defScope s__law_layer) .none kV__law_layer dc__law_layer pm__law_layer an__law_layer cd__law_layer ct__law_layer), sl__law_layer⟩) (e__law_layer : PySem.W.codeIn K cd__law_layer "_law_layer" = true) (k__law_layer : PySem.W.keepIn K (.ref f__law_layer) = true)
    (a__law_first_unlike : PySem.W.nsIn K mainGlobals "_law_first_unlike" = some (some (.ref f__law_first_unlike))) (l__law_first_unlike : K.lookup f__law_first_unlike = some ⟨oc__law_first_unlike, od__law_first_unlike, .func (PySem.W.fnOf "_law_first_unlike" "_law_first_unlike" (defArgs s__law_first_unlike) (defBody s__law_first_unlike) (defScope s__law_first_unlike) .none kV__law_first_unlike dc__law_first_unlike pm__law_first_unlike an__law_first_unlike cd__law_first_unlike ct__law_first_unlike), sl__law_first_unlike⟩) (e__law_first_unlike : PySem.W.codeIn K cd__law_first_unlike "_law_first_unlike" = true) (k__law_first_unlike : PySem.W.keepIn K (.ref f__law_first_unlike) = true)
    (a__law_rounds : PySem.W.nsIn K mainGlobals "_law_rounds" = some (some (.ref f__law_rounds))) (l__law_rounds : K.lookup f__law_rounds = some ⟨oc__law_rounds, od__law_rounds, .func (PySem.W.fnOf "_law_rounds" "_law_rounds" (defArgs s__law_rounds) (defBody s__law_rounds) (defScope s__law_rounds) .none kV__law_rounds dc__law_rounds pm__law_rounds an__law_rounds cd__law_rounds ct__law_rounds), sl__law_rounds⟩) (e__law_rounds : PySem.W.codeIn K cd__law_rounds "_law_rounds" = true) (k__law_rounds : PySem.W.keepIn K (.ref f__law_rounds) = true)
    (a_law : PySem.W.nsIn K mainGlobals "law" = some (some (.ref f_law))) (l_law : K.lookup f_law = some ⟨oc_law, od_law, .func (PySem.W.fnOf "law" "law" (defArgs s_law) (defBody s_law) (defScope s_law) .none kV_law dc_law pm_law an_law cd_law ct_law), sl_law⟩) (e_law : PySem.W.codeIn K cd_law "law" = true) (k_law : PySem.W.keepIn K (.ref f_law) = true)
    (z_abs : PySem.W.nsIn K mainGlobals "abs" = some none)
    (z_any : PySem.W.nsIn K mainGlobals "any" = some none)
    (z_enumerate : PySem.W.nsIn K mainGlobals "enumerate" = some none)
    (z_int : PySem.W.nsIn K mainGlobals "int" = some none)
    (z_len : PySem.W.nsIn K mainGlobals "len" = some none)
    (z_list : PySem.W.nsIn K mainGlobals "list" = some none)
    (z_min : PySem.W.nsIn K mainGlobals "min" = some none)
    (z_range : PySem.W.nsIn K mainGlobals "range" = some none)
    (z_repr : PySem.W.nsIn K mainGlobals "repr" = some none)
    (z_sorted : PySem.W.nsIn K mainGlobals "sorted" = some none)
    (z_sum : PySem.W.nsIn K mainGlobals "sum" = some none)
    (z_tuple : PySem.W.nsIn K mainGlobals "tuple" = some none)
    (z_zip : PySem.W.nsIn K mainGlobals "zip" = some none)
    {t_LETTERS : Tok} (c_LETTERS : PySem.W.nsIn K mainGlobals "LETTERS" = some (some (.str "abcdefghijklmnopqrstuvwxyz" t_LETTERS)))
    : LawT l w K 9 63 "_law_script" mg fa h := by
  have e := (PySem.W.mg_of X G a_law).symm.trans hfa
  have e2 : f_law = fa := by injection e with e; injection e
  subst e2
  have F_least_counts := fun_mk (st := s_least_counts) l_least_counts e_least_counts k_least_counts
  have b_least_counts := F_least_counts.binds (ps := ["steps", "begins"]) fun _ _ _ _ _ _ us hl => match us, hl with | [_, _], _ => rfl
  have F__turned := fun_mk (st := s__turned) l__turned e__turned k__turned
  have b__turned := F__turned.binds (ps := ["steps"]) fun _ _ _ _ _ _ us hl => match us, hl with | [_], _ => rfl
  have F_within := fun_mk (st := s_within) l_within e_within k_within
  have b_within := F_within.binds (ps := ["kind", "unit", "most"]) fun _ _ _ _ _ _ us hl => match us, hl with | [_, _, _], _ => rfl
  have F_trimmed := fun_mk (st := s_trimmed) l_trimmed e_trimmed k_trimmed
  have b_trimmed := F_trimmed.binds (ps := ["kind"]) fun _ _ _ _ _ _ us hl => match us, hl with | [_], _ => rfl
  have F__word := fun_mk (st := s__word) l__word e__word k__word
  have b__word := F__word.binds (ps := ["found", "at"]) fun _ _ _ _ _ _ us hl => match us, hl with | [_, _], _ => rfl
  have F_first_word := fun_mk (st := s_first_word) l_first_word e_first_word k_first_word
  have b_first_word := F_first_word.binds (ps := ["letters", "begins", "after", "is_end"]) fun _ _ _ _ _ _ us hl => match us, hl with | [_, _, _, _], _ => rfl
  have F_above := fun_mk (st := s_above) l_above e_above k_above
  have C_above : FunC K "above" "above" s_above f_above _ c_above := ⟨⟨_, _, _, _, _, _, _, _, rfl, l_above, e_above⟩⟩
  have b_above := F_above.binds (ps := ["kind", "form", "bound"]) fun _ _ _ _ _ _ us hl => match us, hl with | [_, _, _], _ => rfl
  have F_earlier := fun_mk (st := s_earlier) l_earlier e_earlier k_earlier
  have b_earlier := F_earlier.binds (ps := ["one", "other"]) fun _ _ _ _ _ _ us hl => match us, hl with | [_, _], _ => rfl
  have F_unlike := fun_mk (st := s_unlike) l_unlike e_unlike k_unlike
  have b_unlike := F_unlike.binds (ps := ["kind", "one", "other"]) fun _ _ _ _ _ _ us hl => match us, hl with | [_, _, _], _ => rfl
  have F_worth := fun_mk (st := s_worth) l_worth e_worth k_worth
  have b_worth := F_worth.binds (ps := ["form", "word"]) fun _ _ _ _ _ _ us hl => match us, hl with | [_, _], _ => rfl
  have F__law_deck := fun_mk (st := s__law_deck) l__law_deck e__law_deck k__law_deck
  have b__law_deck := F__law_deck.binds (ps := ["_law_script"]) fun _ _ _ _ _ _ us hl => match us, hl with | [_], _ => rfl
  have F__law_draw := fun_mk (st := s__law_draw) l__law_draw e__law_draw k__law_draw
  have b__law_draw := F__law_draw.binds (ps := ["_law_deck_here", "_law_many"]) fun _ _ _ _ _ _ us hl => match us, hl with | [_, _], _ => rfl
  have F__law_one := fun_mk (st := s__law_one) l__law_one e__law_one k__law_one
  have b__law_one := F__law_one.binds (ps := ["_law_deck_here", "_law_items"]) fun _ _ _ _ _ _ us hl => match us, hl with | [_, _], _ => rfl
  have F__law_kind := fun_mk (st := s__law_kind) l__law_kind e__law_kind k__law_kind
  have b__law_kind := F__law_kind.binds (ps := ["_law_deck_here", "_law_letters", "_law_many"]) fun _ _ _ _ _ _ us hl => match us, hl with | [_, _, _], _ => rfl
  have F__law_line := fun_mk (st := s__law_line) l__law_line e__law_line k__law_line
  have b__law_line := F__law_line.binds (ps := ["_law_deck_here", "_law_letters", "_law_many"]) fun _ _ _ _ _ _ us hl => match us, hl with | [_, _, _], _ => rfl
  have F__law_word := fun_mk (st := s__law_word) l__law_word e__law_word k__law_word
  have b__law_word := F__law_word.binds (ps := ["_law_deck_here", "_law_letters", "_law_most"]) fun _ _ _ _ _ _ us hl => match us, hl with | [_, _, _], _ => rfl
  have F__law_form := fun_mk (st := s__law_form) l__law_form e__law_form k__law_form
  have b__law_form := F__law_form.binds (ps := ["_law_deck_here", "_law_letters"]) fun _ _ _ _ _ _ us hl => match us, hl with | [_, _], _ => rfl
  have F__law_worth := fun_mk (st := s__law_worth) l__law_worth e__law_worth k__law_worth
  have b__law_worth := F__law_worth.binds (ps := ["_law_form_here", "_law_word_here"]) fun _ _ _ _ _ _ us hl => match us, hl with | [_, _], _ => rfl
  have F__law_layer := fun_mk (st := s__law_layer) l__law_layer e__law_layer k__law_layer
  have b__law_layer := F__law_layer.binds (ps := ["_law_kind_here", "_law_gaps", "_law_layer_here"]) fun _ _ _ _ _ _ us hl => match us, hl with | [_, _, _], _ => rfl
  have F__law_first_unlike := fun_mk (st := s__law_first_unlike) l__law_first_unlike e__law_first_unlike k__law_first_unlike
  have b__law_first_unlike := F__law_first_unlike.binds (ps := ["_law_kind_here", "_law_one_here", "_law_other"]) fun _ _ _ _ _ _ us hl => match us, hl with | [_, _, _], _ => rfl
  have F__law_rounds := fun_mk (st := s__law_rounds) l__law_rounds e__law_rounds k__law_rounds
  have b__law_rounds := F__law_rounds.binds (ps := ["_law_deck_here", "_law_letters"]) fun _ _ _ _ _ _ us hl => match us, hl with | [_, _], _ => rfl
  have F_law := fun_mk (st := s_law) l_law e_law k_law
  have b_law := F_law.binds (ps := ["_law_script"]) fun _ _ _ _ _ _ us hl => match us, hl with | [_], _ => rfl
  have T : Txt K mg ⟨f_least_counts, PySem.W.fnOf "least_counts" "least_counts" (defArgs s_least_counts) (defBody s_least_counts) (defScope s_least_counts) .none kV_least_counts dc_least_counts pm_least_counts an_least_counts cd_least_counts ct_least_counts, f__turned, PySem.W.fnOf "_turned" "_turned" (defArgs s__turned) (defBody s__turned) (defScope s__turned) .none kV__turned dc__turned pm__turned an__turned cd__turned ct__turned, f_within, PySem.W.fnOf "within" "within" (defArgs s_within) (defBody s_within) (defScope s_within) .none kV_within dc_within pm_within an_within cd_within ct_within, f_trimmed, PySem.W.fnOf "trimmed" "trimmed" (defArgs s_trimmed) (defBody s_trimmed) (defScope s_trimmed) .none kV_trimmed dc_trimmed pm_trimmed an_trimmed cd_trimmed ct_trimmed, f__word, PySem.W.fnOf "_word" "_word" (defArgs s__word) (defBody s__word) (defScope s__word) .none kV__word dc__word pm__word an__word cd__word ct__word, f_first_word, PySem.W.fnOf "first_word" "first_word" (defArgs s_first_word) (defBody s_first_word) (defScope s_first_word) .none kV_first_word dc_first_word pm_first_word an_first_word cd_first_word ct_first_word, f_above, PySem.W.fnOf "above" "above" (defArgs s_above) (defBody s_above) (defScope s_above) .none kV_above dc_above pm_above an_above (.ref c_above) ct_above, c_above, p_above, f_earlier, PySem.W.fnOf "earlier" "earlier" (defArgs s_earlier) (defBody s_earlier) (defScope s_earlier) .none kV_earlier dc_earlier pm_earlier an_earlier cd_earlier ct_earlier, f_unlike, PySem.W.fnOf "unlike" "unlike" (defArgs s_unlike) (defBody s_unlike) (defScope s_unlike) .none kV_unlike dc_unlike pm_unlike an_unlike cd_unlike ct_unlike, f_worth, PySem.W.fnOf "worth" "worth" (defArgs s_worth) (defBody s_worth) (defScope s_worth) .none kV_worth dc_worth pm_worth an_worth cd_worth ct_worth, f__law_deck, PySem.W.fnOf "_law_deck" "_law_deck" (defArgs s__law_deck) (defBody s__law_deck) (defScope s__law_deck) .none kV__law_deck dc__law_deck pm__law_deck an__law_deck cd__law_deck ct__law_deck, f__law_draw, PySem.W.fnOf "_law_draw" "_law_draw" (defArgs s__law_draw) (defBody s__law_draw) (defScope s__law_draw) .none kV__law_draw dc__law_draw pm__law_draw an__law_draw cd__law_draw ct__law_draw, f__law_one, PySem.W.fnOf "_law_one" "_law_one" (defArgs s__law_one) (defBody s__law_one) (defScope s__law_one) .none kV__law_one dc__law_one pm__law_one an__law_one cd__law_one ct__law_one, f__law_kind, PySem.W.fnOf "_law_kind" "_law_kind" (defArgs s__law_kind) (defBody s__law_kind) (defScope s__law_kind) .none kV__law_kind dc__law_kind pm__law_kind an__law_kind cd__law_kind ct__law_kind, f__law_line, PySem.W.fnOf "_law_line" "_law_line" (defArgs s__law_line) (defBody s__law_line) (defScope s__law_line) .none kV__law_line dc__law_line pm__law_line an__law_line cd__law_line ct__law_line, f__law_word, PySem.W.fnOf "_law_word" "_law_word" (defArgs s__law_word) (defBody s__law_word) (defScope s__law_word) .none kV__law_word dc__law_word pm__law_word an__law_word cd__law_word ct__law_word, f__law_form, PySem.W.fnOf "_law_form" "_law_form" (defArgs s__law_form) (defBody s__law_form) (defScope s__law_form) .none kV__law_form dc__law_form pm__law_form an__law_form cd__law_form ct__law_form, f__law_worth, PySem.W.fnOf "_law_worth" "_law_worth" (defArgs s__law_worth) (defBody s__law_worth) (defScope s__law_worth) .none kV__law_worth dc__law_worth pm__law_worth an__law_worth cd__law_worth ct__law_worth, f__law_layer, PySem.W.fnOf "_law_layer" "_law_layer" (defArgs s__law_layer) (defBody s__law_layer) (defScope s__law_layer) .none kV__law_layer dc__law_layer pm__law_layer an__law_layer cd__law_layer ct__law_layer, f__law_first_unlike, PySem.W.fnOf "_law_first_unlike" "_law_first_unlike" (defArgs s__law_first_unlike) (defBody s__law_first_unlike) (defScope s__law_first_unlike) .none kV__law_first_unlike dc__law_first_unlike pm__law_first_unlike an__law_first_unlike cd__law_first_unlike ct__law_first_unlike, f__law_rounds, PySem.W.fnOf "_law_rounds" "_law_rounds" (defArgs s__law_rounds) (defBody s__law_rounds) (defScope s__law_rounds) .none kV__law_rounds dc__law_rounds pm__law_rounds an__law_rounds cd__law_rounds ct__law_rounds, f_law, PySem.W.fnOf "law" "law" (defArgs s_law) (defBody s_law) (defScope s_law) .none kV_law dc_law pm_law an_law cd_law ct_law⟩ := ⟨F_least_counts, PySem.W.mg_of X G a_least_counts, k_least_counts, b_least_counts, F__turned, PySem.W.mg_of X G a__turned, k__turned, b__turned, F_within, PySem.W.mg_of X G a_within, k_within, b_within, F_trimmed, PySem.W.mg_of X G a_trimmed, k_trimmed, b_trimmed, F__word, PySem.W.mg_of X G a__word, k__word, b__word, F_first_word, PySem.W.mg_of X G a_first_word, k_first_word, b_first_word, F_above, C_above, PySem.W.mg_of X G a_above, k_above, b_above, F_earlier, PySem.W.mg_of X G a_earlier, k_earlier, b_earlier, F_unlike, PySem.W.mg_of X G a_unlike, k_unlike, b_unlike, F_worth, PySem.W.mg_of X G a_worth, k_worth, b_worth, F__law_deck, PySem.W.mg_of X G a__law_deck, k__law_deck, b__law_deck, F__law_draw, PySem.W.mg_of X G a__law_draw, k__law_draw, b__law_draw, F__law_one, PySem.W.mg_of X G a__law_one, k__law_one, b__law_one, F__law_kind, PySem.W.mg_of X G a__law_kind, k__law_kind, b__law_kind, F__law_line, PySem.W.mg_of X G a__law_line, k__law_line, b__law_line, F__law_word, PySem.W.mg_of X G a__law_word, k__law_word, b__law_word, F__law_form, PySem.W.mg_of X G a__law_form, k__law_form, b__law_form, F__law_worth, PySem.W.mg_of X G a__law_worth, k__law_worth, b__law_worth, F__law_layer, PySem.W.mg_of X G a__law_layer, k__law_layer, b__law_layer, F__law_first_unlike, PySem.W.mg_of X G a__law_first_unlike, k__law_first_unlike, b__law_first_unlike, F__law_rounds, PySem.W.mg_of X G a__law_rounds, k__law_rounds, b__law_rounds, F_law, PySem.W.mg_of X G a_law, k_law, b_law, PySem.W.mg_none_of X G z_abs, PySem.W.mg_none_of X G z_any, PySem.W.mg_none_of X G z_enumerate, PySem.W.mg_none_of X G z_int, PySem.W.mg_none_of X G z_len, PySem.W.mg_none_of X G z_list, PySem.W.mg_none_of X G z_min, PySem.W.mg_none_of X G z_range, PySem.W.mg_none_of X G z_repr, PySem.W.mg_none_of X G z_sorted, PySem.W.mg_none_of X G z_sum, PySem.W.mg_none_of X G z_tuple, PySem.W.mg_none_of X G z_zip, ⟨_, PySem.W.mg_of X G c_LETTERS⟩⟩
  refine ⟨_, [(c_above, p_above)], spLawT K (TT ⟨f_least_counts, PySem.W.fnOf "least_counts" "least_counts" (defArgs s_least_counts) (defBody s_least_counts) (defScope s_least_counts) .none kV_least_counts dc_least_counts pm_least_counts an_least_counts cd_least_counts ct_least_counts, f__turned, PySem.W.fnOf "_turned" "_turned" (defArgs s__turned) (defBody s__turned) (defScope s__turned) .none kV__turned dc__turned pm__turned an__turned cd__turned ct__turned, f_within, PySem.W.fnOf "within" "within" (defArgs s_within) (defBody s_within) (defScope s_within) .none kV_within dc_within pm_within an_within cd_within ct_within, f_trimmed, PySem.W.fnOf "trimmed" "trimmed" (defArgs s_trimmed) (defBody s_trimmed) (defScope s_trimmed) .none kV_trimmed dc_trimmed pm_trimmed an_trimmed cd_trimmed ct_trimmed, f__word, PySem.W.fnOf "_word" "_word" (defArgs s__word) (defBody s__word) (defScope s__word) .none kV__word dc__word pm__word an__word cd__word ct__word, f_first_word, PySem.W.fnOf "first_word" "first_word" (defArgs s_first_word) (defBody s_first_word) (defScope s_first_word) .none kV_first_word dc_first_word pm_first_word an_first_word cd_first_word ct_first_word, f_above, PySem.W.fnOf "above" "above" (defArgs s_above) (defBody s_above) (defScope s_above) .none kV_above dc_above pm_above an_above (.ref c_above) ct_above, c_above, p_above, f_earlier, PySem.W.fnOf "earlier" "earlier" (defArgs s_earlier) (defBody s_earlier) (defScope s_earlier) .none kV_earlier dc_earlier pm_earlier an_earlier cd_earlier ct_earlier, f_unlike, PySem.W.fnOf "unlike" "unlike" (defArgs s_unlike) (defBody s_unlike) (defScope s_unlike) .none kV_unlike dc_unlike pm_unlike an_unlike cd_unlike ct_unlike, f_worth, PySem.W.fnOf "worth" "worth" (defArgs s_worth) (defBody s_worth) (defScope s_worth) .none kV_worth dc_worth pm_worth an_worth cd_worth ct_worth, f__law_deck, PySem.W.fnOf "_law_deck" "_law_deck" (defArgs s__law_deck) (defBody s__law_deck) (defScope s__law_deck) .none kV__law_deck dc__law_deck pm__law_deck an__law_deck cd__law_deck ct__law_deck, f__law_draw, PySem.W.fnOf "_law_draw" "_law_draw" (defArgs s__law_draw) (defBody s__law_draw) (defScope s__law_draw) .none kV__law_draw dc__law_draw pm__law_draw an__law_draw cd__law_draw ct__law_draw, f__law_one, PySem.W.fnOf "_law_one" "_law_one" (defArgs s__law_one) (defBody s__law_one) (defScope s__law_one) .none kV__law_one dc__law_one pm__law_one an__law_one cd__law_one ct__law_one, f__law_kind, PySem.W.fnOf "_law_kind" "_law_kind" (defArgs s__law_kind) (defBody s__law_kind) (defScope s__law_kind) .none kV__law_kind dc__law_kind pm__law_kind an__law_kind cd__law_kind ct__law_kind, f__law_line, PySem.W.fnOf "_law_line" "_law_line" (defArgs s__law_line) (defBody s__law_line) (defScope s__law_line) .none kV__law_line dc__law_line pm__law_line an__law_line cd__law_line ct__law_line, f__law_word, PySem.W.fnOf "_law_word" "_law_word" (defArgs s__law_word) (defBody s__law_word) (defScope s__law_word) .none kV__law_word dc__law_word pm__law_word an__law_word cd__law_word ct__law_word, f__law_form, PySem.W.fnOf "_law_form" "_law_form" (defArgs s__law_form) (defBody s__law_form) (defScope s__law_form) .none kV__law_form dc__law_form pm__law_form an__law_form cd__law_form ct__law_form, f__law_worth, PySem.W.fnOf "_law_worth" "_law_worth" (defArgs s__law_worth) (defBody s__law_worth) (defScope s__law_worth) .none kV__law_worth dc__law_worth pm__law_worth an__law_worth cd__law_worth ct__law_worth, f__law_layer, PySem.W.fnOf "_law_layer" "_law_layer" (defArgs s__law_layer) (defBody s__law_layer) (defScope s__law_layer) .none kV__law_layer dc__law_layer pm__law_layer an__law_layer cd__law_layer ct__law_layer, f__law_first_unlike, PySem.W.fnOf "_law_first_unlike" "_law_first_unlike" (defArgs s__law_first_unlike) (defBody s__law_first_unlike) (defScope s__law_first_unlike) .none kV__law_first_unlike dc__law_first_unlike pm__law_first_unlike an__law_first_unlike cd__law_first_unlike ct__law_first_unlike, f__law_rounds, PySem.W.fnOf "_law_rounds" "_law_rounds" (defArgs s__law_rounds) (defBody s__law_rounds) (defScope s__law_rounds) .none kV__law_rounds dc__law_rounds pm__law_rounds an__law_rounds cd__law_rounds ct__law_rounds, f_law, PySem.W.fnOf "law" "law" (defArgs s_law) (defBody s_law) (defScope s_law) .none kV_law dc_law pm_law an_law cd_law ct_law⟩), ?_, fun s v => .of_eq rfl, fun H a ns hl hT hS => splawT_end hl ?_ hS, fun base _ _ tb => ok_law T ⟨tb (c_above, p_above) List.mem_cons_self⟩⟩
  · intro t ht
    simp only [List.mem_cons, List.not_mem_nil, or_false] at ht
    rcases ht with rfl
    · exact ⟨tt_above, np_above, PySem.W.codeHd_of_K X hh_above⟩
  · intro t ht
    simp only [TT, List.mem_cons, List.not_mem_nil, or_false] at ht
    rcases ht with rfl
    · exact hT (c_above, p_above) List.mem_cons_self
end Law

open PySem PySem.W PyProof.Rows in
set_option maxRecDepth 100000 in
set_option maxHeartbeats 0 in
theorem PySem.Challenge.cw_unitlimits_k23_forms_unlike_holds : PySem.Challenge.rw_unitlimits_k23_forms_unlike.Holds := by
  w_on; o_law; k_head; (case hw => w_witness2)
  k_fill
  refine U.walkGT (l := PySem.Challenge.rw_unitlimits_k23_forms_unlike) (n := 63) (k := 9) (x := "_law_script") rfl (by decide) rfl ⟨rfl, by decide, by decide⟩ (fun w h Y => PySem.W.km_in_of Y) ?F
  case F =>
    intro w mg fa h Y KX G hmg
    have hT8 := PySem.W.km_tabs_of Y
    refine' Law.all_mk KX G hmg ?a_least_counts ?l_least_counts ?e_least_counts ?k_least_counts ?a__turned ?l__turned ?e__turned ?k__turned ?a_within ?l_within ?e_within ?k_within ?a_trimmed ?l_trimmed ?e_trimmed ?k_trimmed ?a__word ?l__word ?e__word ?k__word ?a_first_word ?l_first_word ?e_first_word ?k_first_word ?a_above ?l_above ?e_above ?k_above ?lc_above ?hp_above ?hh_above ?np_above ?tt_above ?a_earlier ?l_earlier ?e_earlier ?k_earlier ?a_unlike ?l_unlike ?e_unlike ?k_unlike ?a_worth ?l_worth ?e_worth ?k_worth ?a__law_deck ?l__law_deck ?e__law_deck ?k__law_deck ?a__law_draw ?l__law_draw ?e__law_draw ?k__law_draw ?a__law_one ?l__law_one ?e__law_one ?k__law_one ?a__law_kind ?l__law_kind ?e__law_kind ?k__law_kind ?a__law_line ?l__law_line ?e__law_line ?k__law_line ?a__law_word ?l__law_word ?e__law_word ?k__law_word ?a__law_form ?l__law_form ?e__law_form ?k__law_form ?a__law_worth ?l__law_worth ?e__law_worth ?k__law_worth ?a__law_layer ?l__law_layer ?e__law_layer ?k__law_layer ?a__law_first_unlike ?l__law_first_unlike ?e__law_first_unlike ?k__law_first_unlike ?a__law_rounds ?l__law_rounds ?e__law_rounds ?k__law_rounds ?a_law ?l_law ?e_law ?k_law ?z_abs ?z_any ?z_enumerate ?z_int ?z_len ?z_list ?z_min ?z_range ?z_repr ?z_sorted ?z_sum ?z_tuple ?z_zip ?c_LETTERS
    (case a_least_counts => k_is)
    (case l_least_counts => k_is)
    (case e_least_counts => k_is)
    (case k_least_counts => k_is)
    (case a__turned => k_is)
    (case l__turned => k_is)
    (case e__turned => k_is)
    (case k__turned => k_is)
    (case a_within => k_is)
    (case l_within => k_is)
    (case e_within => k_is)
    (case k_within => k_is)
    (case a_trimmed => k_is)
    (case l_trimmed => k_is)
    (case e_trimmed => k_is)
    (case k_trimmed => k_is)
    (case a__word => k_is)
    (case l__word => k_is)
    (case e__word => k_is)
    (case k__word => k_is)
    (case a_first_word => k_is)
    (case l_first_word => k_is)
    (case e_first_word => k_is)
    (case k_first_word => k_is)
    (case a_above => k_is)
    (case l_above => k_is)
    (case e_above => k_is)
    (case k_above => k_is)
    (case lc_above => k_is)
    (case hp_above => exact rfl)
    (case hh_above => kernel_rfl)
    (case np_above => kernel_rfl)
    (case tt_above => exact hT8 _ (by decide))
    (case a_earlier => k_is)
    (case l_earlier => k_is)
    (case e_earlier => k_is)
    (case k_earlier => k_is)
    (case a_unlike => k_is)
    (case l_unlike => k_is)
    (case e_unlike => k_is)
    (case k_unlike => k_is)
    (case a_worth => k_is)
    (case l_worth => k_is)
    (case e_worth => k_is)
    (case k_worth => k_is)
    (case a__law_deck => k_is)
    (case l__law_deck => k_is)
    (case e__law_deck => k_is)
    (case k__law_deck => k_is)
    (case a__law_draw => k_is)
    (case l__law_draw => k_is)
    (case e__law_draw => k_is)
    (case k__law_draw => k_is)
    (case a__law_one => k_is)
    (case l__law_one => k_is)
    (case e__law_one => k_is)
    (case k__law_one => k_is)
    (case a__law_kind => k_is)
    (case l__law_kind => k_is)
    (case e__law_kind => k_is)
    (case k__law_kind => k_is)
    (case a__law_line => k_is)
    (case l__law_line => k_is)
    (case e__law_line => k_is)
    (case k__law_line => k_is)
    (case a__law_word => k_is)
    (case l__law_word => k_is)
    (case e__law_word => k_is)
    (case k__law_word => k_is)
    (case a__law_form => k_is)
    (case l__law_form => k_is)
    (case e__law_form => k_is)
    (case k__law_form => k_is)
    (case a__law_worth => k_is)
    (case l__law_worth => k_is)
    (case e__law_worth => k_is)
    (case k__law_worth => k_is)
    (case a__law_layer => k_is)
    (case l__law_layer => k_is)
    (case e__law_layer => k_is)
    (case k__law_layer => k_is)
    (case a__law_first_unlike => k_is)
    (case l__law_first_unlike => k_is)
    (case e__law_first_unlike => k_is)
    (case k__law_first_unlike => k_is)
    (case a__law_rounds => k_is)
    (case l__law_rounds => k_is)
    (case e__law_rounds => k_is)
    (case k__law_rounds => k_is)
    (case a_law => k_is)
    (case l_law => k_is)
    (case e_law => k_is)
    (case k_law => k_is)
    (case z_abs => k_is)
    (case z_any => k_is)
    (case z_enumerate => k_is)
    (case z_int => k_is)
    (case z_len => k_is)
    (case z_list => k_is)
    (case z_min => k_is)
    (case z_range => k_is)
    (case z_repr => k_is)
    (case z_sorted => k_is)
    (case z_sum => k_is)
    (case z_tuple => k_is)
    (case z_zip => k_is)
    (case c_LETTERS => k_is)
