import PyProof.Rows.All
import Wide.All
import OpenK.AllK
import Wide.FinOn
import HandS.Evl
import HandS.Comp
import HandS.Iter
import HandS.Walk
import HandS.Lambda
import HandS.Nested
import HandS.ExcOwn
import HandS.ExcIs
import HandS.TryOnly
import HandS.TupAny
import HandS.IsInst
import HandS.Conv
import HandS.Zip
import HandS.Words
import HandS.WordsExc
import HandS.Small
import HandS.FStr
import PyProof.FitsInt
import HandS.Wide
import HandS.WideBits
import HandS.EndOwn
import HandS.SetFor
import HandS.Dict
import PySem.Challenge.RW_causalports_k02_tokens
set_option Elab.async false
set_option linter.all false
set_option maxRecDepth 100000
set_option maxHeartbeats 8000000
namespace DV
open PySem PySem.Spec L2 Evl
open PyProof.Rows hiding St
/-! ### readings that say just what the code does -/
def wE (X : Cx) (e : Expr) : TE := fun σ H Q => ∀ pins s, Inv X pins σ H s → wpAny (model X.prog X.w) X.A (eval e X.env) (EP X pins σ Q) X.xe s
def wT (X : Cx) (e : Expr) : TT := fun σ H Q => ∀ pins s, Inv X pins σ H s → wpAny (model X.prog X.w) X.A (isTrue e X.env (eval e X.env)) (TP X pins σ Q) X.xe s
def wA (X : Cx) (es : List Expr) : TA := fun σ H Q => ∀ pos pins s, Inv X pins σ H s → wpAny (model X.prog X.w) X.A (spliced (backTo pos (starEach es X.env))) (AP X pins σ Q) X.xe s
def wS (X : Cx) (st : Stmt) : TS := fun D σ H => ∀ pins s, Inv X pins σ H s → wpAny (model X.prog X.w) X.A (exec st X.env) (SP X pins D) X.xe s
def wB (X : Cx) (st : List Stmt) : TS := fun D σ H => ∀ pins s, Inv X pins σ H s → wpAny (model X.prog X.w) X.A (execs st X.env) (SP X pins D) X.xe s
section
variable {X : Cx} {e : Expr} {es : List Expr} {st : Stmt} {sts : List Stmt} {σ : St} {H : Hp} {Q : VK} {D : Ends}
theorem pe_w : PE X e (wE X e) := ⟨fun pins s _ _ _ I h => h pins s I⟩
theorem pt_w : PT X e (wT X e) := ⟨fun pins s _ _ _ I h => h pins s I⟩
theorem pa_w : PA X es (wA X es) := ⟨fun pos pins s _ _ _ I h => h pos pins s I⟩
theorem ps_w : PS X st (wS X st) := ⟨fun pins s _ _ _ I h => h pins s I⟩
theorem pss_w : PSs X sts (wB X sts) := ⟨fun pins s _ _ _ I h => h pins s I⟩
theorem wE_of {t : TE} (p : PE X e t) (h : t σ H Q) : wE X e σ H Q := fun pins s I => p.run pins s σ H Q I h
theorem wT_of {t : TT} {Q : Bool → Hp → Prop} (p : PT X e t) (h : t σ H Q) : wT X e σ H Q := fun pins s I => p.run pins s σ H Q I h
theorem wA_of {t : TA} {Q : List V → Hp → Prop} (p : PA X es t) (h : t σ H Q) : wA X es σ H Q := fun pos pins s I => p.run pos pins s σ H Q I h
theorem wS_of {t : TS} (p : PS X st t) (h : t D σ H) : wS X st D σ H := fun pins s I => p.run pins s σ H D I h
theorem wB_of {t : TS} (p : PSs X sts t) (h : t D σ H) : wB X sts D σ H := fun pins s I => p.run pins s σ H D I h
end
/-! ### the heap without what may change -/
def cut (M : List Addr) (H : Hp) : Hp := fun a => if a ∈ M then none else H a
theorem cut_in {M : List Addr} {H : Hp} {a : Addr} (h : a ∈ M) : cut M H a = none := if_pos h
theorem cut_out {M : List Addr} {H : Hp} {a : Addr} (h : a ∉ M) : cut M H a = H a := if_neg h
theorem cut_some {M : List Addr} {H : Hp} {a : Addr} {o : HO} (h : cut M H a = some o) : a ∉ M ∧ H a = some o := by
  by_cases q : a ∈ M
  · rw [cut_in q] at h; cases h
  · rw [cut_out q] at h; exact ⟨q, h⟩
theorem ex_cut {M : List Addr} {H : Hp} : Ex (cut M H) H := fun _ _ h => (cut_some h).2
theorem exCut {M : List Addr} {H H' : Hp} (e : Ex H H') : Ex (cut M H) (cut M H') := fun a o h => by
  obtain ⟨n, h'⟩ := cut_some h
  rw [cut_out n]
  exact e a o h'
theorem cut_nil {H : Hp} : cut [] H = H := by
  funext a
  exact cut_out (by simp)
theorem cut_upd {M : List Addr} {H : Hp} {p : Addr} {o : HO} (h : p ∉ M) : cut M (upd H p o) p = some o := by rw [cut_out h, upd_same]
/-! ### data: as the layer's, but a list is one of the call's own -/
mutual
inductive Dv (K : PySem.W.Frag) (H : Hp) : V → PyData → Prop
  | non : Dv K H .non .none
  | bl (b : Bool) : Dv K H (.bl b) (.bool b)
  | int (i : Int) : Dv K H (.int i) (.int i)
  | str (x : Str) : Dv K H (.str x) (.str x)
  | lst {a : Addr} {xs : List V} {ds : List PyData} : H a = some (.lst xs) → DvAll K H xs ds → Dv K H (.ref a) (.list ds)
  | tup {a : Addr} {xs : List V} {ds : List PyData} : SqT K H a xs → DvAll K H xs ds → Dv K H (.ref a) (.tuple ds)
inductive DvAll (K : PySem.W.Frag) (H : Hp) : List V → List PyData → Prop
  | nil : DvAll K H [] []
  | cons {v : V} {vs : List V} {d : PyData} {ds : List PyData} : Dv K H v d → DvAll K H vs ds → DvAll K H (v :: vs) (d :: ds)
end
mutual
theorem dv_dp {K : PySem.W.Frag} {H : Hp} : ∀ (d : PyData) (v : V), Dv K H v d → Dp K H v d
  | .none, _, h => by cases h; exact .non
  | .bool b, _, h => by cases h; exact .bl b
  | .int i, _, h => by cases h; exact .int i
  | .str x, _, h => by cases h; exact .str x
  | .list ds, _, h => by cases h with | lst hs ha => exact .lst (sq_of hs) (dva_dp ds _ ha)
  | .tuple ds, _, h => by cases h with | tup hs ha => exact .tup hs (dva_dp ds _ ha)
  | .dict _, _, h => by cases h
theorem dva_dp {K : PySem.W.Frag} {H : Hp} : ∀ (ds : List PyData) (vs : List V), DvAll K H vs ds → DpAll K H vs ds
  | [], _, h => by cases h; exact .nil
  | d :: ds, _, h => by cases h with | cons h1 h2 => exact .cons (dv_dp d _ h1) (dva_dp ds _ h2)
end
/-! ### data stays -/
mutual
theorem dp_ex {K : PySem.W.Frag} {H H' : Hp} (e : Ex H H') : ∀ (d : PyData) (v : V), Dv K H v d → Dv K H' v d
  | .none, _, h => by cases h; exact .non
  | .bool b, _, h => by cases h; exact .bl b
  | .int i, _, h => by cases h; exact .int i
  | .str x, _, h => by cases h; exact .str x
  | .list ds, _, h => by cases h with | lst hs ha => exact .lst (e _ _ hs) (dpa_ex e ds _ ha)
  | .tuple ds, _, h => by cases h with | tup hs ha => exact .tup (ex_t e hs) (dpa_ex e ds _ ha)
  | .dict _, _, h => by cases h
theorem dpa_ex {K : PySem.W.Frag} {H H' : Hp} (e : Ex H H') : ∀ (ds : List PyData) (vs : List V), DvAll K H vs ds → DvAll K H' vs ds
  | [], _, h => by cases h; exact .nil
  | d :: ds, _, h => by cases h with | cons h1 h2 => exact .cons (dp_ex e d _ h1) (dpa_ex e ds _ h2)
end
theorem dpa_length {K : PySem.W.Frag} {H : Hp} : ∀ {vs : List V} {ds : List PyData}, DvAll K H vs ds → vs.length = ds.length
  | _, [], .nil => rfl
  | _, _ :: _, .cons _ t => by rw [List.length_cons, List.length_cons, dpa_length t]
theorem dpa_get {K : PySem.W.Frag} {H : Hp} : ∀ {vs : List V} {ds : List PyData} {i : Nat} {v : V}, DvAll K H vs ds → vs[i]? = some v → ∃ d, ds[i]? = some d ∧ Dv K H v d
  | _, [], i, v, .nil, h => by simp at h
  | _, d :: _, 0, v, .cons r _, h => by
    have h : some _ = some v := h
    cases h
    exact ⟨d, rfl, r⟩
  | _, _ :: _, i + 1, v, .cons _ t, h => dpa_get (i := i) t (by simpa using h)
theorem dpa_get' {K : PySem.W.Frag} {H : Hp} : ∀ {vs : List V} {ds : List PyData} {i : Nat} {d : PyData}, DvAll K H vs ds → ds[i]? = some d → ∃ v, vs[i]? = some v ∧ Dv K H v d
  | _, [], i, d, .nil, h => by simp at h
  | v :: _, _ :: _, 0, d, .cons r _, h => by
    have h : some _ = some d := h
    cases h
    exact ⟨v, rfl, r⟩
  | _ :: _, _ :: _, i + 1, d, .cons _ t, h => dpa_get' (i := i) t (by simpa using h)
theorem dpa_app {K : PySem.W.Frag} {H : Hp} : ∀ {vs us : List V} {ds es : List PyData}, DvAll K H vs ds → DvAll K H us es → DvAll K H (vs ++ us) (ds ++ es)
  | _, _, [], _, .nil, h => h
  | _, _, _ :: _, _, .cons r t, h => .cons r (dpa_app t h)
theorem dpa_take {K : PySem.W.Frag} {H : Hp} : ∀ (n : Nat) {vs : List V} {ds : List PyData}, DvAll K H vs ds → DvAll K H (vs.take n) (ds.take n)
  | 0, _, _, _ => .nil
  | _ + 1, _, [], .nil => .nil
  | n + 1, _, _ :: _, .cons r t => .cons r (dpa_take n t)
theorem dpa_drop {K : PySem.W.Frag} {H : Hp} : ∀ (n : Nat) {vs : List V} {ds : List PyData}, DvAll K H vs ds → DvAll K H (vs.drop n) (ds.drop n)
  | 0, _, _, h => h
  | _ + 1, _, [], .nil => .nil
  | n + 1, _, _ :: _, .cons _ t => dpa_drop n t
theorem dpa_ints {K : PySem.W.Frag} {H : Hp} : ∀ {vs : List V} {ns : List Int}, DvAll K H vs (ns.map .int) → vs = ns.map V.int
  | _, [], h => by cases h; rfl
  | _, n :: ns, h => by
    cases h with
    | cons r t =>
      cases r
      rw [dpa_ints t]
      rfl
theorem dpa_of_ints {K : PySem.W.Frag} {H : Hp} : ∀ (ns : List Int), DvAll K H (ns.map V.int) (ns.map .int)
  | [] => .nil
  | n :: ns => .cons (.int n) (dpa_of_ints ns)
theorem dpa_bools {K : PySem.W.Frag} {H : Hp} : ∀ {vs : List V} {ns : List Bool}, DvAll K H vs (ns.map .bool) → vs = ns.map V.bl
  | _, [], h => by cases h; rfl
  | _, n :: ns, h => by
    cases h with
    | cons r t =>
      cases r
      rw [dpa_bools t]
      rfl
/-! ### what a slot holds -/
/-- nothing known; just this value; a datum -/
inductive Sl where
  | any | raw (v : V) | dat (d : PyData)
def Sv (K : PySem.W.Frag) (H : Hp) : Sl → V → Prop
  | .any, _ => True
  | .raw w, v => v = w
  | .dat d, v => Dv K H v d
def So (K : PySem.W.Frag) (H : Hp) : Sl → Option V → Prop
  | .any, _ => True
  | .raw w, o => o = some w
  | .dat d, o => ∃ v, o = some v ∧ Dv K H v d
theorem Sv.ex {K : PySem.W.Frag} {H H' : Hp} {r : Sl} {v : V} (h : Sv K H r v) (e : Ex H H') : Sv K H' r v := by
  cases r with
  | any => trivial
  | raw w => exact h
  | dat d => exact dp_ex e d v h
theorem So.ex {K : PySem.W.Frag} {H H' : Hp} {r : Sl} {o : Option V} (h : So K H r o) (e : Ex H H') : So K H' r o := by
  cases r with
  | any => trivial
  | raw w => exact h
  | dat d =>
    obtain ⟨v, a, b⟩ := h
    exact ⟨v, a, dp_ex e d v b⟩
theorem So.of {K : PySem.W.Frag} {H : Hp} {r : Sl} {v : V} (h : Sv K H r v) : So K H r (some v) := by
  cases r with
  | any => trivial
  | raw w => exact congrArg some h
  | dat d => exact ⟨v, rfl, h⟩
def Slots (K : PySem.W.Frag) (H : Hp) : St → List Sl → Prop
  | [], [] => True
  | o :: σ, r :: ρ => So K H r o ∧ Slots K H σ ρ
  | _, _ => False
theorem Slots.ex {K : PySem.W.Frag} {H H' : Hp} (e : Ex H H') : ∀ {σ : St} {ρ : List Sl}, Slots K H σ ρ → Slots K H' σ ρ
  | [], [], _ => trivial
  | _ :: _, _ :: _, ⟨a, b⟩ => ⟨a.ex e, Slots.ex e b⟩
  | [], _ :: _, h => h.elim
  | _ :: _, [], h => h.elim
theorem Slots.get {K : PySem.W.Frag} {H : Hp} : ∀ {σ : St} {ρ : List Sl} {i : Nat} {r : Sl}, Slots K H σ ρ → ρ[i]? = some r → ∃ o, σ[i]? = some o ∧ So K H r o
  | [], [], _, _, _, h => by simp at h
  | o :: _, r :: _, 0, _, ⟨a, _⟩, h => by
    have h : some _ = some _ := h
    cases h
    exact ⟨o, rfl, a⟩
  | _ :: _, _ :: _, i + 1, _, ⟨_, b⟩, h => Slots.get (i := i) b (by simpa using h)
  | [], _ :: _, _, _, h, _ => h.elim
  | _ :: _, [], _, _, h, _ => h.elim
theorem Slots.set {K : PySem.W.Frag} {H : Hp} {r : Sl} {v : V} (h : Sv K H r v) : ∀ {σ : St} {ρ : List Sl} (i : Nat), Slots K H σ ρ → Slots K H (σ.set i (some v)) (ρ.set i r)
  | [], [], _, _ => trivial
  | _ :: _, _ :: _, 0, ⟨_, b⟩ => ⟨.of h, b⟩
  | _ :: _, _ :: _, i + 1, ⟨a, b⟩ => ⟨a, Slots.set h i b⟩
  | [], _ :: _, _, q => q.elim
  | _ :: _, [], _, q => q.elim
theorem Slots.unset {K : PySem.W.Frag} {H : Hp} {o : Option V} : ∀ {σ : St} {ρ : List Sl} (i : Nat), Slots K H σ ρ → Slots K H (σ.set i o) (ρ.set i .any)
  | [], [], _, _ => trivial
  | _ :: _, _ :: _, 0, ⟨_, b⟩ => ⟨trivial, b⟩
  | _ :: _, _ :: _, i + 1, ⟨a, b⟩ => ⟨a, Slots.unset i b⟩
  | [], _ :: _, _, q => q.elim
  | _ :: _, [], _, q => q.elim
theorem Slots.len {K : PySem.W.Frag} {H : Hp} : ∀ {σ : St} {ρ : List Sl}, Slots K H σ ρ → σ.length = ρ.length
  | [], [], _ => rfl
  | _ :: _, _ :: _, ⟨_, b⟩ => by rw [List.length_cons, List.length_cons, Slots.len b]
  | [], _ :: _, h => h.elim
  | _ :: _, [], h => h.elim
/-- a def's slots at its start -/
def ini (N : List Str) (rs : List Sl) : List Sl := rs ++ List.replicate (N.length - rs.length) .any
def SvAll (K : PySem.W.Frag) (H : Hp) : List Sl → List V → Prop
  | [], [] => True
  | r :: rs, v :: vs => Sv K H r v ∧ SvAll K H rs vs
  | _, _ => False
theorem SvAll.ex {K : PySem.W.Frag} {H H' : Hp} (e : Ex H H') : ∀ {rs : List Sl} {vs : List V}, SvAll K H rs vs → SvAll K H' rs vs
  | [], [], _ => trivial
  | _ :: _, _ :: _, ⟨a, b⟩ => ⟨a.ex e, SvAll.ex e b⟩
  | [], _ :: _, h => h.elim
  | _ :: _, [], h => h.elim
theorem SvAll.len {K : PySem.W.Frag} {H : Hp} : ∀ {rs : List Sl} {vs : List V}, SvAll K H rs vs → vs.length = rs.length
  | [], [], _ => rfl
  | _ :: _, _ :: _, ⟨_, b⟩ => by rw [List.length_cons, List.length_cons, SvAll.len b]
  | [], _ :: _, h => h.elim
  | _ :: _, [], h => h.elim
theorem slots_rep {K : PySem.W.Frag} {H : Hp} : ∀ n : Nat, Slots K H (List.replicate n none) (List.replicate n .any)
  | 0 => trivial
  | n + 1 => ⟨trivial, slots_rep n⟩
theorem slots_app {K : PySem.W.Frag} {H : Hp} {σ2 : St} {ρ2 : List Sl} (h2 : Slots K H σ2 ρ2) : ∀ {vs : List V} {rs : List Sl}, SvAll K H rs vs → Slots K H (vs.map some ++ σ2) (rs ++ ρ2)
  | [], [], _ => h2
  | _ :: _, _ :: _, ⟨a, b⟩ => ⟨.of a, slots_app h2 b⟩
  | [], _ :: _, h => h.elim
  | _ :: _, [], h => h.elim
theorem slots_ini {K : PySem.W.Frag} {H : Hp} {N : List Str} {rs : List Sl} {vs : List V} (h : SvAll K H rs vs) : Slots K H (L2.start N vs) (ini N rs) := by
  unfold L2.start ini
  rw [h.len]
  exact slots_app (slots_rep _) h
/-! ### the state that goes through -/
/-- M: what may change -/
structure Rg {S : Type} (M : List Addr) (R : S → Hp → Prop) : Prop where
  up : ∀ {s : S} {H H' : Hp}, R s H → Ex H H' → R s H'
  dom : ∀ {s : S} {H : Hp} {a : Addr}, R s H → a ∈ M → ∃ o, H a = some o
theorem Rg.fresh {S : Type} {M : List Addr} {R : S → Hp → Prop} {s : S} {H : Hp} {p : Addr} (g : Rg M R) (h : R s H) (n : H p = none) : p ∉ M := fun m => by
  obtain ⟨o, e⟩ := g.dom h m
  rw [n] at e
  cases e
/-- an expression's worth and the state behind it -/
def Ev1 {S : Type} (X : Cx) (M : List Addr) (R : S → Hp → Prop) (ρ : List Sl) (e : Expr) (s : S) (r : Sl) (s' : S) : Prop :=
  ∀ σ H Q, Slots X.K (cut M H) σ ρ → R s H → (∀ v H2, Ex (cut M H) (cut M H2) → R s' H2 → Sv X.K (cut M H2) r v → Q v H2) → wE X e σ H Q
def EvT1 {S : Type} (X : Cx) (M : List Addr) (R : S → Hp → Prop) (ρ : List Sl) (e : Expr) (s : S) (b : Bool) (s' : S) : Prop :=
  ∀ σ H (Q : Bool → Hp → Prop), Slots X.K (cut M H) σ ρ → R s H → (∀ H2, Ex (cut M H) (cut M H2) → R s' H2 → Q b H2) → wT X e σ H Q
def EvA1 {S : Type} (X : Cx) (M : List Addr) (R : S → Hp → Prop) (ρ : List Sl) (es : List Expr) (s : S) (rs : List Sl) (s' : S) : Prop :=
  ∀ σ H (Q : List V → Hp → Prop), Slots X.K (cut M H) σ ρ → R s H → (∀ vs H2, Ex (cut M H) (cut M H2) → R s' H2 → SvAll X.K (cut M H2) rs vs → Q vs H2) → wA X es σ H Q
def St1 {S : Type} (X : Cx) (M : List Addr) (R : S → Hp → Prop) (ρ : List Sl) (sts : List Stmt) (s : S) (D : Ends) : Prop :=
  ∀ σ H, Slots X.K (cut M H) σ ρ → R s H → wB X sts D σ H
section
variable {S : Type} {X : Cx} {M : List Addr} {R : S → Hp → Prop} {ρ : List Sl} {s s1 s2 s3 : S} {a b c : Expr} {pos : Pos}
theorem exId (H : Hp) : Ex H H := fun _ _ h => h
/-! names and constants -/
theorem e_var (i : Nat) {x : Str} {r : Sl} (hr : ρ[i]? = some r) (hne : r ≠ .any) (hN : X.N[i]? = some x) (hv : Vis X.env.scope x) (hd : (x == ("__debug__" : Str)) = false := by decide)
    (hcd : (x == ("__classdict__" : Str)) = false := by decide) : Ev1 X M R ρ (.Name x pos) s r s := by
  intro σ H Q hσ hR q
  obtain ⟨o, h1, h2⟩ := hσ.get hr
  refine wE_of (pe_var (i := i) hN hv hd hcd) ?_
  cases r with
  | any => exact absurd rfl hne
  | raw w =>
    have h2 : o = some w := h2
    subst h2
    exact ⟨w, h1, q w H (exId _) hR rfl⟩
  | dat d =>
    obtain ⟨v, e, h⟩ := h2
    subst e
    exact ⟨v, h1, q v H (exId _) hR h⟩
theorem e_int {i : Int} {j} : Ev1 X M R ρ (.Constant (.int i) j pos) s (.dat (.int i)) s := fun σ H Q _ hR q => wE_of pe_int (q _ H (exId _) hR (.int i))
theorem e_bl {i : Bool} {j} : Ev1 X M R ρ (.Constant (.bool i) j pos) s (.dat (.bool i)) s := fun σ H Q _ hR q => wE_of pe_bl (q _ H (exId _) hR (.bl i))
theorem e_non {j} : Ev1 X M R ρ (.Constant .none j pos) s (.dat .none) s := fun σ H Q _ hR q => wE_of pe_non (q _ H (exId _) hR .non)
theorem e_str {z : Str} {j} : Ev1 X M R ρ (.Constant (.str z) j pos) s (.dat (.str z)) s := fun σ H Q _ hR q => wE_of pe_str (q _ H (exId _) hR (.str z))
theorem e_glob {x : Str} {v : V} {u : Value} {r : Sl} (hg : Gl X x) (hm : X.mg x = some u) (rv : RelV v u) (hr : ∀ H, Sv X.K H r v) (hd : (x == ("__debug__" : Str)) = false := by decide) : Ev1 X M R ρ (.Name x pos) s r s :=
  fun σ H Q _ hR q => wE_of (pe_glob hg hm rv hd) (q _ H (exId _) hR (hr _))
theorem e_bltn {x : Str} {v : V} {u : Value} (hg : Gl X x) (hm : X.mg x = none) (hv : bootBuiltins x = some u) (rv : RelV v u) (hn : x ≠ "__name__" := by decide) (hd : (x == ("__debug__" : Str)) = false := by decide) :
    Ev1 X M R ρ (.Name x pos) s (.raw v) s := fun σ H Q _ hR q => wE_of (pe_bltn hg hm hv rv hn hd) (q _ H (exId _) hR rfl)
/-! two-place operations -/
theorem e_op {op : Operator} {r : R2} {ra rb rc : Sl} (ho : OpR X (binaryOp op) r) (ha : Ev1 X M R ρ a s ra s1) (hb : Ev1 X M R ρ b s1 rb s2)
    (hr : ∀ x y H (Q : VK), Sv X.K (cut M H) ra x → Sv X.K (cut M H) rb y → R s2 H → (∀ v H2, Ex (cut M H) (cut M H2) → R s3 H2 → Sv X.K (cut M H2) rc v → Q v H2) → r x y H Q) : Ev1 X M R ρ (.BinOp a op b pos) s rc s3 := by
  intro σ H Q hσ hR q
  refine wE_of (pe_op ho pe_w pe_w) ?_
  refine ha σ H _ hσ hR fun x H1 e1 R1 d1 => ?_
  refine hb σ H1 _ (hσ.ex e1) R1 fun y H2 e2 R2 d2 => ?_
  exact hr x y H2 Q (d1.ex e2) d2 R2 fun v H3 e3 R3 d3 => q v H3 (e1.trans (e2.trans e3)) R3 d3
theorem e_opI {op : Operator} {C : Int → Int → Prop} {g : Int → Int → Int} {i j : Int} (ho : OpR X (binaryOp op) (rI C fun i j => .int (g i j))) (hc : C i j) (ha : Ev1 X M R ρ a s (.dat (.int i)) s1) (hb : Ev1 X M R ρ b s1 (.dat (.int j)) s2) :
    Ev1 X M R ρ (.BinOp a op b pos) s (.dat (.int (g i j))) s2 := e_op ho ha hb fun x y H Q dx dy hR q => by
  cases dx
  cases dy
  exact ⟨i, j, rfl, rfl, hc, q _ H (exId _) hR (.int _)⟩
theorem e_opI0 {op : Operator} {g : Int → Int → Int} {i j : Int} (ho : OpR X (binaryOp op) (rI0 fun i j => .int (g i j))) (ha : Ev1 X M R ρ a s (.dat (.int i)) s1) (hb : Ev1 X M R ρ b s1 (.dat (.int j)) s2) :
    Ev1 X M R ρ (.BinOp a op b pos) s (.dat (.int (g i j))) s2 := e_op ho ha hb fun x y H Q dx dy hR q => by
  cases dx
  cases dy
  exact ⟨i, j, rfl, rfl, q _ H (exId _) hR (.int _)⟩
theorem e_add {i j : Int} (ha : Ev1 X M R ρ a s (.dat (.int i)) s1) (hb : Ev1 X M R ρ b s1 (.dat (.int j)) s2) : Ev1 X M R ρ (.BinOp a .Add b pos) s (.dat (.int (i + j))) s2 := e_opI0 op_add ha hb
theorem e_sub {i j : Int} (ha : Ev1 X M R ρ a s (.dat (.int i)) s1) (hb : Ev1 X M R ρ b s1 (.dat (.int j)) s2) : Ev1 X M R ρ (.BinOp a .Sub b pos) s (.dat (.int (i - j))) s2 := e_opI0 op_sub ha hb
theorem e_mod {i j : Int} (hj : 0 < j) (ha : Ev1 X M R ρ a s (.dat (.int i)) s1) (hb : Ev1 X M R ρ b s1 (.dat (.int j)) s2) : Ev1 X M R ρ (.BinOp a .Mod b pos) s (.dat (.int (i % j))) s2 := e_opI op_mod hj ha hb
/-! comparisons -/
theorem t_cmp {op : CmpOp} {r : R2} {ra rb : Sl} {k : Bool} (ho : OpR X (compareOp op) r) (ha : Ev1 X M R ρ a s ra s1) (hb : Ev1 X M R ρ b s1 rb s2)
    (hr : ∀ x y H (Q : VK), Sv X.K (cut M H) ra x → Sv X.K (cut M H) rb y → R s2 H → (∀ H2, Ex (cut M H) (cut M H2) → R s3 H2 → Q (.bl k) H2) → r x y H Q) (hm : behindInMarks op b = false) : EvT1 X M R ρ (.Compare a [op] [b] pos) s k s3 := by
  intro σ H Q hσ hR q
  refine wT_of (pt_cmpR ho pe_w pe_w hm) ?_
  refine ha σ H _ hσ hR fun x H1 e1 R1 d1 => ?_
  refine hb σ H1 _ (hσ.ex e1) R1 fun y H2 e2 R2 d2 => ?_
  exact hr x y H2 _ (d1.ex e2) d2 R2 fun H3 e3 R3 => ⟨k, rfl, q H3 (e1.trans (e2.trans e3)) R3⟩
theorem e_cmp {op : CmpOp} {r : R2} {ra rb : Sl} {k : Bool} (ho : OpR X (compareOp op) r) (ha : Ev1 X M R ρ a s ra s1) (hb : Ev1 X M R ρ b s1 rb s2)
    (hr : ∀ x y H (Q : VK), Sv X.K (cut M H) ra x → Sv X.K (cut M H) rb y → R s2 H → (∀ H2, Ex (cut M H) (cut M H2) → R s3 H2 → Q (.bl k) H2) → r x y H Q) (hm : behindInMarks op b = false) : Ev1 X M R ρ (.Compare a [op] [b] pos) s (.dat (.bool k)) s3 := by
  intro σ H Q hσ hR q
  refine wE_of (pe_cmpR ho pe_w pe_w hm) ?_
  refine ha σ H _ hσ hR fun x H1 e1 R1 d1 => ?_
  refine hb σ H1 _ (hσ.ex e1) R1 fun y H2 e2 R2 d2 => ?_
  exact hr x y H2 _ (d1.ex e2) d2 R2 fun H3 e3 R3 => q _ H3 (e1.trans (e2.trans e3)) R3 (.bl k)
end
end DV
namespace DV
open PySem PySem.Spec L2 Evl
open PyProof.Rows hiding St
/-! ### small looks at data -/
theorem sv_int {K : PySem.W.Frag} {H : Hp} {i : Int} {v : V} (h : Sv K H (.dat (.int i)) v) : v = .int i := by
  cases (show Dv K H v (.int i) from h); rfl
theorem sv_bl {K : PySem.W.Frag} {H : Hp} {i : Bool} {v : V} (h : Sv K H (.dat (.bool i)) v) : v = .bl i := by
  cases (show Dv K H v (.bool i) from h); rfl
theorem sv_str {K : PySem.W.Frag} {H : Hp} {i : Str} {v : V} (h : Sv K H (.dat (.str i)) v) : v = .str i := by
  cases (show Dv K H v (.str i) from h); rfl
theorem sv_non {K : PySem.W.Frag} {H : Hp} {v : V} (h : Sv K H (.dat .none) v) : v = .non := by
  cases (show Dv K H v .none from h); rfl
theorem sv_lst {K : PySem.W.Frag} {H : Hp} {ds : List PyData} {v : V} (h : Sv K H (.dat (.list ds)) v) : ∃ a xs, v = .ref a ∧ H a = some (.lst xs) ∧ DvAll K H xs ds := by
  cases (show Dv K H v (.list ds) from h) with
  | lst a b => exact ⟨_, _, rfl, a, b⟩
theorem sv_tup {K : PySem.W.Frag} {H : Hp} {ds : List PyData} {v : V} (h : Sv K H (.dat (.tuple ds)) v) : ∃ a xs, v = .ref a ∧ SqT K H a xs ∧ DvAll K H xs ds := by
  cases (show Dv K H v (.tuple ds) from h) with
  | tup a b => exact ⟨_, _, rfl, a, b⟩
theorem svall1 {K : PySem.W.Frag} {H : Hp} {r : Sl} {vs : List V} (h : SvAll K H [r] vs) : ∃ v, vs = [v] ∧ Sv K H r v := by
  match vs, h with
  | [v], ⟨a, _⟩ => exact ⟨v, rfl, a⟩
theorem svall2 {K : PySem.W.Frag} {H : Hp} {r r' : Sl} {vs : List V} (h : SvAll K H [r, r'] vs) : ∃ v w, vs = [v, w] ∧ Sv K H r v ∧ Sv K H r' w := by
  match vs, h with
  | [v, w], ⟨a, b, _⟩ => exact ⟨v, w, rfl, a, b⟩
theorem svall3 {K : PySem.W.Frag} {H : Hp} {r r' r2 : Sl} {vs : List V} (h : SvAll K H [r, r', r2] vs) : ∃ v w u, vs = [v, w, u] ∧ Sv K H r v ∧ Sv K H r' w ∧ Sv K H r2 u := by
  match vs, h with
  | [v, w, u], ⟨a, b, c, _⟩ => exact ⟨v, w, u, rfl, a, b, c⟩
/-- a list of data as slots -/
def dats (ds : List PyData) : List Sl := ds.map Sl.dat
theorem svall_dats {K : PySem.W.Frag} {H : Hp} : ∀ {ds : List PyData} {vs : List V}, SvAll K H (dats ds) vs → DvAll K H vs ds
  | [], [], _ => .nil
  | _ :: _, _ :: _, ⟨a, b⟩ => .cons a (svall_dats b)
  | [], _ :: _, h => h.elim
  | _ :: _, [], h => h.elim
theorem svall_of {K : PySem.W.Frag} {H : Hp} : ∀ {ds : List PyData} {vs : List V}, DvAll K H vs ds → SvAll K H (dats ds) vs
  | [], _, h => by cases h; trivial
  | d :: ds, _, h => by cases h with | cons a b => exact ⟨a, svall_of b⟩
theorem upd_sz {n : Nat} (h : n ≤ 100000) : n ≤ sizeLine := Nat.le_trans h (by decide)
section
variable {S : Type} {X : Cx} {M : List Addr} {R : S → Hp → Prop} {ρ : List Sl} {s s1 s2 s3 : S} {a b c : Expr} {es : List Expr} {pos : Pos} {rs : List Sl}
/-- a new object laid -/
theorem new_at (g : Rg M R) {H : Hp} {p : Addr} {o : HO} (hR : R s H) (n : H p = none) : Ex (cut M H) (cut M (upd H p o)) ∧ R s (upd H p o) ∧ cut M (upd H p o) p = some o :=
  have hp : p ∉ M := g.fresh hR n
  ⟨exCut (Ex.new n), g.up hR (Ex.new n), cut_upd hp⟩
theorem new_lst (g : Rg M R) {H : Hp} {p : Addr} {xs : List V} {ds : List PyData} {Q : VK} (hR : R s H) (n : H p = none) (h : DvAll X.K (cut M H) xs ds) (q : ∀ v H2, Ex (cut M H) (cut M H2) → R s H2 → Sv X.K (cut M H2) (.dat (.list ds)) v → Q v H2) : Q (.ref p) (upd H p (.lst xs)) := by
  obtain ⟨e, r, a⟩ := new_at g (o := .lst xs) hR n
  exact q _ _ e r (.lst a (dpa_ex e ds _ h))
theorem new_tup (g : Rg M R) {H : Hp} {p : Addr} {xs : List V} {ds : List PyData} {Q : VK} (hR : R s H) (n : H p = none) (h : DvAll X.K (cut M H) xs ds) (q : ∀ v H2, Ex (cut M H) (cut M H2) → R s H2 → Sv X.K (cut M H2) (.dat (.tuple ds)) v → Q v H2) : Q (.ref p) (upd H p (.tup xs)) := by
  obtain ⟨e, r, a⟩ := new_at g (o := .tup xs) hR n
  exact q _ _ e r (.tup (st_of a) (dpa_ex e ds _ h))
/-! argument lists, displays -/
theorem a_nil : EvA1 X M R ρ [] s [] s := fun σ H Q _ hR q => wA_of pa_nil (q [] H (exId _) hR trivial)
theorem a_cons {r : Sl} {e : Expr} (he : Ev1 X M R ρ e s r s1) (hr : EvA1 X M R ρ es s1 rs s2) (hs : starEach (e :: es) X.env = (false, eval e X.env) :: starEach es X.env := by rfl) : EvA1 X M R ρ (e :: es) s (r :: rs) s2 := by
  intro σ H Q hσ hR q
  refine wA_of (pa_cons pe_w pa_w hs) ?_
  refine he σ H _ hσ hR fun v H1 e1 R1 d1 => ?_
  exact hr σ H1 _ (hσ.ex e1) R1 fun vs H2 e2 R2 d2 => q (v :: vs) H2 (e1.trans e2) R2 ⟨d1.ex e2, d2⟩
theorem e_tup (g : Rg M R) {ds : List PyData} {k : Nat} (h : EvA1 X M R ρ es s (dats ds) s1) (hz : ds.length ≤ 100000) : Ev1 X M R ρ (.Tuple es k pos) s (.dat (.tuple ds)) s1 := by
  intro σ H Q hσ hR q
  refine wE_of (pe_tup pa_w) ?_
  refine h σ H _ hσ hR fun vs H1 e1 R1 d1 => ?_
  have d := svall_dats d1
  exact ⟨by rw [dpa_length d]; exact upd_sz hz, fun p n => new_tup g R1 n d fun v H2 e2 R2 d2 => q v H2 (e1.trans e2) R2 d2⟩
theorem e_lst (g : Rg M R) {ds : List PyData} (h : EvA1 X M R ρ es s (dats ds) s1) (hz : ds.length ≤ 100000) : Ev1 X M R ρ (.List es pos) s (.dat (.list ds)) s1 := by
  intro σ H Q hσ hR q
  refine wE_of (pe_lst pa_w) ?_
  refine h σ H _ hσ hR fun vs H1 e1 R1 d1 => ?_
  have d := svall_dats d1
  exact ⟨by rw [dpa_length d]; exact upd_sz hz, fun p n => new_lst g R1 n d fun v H2 e2 R2 d2 => q v H2 (e1.trans e2) R2 d2⟩
/-! == of data -/
theorem t_eqD {d1 d2 : PyData} (hu : X.A.units + 64 < cLine) (ha : Ev1 X M R ρ a s (.dat d1) s1) (hb : Ev1 X M R ρ b s1 (.dat d2) s2) (z1 : SeqAt.shaped d1 = true) (z2 : SeqAt.shaped d2 = true) : EvT1 X M R ρ (.Compare a [.Eq] [b] pos) s (PyData.eqv d1 d2) s2 :=
  t_cmp (op_eqD hu) ha hb (fun x y H Q dx dy hR q => ⟨d1, d2, dv_dp _ _ (dp_ex ex_cut _ _ dx), dv_dp _ _ (dp_ex ex_cut _ _ dy), z1, z2, q H (exId _) hR⟩) (nomark _)
theorem e_eqD {d1 d2 : PyData} (hu : X.A.units + 64 < cLine) (ha : Ev1 X M R ρ a s (.dat d1) s1) (hb : Ev1 X M R ρ b s1 (.dat d2) s2) (z1 : SeqAt.shaped d1 = true) (z2 : SeqAt.shaped d2 = true) : Ev1 X M R ρ (.Compare a [.Eq] [b] pos) s (.dat (.bool (PyData.eqv d1 d2))) s2 :=
  e_cmp (op_eqD hu) ha hb (fun x y H Q dx dy hR q => ⟨d1, d2, dv_dp _ _ (dp_ex ex_cut _ _ dx), dv_dp _ _ (dp_ex ex_cut _ _ dy), z1, z2, q H (exId _) hR⟩) (nomark _)
theorem t_neD {d1 d2 : PyData} (hu : X.A.units + 64 < cLine) (ha : Ev1 X M R ρ a s (.dat d1) s1) (hb : Ev1 X M R ρ b s1 (.dat d2) s2) (z1 : SeqAt.shaped d1 = true) (z2 : SeqAt.shaped d2 = true) : EvT1 X M R ρ (.Compare a [.NotEq] [b] pos) s (!PyData.eqv d1 d2) s2 :=
  t_cmp (op_neD hu) ha hb (fun x y H Q dx dy hR q => ⟨d1, d2, dv_dp _ _ (dp_ex ex_cut _ _ dx), dv_dp _ _ (dp_ex ex_cut _ _ dy), z1, z2, q H (exId _) hR⟩) (nomark _)
theorem e_neD {d1 d2 : PyData} (hu : X.A.units + 64 < cLine) (ha : Ev1 X M R ρ a s (.dat d1) s1) (hb : Ev1 X M R ρ b s1 (.dat d2) s2) (z1 : SeqAt.shaped d1 = true) (z2 : SeqAt.shaped d2 = true) : Ev1 X M R ρ (.Compare a [.NotEq] [b] pos) s (.dat (.bool (!PyData.eqv d1 d2))) s2 :=
  e_cmp (op_neD hu) ha hb (fun x y H Q dx dy hR q => ⟨d1, d2, dv_dp _ _ (dp_ex ex_cut _ _ dx), dv_dp _ _ (dp_ex ex_cut _ _ dy), z1, z2, q H (exId _) hR⟩) (nomark _)
/-! order of ints -/
theorem t_ord {op : CmpOp} {f : Int → Int → Bool} {i j : Int} (ho : OpR X (compareOp op) (rI0 fun i j => .bl (f i j))) (ha : Ev1 X M R ρ a s (.dat (.int i)) s1) (hb : Ev1 X M R ρ b s1 (.dat (.int j)) s2) (hm : behindInMarks op b = false := by exact nomark _) :
    EvT1 X M R ρ (.Compare a [op] [b] pos) s (f i j) s2 := t_cmp ho ha hb (fun x y H Q dx dy hR q => ⟨i, j, sv_int dx, sv_int dy, q H (exId _) hR⟩) hm
theorem e_ord {op : CmpOp} {f : Int → Int → Bool} {i j : Int} (ho : OpR X (compareOp op) (rI0 fun i j => .bl (f i j))) (ha : Ev1 X M R ρ a s (.dat (.int i)) s1) (hb : Ev1 X M R ρ b s1 (.dat (.int j)) s2) (hm : behindInMarks op b = false := by exact nomark _) :
    Ev1 X M R ρ (.Compare a [op] [b] pos) s (.dat (.bool (f i j))) s2 := e_cmp ho ha hb (fun x y H Q dx dy hR q => ⟨i, j, sv_int dx, sv_int dy, q H (exId _) hR⟩) hm
theorem e_ltI {i j : Int} (ha : Ev1 X M R ρ a s (.dat (.int i)) s1) (hb : Ev1 X M R ρ b s1 (.dat (.int j)) s2) : Ev1 X M R ρ (.Compare a [.Lt] [b] pos) s (.dat (.bool (decide (i < j)))) s2 := e_ord op_lt ha hb
theorem e_leI {i j : Int} (ha : Ev1 X M R ρ a s (.dat (.int i)) s1) (hb : Ev1 X M R ρ b s1 (.dat (.int j)) s2) : Ev1 X M R ρ (.Compare a [.LtE] [b] pos) s (.dat (.bool (decide (i ≤ j)))) s2 := e_ord op_le ha hb
theorem e_gtI {i j : Int} (ha : Ev1 X M R ρ a s (.dat (.int i)) s1) (hb : Ev1 X M R ρ b s1 (.dat (.int j)) s2) : Ev1 X M R ρ (.Compare a [.Gt] [b] pos) s (.dat (.bool (decide (j < i)))) s2 := e_ord op_gt ha hb
theorem e_geI {i j : Int} (ha : Ev1 X M R ρ a s (.dat (.int i)) s1) (hb : Ev1 X M R ρ b s1 (.dat (.int j)) s2) : Ev1 X M R ρ (.Compare a [.GtE] [b] pos) s (.dat (.bool (decide (j ≤ i)))) s2 := e_ord op_ge ha hb
theorem t_ltI {i j : Int} (ha : Ev1 X M R ρ a s (.dat (.int i)) s1) (hb : Ev1 X M R ρ b s1 (.dat (.int j)) s2) : EvT1 X M R ρ (.Compare a [.Lt] [b] pos) s (decide (i < j)) s2 := t_ord op_lt ha hb
theorem t_leI {i j : Int} (ha : Ev1 X M R ρ a s (.dat (.int i)) s1) (hb : Ev1 X M R ρ b s1 (.dat (.int j)) s2) : EvT1 X M R ρ (.Compare a [.LtE] [b] pos) s (decide (i ≤ j)) s2 := t_ord op_le ha hb
theorem t_gtI {i j : Int} (ha : Ev1 X M R ρ a s (.dat (.int i)) s1) (hb : Ev1 X M R ρ b s1 (.dat (.int j)) s2) : EvT1 X M R ρ (.Compare a [.Gt] [b] pos) s (decide (j < i)) s2 := t_ord op_gt ha hb
theorem t_geI {i j : Int} (ha : Ev1 X M R ρ a s (.dat (.int i)) s1) (hb : Ev1 X M R ρ b s1 (.dat (.int j)) s2) : EvT1 X M R ρ (.Compare a [.GtE] [b] pos) s (decide (j ≤ i)) s2 := t_ord op_ge ha hb
/-! lo <= x <= hi -/
theorem e_chain {op op' : CmpOp} {f f' : Int → Int → Bool} {i j k : Int} (ho : OpR X (compareOp op) (rI0 fun i j => .bl (f i j))) (ho' : OpR X (compareOp op') (rI0 fun i j => .bl (f' i j)))
    (ha : Ev1 X M R ρ a s (.dat (.int i)) s) (hb : Ev1 X M R ρ b s (.dat (.int j)) s) (hc : Ev1 X M R ρ c s (.dat (.int k)) s) (hm : lastMarks [op, op'] [b, c] = false := by with_unfolding_all rfl) :
    Ev1 X M R ρ (.Compare a [op, op'] [b, c] pos) s (.dat (.bool (f i j && f' j k))) s := by
  intro σ H Q hσ hR q
  refine wE_of (pe_chain ho ho' pe_w pe_w pe_w hm) ?_
  refine ha σ H _ hσ hR fun x H1 e1 R1 d1 => ?_
  refine hb σ H1 _ (hσ.ex e1) R1 fun y H2 e2 R2 d2 => ?_
  refine ⟨i, j, sv_int d1, sv_int d2, f i j, rfl, ?_⟩
  cases e : f i j with
  | false =>
    rw [if_neg Bool.false_ne_true]
    rw [e] at q
    exact q _ H2 (e1.trans e2) R2 (.bl _)
  | true =>
    rw [if_pos rfl]
    rw [e] at q
    refine hc σ H2 _ (hσ.ex (e1.trans e2)) R2 fun z H3 e3 R3 d3 => ?_
    exact ⟨j, k, sv_int d2, sv_int d3, q _ H3 (e1.trans (e2.trans e3)) R3 (.bl _)⟩
theorem t_val {e : Expr} {k : Bool} (h : Ev1 X M R ρ e s (.dat (.bool k)) s1) (he : ∀ whole, isTrue e X.env whole = (do let v ← whole; standAt e.pos; holding [v] (truthy v)) := by intro _; rfl) : EvT1 X M R ρ e s k s1 := by
  intro σ H Q hσ hR q
  refine wT_of (pt_val pe_w he) ?_
  exact h σ H _ hσ hR fun v H1 e1 R1 d1 => ⟨k, sv_bl d1, q H1 e1 R1⟩
theorem t_chain {op op' : CmpOp} {f f' : Int → Int → Bool} {i j k : Int} (ho : OpR X (compareOp op) (rI0 fun i j => .bl (f i j))) (ho' : OpR X (compareOp op') (rI0 fun i j => .bl (f' i j)))
    (ha : Ev1 X M R ρ a s (.dat (.int i)) s) (hb : Ev1 X M R ρ b s (.dat (.int j)) s) (hc : Ev1 X M R ρ c s (.dat (.int k)) s) (hm : lastMarks [op, op'] [b, c] = false := by with_unfolding_all rfl) :
    EvT1 X M R ρ (.Compare a [op, op'] [b, c] pos) s (f i j && f' j k) s := by
  intro σ H Q hσ hR q
  refine wT_of (pt_chain ho ho' pe_w pe_w pe_w hm) ?_
  refine ha σ H _ hσ hR fun x H1 e1 R1 d1 => ?_
  refine hb σ H1 _ (hσ.ex e1) R1 fun y H2 e2 R2 d2 => ?_
  refine ⟨i, j, sv_int d1, sv_int d2, f i j, rfl, ?_⟩
  cases e : f i j with
  | false =>
    rw [if_neg Bool.false_ne_true]
    rw [e] at q
    exact ⟨_, rfl, q H2 (e1.trans e2) R2⟩
  | true =>
    rw [if_pos rfl]
    rw [e] at q
    refine hc σ H2 _ (hσ.ex (e1.trans e2)) R2 fun z H3 e3 R3 d3 => ?_
    exact ⟨j, k, sv_int d2, sv_int d3, _, rfl, q H3 (e1.trans (e2.trans e3)) R3⟩
/-! not, and, or, conditional expressions -/
theorem t_not {k : Bool} (h : EvT1 X M R ρ a s k s1) : EvT1 X M R ρ (.UnaryOp .Not a pos) s (!k) s1 := fun σ H Q hσ hR q => wT_of (pt_not pt_w) (h σ H _ hσ hR fun H1 e1 R1 => q H1 e1 R1)
theorem e_not {k : Bool} (h : Ev1 X M R ρ a s (.dat (.bool k)) s1) : Ev1 X M R ρ (.UnaryOp .Not a pos) s (.dat (.bool (!k))) s1 := fun σ H Q hσ hR q =>
  wE_of (pe_not pe_w) (h σ H _ hσ hR fun v H1 e1 R1 d1 => ⟨k, sv_bl d1, q _ H1 e1 R1 (.bl _)⟩)
def EvW1 {S : Type} (X : Cx) (M : List Addr) (R : S → Hp → Prop) (ρ : List Sl) (e : Expr) (s : S) (b : Bool) (s' : S) : Prop :=
  ∀ whole σ H (Q : Bool → Hp → Prop), Slots X.K (cut M H) σ ρ → R s H → (∀ H2, Ex (cut M H) (cut M H2) → R s' H2 → Q b H2) → ∀ pins sh, Inv X pins σ H sh → wpAny (model X.prog X.w) X.A (isTrue e X.env whole) (TP X pins σ Q) X.xe sh
def wW (X : Cx) (e : Expr) : TT := fun σ H Q => ∀ whole pins s, Inv X pins σ H s → wpAny (model X.prog X.w) X.A (isTrue e X.env whole) (TP X pins σ Q) X.xe s
theorem pw_w {e : Expr} : PW X e (wW X e) := ⟨fun whole pins s _ _ _ I h => h whole pins s I⟩
theorem w_and1 {k : Bool} (h : EvT1 X M R ρ a s k s1) : EvW1 X M R ρ (.BoolOp .And [a] pos) s k s1 := fun whole σ H Q hσ hR q pins sh I => (pw_and1 pt_w).run whole pins sh σ H Q I (h σ H _ hσ hR q)
theorem w_or1 {k : Bool} (h : EvT1 X M R ρ a s k s1) : EvW1 X M R ρ (.BoolOp .Or [a] pos) s k s1 := fun whole σ H Q hσ hR q pins sh I => (pw_or1 pt_w).run whole pins sh σ H Q I (h σ H _ hσ hR q)
theorem w_andT {k : Bool} {rest : List Expr} (ha : EvT1 X M R ρ a s true s1) (hb : EvW1 X M R ρ (.BoolOp .And (b :: rest) pos) s1 k s2) : EvW1 X M R ρ (.BoolOp .And (a :: b :: rest) pos) s k s2 := fun whole σ H Q hσ hR q pins sh I => by
  refine (pw_and pt_w pw_w).run whole pins sh σ H Q I (ha σ H _ hσ hR fun H1 e1 R1 => ?_)
  rw [if_pos rfl]
  exact fun whole pins sh I => hb whole σ H1 Q (hσ.ex e1) R1 (fun H2 e2 R2 => q H2 (e1.trans e2) R2) pins sh I
theorem w_andF {rest : List Expr} (ha : EvT1 X M R ρ a s false s1) : EvW1 X M R ρ (.BoolOp .And (a :: b :: rest) pos) s false s1 := fun whole σ H Q hσ hR q pins sh I => by
  refine (pw_and pt_w pw_w).run whole pins sh σ H Q I (ha σ H _ hσ hR fun H1 e1 R1 => ?_)
  rw [if_neg Bool.false_ne_true]
  exact q H1 e1 R1
theorem w_orF {k : Bool} {rest : List Expr} (ha : EvT1 X M R ρ a s false s1) (hb : EvW1 X M R ρ (.BoolOp .Or (b :: rest) pos) s1 k s2) : EvW1 X M R ρ (.BoolOp .Or (a :: b :: rest) pos) s k s2 := fun whole σ H Q hσ hR q pins sh I => by
  refine (pw_or pt_w pw_w).run whole pins sh σ H Q I (ha σ H _ hσ hR fun H1 e1 R1 => ?_)
  rw [if_neg Bool.false_ne_true]
  exact fun whole pins sh I => hb whole σ H1 Q (hσ.ex e1) R1 (fun H2 e2 R2 => q H2 (e1.trans e2) R2) pins sh I
theorem w_orT {rest : List Expr} (ha : EvT1 X M R ρ a s true s1) : EvW1 X M R ρ (.BoolOp .Or (a :: b :: rest) pos) s true s1 := fun whole σ H Q hσ hR q pins sh I => by
  refine (pw_or pt_w pw_w).run whole pins sh σ H Q I (ha σ H _ hσ hR fun H1 e1 R1 => ?_)
  rw [if_pos rfl]
  exact q H1 e1 R1
/-- pure tests: and, or by their worth -/
theorem w_and {j k : Bool} {rest : List Expr} (ha : EvT1 X M R ρ a s j s) (hb : j = true → EvW1 X M R ρ (.BoolOp .And (b :: rest) pos) s k s) : EvW1 X M R ρ (.BoolOp .And (a :: b :: rest) pos) s (j && k) s := by
  cases j with
  | true => exact w_andT ha (hb rfl)
  | false => exact w_andF ha
theorem w_or {j k : Bool} {rest : List Expr} (ha : EvT1 X M R ρ a s j s) (hb : j = false → EvW1 X M R ρ (.BoolOp .Or (b :: rest) pos) s k s) : EvW1 X M R ρ (.BoolOp .Or (a :: b :: rest) pos) s (j || k) s := by
  cases j with
  | true => exact w_orT ha
  | false => exact w_orF ha (hb rfl)
theorem t_w {e : Expr} {k : Bool} (h : EvW1 X M R ρ e s k s1) : EvT1 X M R ρ e s k s1 := fun σ H Q hσ hR q pins sh I => h _ σ H Q hσ hR q pins sh I
/-- .. as values, of bools -/
theorem e_one {op : BoolOp} {r : Sl} (h : Ev1 X M R ρ a s r s1) : Ev1 X M R ρ (.BoolOp op [a] pos) s r s1 := fun σ H Q hσ hR q => wE_of (pe_one pe_w) (h σ H Q hσ hR q)
theorem e_and {j k : Bool} {rest : List Expr} (ha : Ev1 X M R ρ a s (.dat (.bool j)) s) (hb : j = true → Ev1 X M R ρ (.BoolOp .And (b :: rest) pos) s (.dat (.bool k)) s) : Ev1 X M R ρ (.BoolOp .And (a :: b :: rest) pos) s (.dat (.bool (j && k))) s := by
  intro σ H Q hσ hR q
  refine wE_of (pe_and pe_w pe_w) (ha σ H _ hσ hR fun v H1 e1 R1 d1 => ⟨j, sv_bl d1, ?_⟩)
  cases j with
  | true =>
    rw [if_pos rfl]
    exact hb rfl σ H1 Q (hσ.ex e1) R1 fun v H2 e2 R2 d2 => q v H2 (e1.trans e2) R2 d2
  | false =>
    rw [if_neg Bool.false_ne_true]
    exact q _ H1 e1 R1 (.bl _)
theorem e_or {j k : Bool} {rest : List Expr} (ha : Ev1 X M R ρ a s (.dat (.bool j)) s) (hb : j = false → Ev1 X M R ρ (.BoolOp .Or (b :: rest) pos) s (.dat (.bool k)) s) : Ev1 X M R ρ (.BoolOp .Or (a :: b :: rest) pos) s (.dat (.bool (j || k))) s := by
  intro σ H Q hσ hR q
  refine wE_of (pe_or pe_w pe_w) (ha σ H _ hσ hR fun v H1 e1 R1 d1 => ⟨j, sv_bl d1, ?_⟩)
  cases j with
  | false =>
    rw [if_neg Bool.false_ne_true]
    exact hb rfl σ H1 Q (hσ.ex e1) R1 fun v H2 e2 R2 d2 => q v H2 (e1.trans e2) R2 d2
  | true =>
    rw [if_pos rfl]
    exact q _ H1 e1 R1 (.bl _)
theorem e_ifT {r : Sl} (hc : EvT1 X M R ρ c s true s1) (h : Ev1 X M R ρ a s1 r s2) : Ev1 X M R ρ (.IfExp c a b pos) s r s2 := fun σ H Q hσ hR q =>
  wE_of (pe_ifExp pt_w pe_w pe_w) (hc σ H _ hσ hR fun H1 e1 R1 => by
    rw [if_pos rfl]
    exact h σ H1 Q (hσ.ex e1) R1 fun v H2 e2 R2 d2 => q v H2 (e1.trans e2) R2 d2)
theorem e_ifF {r : Sl} (hc : EvT1 X M R ρ c s false s1) (h : Ev1 X M R ρ b s1 r s2) : Ev1 X M R ρ (.IfExp c a b pos) s r s2 := fun σ H Q hσ hR q =>
  wE_of (pe_ifExp pt_w pe_w pe_w) (hc σ H _ hσ hR fun H1 e1 R1 => by
    rw [if_neg Bool.false_ne_true]
    exact h σ H1 Q (hσ.ex e1) R1 fun v H2 e2 R2 d2 => q v H2 (e1.trans e2) R2 d2)
theorem e_if {r : Sl} {k : Bool} (hc : EvT1 X M R ρ c s k s1) (h1 : k = true → Ev1 X M R ρ a s1 r s2) (h2 : k = false → Ev1 X M R ρ b s1 r s2) : Ev1 X M R ρ (.IfExp c a b pos) s r s2 := by
  cases k with
  | true => exact e_ifT hc (h1 rfl)
  | false => exact e_ifF hc (h2 rfl)
/-! items, slices, sums of sequences -/
theorem atI_dv {K : PySem.W.Frag} {H : Hp} {xs : List V} {ds : List PyData} {i : Int} {d : PyData} (h : DvAll K H xs ds) (hi : atI ds i = some d) : ∃ v, atI xs i = some v ∧ Dv K H v d := by
  unfold atI at hi ⊢
  rw [dpa_length h]
  cases e : ixN ds.length i with
  | none => rw [e] at hi; cases hi
  | some j =>
    rw [e] at hi
    exact dpa_get' h hi
theorem e_ixT {ds : List PyData} {d : PyData} {i : Int} (ha : Ev1 X M R ρ a s (.dat (.tuple ds)) s1) (hb : Ev1 X M R ρ b s1 (.dat (.int i)) s2) (hi : atI ds i = some d) (hs : PlainIx b := by exact fun _ _ => rfl) :
    Ev1 X M R ρ (.Subscript a b pos) s (.dat d) s2 := by
  intro σ H Q hσ hR q
  refine wE_of (pe_ix ix_tup pe_w pe_w hs) ?_
  refine ha σ H _ hσ hR fun x H1 e1 R1 d1 => ?_
  refine hb σ H1 _ (hσ.ex e1) R1 fun y H2 e2 R2 d2 => ?_
  obtain ⟨p, xs, rfl, hq, hd⟩ := sv_tup (d1.ex e2)
  obtain ⟨v, hv, dv⟩ := atI_dv hd hi
  exact ⟨p, xs, i, v, rfl, sv_int d2, ex_t ex_cut hq, hv, q v H2 (e1.trans e2) R2 dv⟩
theorem e_ixL {ds : List PyData} {d : PyData} {i : Int} (ha : Ev1 X M R ρ a s (.dat (.list ds)) s1) (hb : Ev1 X M R ρ b s1 (.dat (.int i)) s2) (hi : atI ds i = some d) (hs : PlainIx b := by exact fun _ _ => rfl) :
    Ev1 X M R ρ (.Subscript a b pos) s (.dat d) s2 := by
  intro σ H Q hσ hR q
  refine wE_of (pe_ix ix_list pe_w pe_w hs) ?_
  refine ha σ H _ hσ hR fun x H1 e1 R1 d1 => ?_
  refine hb σ H1 _ (hσ.ex e1) R1 fun y H2 e2 R2 d2 => ?_
  obtain ⟨p, xs, rfl, hq, hd⟩ := sv_lst (d1.ex e2)
  obtain ⟨v, hv, dv⟩ := atI_dv hd hi
  exact ⟨p, xs, i, v, rfl, sv_int d2, sq_of (ex_cut _ _ hq), hv, q v H2 (e1.trans e2) R2 dv⟩
/-- parts of a slice -/
def EvO1 {S : Type} (X : Cx) (M : List Addr) (R : S → Hp → Prop) (ρ : List Sl) (o : Option Expr) (s : S) (r : Option Int) (s' : S) : Prop :=
  match o with
  | none => r = none ∧ s' = s
  | some e => ∃ i, r = some i ∧ Ev1 X M R ρ e s (.dat (.int i)) s'
def cutD (xs : List PyData) (lo hi : Option Int) : List PyData := (xs.drop (HT.sIx xs.length 0 lo)).take (HT.sIx xs.length xs.length hi - HT.sIx xs.length 0 lo)
theorem cut_dv {K : PySem.W.Frag} {H : Hp} {xs : List V} {ds : List PyData} {lo hi : Option Int} (h : DvAll K H xs ds) : DvAll K H (cutV xs lo hi) (cutD ds lo hi) := by
  unfold cutV cutD
  rw [dpa_length h]
  exact dpa_take _ (dpa_drop _ h)
def tO (X : Cx) (M : List Addr) (o : Option Expr) : TO := match o with
  | none => tNoPart
  | some e => tPart (wE X e)
theorem po_w {o : Option Expr} : PO X o (tO X M o) := by
  cases o with
  | none => exact po_none
  | some e => exact po_some pe_w
theorem eo_use {o : Option Expr} {r : Option Int} (h : EvO1 X M R ρ o s r s1) : ∀ σ H (Q : Option Int → Hp → Prop), Slots X.K (cut M H) σ ρ → R s H → (∀ H2, Ex (cut M H) (cut M H2) → R s1 H2 → Q r H2) → tO X M o σ H Q := by
  intro σ H Q hσ hR q
  cases o with
  | none =>
    obtain ⟨rfl, rfl⟩ := h
    exact q H (exId _) hR
  | some e =>
    obtain ⟨i, rfl, h⟩ := h
    exact h σ H _ hσ hR fun v H1 e1 R1 d1 => ⟨i, sv_int d1, q H1 e1 R1⟩
theorem e_slT (g : Rg M R) {ds : List PyData} {lo hi : Option Expr} {rl rh : Option Int} {p2 : Pos} (ha : Ev1 X M R ρ a s (.dat (.tuple ds)) s1) (hl : EvO1 X M R ρ lo s1 rl s2) (hh : EvO1 X M R ρ hi s2 rh s3) :
    Ev1 X M R ρ (.Subscript a (.Slice lo hi none p2) pos) s (.dat (.tuple (cutD ds rl rh))) s3 := by
  intro σ H Q hσ hR q
  refine wE_of (pe_slice sl_tupA pe_w (po_w (M := M)) (po_w (M := M))) ?_
  refine ha σ H _ hσ hR fun x H1 e1 R1 d1 => ?_
  refine eo_use hl σ H1 _ (hσ.ex e1) R1 fun H2 e2 R2 => ?_
  refine eo_use hh σ H2 _ (hσ.ex (e1.trans e2)) R2 fun H3 e3 R3 => ?_
  obtain ⟨p, xs, rfl, hq, hd⟩ := sv_tup (d1.ex (e2.trans e3))
  have e13 := e1.trans (e2.trans e3)
  refine ⟨p, xs, rfl, ex_t ex_cut hq, fun hw => ?_, fun _ p' n => new_tup g R3 n (cut_dv hd) fun v H2 e2 R2 d2 => q v H2 (e13.trans e2) R2 d2⟩
  have ew : cutD ds rl rh = ds := by
    rw [dpa_length hd] at hw
    unfold cutD
    rw [hw.1, hw.2, Nat.sub_zero, List.drop_zero, List.take_length]
  rw [ew] at q
  exact q _ H3 e13 R3 (.tup hq hd)
theorem e_catT (g : Rg M R) {ds es : List PyData} (hz : ds.length + es.length ≤ 100000) (ha : Ev1 X M R ρ a s (.dat (.tuple ds)) s1) (hb : Ev1 X M R ρ b s1 (.dat (.tuple es)) s2) : Ev1 X M R ρ (.BinOp a .Add b pos) s (.dat (.tuple (ds ++ es))) s2 :=
  e_op op_catA ha hb fun x y H Q dx dy hR q => by
    obtain ⟨p, xs, rfl, hp, hd⟩ := sv_tup dx
    obtain ⟨p', ys, rfl, hp', hd'⟩ := sv_tup dy
    have l1 := dpa_length hd
    have l2 := dpa_length hd'
    refine ⟨p, p', xs, ys, rfl, rfl, ex_t ex_cut hp, ex_t ex_cut hp', by rw [l1, l2]; exact upd_sz hz, fun z => ?_, fun _ z => ?_, fun _ _ p n => new_tup g hR n (dpa_app hd hd') q⟩
    · subst z
      have e0 : ds = [] := List.eq_nil_of_length_eq_zero l1.symm
      subst e0
      exact q _ H (exId _) hR (.tup hp' hd')
    · subst z
      have e0 : es = [] := List.eq_nil_of_length_eq_zero l2.symm
      subst e0
      rw [List.append_nil] at q
      exact q _ H (exId _) hR (.tup hp hd)
theorem e_catL (g : Rg M R) {ds es : List PyData} (hz : ds.length + es.length ≤ 100000) (ha : Ev1 X M R ρ a s (.dat (.list ds)) s1) (hb : Ev1 X M R ρ b s1 (.dat (.list es)) s2) : Ev1 X M R ρ (.BinOp a .Add b pos) s (.dat (.list (ds ++ es))) s2 :=
  e_op op_cat ha hb fun x y H Q dx dy hR q => by
    obtain ⟨p, xs, rfl, hp, hd⟩ := sv_lst dx
    obtain ⟨p', ys, rfl, hp', hd'⟩ := sv_lst dy
    exact ⟨p, p', xs, ys, rfl, rfl, ex_cut _ _ hp, ex_cut _ _ hp', by rw [dpa_length hd, dpa_length hd']; exact upd_sz hz, fun p n => new_lst g hR n (dpa_app hd hd') q⟩
theorem dpa_rep {K : PySem.W.Frag} {H : Hp} {xs : List V} {ds : List PyData} (h : DvAll K H xs ds) : ∀ n : Nat, DvAll K H (List.replicate n xs).flatten (List.replicate n ds).flatten
  | 0 => .nil
  | n + 1 => by
    rw [List.replicate_succ, List.replicate_succ, List.flatten_cons, List.flatten_cons]
    exact dpa_app h (dpa_rep h n)
theorem e_repL (g : Rg M R) {ds : List PyData} {k : Int} (hk : k < 2 ^ 63) (h0 : -(2 ^ 63) ≤ k) (hz : ds.length * k.toNat ≤ 100000) (ha : Ev1 X M R ρ a s (.dat (.list ds)) s1) (hb : Ev1 X M R ρ b s1 (.dat (.int k)) s2) :
    Ev1 X M R ρ (.BinOp a .Mult b pos) s (.dat (.list (List.replicate k.toNat ds).flatten)) s2 :=
  e_op op_rep ha hb fun x y H Q dx dy hR q => by
    obtain ⟨p, xs, rfl, hp, hd⟩ := sv_lst dx
    exact ⟨p, k, xs, rfl, sv_int dy, ex_cut _ _ hp, h0, hk, by rw [dpa_length hd]; exact upd_sz hz, fun p n => new_lst g hR n (dpa_rep hd k.toNat) q⟩
/-! calls of what is built in -/
theorem e_callB {id : String} {r : List V → Hp → VK → Prop} {e : Expr} {x : Str} {px : Pos} {rc : Sl} (hc : CallR X (.builtin id) r) (hg : Gl X x) (hm : X.mg x = none) (hv : bootBuiltins x = some (.builtin id)) (ha : EvA1 X M R ρ (e :: es) s rs s1)
    (hr : ∀ vs H (Q : VK), SvAll X.K (cut M H) rs vs → R s1 H → (∀ v H2, Ex (cut M H) (cut M H2) → R s2 H2 → Sv X.K (cut M H2) rc v → Q v H2) → r vs H Q)
    (hn : x ≠ "__name__" := by decide) (hdb : (x == ("__debug__" : Str)) = false := by decide) (he : starEach (e :: es) X.env = (false, eval e X.env) :: starEach es X.env := by rfl) (hpl : (backTo pos (starEach es X.env)).any (·.1) = false := by rfl) :
    Ev1 X M R ρ (.Call (.Name x px) (e :: es) [] pos) s rc s2 := by
  intro σ H Q hσ hR q
  refine wE_of (pe_callB hc hg hm hv pa_w hn hdb he hpl) ?_
  exact ha σ H _ hσ hR fun vs H1 e1 R1 d1 => hr vs H1 Q d1 R1 fun v H2 e2 R2 d2 => q v H2 (e1.trans e2) R2 d2
theorem e_callTy {T : String} {r : List V → Hp → VK → Prop} {e : Expr} {x : Str} {px : Pos} {rc : Sl} (hc : CallR X (.type T) r) (hg : Gl X x) (hm : X.mg x = none) (hv : bootBuiltins x = some (.type T)) (ha : EvA1 X M R ρ (e :: es) s rs s1)
    (hr : ∀ vs H (Q : VK), SvAll X.K (cut M H) rs vs → R s1 H → (∀ v H2, Ex (cut M H) (cut M H2) → R s2 H2 → Sv X.K (cut M H2) rc v → Q v H2) → r vs H Q)
    (hn : x ≠ "__name__" := by decide) (hdb : (x == ("__debug__" : Str)) = false := by decide) (he : starEach (e :: es) X.env = (false, eval e X.env) :: starEach es X.env := by rfl) (hpl : (backTo pos (starEach es X.env)).any (·.1) = false := by rfl) :
    Ev1 X M R ρ (.Call (.Name x px) (e :: es) [] pos) s rc s2 := by
  intro σ H Q hσ hR q
  refine wE_of (pe_callTy hc hg hm hv pa_w hn hdb he hpl) ?_
  exact ha σ H _ hσ hR fun vs H1 e1 R1 d1 => hr vs H1 Q d1 R1 fun v H2 e2 R2 d2 => q v H2 (e1.trans e2) R2 d2
variable {e : Expr} {px : Pos}
theorem a1 {r : Sl} (h : Ev1 X M R ρ e s r s1) (hs : starEach [e] X.env = (false, eval e X.env) :: starEach [] X.env := by rfl) : EvA1 X M R ρ [e] s [r] s1 := a_cons h a_nil hs
theorem e_lenT {ds : List PyData} (hg : Gl X "len") (hm : X.mg "len" = none) (ha : EvA1 X M R ρ [e] s [(.dat (.tuple ds))] s1) (he : starEach [e] X.env = (false, eval e X.env) :: starEach [] X.env := by rfl) (hpl : (backTo pos (starEach [] X.env)).any (·.1) = false := by rfl) : Ev1 X M R ρ (.Call (.Name "len" px) [e] [] pos) s (.dat (.int ds.length)) s1 :=
  e_callB call_len_seq hg hm PySem.boot_len ha (fun vs H Q h hR q => by
    obtain ⟨v, rfl, h1⟩ := svall1 h
    obtain ⟨p, xs, rfl, hp, hd⟩ := sv_tup h1
    refine ⟨p, xs, rfl, .inr (ex_t ex_cut hp), ?_⟩
    rw [dpa_length hd]
    exact q _ H (exId _) hR (.int _)) (by decide) (by decide) he hpl
theorem e_lenL {ds : List PyData} (hg : Gl X "len") (hm : X.mg "len" = none) (ha : EvA1 X M R ρ [e] s [(.dat (.list ds))] s1) (he : starEach [e] X.env = (false, eval e X.env) :: starEach [] X.env := by rfl) (hpl : (backTo pos (starEach [] X.env)).any (·.1) = false := by rfl) : Ev1 X M R ρ (.Call (.Name "len" px) [e] [] pos) s (.dat (.int ds.length)) s1 :=
  e_callB call_len_seq hg hm PySem.boot_len ha (fun vs H Q h hR q => by
    obtain ⟨v, rfl, h1⟩ := svall1 h
    obtain ⟨p, xs, rfl, hp, hd⟩ := sv_lst h1
    refine ⟨p, xs, rfl, .inl (sq_of (ex_cut _ _ hp)), ?_⟩
    rw [dpa_length hd]
    exact q _ H (exId _) hR (.int _)) (by decide) (by decide) he hpl
theorem e_max2 {e' : Expr} {i j : Int} (hc : X.calm = true) (hg : Gl X "max") (hm : X.mg "max" = none) (ha : EvA1 X M R ρ [e, e'] s [.dat (.int i), .dat (.int j)] s2) (he : starEach [e, e'] X.env = (false, eval e X.env) :: starEach [e'] X.env := by rfl) (hpl : (backTo pos (starEach [e'] X.env)).any (·.1) = false := by rfl) :
    Ev1 X M R ρ (.Call (.Name "max" px) [e, e'] [] pos) s (.dat (.int (if j > i then j else i))) s2 :=
  e_callB (call_max2 hc) hg hm boot_max ha (fun vs H Q h hR q => by
    obtain ⟨v, w, rfl, h1, h2⟩ := svall2 h
    exact ⟨i, j, by rw [sv_int h1, sv_int h2], q _ H (exId _) hR (.int _)⟩) (by decide) (by decide) he hpl
theorem e_all {bs : List Bool} (hc : X.calm = true) (hg : Gl X "all") (hm : X.mg "all" = none) (ha : EvA1 X M R ρ [e] s [(.dat (.list (bs.map .bool)))] s1) (he : starEach [e] X.env = (false, eval e X.env) :: starEach [] X.env := by rfl) (hpl : (backTo pos (starEach [] X.env)).any (·.1) = false := by rfl) : Ev1 X M R ρ (.Call (.Name "all" px) [e] [] pos) s (.dat (.bool (bs.all id))) s1 :=
  e_callB (cr_all hc) hg hm (by decide +kernel) ha (fun vs H Q h hR q => by
    obtain ⟨v, rfl, h1⟩ := svall1 h
    obtain ⟨p, xs, rfl, hp, hd⟩ := sv_lst h1
    rw [dpa_bools hd] at hp
    exact ⟨p, bs, rfl, sq_of (ex_cut _ _ hp), q _ H (exId _) hR (.bl _)⟩) (by decide) (by decide) he hpl
theorem e_any {bs : List Bool} (hc : X.calm = true) (hg : Gl X "any") (hm : X.mg "any" = none) (ha : EvA1 X M R ρ [e] s [(.dat (.list (bs.map .bool)))] s1) (he : starEach [e] X.env = (false, eval e X.env) :: starEach [] X.env := by rfl) (hpl : (backTo pos (starEach [] X.env)).any (·.1) = false := by rfl) : Ev1 X M R ρ (.Call (.Name "any" px) [e] [] pos) s (.dat (.bool (bs.any id))) s1 :=
  e_callB (cr_any hc) hg hm (by decide +kernel) ha (fun vs H Q h hR q => by
    obtain ⟨v, rfl, h1⟩ := svall1 h
    obtain ⟨p, xs, rfl, hp, hd⟩ := sv_lst h1
    rw [dpa_bools hd] at hp
    exact ⟨p, bs, rfl, sq_of (ex_cut _ _ hp), q _ H (exId _) hR (.bl _)⟩) (by decide) (by decide) he hpl
theorem e_sum {ns : List Int} (hc : X.calm = true) (hg : Gl X "sum") (hm : X.mg "sum" = none) (ha : EvA1 X M R ρ [e] s [(.dat (.list (ns.map .int)))] s1) (he : starEach [e] X.env = (false, eval e X.env) :: starEach [] X.env := by rfl) (hpl : (backTo pos (starEach [] X.env)).any (·.1) = false := by rfl) : Ev1 X M R ρ (.Call (.Name "sum" px) [e] [] pos) s (.dat (.int ns.sum)) s1 :=
  e_callB (cr_sum hc) hg hm (by decide +kernel) ha (fun vs H Q h hR q => by
    obtain ⟨v, rfl, h1⟩ := svall1 h
    obtain ⟨p, xs, rfl, hp, hd⟩ := sv_lst h1
    rw [dpa_ints hd] at hp
    exact ⟨p, ns, rfl, sq_of (ex_cut _ _ hp), q _ H (exId _) hR (.int _)⟩) (by decide) (by decide) he hpl
theorem e_tupleL (g : Rg M R) {ds : List PyData} (hg : Gl X "tuple") (hm : X.mg "tuple" = none) (ha : EvA1 X M R ρ [e] s [(.dat (.list ds))] s1) (he : starEach [e] X.env = (false, eval e X.env) :: starEach [] X.env := by rfl) (hpl : (backTo pos (starEach [] X.env)).any (·.1) = false := by rfl) : Ev1 X M R ρ (.Call (.Name "tuple" px) [e] [] pos) s (.dat (.tuple ds)) s1 :=
  e_callTy call_tuple_of hg hm (by decide +kernel) ha (fun vs H Q h hR q => by
    obtain ⟨v, rfl, h1⟩ := svall1 h
    obtain ⟨p, xs, rfl, hp, hd⟩ := sv_lst h1
    exact ⟨p, xs, rfl, .inl ⟨sq_of (ex_cut _ _ hp), fun l n => new_tup g hR n hd q⟩⟩) (by decide) (by decide) he hpl
theorem e_listL (g : Rg M R) {ds : List PyData} (hg : Gl X "list") (hm : X.mg "list" = none) (ha : EvA1 X M R ρ [e] s [(.dat (.list ds))] s1) (he : starEach [e] X.env = (false, eval e X.env) :: starEach [] X.env := by rfl) (hpl : (backTo pos (starEach [] X.env)).any (·.1) = false := by rfl) : Ev1 X M R ρ (.Call (.Name "list" px) [e] [] pos) s (.dat (.list ds)) s1 :=
  e_callTy call_list_of hg hm (by decide +kernel) ha (fun vs H Q h hR q => by
    obtain ⟨v, rfl, h1⟩ := svall1 h
    obtain ⟨p, xs, rfl, hp, hd⟩ := sv_lst h1
    exact ⟨p, xs, rfl, .inl (sq_of (ex_cut _ _ hp)), fun l n => new_lst g hR n hd q⟩) (by decide) (by decide) he hpl
theorem e_listT (g : Rg M R) {ds : List PyData} (hg : Gl X "list") (hm : X.mg "list" = none) (ha : EvA1 X M R ρ [e] s [(.dat (.tuple ds))] s1) (he : starEach [e] X.env = (false, eval e X.env) :: starEach [] X.env := by rfl) (hpl : (backTo pos (starEach [] X.env)).any (·.1) = false := by rfl) : Ev1 X M R ρ (.Call (.Name "list" px) [e] [] pos) s (.dat (.list ds)) s1 :=
  e_callTy call_list_of hg hm (by decide +kernel) ha (fun vs H Q h hR q => by
    obtain ⟨v, rfl, h1⟩ := svall1 h
    obtain ⟨p, xs, rfl, hp, hd⟩ := sv_tup h1
    exact ⟨p, xs, rfl, .inr (ex_t ex_cut hp), fun l n => new_lst g hR n hd q⟩) (by decide) (by decide) he hpl
theorem e_intB {k : Bool} (hg : Gl X "int") (hm : X.mg "int" = none) (ha : EvA1 X M R ρ [e] s [(.dat (.bool k))] s1) (he : starEach [e] X.env = (false, eval e X.env) :: starEach [] X.env := by rfl) (hpl : (backTo pos (starEach [] X.env)).any (·.1) = false := by rfl) : Ev1 X M R ρ (.Call (.Name "int" px) [e] [] pos) s (.dat (.int (if k then 1 else 0))) s1 :=
  e_callTy call_int1 hg hm (by decide +kernel) ha (fun vs H Q h hR q => by
    obtain ⟨v, rfl, h1⟩ := svall1 h
    exact .inr ⟨k, by rw [sv_bl h1], q _ H (exId _) hR (.int _)⟩) (by decide) (by decide) he hpl
end
end DV
namespace DV
open PySem PySem.Spec L2 Evl
open PyProof.Rows hiding St
/-! ### isinstance -/
def dTy : PyData → String
  | .none => "NoneType"
  | .bool _ => "bool"
  | .int _ => "int"
  | .str _ => "str"
  | .list _ => "list"
  | .tuple _ => "tuple"
  | .dict _ => "dict"
theorem ty_of {K : PySem.W.Frag} {H : Hp} {d : PyData} {v : V} (h : Dv K H v d) : TyX K H v (.type (dTy d)) := by
  cases h with
  | non => exact .base .non
  | bl b => exact .base (.bl b)
  | int i => exact .base (.int i)
  | str x => exact .base (.str x)
  | lst a b => exact .base (.lst a)
  | tup a b =>
    rcases a with (a | ⟨o, a⟩) | ⟨o, its, n, l, c, _⟩
    · exact .base (.tup a)
    · exact .fTuple a
    · exact .kTuple l c
theorem tyx_ex {K : PySem.W.Frag} {H H' : Hp} {v : V} {t : Value} (e : Ex H H') (h : TyX K H v t) : TyX K H' v t := by
  cases h with
  | base b =>
    cases b with
    | non => exact .base .non
    | bl b => exact .base (.bl b)
    | int i => exact .base (.int i)
    | str x => exact .base (.str x)
    | flt x => exact .base (.flt x)
    | lst a => exact .base (.lst (e _ _ a))
    | frz a => exact .base (.frz (e _ _ a))
    | tup a => exact .base (.tup (e _ _ a))
    | dK a => exact .base (.dK (e _ _ a))
    | dT a => exact .base (.dT (e _ _ a))
    | ins a b c d f g => exact .base (.ins (e _ _ a) b c d f g)
  | byt b => exact .byt b
  | set a => exact .set (e _ _ a)
  | kList a b => exact .kList a b
  | kTuple a b => exact .kTuple a b
  | kDict a b => exact .kDict a b
  | fTuple a => exact .fTuple (e _ _ a)
  | fDict a => exact .fDict (e _ _ a)
section
variable {S : Type} {X : Cx} {M : List Addr} {R : S → Hp → Prop} {ρ : List Sl} {s s1 s2 s3 : S} {a b c : Expr} {es : List Expr} {pos : Pos} {rs : List Sl} {e e' : Expr} {px : Pos}
theorem e_isi {d : PyData} {T : String} {k : Bool} (hg : Gl X "isinstance") (hm : X.mg "isinstance" = none) (hk : kitB (dTy d) T = some k) (ha : EvA1 X M R ρ [e, e'] s [.dat d, .raw (.ty T)] s1)
    (he : starEach [e, e'] X.env = (false, eval e X.env) :: starEach [e'] X.env := by rfl) (hpl : (backTo pos (starEach [e'] X.env)).any (·.1) = false := by rfl) :
    Ev1 X M R ρ (.Call (.Name "isinstance" px) [e, e'] [] pos) s (.dat (.bool k)) s1 :=
  e_callB call_isi hg hm boot_isinstance ha (fun vs H Q h hR q => by
    obtain ⟨v, w, rfl, h1, h2⟩ := svall2 h
    have h2 : w = .ty T := h2
    subst h2
    exact ⟨v, .ty T, .type (dTy d), .type T, k, rfl, .ty T, tyx_ex ex_cut (ty_of h1), kit_ty hk, q _ H (exId _) hR (.bl _)⟩) (by decide) (by decide) he hpl
end
/-! ### what is walked -/
def Src (K : PySem.W.Frag) (M : List Addr) (J : It) (n : Nat) (it : Nat → Sl) (H1 : Hp) : Prop :=
  ∃ G : Hp → Prop, (∀ H2, Ex (cut M H1) (cut M H2) → G H2) ∧ Walk J n G fun i H x H' => ∀ M', cut M' H1 = cut M H1 → (∀ a ∈ M', ∃ o, H a = some o) → Ex (cut M' H1) (cut M' H) → Ex H H' ∧ Sv K (cut M' H') (it i) x
def EvI1 {S : Type} (X : Cx) (M : List Addr) (R : S → Hp → Prop) (ρ : List Sl) (tg iter : Expr) (s : S) (n : Nat) (it : Nat → Sl) (s' : S) : Prop :=
  ∃ wi, PI X tg iter wi ∧ ∀ σ H (k : It → Hp → Prop), Slots X.K (cut M H) σ ρ → R s H → (∀ J H1, Ex (cut M H) (cut M H1) → R s' H1 → Src X.K M J n it H1 → k J H1) → wi σ H k
def itD (ds : List PyData) (i : Nat) : Sl := match ds[i]? with
  | some d => .dat d
  | none => .any
theorem sv_itD {K : PySem.W.Frag} {H : Hp} {xs : List V} {ds : List PyData} {i : Nat} {x : V} (h : DvAll K H xs ds) (hx : xs[i]? = some x) : Sv K H (itD ds i) x := by
  obtain ⟨d, e, h⟩ := dpa_get h hx
  unfold itD
  rw [e]
  exact h
section
variable {S : Type} {X : Cx} {M : List Addr} {R : S → Hp → Prop} {ρ : List Sl} {s s1 s2 : S} {tg e e' : Expr} {px pos : Pos}
theorem i_list {ds : List PyData} (h : Ev1 X M R ρ e s (.dat (.list ds)) s1) : EvI1 X M R ρ tg e s ds.length (itD ds) s1 := by
  refine ⟨_, pi_list pe_w, fun σ H k hσ hR q => ?_⟩
  refine h σ H _ hσ hR fun v H1 e1 R1 d1 => ?_
  obtain ⟨a, xs, rfl, ha, hd⟩ := sv_lst d1
  refine ⟨a, rfl, ⟨xs, sq_of (ex_cut _ _ ha)⟩, q _ H1 e1 R1 ⟨fun H => SqL X.K H a xs, fun H2 e2 => sq_of (ex_cut _ _ (e2 _ _ ha)), ?_⟩⟩
  rw [← dpa_length hd]
  refine walk_list.mono (fun _ h => h) fun i H2 x H' _ _ ⟨e, hx⟩ M' em dm e2 => ?_
  subst e
  rw [← em] at hd
  exact ⟨exId _, sv_itD (dpa_ex e2 ds xs hd) hx⟩
theorem i_tup {ds : List PyData} (h : Ev1 X M R ρ e s (.dat (.tuple ds)) s1) : EvI1 X M R ρ tg e s ds.length (itD ds) s1 := by
  refine ⟨_, pi_tup pe_w, fun σ H k hσ hR q => ?_⟩
  refine h σ H _ hσ hR fun v H1 e1 R1 d1 => ?_
  obtain ⟨a, xs, rfl, ha, hd⟩ := sv_tup d1
  refine ⟨a, rfl, ⟨xs, ex_t ex_cut ha⟩, q _ H1 e1 R1 ⟨fun H => SqT X.K H a xs, fun H2 e2 => ex_t ex_cut (ex_t e2 ha), ?_⟩⟩
  rw [← dpa_length hd]
  refine walk_tup.mono (fun _ h => h) fun i H2 x H' _ _ ⟨e, hx⟩ M' em dm e2 => ?_
  subst e
  rw [← em] at hd
  exact ⟨exId _, sv_itD (dpa_ex e2 ds xs hd) hx⟩
theorem i_rng {n : Int} (hg : Gl X "range") (hm : X.mg "range" = none) (hn : n < 2 ^ 62) (h0 : -(2 ^ 62) ≤ n) (h : EvA1 X M R ρ [e] s [.dat (.int n)] s1) (hs : starEach [e] X.env = [(false, eval e X.env)] := by rfl) :
    EvI1 X M R ρ tg (.Call (.Name "range" px) [e] [] pos) s n.toNat (fun i => .dat (.int i)) s1 := by
  refine ⟨_, pi_range1 hg hm pa_w hs, fun σ H k hσ hR q => ?_⟩
  refine h σ H _ hσ hR fun vs H1 e1 R1 d1 => ?_
  obtain ⟨v, rfl, d2⟩ := svall1 d1
  refine ⟨n, by rw [sv_int d2], h0, hn, q _ H1 e1 R1 ⟨fun _ => True, fun _ _ => trivial, ?_⟩⟩
  refine walk_range.mono (fun _ h => h) fun i H2 x H' _ _ ⟨e, hx⟩ M' em dm e2 => ?_
  subst e
  subst hx
  refine ⟨exId _, ?_⟩
  show Dv X.K _ (.int (0 + (i : Int))) (.int (i : Int))
  rw [Int.zero_add]
  exact Dv.int _
/-- the pairs of two sequences -/
def itZ (xs ys : List PyData) (i : Nat) : Sl := match xs[i]?, ys[i]? with
  | some x, some y => .dat (.tuple [x, y])
  | _, _ => .any
theorem i_zipT {elts : List Expr} {kk : Nat} {tpos : Pos} {xs ys : List PyData} (hg : Gl X "zip") (hm : X.mg "zip" = none) (hl : xs.length = ys.length) (h : EvA1 X M R ρ [e, e'] s [.dat (.tuple xs), .dat (.tuple ys)] s1)
    (hs : starEach [e, e'] X.env = (false, eval e X.env) :: starEach [e'] X.env := by rfl) (hpl : (backTo pos (starEach [e'] X.env)).any (·.1) = false := by rfl) :
    EvI1 X M R ρ (.Tuple elts kk tpos) (.Call (.Name "zip" px) [e, e'] [] pos) s xs.length (itZ xs ys) s1 := by
  refine ⟨_, RZ.pi_zipA hg hm pa_w hs hpl, fun σ H k hσ hR q => ?_⟩
  refine h σ H _ hσ hR fun vs H1 e1 R1 d1 => ?_
  obtain ⟨v, w, rfl, d1, d2⟩ := svall2 d1
  obtain ⟨a, us, rfl, ha, hd⟩ := sv_tup d1
  obtain ⟨b, ws, rfl, hb, hd'⟩ := sv_tup d2
  have l1 := dpa_length hd
  have l2 := dpa_length hd'
  refine ⟨a, b, us, ws, rfl, .inr ⟨ex_t ex_cut ha, ex_t ex_cut hb, q _ H1 e1 R1 ⟨fun H => SqT X.K H a us ∧ SqT X.K H b ws, fun H2 e2 => ⟨ex_t ex_cut (ex_t e2 ha), ex_t ex_cut (ex_t e2 hb)⟩, ?_⟩⟩⟩
  refine ⟨fun i H2 hi hG => ?_, fun H2 hG => ?_, fun i H2 x H' hi hG hy => ?_⟩
  · have hi1 : i < us.length := by omega
    have hi2 : i < ws.length := by omega
    exact ⟨us, ws, us[i], ws[i], hG.1, hG.2, List.getElem?_eq_getElem hi1, List.getElem?_eq_getElem hi2⟩
  · exact ⟨us, ws, hG.1, hG.2, .inl (by omega)⟩
  · intro M' em dm e2
    obtain ⟨T, x', y', rfl, hT, rfl, f1, f2⟩ := hy
    have hx := f1 us hG.1
    have hy := f2 ws hG.2
    have hTM : T ∉ M' := fun m => by
      obtain ⟨o, eo⟩ := dm T m
      rw [hT] at eo
      cases eo
    rw [← em] at hd hd'
    obtain ⟨d1, g1, h1⟩ := dpa_get (dpa_ex e2 _ _ hd) hx
    obtain ⟨d2, g2, h2⟩ := dpa_get (dpa_ex e2 _ _ hd') hy
    refine ⟨Ex.new hT, ?_⟩
    unfold itZ
    rw [g1, g2]
    have ee : Ex (cut M' H2) (cut M' (upd H2 T (.tup [x', y']))) := exCut (Ex.new hT)
    exact Dv.tup (st_of (cut_upd hTM)) (.cons (dp_ex ee _ _ h1) (.cons (dp_ex ee _ _ h2) .nil))
end
/-! ### list comprehensions -/
def wipeR (ρ : List Sl) : List Nat → List Sl
  | [] => ρ
  | v :: vs => (wipeR ρ vs).set v .any
theorem slots_wipe {K : PySem.W.Frag} {H : Hp} {σ : St} {ρ : List Sl} (h : Slots K H σ ρ) : ∀ vs : List Nat, Slots K H (wipe σ vs) (wipeR ρ vs)
  | [] => h
  | v :: vs => (slots_wipe h vs).unset v
theorem wipe_set {i : Nat} {o : Option V} : ∀ {vs : List Nat} {σ : St}, i ∈ vs → wipe (σ.set i o) vs = wipe σ vs
  | [], _, h => by simp at h
  | v :: vs, σ, h => by
    show (wipe (σ.set i o) vs).set v none = (wipe σ vs).set v none
    by_cases hv : i ∈ vs
    · rw [wipe_set hv]
    · have e : i = v := by
        rcases List.mem_cons.mp h with h | h
        · exact h
        · exact absurd h hv
      subst e
      have q : ∀ (ws : List Nat) (τ : St), i ∉ ws → wipe (τ.set i o) ws = (wipe τ ws).set i o := by
        intro ws
        induction ws with
        | nil => intro τ _; rfl
        | cons w ws ih =>
          intro τ hn
          have hw : i ≠ w := fun e => hn (by rw [e]; exact List.mem_cons_self)
          show (wipe (τ.set i o) ws).set w none = ((wipe τ ws).set w none).set i o
          rw [ih τ fun z => hn (List.mem_cons_of_mem _ z), List.set_comm _ _ hw]
      rw [q vs σ hv, List.set_set]
theorem wipe_wipe : ∀ {vs : List Nat} {σ : St}, wipe (wipe σ vs) vs = wipe σ vs := by
  intro vs
  have key : ∀ (ws vs : List Nat) (σ : St), (∀ w ∈ ws, w ∈ vs) → wipe (wipe σ ws) vs = wipe σ vs := by
    intro ws
    induction ws with
    | nil => intro vs σ _; rfl
    | cons w ws ih =>
      intro vs σ h
      show wipe ((wipe σ ws).set w none) vs = wipe σ vs
      rw [wipe_set (h w List.mem_cons_self), ih vs σ fun x hx => h x (List.mem_cons_of_mem _ hx)]
  intro σ
  exact key vs vs σ fun _ h => h
/-- the heap without D -/
def rem (D : Addr) (H : Hp) : Hp := fun a => if a = D then none else H a
theorem rem_ne {D a : Addr} {H : Hp} (h : a ≠ D) : rem D H a = H a := if_neg h
theorem rem_self {D : Addr} {H : Hp} : rem D H D = none := if_pos rfl
theorem rem_some {D a : Addr} {H : Hp} {o : HO} (h : rem D H a = some o) : a ≠ D ∧ H a = some o := by
  by_cases e : a = D
  · subst e; rw [rem_self] at h; cases h
  · rw [rem_ne e] at h; exact ⟨e, h⟩
theorem rem_ex {D : Addr} {H H' : Hp} (e : Ex H H') : Ex (rem D H) (rem D H') := fun a o h => by
  obtain ⟨n, q⟩ := rem_some h
  rw [rem_ne n]
  exact e a o q
theorem ex_rem {D : Addr} {H : Hp} : Ex (rem D H) H := fun a o h => (rem_some h).2
theorem rem_upd {D : Addr} {H : Hp} {o : HO} : rem D (upd H D o) = rem D H := by
  funext a
  by_cases e : a = D
  · subst e; rw [rem_self, rem_self]
  · rw [rem_ne e, rem_ne e, upd_ne e]
theorem rem_free {D : Addr} {H : Hp} (h : H D = none) : rem D H = H := by
  funext a
  by_cases e : a = D
  · subst e; rw [rem_self, h]
  · rw [rem_ne e]
/-- the state with the growing list at D beside -/
def RD {S : Type} (R : S → Hp → Prop) (D : Addr) (acc : List V) : S → Hp → Prop := fun s H => R s (rem D H) ∧ H D = some (.lst acc)
theorem RD.rg {S : Type} {M : List Addr} {R : S → Hp → Prop} (g : Rg M R) (D : Addr) (acc : List V) : Rg (D :: M) (RD R D acc) :=
  ⟨fun ⟨h, d⟩ e => ⟨g.up h (rem_ex e), e _ _ d⟩, fun ⟨h, d⟩ m => by
    rcases List.mem_cons.mp m with e | m
    · subst e; exact ⟨_, d⟩
    · obtain ⟨o, q⟩ := g.dom h m
      exact ⟨o, (rem_some q).2⟩⟩
theorem cut_cons {M : List Addr} {H : Hp} {D : Addr} : Ex (cut (D :: M) H) (cut M H) := fun a o h => by
  obtain ⟨n, e⟩ := cut_some h
  rw [cut_out fun z => n (List.mem_cons_of_mem _ z)]
  exact e
theorem cut_cons_none {M : List Addr} {H : Hp} {D : Addr} (h : H D = none) : cut (D :: M) H = cut M H := by
  funext a
  by_cases e : a = D
  · subst e
    rw [cut_in List.mem_cons_self]
    by_cases m : a ∈ M
    · rw [cut_in m]
    · rw [cut_out m, h]
  · by_cases m : a ∈ M
    · rw [cut_in m, cut_in (List.mem_cons_of_mem _ m)]
    · rw [cut_out m, cut_out fun z => (List.mem_cons.mp z).elim e m]
theorem ex_cut_back {M : List Addr} {H H' : Hp} {D : Addr} (h : H D = none) (e : Ex (cut M H) (cut M H')) : Ex (cut (D :: M) H) (cut (D :: M) H') := fun a o ha => by
  obtain ⟨n, q⟩ := cut_some ha
  have hM : a ∉ M := fun z => n (List.mem_cons_of_mem _ z)
  have := e a o (by rw [cut_out hM]; exact q)
  rw [cut_out n]
  rw [cut_out hM] at this
  exact this
theorem cut_upd_in {M : List Addr} {H : Hp} {D : Addr} {o : HO} (h : D ∈ M) : cut M (upd H D o) = cut M H := by
  funext a
  by_cases m : a ∈ M
  · rw [cut_in m, cut_in m]
  · rw [cut_out m, cut_out m, upd_ne fun e => m (by rw [e]; exact h)]
/-- what a target does of a value -/
def Tg1 (K : PySem.W.Frag) (g : TG) (vs : List Nat) (ρ : List Sl) (r : Sl) (ρ' : List Sl) : Prop :=
  ∀ (M : List Addr) (σ : St) (H : Hp) (v : V) (Q : St → Hp → Prop), Slots K (cut M H) σ ρ → Sv K (cut M H) r v → (∀ σ2, Slots K (cut M H) σ2 ρ' → wipe σ2 vs = wipe σ vs → Q σ2 H) → g v σ H Q
theorem tg_name {K : PySem.W.Frag} {i : Nat} {vs : List Nat} {ρ : List Sl} {r : Sl} (hi : i ∈ vs) : Tg1 K (gName i) vs ρ r (ρ.set i r) := fun M σ H v Q hσ hv q => q _ (Slots.set hv i hσ) (wipe_set hi)
/-- a, b = a pair -/
theorem tg_pair {K : PySem.W.Frag} {i j : Nat} {vs : List Nat} {ρ : List Sl} {d1 d2 : PyData} (hi : i ∈ vs) (hj : j ∈ vs) :
    Tg1 K (gTup K 2 (gCons (gName i) (gCons (gName j) gNil))) vs ρ (.dat (.tuple [d1, d2])) ((ρ.set i (.dat d1)).set j (.dat d2)) := fun M σ H v Q hσ hv q => by
  obtain ⟨a, xs, rfl, ha, hd⟩ := sv_tup hv
  cases hd with
  | cons h1 h2 =>
    cases h2 with
    | cons h2 h3 =>
      cases h3
      refine ⟨a, _, rfl, ex_t ex_cut ha, rfl, _, _, rfl, _, _, rfl, rfl, ?_⟩
      exact q _ (Slots.set (r := .dat d2) h2 j (Slots.set (r := .dat d1) h1 i hσ)) ((wipe_set hj).trans (wipe_set hi))
section
variable {S : Type} {X : Cx} {M : List Addr} {R : S → Hp → Prop} {ρ : List Sl} {s : S}
/-- the contexts of a comprehension's block -/
abbrev Bk (X : Cx) (scope : Scope) (sh : Shared) (Hh : Hp) (C : Addr) (cl : List (Str × Addr)) (fp : List Addr) : Cx := X.blk sh Hh scope (compEnvC scope cl C X.env) fp
def wbE (X : Cx) (scope : Scope) (e : Expr) : TE := fun σ H Q => ∀ sh Hh C cl fp, wE (Bk X scope sh Hh C cl fp) e σ H Q
def wbT (X : Cx) (scope : Scope) (ifs : List Expr) : TT := match ifs with
  | [] => tYes
  | [c] => fun σ H Q => ∀ sh Hh C cl fp, wT (Bk X scope sh Hh C cl fp) c σ H Q
  | _ => fun _ _ _ => False
/-- one turn: the test and the item -/
def Lc1 (X : Cx) (scope : Scope) (M : List Addr) (R : S → Hp → Prop) (ρ : List Sl) (ifs : List Expr) (elt : Expr) (s : S) (o o' : List PyData) (s' : S) : Prop :=
  ∀ D acc, Rg (D :: M) (RD R D acc) → ∃ (b : Bool) (s1 : S),
    (match ifs with
      | [] => b = true ∧ s1 = s
      | [c] => ∀ sh Hh C cl fp, EvT1 (Bk X scope sh Hh C cl fp) (D :: M) (RD R D acc) ρ c s b s1
      | _ => False) ∧
    (b = true → ∃ d, o' = o ++ [d] ∧ ∀ sh Hh C cl fp, Ev1 (Bk X scope sh Hh C cl fp) (D :: M) (RD R D acc) ρ elt s1 (.dat d) s') ∧ (b = false → o' = o ∧ s' = s1)
theorem e_lc (g : Rg M R) {elt tg iter : Expr} {ifs : List Expr} {scope : Scope} {own : List (Str × Nat)} {pos : Pos} {gt : TG} {n : Nat} {it : Nat → Sl} {ss : Nat → S} {outs : Nat → List PyData} (hc : X.calm = true) (hN : X.N.Nodup)
    (ok : BlkOk X.N X.env.scope scope own) (hg : ∀ sh Hh C cl fp, PG (Bk X scope sh Hh C cl fp) tg gt) (hi : EvI1 X M R ρ tg iter s n it (ss 0)) (h0 : outs 0 = []) (hz : ∀ i, i < n → (outs i).length < 100000)
    (hs : ∀ i, i < n → ∃ ρ', Tg1 X.K gt (own.map (·.2)) (wipeR ρ (own.map (·.2))) (it i) ρ' ∧ Lc1 X scope M R ρ' ifs elt (ss i) (outs i) (outs (i + 1)) (ss (i + 1)))
    (hfs : ∀ x, foldedSetIterable iter X.env x = pure x := by intro _; rfl) :
    Ev1 X M R ρ (.ListComp elt [⟨tg, iter, ifs, 0⟩] scope pos) s (.dat (.list (outs n))) (ss n) := by
  intro σ H Q hσ hR q
  obtain ⟨wi, pwi, hwi⟩ := hi
  have pts : ∀ (sh : Shared) (Hh : Hp) (C : Addr) (cl : List (Str × Addr)) (fp : List Addr), PTs (Bk X scope sh Hh C cl fp) ifs (wbT X scope ifs) := by
    intro sh Hh C cl fp
    match ifs with
    | [] => exact pts_nil
    | [c] => exact pts_one ⟨fun pins s σ H Q I h => h sh Hh C cl fp pins s I⟩
    | _ :: _ :: _ => exact ⟨fun pins s σ H Q I h => h.elim⟩
  refine wE_of (pe_lc (te := wbE X scope elt) (tt := wbT X scope ifs) (g := gt) (own := own) hc hN pwi ok hg pts (fun sh Hh C cl fp => ⟨fun pins s σ H Q I h => h sh Hh C cl fp pins s I⟩) hfs) ?_
  refine hwi σ H _ hσ hR fun J H1 e1 R1 hsrc D nD => ?_
  obtain ⟨G, hG, w⟩ := hsrc
  have hDM : D ∉ M := g.fresh R1 nD
  refine lc_it w (fun i H' => R (ss i) (rem D H') ∧ Ex (cut M H1) (cut M H') ∧ ∃ acc, H' D = some (.lst acc) ∧ DvAll X.K (cut (D :: M) H') acc (outs i)) ?_ (fun i H' _ ⟨_, e, _⟩ => hG H' e) ?_ ?_
  · refine ⟨by rw [rem_upd, rem_free nD]; exact R1, exCut (Ex.new nD), [], upd_same, ?_⟩
    rw [h0]
    exact .nil
  · intro i x H2 H' hi ⟨R2, e2, acc, hD, hacc⟩ hy
    obtain ⟨ρ', ht, hl⟩ := hs i hi
    have gD := RD.rg g D acc
    have RD2 : RD R D acc (ss i) H2 := ⟨R2, hD⟩
    obtain ⟨eH, sx⟩ := hy (D :: M) (cut_cons_none nD) (fun a m => gD.dom RD2 m) (ex_cut_back nD e2)
    have RD3 : RD R D acc (ss i) H' := gD.up RD2 eH
    have e12 : Ex (cut M H1) (cut M H') := e2.trans (exCut eH)
    have hσ' : Slots X.K (cut (D :: M) H') (wipe σ (own.map (·.2))) (wipeR ρ (own.map (·.2))) := by
      have := slots_wipe hσ (own.map (·.2))
      refine Slots.ex ?_ this
      have ee : Ex (cut M H) (cut (D :: M) H1) := by
        rw [cut_cons_none nD]
        exact e1
      exact ee.trans (ex_cut_back nD e12)
    refine ht (D :: M) _ H' x _ hσ' sx fun σ2 hσ2 hw2 => ?_
    refine ⟨hw2.trans wipe_wipe, ?_⟩
    have hacc' : DvAll X.K (cut (D :: M) H') acc (outs i) := dpa_ex (exCut eH) _ _ hacc
    obtain ⟨b, s1, hb, hb1, hb0⟩ := hl D acc gD
    have fin : ∀ H3, Ex (cut (D :: M) H') (cut (D :: M) H3) → RD R D acc s1 H3 → (if b = true then wbE X scope elt σ2 H3 fun y H4 => ∃ acc, H4 D = some (.lst acc) ∧ acc.length < sizeLine ∧
        (R (ss (i + 1)) (rem D (upd H4 D (.lst (acc ++ [y])))) ∧ Ex (cut M H1) (cut M (upd H4 D (.lst (acc ++ [y])))) ∧ ∃ acc', upd H4 D (.lst (acc ++ [y])) D = some (.lst acc') ∧ DvAll X.K (cut (D :: M) (upd H4 D (.lst (acc ++ [y])))) acc' (outs (i + 1)))
        else (R (ss (i + 1)) (rem D H3) ∧ Ex (cut M H1) (cut M H3) ∧ ∃ acc, H3 D = some (.lst acc) ∧ DvAll X.K (cut (D :: M) H3) acc (outs (i + 1)))) := by
      intro H3 e3 R3
      have back : ∀ {H5 : Hp}, Ex (cut (D :: M) H') (cut (D :: M) H5) → Ex (cut M H1) (cut M H5) := fun {H5} e a o ha => by
        have hne : a ≠ D := fun z => by
          rw [z] at ha
          rw [(cut_some ha).2] at nD
          cases nD
        have hM := (cut_some ha).1
        have q1 := e12 a o ha
        have n2 : a ∉ D :: M := fun z => (List.mem_cons.mp z).elim hne hM
        have q2 := e a o (by rw [cut_out n2]; rw [cut_out hM] at q1; exact q1)
        rw [cut_out hM]
        rw [cut_out n2] at q2
        exact q2
      cases b with
      | true =>
        rw [if_pos rfl]
        obtain ⟨d, eo, he⟩ := hb1 rfl
        intro sh Hh C cl fp
        refine he sh Hh C cl fp σ2 H3 _ (hσ2.ex e3) R3 fun y H4 e4 R4 d4 => ?_
        have la : acc.length = (outs i).length := dpa_length hacc
        refine ⟨acc, R4.2, by rw [la]; exact Nat.lt_of_lt_of_le (hz i hi) (by decide), ?_, ?_, acc ++ [y], upd_same, ?_⟩
        · rw [rem_upd]; exact R4.1
        · have := back (e3.trans e4)
          intro a o ha
          have hne : a ≠ D := fun z => by
            rw [z] at ha
            rw [(cut_some ha).2] at nD
            cases nD
          have q1 := this a o ha
          rw [cut_out (cut_some ha).1] at q1 ⊢
          rw [upd_ne hne]
          exact q1
        · rw [cut_upd_in List.mem_cons_self, eo]
          exact dpa_app (dpa_ex (e3.trans e4) _ _ hacc') (.cons d4 .nil)
      | false =>
        rw [if_neg Bool.false_ne_true]
        obtain ⟨eo, es⟩ := hb0 rfl
        refine ⟨by rw [es]; exact R3.1, back e3, acc, R3.2, ?_⟩
        rw [eo]
        exact dpa_ex e3 _ _ hacc'
    match ifs, hb with
    | [], hb =>
      obtain ⟨hbt, hs1⟩ := hb
      subst hbt
      exact fin H' (exId _) (by rw [hs1]; exact RD3)
    | [c], hb =>
      intro sh Hh C cl fp
      refine hb sh Hh C cl fp σ2 H' _ hσ2 RD3 fun H3 e3 R3 => ?_
      exact fin H3 e3 R3
    | _ :: _ :: _, hb => exact hb.elim
  · intro H' ⟨R', e', acc, hD, hacc⟩
    exact q (.ref D) H' (e1.trans e') (g.up R' ex_rem) (.lst (by rw [cut_out hDM]; exact hD) (dpa_ex cut_cons _ _ hacc))
end
end DV
namespace DV
open PySem PySem.Spec L2 Evl
open PyProof.Rows hiding St
/-! ### defs and what they promise -/
/-- a def by its name, called by places -/
structure Cal (P : Program) (w : World) (K : PySem.W.Frag) (mg : Str → Option Value) (base : Heap) (x : Str) (k : Nat) (sp : Sp) : Prop where
  ex : ∃ (f : Addr) (fd : FuncData) (ps : List Str), FnOk P w K mg base (L2.CX P w) k f fd ps sp ∧ mg x = some (.ref f) ∧ PySem.W.keepIn K (.ref f) = true ∧ Binds K fd ps []
theorem Cal.mono {P : Program} {w : World} {K : PySem.W.Frag} {mg : Str → Option Value} {base : Heap} {x : Str} {j k : Nat} {sp : Sp} (c : Cal P w K mg base x j sp) (h : j ≤ k) : Cal P w K mg base x k sp := by
  obtain ⟨f, fd, ps, F, r⟩ := c.ex
  exact ⟨f, fd, ps, F.mono h, r⟩
theorem Cal.imp {P : Program} {w : World} {K : PySem.W.Frag} {mg : Str → Option Value} {base : Heap} {x : Str} {k : Nat} {sp sp' : Sp} (c : Cal P w K mg base x k sp) (h : ∀ vs H Q E, sp' vs H Q E → sp vs H Q E) : Cal P w K mg base x k sp' := by
  obtain ⟨f, fd, ps, F, r⟩ := c.ex
  exact ⟨f, fd, ps, F.imp h, r⟩
/-- a def of the text as the top leaves it -/
structure Def (K : PySem.W.Frag) (mg : Str → Option Value) (x : Str) (st : Stmt) (ps : List Str) : Prop where
  ex : ∃ (f : Addr) (fd : FuncData), Fun K x x st f fd ∧ mg x = some (.ref f) ∧ Binds K fd ps []
/-- how a call ends: a value, or an error of a class -/
inductive Out where
  | ok (r : Sl) | er (c : Value)
def Fin (K : PySem.W.Frag) (M : List Addr) (H : Hp) (Q : VK) (E : XK) : Out → Prop
  | .ok r => ∀ v H', Ex H H' → Sv K (cut M H') r v → Q v H'
  | .er c => ∀ H', Ex H H' → E c none H'
/-- nothing that is there is changed; G: what goes in and what comes out -/
def spS (K : PySem.W.Frag) (G : List Sl → Out → Prop) : Sp := fun vs H Q E => ∃ (M : List Addr) (rs : List Sl) (o : Out), (∀ a ∈ M, ∃ o, H a = some o) ∧ SvAll K (cut M H) rs vs ∧ G rs o ∧ Fin K M H Q E o
/-- a def's context -/
abbrev dx (P : Program) (w : World) (K : PySem.W.Frag) (mg : Str → Option Value) (base : Heap) (N : List Str) (x : Str) (st : Stmt) (f : Addr) (cdv : Value) (A : Around) (outer : List Env) (sh : Shared) (H : Hp) (E : XK) : Cx :=
  cxOf (L2.CX P w) P w K mg base N x (defScope st) f cdv A outer sh H E
section
variable {P : Program} {w : World} {K : PySem.W.Frag} {mg : Str → Option Value} {base : Heap}
theorem rg_pure {M : List Addr} {H : Hp} (hM : ∀ a ∈ M, ∃ o, H a = some o) : Rg M (fun (_ : Unit) H' => Ex H H') :=
  ⟨fun a e => a.trans e, fun e m => by
    obtain ⟨o, q⟩ := hM _ m
    exact ⟨o, e _ o q⟩⟩
/-- what a body is to show: R opaque -/
def Body (P : Program) (w : World) (K : PySem.W.Frag) (mg : Str → Option Value) (base : Heap) (N : List Str) (x : Str) (st : Stmt) (k : Nat) (rs : List Sl) (o : Out) : Prop :=
  ∀ (f : Addr) (cdv : Value) (A : Around) (outer : List Env) (sh : Shared) (H : Hp) (E : XK) (M : List Addr) (R : Unit → Hp → Prop) (D : Ends), Room k (A.deeper (envOfC x (defScope st) sh.heap.objs.size f cdv)) → Rg M R →
    (∀ r v H', o = .ok r → R () H' → Sv K (cut M H') r v → D.rt v H') → (∀ σ H', o = .ok (.dat .none) → R () H' → D.nx σ H') → (∀ c H', o = .er c → R () H' → E c none H') →
    St1 (dx P w K mg base N x st f cdv A outer sh H E) M R (ini N rs) (defBody st) () D
theorem Def.cal {x : Str} {st : Stmt} {ps N : List Str} {k : Nat} {G : List Sl → Out → Prop} (d : Def K mg x st ps) (S : FnScope N ps (defScope st)) (len : ∀ rs o, G rs o → rs.length = ps.length)
    (hb : ∀ rs o, G rs o → Body P w K mg base N x st k rs o) : Cal P w K mg base x (k + 1) (spS K G) := by
  obtain ⟨f, fd, F, hm, b⟩ := d.ex
  refine ⟨f, fd, ps, ?_, hm, F.kp, b⟩
  refine F.okX S (fun vs H Q E ⟨M, rs, o, _, sv, g, _⟩ => by rw [sv.len, len rs o g]) fun cdv A outer s H vs Q E hr ⟨M, rs, o, hM, sv, g, q⟩ => ?_
  refine ⟨_, pss_w, ?_⟩
  refine hb rs o g f cdv A outer s H E M (fun _ H' => Ex H H') { nx := fun _ H' => Q .non H', rt := Q } hr (rg_pure hM) ?_ ?_ ?_ _ H (slots_ini sv) (exId _)
  · intro r v H' e h sv'
    subst e
    exact q v H' h sv'
  · intro σ H' e h
    subst e
    exact q .non H' h .non
  · intro c H' e h
    subst e
    exact q H' h
end
/-! ### calls of one's own defs -/
section
variable {S : Type} {X : Cx} {M : List Addr} {R : S → Hp → Prop} {ρ : List Sl} {s s1 s2 : S} {x : Str} {e : Expr} {es : List Expr} {px pos : Pos} {rs : List Sl} {j k : Nat} {sp : Sp} {E : XK}
theorem w_call {σ : St} {H : Hp} {Q : VK} (c : Cal X.prog X.w X.K X.mg X.base x k sp) (hr : Room j X.A) (hk : k ≤ j) (hg : Gl X x) (hx : Passes (L2.CX X.prog X.w) X E) (ha : EvA1 X M R ρ (e :: es) s rs s1) (hσ : Slots X.K (cut M H) σ ρ) (hR : R s H)
    (h : ∀ vs H1, Ex (cut M H) (cut M H1) → SvAll X.K (cut M H1) rs vs → R s1 H1 → sp vs H1 Q E) (hdb : (x == ("__debug__" : Str)) = false := by decide)
    (he : starEach (e :: es) X.env = (false, eval e X.env) :: starEach es X.env := by rfl) (hpl : (backTo pos (starEach es X.env)).any (·.1) = false := by rfl) : wE X (.Call (.Name x px) (e :: es) [] pos) σ H Q := by
  obtain ⟨f, fd, ps, F, hm, hkp, hb⟩ := c.ex
  refine wE_of (pe_call F (hr.mono hk) hg hm hkp hb .nil hx pa_w hdb he hpl) ?_
  refine ha σ H _ hσ hR fun vs H1 e1 R1 d1 => ?_
  rw [List.append_nil]
  exact h vs H1 e1 d1 R1
/-- a def that changes nothing, and raises nothing here -/
theorem e_call (g : Rg M R) {G : List Sl → Out → Prop} {r : Sl} (c : Cal X.prog X.w X.K X.mg X.base x k (spS X.K G)) (hr : Room j X.A) (hk : k ≤ j) (hg : Gl X x) (hG : G rs (.ok r)) (ha : EvA1 X M R ρ (e :: es) s rs s1) (hdb : (x == ("__debug__" : Str)) = false := by decide)
    (he : starEach (e :: es) X.env = (false, eval e X.env) :: starEach es X.env := by rfl) (hpl : (backTo pos (starEach es X.env)).any (·.1) = false := by rfl) : Ev1 X M R ρ (.Call (.Name x px) (e :: es) [] pos) s r s1 := by
  intro σ H Q hσ hR q
  refine w_call c hr hk hg passL ha hσ hR (fun vs H1 e1 d1 R1 => ?_) hdb he hpl
  exact ⟨M, rs, .ok r, fun a m => g.dom R1 m, d1, hG, fun v H' e2 d2 => q v H' (e1.trans (exCut e2)) (g.up R1 e2) d2⟩
/-- .. and raises an error of the class c -/
theorem x_call (g : Rg M R) {G : List Sl → Out → Prop} {cl : Value} {σ : St} {H : Hp} {Q : VK} (c : Cal X.prog X.w X.K X.mg X.base x k (spS X.K G)) (hr : Room j X.A) (hk : k ≤ j) (hg : Gl X x) (hx : Passes (L2.CX X.prog X.w) X E) (hG : G rs (.er cl)) (ha : EvA1 X M R ρ (e :: es) s rs s1)
    (hσ : Slots X.K (cut M H) σ ρ) (hR : R s H) (h : ∀ H1, Ex (cut M H) (cut M H1) → R s1 H1 → E cl none H1) (hdb : (x == ("__debug__" : Str)) = false := by decide)
    (he : starEach (e :: es) X.env = (false, eval e X.env) :: starEach es X.env := by rfl) (hpl : (backTo pos (starEach es X.env)).any (·.1) = false := by rfl) : wE X (.Call (.Name x px) (e :: es) [] pos) σ H Q :=
  w_call c hr hk hg hx ha hσ hR (fun vs H1 e1 d1 R1 => ⟨M, rs, .er cl, fun a m => g.dom R1 m, d1, hG, fun H' e2 => h H' (e1.trans (exCut e2)) (g.up R1 e2)⟩) hdb he hpl
/-- either way -/
theorem o_call (g : Rg M R) {G : List Sl → Out → Prop} {o : Out} {σ : St} {H : Hp} {Q : VK} (c : Cal X.prog X.w X.K X.mg X.base x k (spS X.K G)) (hr : Room j X.A) (hk : k ≤ j) (hg : Gl X x) (hx : Passes (L2.CX X.prog X.w) X E) (hG : G rs o) (ha : EvA1 X M R ρ (e :: es) s rs s1)
    (hσ : Slots X.K (cut M H) σ ρ) (hR : R s H) (h : ∀ r v H1, o = .ok r → Ex (cut M H) (cut M H1) → R s1 H1 → Sv X.K (cut M H1) r v → Q v H1) (hx2 : ∀ cl H1, o = .er cl → Ex (cut M H) (cut M H1) → R s1 H1 → E cl none H1) (hdb : (x == ("__debug__" : Str)) = false := by decide)
    (he : starEach (e :: es) X.env = (false, eval e X.env) :: starEach es X.env := by rfl) (hpl : (backTo pos (starEach es X.env)).any (·.1) = false := by rfl) : wE X (.Call (.Name x px) (e :: es) [] pos) σ H Q :=
  w_call c hr hk hg hx ha hσ hR (fun vs H1 e1 d1 R1 => ⟨M, rs, o, fun a m => g.dom R1 m, d1, hG, by
    cases o with
    | ok r => exact fun v H' e2 d2 => h r v H' rfl (e1.trans (exCut e2)) (g.up R1 e2) d2
    | er cl => exact fun H' e2 => hx2 cl H' rfl (e1.trans (exCut e2)) (g.up R1 e2)⟩) hdb he hpl
end
/-! ### statements -/
section
variable {S : Type} {X : Cx} {M : List Addr} {R : S → Hp → Prop} {ρ : List Sl} {s s1 s2 : S} {e : Expr} {rest : List Stmt} {pos : Pos} {D : Ends}
theorem wB_cons {st : Stmt} {σ : St} {H : Hp} (h : wS X st { D with nx := wB X rest D } σ H) : wB X (st :: rest) D σ H := wB_of (pss_cons ps_w pss_w) h
theorem st_nil (h : ∀ σ H, Slots X.K (cut M H) σ ρ → R s H → D.nx σ H) : St1 X M R ρ [] s D := fun σ H hσ hR => wB_of pss_nil (h σ H hσ hR)
theorem st_set (i : Nat) {x : Str} {px : Pos} {r : Sl} (hN : X.N.Nodup) (hi : X.N[i]? = some x) (hx : Loc X.env.scope x) (he : Ev1 X M R ρ e s r s1) (k : St1 X M R (ρ.set i r) rest s1 D)
    (hs : swapsWith e (some (.Name x px)) pos.line X.env = pure false := by rfl) (hf : X.fn x = true ∨ X.env.scope.names.lookup x = some .local := by first | exact .inl rfl | exact .inr rfl) : St1 X M R ρ (.Assign [.Name x px] e pos :: rest) s D := by
  intro σ H hσ hR
  refine wB_cons (wS_of (ps_set (i := i) hN hi hx pe_w hs hf) ?_)
  exact he σ H _ hσ hR fun v H1 e1 R1 d1 => k _ H1 (Slots.set d1 i (hσ.ex e1)) R1
theorem st_ret {r : Sl} (he : Ev1 X M R ρ e s r s1) (k : ∀ v H', R s1 H' → Sv X.K (cut M H') r v → D.rt v H') : St1 X M R ρ (.Return (some e) pos :: rest) s D := by
  intro σ H hσ hR
  refine wB_cons (wS_of (ps_ret pe_w) ?_)
  exact he σ H _ hσ hR fun v H1 e1 R1 d1 => k v H1 R1 d1
theorem st_retN (k : ∀ H', R s H' → D.rt .non H') : St1 X M R ρ (.Return none pos :: rest) s D := fun σ H hσ hR => wB_cons (wS_of ps_retN (k H hR))
theorem st_if {c : Expr} {a b : List Stmt} {k : Bool} (hc : EvT1 X M R ρ c s k s1) (h1 : k = true → St1 X M R ρ a s1 { D with nx := wB X rest D }) (h2 : k = false → St1 X M R ρ b s1 { D with nx := wB X rest D }) : St1 X M R ρ (.If c a b pos :: rest) s D := by
  intro σ H hσ hR
  refine wB_cons (wS_of (ps_if pt_w pss_w pss_w) ?_)
  refine hc σ H _ hσ hR fun H1 e1 R1 => ?_
  cases k with
  | true =>
    rw [if_pos rfl]
    exact h1 rfl σ H1 (hσ.ex e1) R1
  | false =>
    rw [if_neg Bool.false_ne_true]
    exact h2 rfl σ H1 (hσ.ex e1) R1
/-- the end of a branch: what follows -/
theorem st_thru (k : St1 X M R ρ rest s D) : St1 X M R ρ [] s { D with nx := wB X rest D } := st_nil k
theorem st_expr {r : Sl} (he : Ev1 X M R ρ e s r s1) (k : St1 X M R ρ rest s1 D) (hs : swapsWith e none pos.line X.env = pure false := by rfl) : St1 X M R ρ (.Expr e pos :: rest) s D := by
  intro σ H hσ hR
  refine wB_cons (wS_of (ps_expr pe_w hs) ?_)
  exact he σ H _ hσ hR fun v H1 e1 R1 d1 => k σ H1 (hσ.ex e1) R1
/-- .. that may leave by an error -/
theorem st_exprW (h : ∀ σ H, Slots X.K (cut M H) σ ρ → R s H → wE X e σ H fun _ H1 => wB X rest D σ H1) (hs : swapsWith e none pos.line X.env = pure false := by rfl) : St1 X M R ρ (.Expr e pos :: rest) s D :=
  fun σ H hσ hR => wB_cons (wS_of (ps_expr pe_w hs) (h σ H hσ hR))
theorem st_pass (k : St1 X M R ρ rest s D) : St1 X M R ρ (.Pass pos :: rest) s D := fun σ H hσ hR => wB_cons (wS_of ps_pass (k σ H hσ hR))
/-- raise C(..), C an own class without own __init__ -/
structure Exn (K : PySem.W.Frag) (mg : Str → Option Value) (x : Str) (C : Addr) : Prop where
  gC : mg x = some (.ref C)
  xC : PySem.W.excIn K C [.type "ValueError", .type "Exception", .type "BaseException", .type "object"] "ValueError.__new__" = true
  kC : PySem.W.keepIn K (.ref C) = true
  bC : PySem.W.subIn K (.ref C) (.type "BaseException") = some true
  tC : PySem.W.typeIn K (.ref C) = some (.type "type")
theorem st_raise {x : Str} {C : Addr} {es : List Expr} {px pos2 : Pos} {rs : List Sl} {W : WX} (hc : X.calm = true) (n : Exn X.K X.mg x C) (tk : Takes X W) (hg : Gl X x) (ha : EvA1 X M R ρ (e :: es) s rs s1) (hl : rs.length ≤ 1000) (k : ∀ σ H', Slots X.K (cut M H') σ ρ → R s1 H' → W (.ref C) none σ H')
    (hdb : (x == ("__debug__" : Str)) = false := by decide) (he : starEach (e :: es) X.env = (false, eval e X.env) :: starEach es X.env := by rfl) (hpl : (backTo pos (starEach es X.env)).any (·.1) = false := by rfl) :
    St1 X M R ρ (.Raise (some (.Call (.Name x px) (e :: es) [] pos)) none pos2 :: rest) s D := by
  intro σ H hσ hR
  refine wB_cons (wS_of (ps_raise hc tk (pmk_ownA PySem.F.excBase_ValueError n.xC n.gC n.kC (raises_own n.bC n.tC) hg pa_w hdb he hpl)) ?_)
  refine ha σ H _ hσ hR fun vs H1 e1 R1 d1 => ⟨?_, k σ H1 (hσ.ex e1) R1⟩
  rw [d1.len]
  exact Nat.le_of_lt (small1000 hl)
/-! for -/
def Tg0 (K : PySem.W.Frag) (g : TG) (ρ : List Sl) (r : Sl) (ρ' : List Sl) : Prop :=
  ∀ (M : List Addr) (σ : St) (H : Hp) (v : V) (Q : St → Hp → Prop), Slots K (cut M H) σ ρ → Sv K (cut M H) r v → (∀ σ2, Slots K (cut M H) σ2 ρ' → Q σ2 H) → g v σ H Q
theorem tg0_name {K : PySem.W.Frag} {i : Nat} {ρ : List Sl} {r : Sl} : Tg0 K (gName i) ρ r (ρ.set i r) := fun M σ H v Q hσ hv q => q _ (Slots.set hv i hσ)
theorem tg0_pair {K : PySem.W.Frag} {i j : Nat} {ρ : List Sl} {d1 d2 : PyData} :
    Tg0 K (gTup K 2 (gCons (gName i) (gCons (gName j) gNil))) ρ (.dat (.tuple [d1, d2])) ((ρ.set i (.dat d1)).set j (.dat d2)) := fun M σ H v Q hσ hv q => by
  obtain ⟨a, xs, rfl, ha, hd⟩ := sv_tup hv
  cases hd with
  | cons h1 h2 =>
    cases h2 with
    | cons h2 h3 =>
      cases h3
      refine ⟨a, _, rfl, ex_t ex_cut ha, rfl, _, _, rfl, _, _, rfl, rfl, ?_⟩
      exact q _ (Slots.set (r := .dat d2) h2 j (Slots.set (r := .dat d1) h1 i hσ))
/-- the state since the loop's start -/
def RX {S : Type} (R : S → Hp → Prop) (M : List Addr) (H1 : Hp) : S → Hp → Prop := fun s H => R s H ∧ Ex (cut M H1) (cut M H)
theorem RX.rg (g : Rg M R) (H1 : Hp) : Rg M (RX R M H1) := ⟨fun ⟨h, x⟩ e => ⟨g.up h e, x.trans (exCut e)⟩, fun ⟨h, _⟩ m => g.dom h m⟩
theorem st_for (g : Rg M R) {tg iter : Expr} {body : List Stmt} {gt : TG} {n : Nat} {it : Nat → Sl} (J : Nat → List Sl → S → Prop) (hp : PassesOwn (model X.prog X.w) X.A X.env X.xe) (hc : X.calm = true) (hg : PG X tg gt) (hi : EvI1 X M R ρ tg iter s n it s1) (h0 : J 0 ρ s1)
    (hs : ∀ i ρi si H1, i < n → J i ρi si → Rg M (RX R M H1) → ∃ ρ', Tg0 X.K gt ρi (it i) ρ' ∧ ∀ (N : St → Hp → Prop), (∀ σ H ρ2 s2, J (i + 1) ρ2 s2 → Slots X.K (cut M H) σ ρ2 → RX R M H1 s2 H → N σ H) → St1 X M (RX R M H1) ρ' body si { D with nx := N, ct := N, bk := wB X rest D })
    (hd : ∀ ρ' s', J n ρ' s' → St1 X M R ρ' rest s' D) (hfs : ∀ x, foldedSetIterable iter X.env x = pure x := by intro _; rfl) : St1 X M R ρ (.For tg iter body [] pos :: rest) s D := by
  intro σ H hσ hR
  obtain ⟨wi, pwi, hwi⟩ := hi
  refine wB_cons (wS_of (ps_for hp hc pwi hg pss_w hfs) ?_)
  refine hwi σ H _ hσ hR fun JJ H1 e1 R1 ⟨G, hG, wk⟩ => ?_
  have g1 := RX.rg g H1
  refine for_it wk (fun i σ H => ∃ ρ' s', J i ρ' s' ∧ Slots X.K (cut M H) σ ρ' ∧ RX R M H1 s' H) ⟨ρ, s1, h0, hσ.ex e1, R1, exId _⟩ (fun i σ H _ ⟨ρ', s', _, _, _, e⟩ => hG H e) ?_ ?_
  · intro i x σ2 H2 H' hi ⟨ρi, si, hJ, hσi, R2⟩ hy
    obtain ⟨ρ', ht, hb⟩ := hs i ρi si H1 hi hJ g1
    obtain ⟨eH, sx⟩ := hy M rfl (fun a m => g1.dom R2 m) R2.2
    refine ht M σ2 H' x _ (hσi.ex (exCut eH)) sx fun σ3 hσ3 => ?_
    exact hb _ (fun σ H ρ2 s2 a b c => ⟨ρ2, s2, a, b, c⟩) σ3 H' hσ3 (g1.up R2 eH)
  · intro σ2 H2 ⟨ρ', s', hJ, hσ', R2, _⟩
    exact hd ρ' s' hJ σ2 H2 hσ' R2
end
end DV
namespace DV
open PySem PySem.Spec L2 Evl
open PyProof.Rows hiding St
theorem itD_lt {ds : List PyData} {i : Nat} {d : PyData} (h : ds[i]? = some d) : itD ds i = .dat d := by
  unfold itD
  rw [h]
theorem itZ_lt {xs ys : List PyData} {i : Nat} {x y : PyData} (h : xs[i]? = some x) (h' : ys[i]? = some y) : itZ xs ys i = .dat (.tuple [x, y]) := by
  unfold itZ
  rw [h, h']
theorem take_succ' {α : Type} {l : List α} {i : Nat} {x : α} (h : l[i]? = some x) : l.take (i + 1) = l.take i ++ [x] := by
  rw [List.take_add_one, h]
  rfl
section
variable {S : Type} {X : Cx} {M : List Addr} {R : S → Hp → Prop} {ρ : List Sl} {s : S} {elt iter : Expr} {scope : Scope} {own : List (Str × Nat)} {pos px : Pos}
/-- [elt for x in a sequence] -/
theorem lc_map (g : Rg M R) {i : Nat} {x : Str} {ds : List PyData} (f : PyData → PyData) (hi : EvI1 X M R ρ (.Name x px) iter s ds.length (itD ds) s) (hz : ds.length ≤ 100000)
    (he : ∀ d, d ∈ ds → ∀ sh Hh C cl fp D acc, Rg (D :: M) (RD R D acc) → Ev1 (Bk X scope sh Hh C cl fp) (D :: M) (RD R D acc) ((wipeR ρ (own.map (·.2))).set i (.dat d)) elt s (.dat (f d)) s)
    (hc : X.calm = true) (hN : X.N.Nodup) (ok : BlkOk X.N X.env.scope scope own) (hg : ∀ sh Hh C cl fp, PG (Bk X scope sh Hh C cl fp) (.Name x px) (gName i)) (hm : i ∈ own.map (·.2))
    (hfs : ∀ x, foldedSetIterable iter X.env x = pure x := by intro _; rfl) : Ev1 X M R ρ (.ListComp elt [⟨.Name x px, iter, [], 0⟩] scope pos) s (.dat (.list (ds.map f))) s := by
  have key := e_lc (own := own) (scope := scope) (elt := elt) (ifs := []) (ss := fun _ => s) (outs := fun i => (ds.take i).map f) (n := ds.length) (pos := pos) g hc hN ok hg hi rfl
    (fun i hi => by
      show ((ds.take i).map f).length < 100000
      rw [List.length_map, List.length_take]
      omega) (fun j hj => ?_) hfs
  · have e : (ds.take ds.length).map f = ds.map f := by rw [List.take_length]
    show Ev1 X M R ρ _ s (.dat (.list (ds.map f))) s
    rw [← e]
    exact key
  · have hd : ds[j]? = some ds[j] := List.getElem?_eq_getElem hj
    refine ⟨_, tg_name hm, fun D acc gD => ⟨true, s, ⟨rfl, rfl⟩, fun _ => ⟨f ds[j], ?_, fun sh Hh C cl fp => ?_⟩, fun h => by cases h⟩⟩
    · show (ds.take (j + 1)).map f = (ds.take j).map f ++ [f ds[j]]
      rw [take_succ' hd, List.map_append]
      rfl
    · rw [itD_lt hd]
      exact he _ (List.getElem_mem hj) sh Hh C cl fp D acc gD
/-- [elt for x in a sequence if c] -/
theorem lc_filter (g : Rg M R) {i : Nat} {x : Str} {c : Expr} {ds : List PyData} (p : PyData → Bool) (f : PyData → PyData) (hi : EvI1 X M R ρ (.Name x px) iter s ds.length (itD ds) s) (hz : ds.length ≤ 100000)
    (ht : ∀ d, d ∈ ds → ∀ sh Hh C cl fp D acc, Rg (D :: M) (RD R D acc) → EvT1 (Bk X scope sh Hh C cl fp) (D :: M) (RD R D acc) ((wipeR ρ (own.map (·.2))).set i (.dat d)) c s (p d) s)
    (he : ∀ d, d ∈ ds → p d = true → ∀ sh Hh C cl fp D acc, Rg (D :: M) (RD R D acc) → Ev1 (Bk X scope sh Hh C cl fp) (D :: M) (RD R D acc) ((wipeR ρ (own.map (·.2))).set i (.dat d)) elt s (.dat (f d)) s)
    (hc : X.calm = true) (hN : X.N.Nodup) (ok : BlkOk X.N X.env.scope scope own) (hg : ∀ sh Hh C cl fp, PG (Bk X scope sh Hh C cl fp) (.Name x px) (gName i)) (hm : i ∈ own.map (·.2))
    (hfs : ∀ x, foldedSetIterable iter X.env x = pure x := by intro _; rfl) : Ev1 X M R ρ (.ListComp elt [⟨.Name x px, iter, [c], 0⟩] scope pos) s (.dat (.list ((ds.filter p).map f))) s := by
  have key := e_lc (own := own) (scope := scope) (elt := elt) (ifs := [c]) (ss := fun _ => s) (outs := fun i => ((ds.take i).filter p).map f) (n := ds.length) (pos := pos) g hc hN ok hg hi rfl
    (fun i hi => by
      show (((ds.take i).filter p).map f).length < 100000
      rw [List.length_map]
      have := List.length_filter_le p (ds.take i)
      rw [List.length_take] at this
      omega) (fun j hj => ?_) hfs
  · have e : ((ds.take ds.length).filter p).map f = (ds.filter p).map f := by rw [List.take_length]
    show Ev1 X M R ρ _ s (.dat (.list ((ds.filter p).map f))) s
    rw [← e]
    exact key
  · have hd : ds[j]? = some ds[j] := List.getElem?_eq_getElem hj
    refine ⟨_, tg_name hm, fun D acc gD => ⟨p ds[j], s, fun sh Hh C cl fp => ?_, fun hp => ⟨f ds[j], ?_, fun sh Hh C cl fp => ?_⟩, fun hp => ⟨?_, rfl⟩⟩⟩
    · rw [itD_lt hd]
      exact ht _ (List.getElem_mem hj) sh Hh C cl fp D acc gD
    · show ((ds.take (j + 1)).filter p).map f = ((ds.take j).filter p).map f ++ [f ds[j]]
      rw [take_succ' hd, List.filter_append, List.filter_cons, if_pos hp, List.map_append]
      rfl
    · rw [itD_lt hd]
      exact he _ (List.getElem_mem hj) hp sh Hh C cl fp D acc gD
    · show ((ds.take (j + 1)).filter p).map f = ((ds.take j).filter p).map f
      rw [take_succ' hd, List.filter_append, List.filter_cons, if_neg (by rw [hp]; exact Bool.false_ne_true), List.filter_nil, List.append_nil]
/-- [elt for a, b in zip(t, u)] -/
theorem lc_zip (g : Rg M R) {i i2 : Nat} {x x2 : Str} {px2 tpos : Pos} {kk : Nat} {xs ys : List PyData} (f : PyData → PyData → PyData) (hi : EvI1 X M R ρ (.Tuple [.Name x px, .Name x2 px2] kk tpos) iter s xs.length (itZ xs ys) s) (hl : xs.length = ys.length) (hz : xs.length ≤ 100000)
    (he : ∀ d e, d ∈ xs → e ∈ ys → ∀ sh Hh C cl fp D acc, Rg (D :: M) (RD R D acc) → Ev1 (Bk X scope sh Hh C cl fp) (D :: M) (RD R D acc) (((wipeR ρ (own.map (·.2))).set i (.dat d)).set i2 (.dat e)) elt s (.dat (f d e)) s)
    (hc : X.calm = true) (hN : X.N.Nodup) (ok : BlkOk X.N X.env.scope scope own)
    (hg : ∀ sh Hh C cl fp, PG (Bk X scope sh Hh C cl fp) (.Tuple [.Name x px, .Name x2 px2] kk tpos) (gTup X.K 2 (gCons (gName i) (gCons (gName i2) gNil)))) (hm : i ∈ own.map (·.2)) (hm2 : i2 ∈ own.map (·.2))
    (hfs : ∀ x, foldedSetIterable iter X.env x = pure x := by intro _; rfl) : Ev1 X M R ρ (.ListComp elt [⟨.Tuple [.Name x px, .Name x2 px2] kk tpos, iter, [], 0⟩] scope pos) s (.dat (.list (List.zipWith f xs ys))) s := by
  have key := e_lc (own := own) (scope := scope) (elt := elt) (ifs := []) (ss := fun _ => s) (outs := fun i => (List.zipWith f xs ys).take i) (n := xs.length) (pos := pos) g hc hN ok hg hi rfl
    (fun i hi => by
      show ((List.zipWith f xs ys).take i).length < 100000
      rw [List.length_take]
      omega) (fun j hj => ?_) hfs
  · have e : (List.zipWith f xs ys).take xs.length = List.zipWith f xs ys := List.take_of_length_le (by rw [List.length_zipWith]; omega)
    show Ev1 X M R ρ _ s (.dat (.list (List.zipWith f xs ys))) s
    rw [← e]
    exact key
  · have hj2 : j < ys.length := by omega
    have hd : xs[j]? = some xs[j] := List.getElem?_eq_getElem hj
    have hd2 : ys[j]? = some ys[j] := List.getElem?_eq_getElem hj2
    have hw : (List.zipWith f xs ys)[j]? = some (f xs[j] ys[j]) := by
      rw [List.getElem?_zipWith, hd, hd2]
    rw [itZ_lt hd hd2]
    refine ⟨_, tg_pair hm hm2, fun D acc gD => ⟨true, s, ⟨rfl, rfl⟩, fun _ => ⟨f xs[j] ys[j], ?_, fun sh Hh C cl fp => ?_⟩, fun h => by cases h⟩⟩
    · show (List.zipWith f xs ys).take (j + 1) = (List.zipWith f xs ys).take j ++ [f xs[j] ys[j]]
      rw [take_succ' hw]
    · exact he _ _ (List.getElem_mem hj) (List.getElem_mem hj2) sh Hh C cl fp D acc gD
/-- [elt for k in range(n)] -/
theorem lc_rng (g : Rg M R) {i : Nat} {x : Str} {n : Nat} {ss : Nat → S} (f : Nat → PyData) (hi : EvI1 X M R ρ (.Name x px) iter s n (fun i => .dat (.int i)) (ss 0)) (hz : n ≤ 100000)
    (he : ∀ j, j < n → ∀ sh Hh C cl fp D acc, Rg (D :: M) (RD R D acc) → Ev1 (Bk X scope sh Hh C cl fp) (D :: M) (RD R D acc) ((wipeR ρ (own.map (·.2))).set i (.dat (.int j))) elt (ss j) (.dat (f j)) (ss (j + 1)))
    (hc : X.calm = true) (hN : X.N.Nodup) (ok : BlkOk X.N X.env.scope scope own) (hg : ∀ sh Hh C cl fp, PG (Bk X scope sh Hh C cl fp) (.Name x px) (gName i)) (hm : i ∈ own.map (·.2))
    (hfs : ∀ x, foldedSetIterable iter X.env x = pure x := by intro _; rfl) : Ev1 X M R ρ (.ListComp elt [⟨.Name x px, iter, [], 0⟩] scope pos) s (.dat (.list ((List.range n).map f))) (ss n) := by
  refine e_lc (own := own) (scope := scope) (elt := elt) (ifs := []) (ss := ss) (outs := fun i => (List.range i).map f) (n := n) (pos := pos) g hc hN ok hg hi rfl
    (fun i hi => by
      show ((List.range i).map f).length < 100000
      rw [List.length_map, List.length_range]
      omega) (fun j hj => ?_) hfs
  refine ⟨_, tg_name hm, fun D acc gD => ⟨true, ss j, ⟨rfl, rfl⟩, fun _ => ⟨f j, ?_, fun sh Hh C cl fp => ?_⟩, fun h => by cases h⟩⟩
  · show (List.range (j + 1)).map f = (List.range j).map f ++ [f j]
    rw [List.range_succ, List.map_append]
    rfl
  · exact he j hj sh Hh C cl fp D acc gD
/-- [elt for k in range(n) if c] -/
theorem lc_rngF (g : Rg M R) {i : Nat} {x : Str} {c : Expr} {n : Nat} (p : Nat → Bool) (f : Nat → PyData) (hi : EvI1 X M R ρ (.Name x px) iter s n (fun i => .dat (.int i)) s) (hz : n ≤ 100000)
    (ht : ∀ j, j < n → ∀ sh Hh C cl fp D acc, Rg (D :: M) (RD R D acc) → EvT1 (Bk X scope sh Hh C cl fp) (D :: M) (RD R D acc) ((wipeR ρ (own.map (·.2))).set i (.dat (.int j))) c s (p j) s)
    (he : ∀ j, j < n → p j = true → ∀ sh Hh C cl fp D acc, Rg (D :: M) (RD R D acc) → Ev1 (Bk X scope sh Hh C cl fp) (D :: M) (RD R D acc) ((wipeR ρ (own.map (·.2))).set i (.dat (.int j))) elt s (.dat (f j)) s)
    (hc : X.calm = true) (hN : X.N.Nodup) (ok : BlkOk X.N X.env.scope scope own) (hg : ∀ sh Hh C cl fp, PG (Bk X scope sh Hh C cl fp) (.Name x px) (gName i)) (hm : i ∈ own.map (·.2))
    (hfs : ∀ x, foldedSetIterable iter X.env x = pure x := by intro _; rfl) : Ev1 X M R ρ (.ListComp elt [⟨.Name x px, iter, [c], 0⟩] scope pos) s (.dat (.list (((List.range n).filter p).map f))) s := by
  refine e_lc (own := own) (scope := scope) (elt := elt) (ifs := [c]) (ss := fun _ => s) (outs := fun i => ((List.range i).filter p).map f) (n := n) (pos := pos) g hc hN ok hg hi rfl
    (fun i hi => by
      show (((List.range i).filter p).map f).length < 100000
      rw [List.length_map]
      have := List.length_filter_le p (List.range i)
      rw [List.length_range] at this
      omega) (fun j hj => ?_) hfs
  refine ⟨_, tg_name hm, fun D acc gD => ⟨p j, s, fun sh Hh C cl fp => ht j hj sh Hh C cl fp D acc gD, fun hp => ⟨f j, ?_, fun sh Hh C cl fp => he j hj hp sh Hh C cl fp D acc gD⟩, fun hp => ⟨?_, rfl⟩⟩⟩
  · show ((List.range (j + 1)).filter p).map f = ((List.range j).filter p).map f ++ [f j]
    rw [List.range_succ, List.filter_append, List.filter_cons, if_pos hp, List.map_append]
    rfl
  · show ((List.range (j + 1)).filter p).map f = ((List.range j).filter p).map f
    rw [List.range_succ, List.filter_append, List.filter_cons, if_neg (by rw [hp]; exact Bool.false_ne_true), List.filter_nil, List.append_nil]
end
end DV
namespace DV
open PySem PySem.Spec L2 Evl
open PyProof.Rows hiding St
section
variable {S : Type} {X : Cx} {M : List Addr} {R : S → Hp → Prop} {ρ : List Sl} {s s1 s2 : S} {e e1 e2 : Expr} {es : List Expr} {pos : Pos}
theorem str_app_len (a b : Str) : (a ++ b).length = a.length + b.length := by
  show (a.cps ++ b.cps).size = a.cps.size + b.cps.size
  exact Array.size_append
/-- the parts of an f-string: their texts -/
def EvJ1 {S : Type} (X : Cx) (M : List Addr) (R : S → Hp → Prop) (ρ : List Sl) : List Expr → List Str → S → Prop
  | [], ys, _ => ys = []
  | e :: es, ys, s => ∃ y r, ys = y :: r ∧ Ev1 X M R ρ e s (.dat (.str y)) s ∧ EvJ1 X M R ρ es r s
theorem j_nil : EvJ1 X M R ρ [] [] s := rfl
theorem j_cons {y : Str} {ys : List Str} (h : Ev1 X M R ρ e s (.dat (.str y)) s) (r : EvJ1 X M R ρ es ys s) : EvJ1 X M R ρ (e :: es) (y :: ys) s := ⟨y, ys, rfl, h, r⟩
def glue : List Str → Str → Str
  | [], acc => acc
  | y :: ys, acc => glue ys (acc ++ y)
def lens : List Str → Nat
  | [] => 0
  | y :: ys => y.length + lens ys
theorem pj_w : ∀ es : List Expr, PJ X es (es.map (wE X))
  | [] => .nil
  | _ :: es => .cons pe_w (pj_w es)
theorem tjs_of : ∀ {es : List Expr} {ys : List Str} (h : EvJ1 X M R ρ es ys s) (acc : Str) (σ : St) (H : Hp) (Q : Str → Hp → Prop), acc.length + lens ys ≤ 100000 → Slots X.K (cut M H) σ ρ → R s H → (∀ H2, Ex (cut M H) (cut M H2) → R s H2 → Q (glue ys acc) H2) → tJs (es.map (wE X)) acc σ H Q
  | [], ys, h, acc, σ, H, Q, hz, hσ, hR, q => by
    have h : ys = [] := h
    subst h
    exact q H (exId _) hR
  | e :: es, ys, h, acc, σ, H, Q, hz, hσ, hR, q => by
    obtain ⟨y, r, rfl, he, hr⟩ := h
    refine he σ H _ hσ hR fun v H1 e1 R1 d1 => ⟨y, sv_str d1, ?_, ?_⟩
    · rw [str_app_len]
      have : lens (y :: r) = y.length + lens r := rfl
      exact upd_sz (by omega)
    · refine tjs_of hr (acc ++ y) σ H1 Q ?_ (hσ.ex e1) R1 fun H2 e2 R2 => q H2 (e1.trans e2) R2
      rw [str_app_len]
      have : lens (y :: r) = y.length + lens r := rfl
      omega
theorem e_fstr {ys : List Str} (h : EvJ1 X M R ρ (e1 :: e2 :: es) ys s) (hz : lens ys ≤ 100000) : Ev1 X M R ρ (.JoinedStr (e1 :: e2 :: es) pos) s (.dat (.str (glue ys Str.empty))) s := by
  intro σ H Q hσ hR q
  refine wE_of (pe_joined (pj_w (e1 :: e2 :: es))) ?_
  exact tjs_of h Str.empty σ H _ (by rw [show Str.empty.length = 0 from rfl, Nat.zero_add]; exact hz) hσ hR fun H2 e2 R2 => q _ H2 e2 R2 (.str _)
theorem e_fmtI {i : Int} (hi : i.natAbs.log2 < 1920) (h : Ev1 X M R ρ e s (.dat (.int i)) s1) : Ev1 X M R ρ (.FormattedValue e (-1) none pos) s (.dat (.str (toString i))) s1 := by
  intro σ H Q hσ hR q
  refine wE_of (pe_fmt pe_w) ?_
  exact h σ H _ hσ hR fun v H1 e1 R1 d1 => .inr ⟨i, sv_int d1, hi, q _ H1 e1 R1 (.str _)⟩
theorem fmt_len {i : Int} (hi : i.natAbs.log2 < 1920) : (Str.ofString (toString i)).length ≤ 10000 := by
  have e := int_text_length_le (k := 1920) (by decide) hi
  rw [PySem.ofString_length]
  omega
theorem log_small {i : Int} (h0 : 0 ≤ i) (h1 : i < 1000000) : i.natAbs.log2 < 1920 := by
  have : i.natAbs < 2 ^ 20 := by omega
  have h2 : i.natAbs.log2 < 20 := by
    by_cases z : i.natAbs = 0
    · rw [z]; decide
    · exact (Nat.log2_lt z).mpr this
  omega
end
end DV
namespace DV
open PySem PySem.Spec L2 Evl
open PyProof.Rows hiding St
/-! ### lists of ints as data -/
abbrev dI (xs : List Int) : List PyData := xs.map PyData.int
theorem lay_ints : ∀ xs : List Int, PyData.canLayAll0 (dI xs) = true
  | [] => rfl
  | _ :: xs => by
    show (true && PyData.canLayAll0 (dI xs)) = true
    rw [lay_ints xs]
    rfl
theorem depth_ints : ∀ xs : List Int, PyData.depthAll (dI xs) = 0
  | [] => rfl
  | _ :: xs => by
    show max 0 (PyData.depthAll (dI xs)) = 0
    rw [depth_ints xs]
    rfl
theorem shaped_tI (xs : List Int) : SeqAt.shaped (.tuple (dI xs)) = true := by
  show (PyData.canLayAll0 (dI xs) && decide (PyData.depthAll (dI xs) + 1 ≤ 64)) = true
  rw [lay_ints, depth_ints]
  rfl
theorem shaped_lI (xs : List Int) : SeqAt.shaped (.list (dI xs)) = true := by
  show (PyData.canLayAll0 (dI xs) && decide (PyData.depthAll (dI xs) + 1 ≤ 64)) = true
  rw [lay_ints, depth_ints]
  rfl
theorem eqv_all_ints : ∀ xs ys : List Int, PyData.eqvAll (dI xs) (dI ys) = decide (xs = ys)
  | [], [] => rfl
  | [], _ :: _ => by
    show false = _
    rw [decide_eq_false (by simp)]
  | _ :: _, [] => by
    show false = _
    rw [decide_eq_false (by simp)]
  | x :: xs, y :: ys => by
    show ((x == y) && PyData.eqvAll (dI xs) (dI ys)) = _
    rw [eqv_all_ints xs ys, Bool.eq_iff_iff]
    simp
theorem eqv_tI (xs ys : List Int) : PyData.eqv (.tuple (dI xs)) (.tuple (dI ys)) = decide (xs = ys) := eqv_all_ints xs ys
theorem eqv_lI (xs ys : List Int) : PyData.eqv (.list (dI xs)) (.list (dI ys)) = decide (xs = ys) := eqv_all_ints xs ys
theorem zip_dI (f : Int → Int → Int) (g : PyData → PyData → PyData) (h : ∀ i j, g (.int i) (.int j) = .int (f i j)) : ∀ xs ys : List Int, List.zipWith g (dI xs) (dI ys) = dI (List.zipWith f xs ys)
  | [], _ => rfl
  | _ :: _, [] => rfl
  | x :: xs, y :: ys => by
    show g (.int x) (.int y) :: List.zipWith g (dI xs) (dI ys) = .int (f x y) :: dI (List.zipWith f xs ys)
    rw [h, zip_dI f g h xs ys]
theorem zip_dB (f : Int → Int → Bool) (g : PyData → PyData → PyData) (h : ∀ i j, g (.int i) (.int j) = .bool (f i j)) : ∀ xs ys : List Int, List.zipWith g (dI xs) (dI ys) = (List.zipWith f xs ys).map .bool
  | [], _ => rfl
  | _ :: _, [] => rfl
  | x :: xs, y :: ys => by
    show g (.int x) (.int y) :: List.zipWith g (dI xs) (dI ys) = .bool (f x y) :: (List.zipWith f xs ys).map .bool
    rw [h, zip_dB f g h xs ys]
theorem mem_dI {xs : List Int} {d : PyData} (h : d ∈ dI xs) : ∃ i, d = .int i ∧ i ∈ xs := by
  obtain ⟨i, hi, rfl⟩ := List.mem_map.mp h
  exact ⟨i, rfl, hi⟩
end DV
namespace DV
open PySem PySem.Spec L2 Evl
open PyProof.Rows hiding St
section
variable {S : Type} {X : Cx} {M : List Addr} {R : S → Hp → Prop} {ρ : List Sl} {s s1 s2 : S} {e e' a b : Expr} {px px2 pos : Pos}
/-- the name in slot i -/
theorem v (i : Nat) {x : Str} {r : Sl} (hr : ρ[i]? = some r := by rfl) (hne : r ≠ .any := by exact fun h => by cases h) (hN : X.N[i]? = some x := by rfl) (hv : Vis X.env.scope x := by first | exact Or.inl rfl | exact Or.inr (Or.inl rfl) | exact Or.inr (Or.inr rfl))
    (hd : (x == ("__debug__" : Str)) = false := by decide) (hcd : (x == ("__classdict__" : Str)) = false := by decide) : Ev1 X M R ρ (.Name x pos) s r s := e_var i hr hne hN hv hd hcd
/-- a module's int -/
theorem gi {x : Str} {i : Int} (hm : ∃ t, X.mg x = some (.int i t)) (hg : Gl X x := by rfl) (hd : (x == ("__debug__" : Str)) = false := by decide) : Ev1 X M R ρ (.Name x pos) s (.dat (.int i)) s := by
  obtain ⟨t, hm⟩ := hm
  exact e_glob hg hm (v := .int i) ⟨t, rfl⟩ (fun H => Dv.int i) hd
/-- isinstance(e, T) -/
theorem isi {T : String} {x : Str} {d : PyData} {k : Bool} (hb : bootBuiltins x = some (.type T)) (hi : X.mg "isinstance" = none) (hx : X.mg x = none) (hk : kitB (dTy d) T = some k) (he : Ev1 X M R ρ e s (.dat d) s1) (hg : Gl X "isinstance" := by rfl) (hg2 : Gl X x := by rfl)
    (hn : x ≠ "__name__" := by decide) (hd : (x == ("__debug__" : Str)) = false := by decide) (h1 : starEach [e, .Name x px2] X.env = (false, eval e X.env) :: starEach [.Name x px2] X.env := by rfl) (h2 : starEach [.Name x px2] X.env = (false, eval (.Name x px2) X.env) :: starEach [] X.env := by rfl)
    (hpl : (backTo pos (starEach [.Name x px2] X.env)).any (·.1) = false := by rfl) : Ev1 X M R ρ (.Call (.Name "isinstance" px) [e, .Name x px2] [] pos) s (.dat (.bool k)) s1 :=
  e_isi hg hi hk (a_cons he (a_cons (e_bltn hg2 hx hb (v := .ty T) rfl hn hd) a_nil h2) h1) h1 hpl
end
/-- the built-in names that no global hides -/
structure Bl (mg : Str → Option Value) : Prop where
  isi : mg "isinstance" = none
  bool : mg "bool" = none
  int : mg "int" = none
  str : mg "str" = none
  tuple : mg "tuple" = none
  list : mg "list" = none
  len : mg "len" = none
  all : mg "all" = none
  max : mg "max" = none
  zip : mg "zip" = none
  range : mg "range" = none
theorem boot_all : bootBuiltins "all" = some (.builtin "all") := by decide +kernel
def isB : PyData → Bool
  | .bool _ => true
  | _ => false
def isI : PyData → Bool
  | .bool _ => true
  | .int _ => true
  | _ => false
def isS : PyData → Bool
  | .str _ => true
  | _ => false
def isT : PyData → Bool
  | .tuple _ => true
  | _ => false
def isL : PyData → Bool
  | .list _ => true
  | _ => false
theorem kit_bool (d : PyData) : kitB (dTy d) "bool" = some (isB d) := by
  cases d
  · exact (by decide +kernel : kitB "NoneType" "bool" = some false)
  · exact (by decide +kernel : kitB "bool" "bool" = some true)
  · exact (by decide +kernel : kitB "int" "bool" = some false)
  · exact (by decide +kernel : kitB "str" "bool" = some false)
  · exact (by decide +kernel : kitB "list" "bool" = some false)
  · exact (by decide +kernel : kitB "tuple" "bool" = some false)
  · exact (by decide +kernel : kitB "dict" "bool" = some false)
theorem kit_int (d : PyData) : kitB (dTy d) "int" = some (isI d) := by
  cases d
  · exact (by decide +kernel : kitB "NoneType" "int" = some false)
  · exact (by decide +kernel : kitB "bool" "int" = some true)
  · exact (by decide +kernel : kitB "int" "int" = some true)
  · exact (by decide +kernel : kitB "str" "int" = some false)
  · exact (by decide +kernel : kitB "list" "int" = some false)
  · exact (by decide +kernel : kitB "tuple" "int" = some false)
  · exact (by decide +kernel : kitB "dict" "int" = some false)
theorem kit_str (d : PyData) : kitB (dTy d) "str" = some (isS d) := by
  cases d
  · exact (by decide +kernel : kitB "NoneType" "str" = some false)
  · exact (by decide +kernel : kitB "bool" "str" = some false)
  · exact (by decide +kernel : kitB "int" "str" = some false)
  · exact (by decide +kernel : kitB "str" "str" = some true)
  · exact (by decide +kernel : kitB "list" "str" = some false)
  · exact (by decide +kernel : kitB "tuple" "str" = some false)
  · exact (by decide +kernel : kitB "dict" "str" = some false)
theorem kit_tuple (d : PyData) : kitB (dTy d) "tuple" = some (isT d) := by
  cases d
  · exact (by decide +kernel : kitB "NoneType" "tuple" = some false)
  · exact (by decide +kernel : kitB "bool" "tuple" = some false)
  · exact (by decide +kernel : kitB "int" "tuple" = some false)
  · exact (by decide +kernel : kitB "str" "tuple" = some false)
  · exact (by decide +kernel : kitB "list" "tuple" = some false)
  · exact (by decide +kernel : kitB "tuple" "tuple" = some true)
  · exact (by decide +kernel : kitB "dict" "tuple" = some false)
theorem kit_list (d : PyData) : kitB (dTy d) "list" = some (isL d) := by
  cases d
  · exact (by decide +kernel : kitB "NoneType" "list" = some false)
  · exact (by decide +kernel : kitB "bool" "list" = some false)
  · exact (by decide +kernel : kitB "int" "list" = some false)
  · exact (by decide +kernel : kitB "str" "list" = some false)
  · exact (by decide +kernel : kitB "list" "list" = some true)
  · exact (by decide +kernel : kitB "tuple" "list" = some false)
  · exact (by decide +kernel : kitB "dict" "list" = some false)
end DV
namespace K02
open PySem PySem.Spec L2 Evl DV
open PyProof.Rows hiding St
def topS (i : Nat) : Stmt := PySem.Challenge.pw_causalports_k02_tokens.main.body.getD i (.Pass ⟨0, 0, 0, 0⟩)
abbrev sWhole : Stmt := topS 1
abbrev sIsToken : Stmt := topS 20
abbrev sPair : Stmt := topS 21
abbrev sWithin : Stmt := topS 22
abbrev sJoined : Stmt := topS 23
abbrev sCompared : Stmt := topS 24
section
variable {P : Program} {w : World} {K : PySem.W.Frag} {mg : Str → Option Value} {base : Heap}
/-! is_whole -/
def wholeD (d : PyData) (lo hi : Int) : Bool := match d with
  | .int i => decide (lo ≤ i) && decide (i ≤ hi)
  | _ => false
def gWhole (rs : List Sl) (o : Out) : Prop := ∃ d lo hi, rs = [.dat d, .dat (.int lo), .dat (.int hi)] ∧ o = .ok (.dat (.bool (wholeD d lo hi)))
theorem scWhole : FnScope ["thing", "least", "most"] ["thing", "least", "most"] (defScope sWhole) := ⟨rfl, rfl, rfl, by decide +kernel, rfl, by decide +kernel, by decide +kernel⟩
theorem c_whole (B : Bl mg) (d : Def K mg "is_whole" sWhole ["thing", "least", "most"]) : Cal P w K mg base "is_whole" 1 (spS K gWhole) := by
  refine d.cal scWhole (fun rs o ⟨d, lo, hi, e, _⟩ => by rw [e]; rfl) ?_
  rintro rs o ⟨d, lo, hi, rfl, rfl⟩ f cdv A outer sh H E M R D hr g qr qn qe
  refine st_if (k := isB d || !isI d) (t_w (w_or (t_val (isi boot_bool B.isi B.bool (kit_bool d) (v 0))) fun _ => w_or1 (t_not (t_val (isi boot_int B.isi B.int (kit_int d) (v 0)))))) (fun h => ?_) (fun h => ?_)
  · refine st_ret e_bl fun v H' R' sv => qr _ v H' rfl R' ?_
    have e : wholeD d lo hi = false := by
      cases d <;> first | rfl | simp [isB, isI] at h
    rw [e]
    exact sv
  · refine st_thru ?_
    cases d with
    | int i =>
      refine st_ret (e_chain op_le op_le (v 1) (v 0) (v 2)) fun v H' R' sv => qr _ v H' rfl R' sv
    | _ => simp [isB, isI] at h
/-! is_token -/
def tokD : PyData → Bool
  | .tuple ds => (decide (2 ≤ (ds.length : Int)) && decide ((ds.length : Int) ≤ 5)) && ds.all fun d => wholeD d 0 999
  | _ => false
def gTok (rs : List Sl) (o : Out) : Prop := ∃ d, rs = [.dat d] ∧ o = .ok (.dat (.bool (tokD d)))
/-- the module's numbers -/
structure Nums (mg : Str → Option Value) : Prop where
  few : ∃ t, mg "FEWEST_SITES" = some (.int 2 t)
  most : ∃ t, mg "MOST_SITES" = some (.int 5 t)
  puts : ∃ t, mg "MOST_PUTS" = some (.int 999 t)
theorem scIsToken : FnScope ["thing", "count"] ["thing"] (defScope sIsToken) := ⟨rfl, rfl, rfl, by decide +kernel, rfl, by decide +kernel, by decide +kernel⟩
theorem c_isToken (B : Bl mg) (n : Nums mg) (cW : Cal P w K mg base "is_whole" 1 (spS K gWhole)) (d : Def K mg "is_token" sIsToken ["thing"]) : Cal P w K mg base "is_token" 2 (spS K gTok) := by
  refine d.cal scIsToken (fun rs o ⟨d, e, _⟩ => by rw [e]; rfl) ?_
  rintro rs o ⟨d, rfl, rfl⟩ f cdv A outer sh H E M R D hr g qr qn qe
  refine st_if (k := !isT d) (t_not (t_val (isi boot_tuple B.isi B.tuple (kit_tuple d) (v 0)))) (fun h => ?_) (fun h => ?_)
  · refine st_ret e_bl fun v H' R' sv => qr _ v H' rfl R' ?_
    have e : tokD d = false := by
      cases d <;> first | rfl | simp [isT] at h
    rw [e]
    exact sv
  · refine st_thru ?_
    cases d with
    | tuple ds =>
      refine st_if (k := !(decide (2 ≤ (ds.length : Int)) && decide ((ds.length : Int) ≤ 5))) (t_not (t_chain op_le op_le (gi n.few) (e_lenT (by rfl) B.len (a1 (v 0))) (gi n.most))) (fun h => ?_) (fun h => ?_)
      · refine st_ret e_bl fun v H' R' sv => qr _ v H' rfl R' ?_
        have e : tokD (.tuple ds) = false := by
          have h' : (decide (2 ≤ (ds.length : Int)) && decide ((ds.length : Int) ≤ 5)) = false := (Bool.not_eq_true' _).mp h
          show ((decide (2 ≤ (ds.length : Int)) && decide ((ds.length : Int) ≤ 5)) && ds.all fun d => wholeD d 0 999) = false
          rw [h']
          rfl
        rw [e]
        exact sv
      · refine st_thru ?_
        have h' : (decide (2 ≤ (ds.length : Int)) && decide ((ds.length : Int) ≤ 5)) = true := (Bool.not_eq_false' _).mp h
        have hz : ds.length ≤ 5 := by
          have := (Bool.and_eq_true_iff.mp h').2
          have := of_decide_eq_true this
          omega
        have e : (.dat (.bool (tokD (.tuple ds))) : Sl) = .dat (.bool ((ds.map fun d => wholeD d 0 999).all id)) := by
          show (.dat (.bool ((decide (2 ≤ (ds.length : Int)) && decide ((ds.length : Int) ≤ 5)) && ds.all fun d => wholeD d 0 999)) : Sl) = _
          rw [h', Bool.true_and, List.all_map]
          rfl
        rw [e] at qr
        refine st_ret (e_all rfl (by rfl) B.all (a1 ?_)) fun v H' R' sv => qr _ v H' rfl R' sv
        have em : (ds.map fun d => wholeD d 0 999).map PyData.bool = ds.map fun d => .bool (wholeD d 0 999) := by
          rw [List.map_map]
          rfl
        rw [em]
        refine lc_map (own := [("count", 1)]) g (i := 1) (fun d => .bool (wholeD d 0 999)) (i_tup (v 0)) (by omega) (fun d hd sh Hh C cl fp D acc gD => ?_) rfl scIsToken.nd (blkOk_by (N := ["thing", "count"]) (sc := defScope sIsToken) (by decide +kernel)) (fun sh Hh C cl fp => pg_name (i := 1) scIsToken.nd rfl (Or.inl rfl)) (by simp)
        exact e_call gD cW hr (Nat.le_refl _) (by rfl) ⟨d, 0, 999, rfl, rfl⟩ (a_cons (v 1) (a_cons e_int (a_cons (gi n.puts) a_nil)))
    | _ => simp [isT] at h
/-! check_pair -/
def okPair (d1 d2 : PyData) : Bool := match d1, d2 with
  | .tuple xs, .tuple ys => tokD d1 && tokD d2 && decide (xs.length = ys.length)
  | _, _ => false
def gPair (C : Addr) (rs : List Sl) (o : Out) : Prop := ∃ d1 d2, rs = [.dat d1, .dat d2] ∧ o = if okPair d1 d2 then .ok (.dat .none) else .er (.ref C)
theorem scPair : FnScope ["one", "other", "token"] ["one", "other"] (defScope sPair) := ⟨rfl, rfl, rfl, by decide +kernel, rfl, by decide +kernel, by decide +kernel⟩
theorem tok_shape {d : PyData} (h : tokD d = true) : ∃ ds, d = .tuple ds ∧ 2 ≤ ds.length ∧ ds.length ≤ 5 ∧ ∀ x ∈ ds, ∃ i : Int, x = .int i ∧ 0 ≤ i ∧ i ≤ 999 := by
  cases d with
  | tuple ds =>
    have h : ((decide (2 ≤ (ds.length : Int)) && decide ((ds.length : Int) ≤ 5)) && ds.all fun d => wholeD d 0 999) = true := h
    simp only [Bool.and_eq_true, decide_eq_true_eq, List.all_eq_true] at h
    obtain ⟨⟨h1, h2⟩, h3⟩ := h
    refine ⟨ds, rfl, by omega, by omega, fun x hx => ?_⟩
    have := h3 x hx
    cases x with
    | int i =>
      have h : (decide (0 ≤ i) && decide (i ≤ 999)) = true := this
      simp only [Bool.and_eq_true, decide_eq_true_eq] at h
      exact ⟨i, rfl, h.1, h.2⟩
    | _ => cases this
  | _ => cases h
theorem c_pair {C : Addr} (B : Bl mg) (n : Exn K mg "BadToken" C) (cT : Cal P w K mg base "is_token" 2 (spS K gTok)) (d : Def K mg "check_pair" sPair ["one", "other"]) : Cal P w K mg base "check_pair" 3 (spS K (gPair C)) := by
  refine d.cal scPair (fun rs o ⟨_, _, e, _⟩ => by rw [e]; rfl) ?_
  rintro rs o ⟨d1, d2, rfl, rfl⟩ f cdv A outer sh H E M R D hr g qr qn qe
  refine st_for g (fun i ρ' _ => (∀ j d, j < i → [d1, d2][j]? = some d → tokD d = true) ∧ ∃ r, ρ' = (ini ["one", "other", "token"] [.dat d1, .dat d2]).set 2 r) (passes_of rfl) rfl (pg_name (i := 2) scPair.nd rfl (Or.inl rfl))
    (i_tup (e_tup (ds := [d1, d2]) g (a_cons (v 0) (a_cons (v 1) a_nil)) (by simp))) ⟨fun j d hj => absurd hj (Nat.not_lt_zero _), .any, rfl⟩ (fun i ρi si H1 hi hJ g1 => ?_) (fun ρ' s' hJ => ?_)
  · obtain ⟨hJ, r, rfl⟩ := hJ
    have hd : [d1, d2][i]? = some [d1, d2][i] := List.getElem?_eq_getElem hi
    refine ⟨_, tg0_name, fun N hN => ?_⟩
    rw [itD_lt hd, List.set_set]
    refine st_if (k := !tokD [d1, d2][i]) (t_not (t_val (e_call g1 cT hr (Nat.le_refl _) (by rfl) ⟨_, rfl, rfl⟩ (a_cons (v 2) a_nil)))) (fun h => ?_) (fun h => ?_)
    · refine st_raise rfl n (takes_of rfl rfl rfl rfl) (by rfl) (a_cons e_str a_nil) (by simp) fun σ H' _ R' => qe _ H' ?_ R'.1
      have ht : tokD [d1, d2][i] = false := (Bool.not_eq_true' _).mp h
      have e : okPair d1 d2 = false := by
        have : tokD d1 = false ∨ tokD d2 = false := by
          match i, hi, ht with
          | 0, _, ht => exact .inl ht
          | 1, _, ht => exact .inr ht
        unfold okPair
        split
        · rcases this with e | e
          · rw [e]; rfl
          · rw [e, Bool.and_false]; rfl
        · rfl
      rw [e]
      rfl
    · refine st_thru ?_
      refine st_nil fun σ H hσ hR => ?_
      refine hN σ H _ _ ⟨fun j d hj hjd => ?_, _, rfl⟩ hσ hR
      by_cases hji : j < i
      · exact hJ j d hji hjd
      · have : j = i := by omega
        subst this
        rw [hd] at hjd
        cases hjd
        exact (Bool.not_eq_false' _).mp h
  · obtain ⟨hJ, r, rfl⟩ := hJ
    obtain ⟨xs, rfl, x2, x5, _⟩ := tok_shape (hJ 0 d1 (by simp) rfl)
    obtain ⟨ys, rfl, y2, y5, _⟩ := tok_shape (hJ 1 d2 (by simp) rfl)
    have e : okPair (.tuple xs) (.tuple ys) = decide (xs.length = ys.length) := by
      show (tokD (.tuple xs) && tokD (.tuple ys) && decide (xs.length = ys.length)) = _
      rw [hJ 0 _ (by simp) rfl, hJ 1 _ (by simp) rfl]
      rfl
    rw [e] at qn qe
    refine st_if (t_neD hr.units (e_lenT (by rfl) B.len (a1 (v 0))) (e_lenT (by rfl) B.len (a1 (v 1))) rfl rfl) (fun h => ?_) (fun h => ?_)
    · have hne : xs.length ≠ ys.length := fun z => by
        rw [z] at h
        simp [PyData.eqv] at h
      have l1 : ((xs.length : Int)).natAbs.log2 < 1920 := log_small (by omega) (by omega)
      have l2 : ((ys.length : Int)).natAbs.log2 < 1920 := log_small (by omega) (by omega)
      refine st_raise rfl n (takes_of rfl rfl rfl rfl) (by rfl) (a_cons (e_fstr (j_cons e_str (j_cons (e_fmtI l1 (e_lenT (by rfl) B.len (a1 (v 0)))) (j_cons e_str (j_cons (e_fmtI l2 (e_lenT (by rfl) B.len (a1 (v 1)))) j_nil)))) ?_) a_nil) (by simp) fun σ H' _ R' => qe _ H' ?_ R'
      · have z1 := fmt_len l1
        have z2 := fmt_len l2
        have z3 : (Str.ofString "a token of ").length ≤ 1000 := by decide +kernel
        have z4 : (Str.ofString " sites beside one of ").length ≤ 1000 := by decide +kernel
        show _ + (_ + (_ + (_ + 0))) ≤ 100000
        omega
      · rw [decide_eq_false hne]
        rfl
    · have heq : xs.length = ys.length := by
        simp [PyData.eqv] at h
        omega
      refine st_thru (st_nil fun σ H _ R' => qn σ H ?_ R')
      rw [decide_eq_true heq]
      rfl
/-! tokens as lists of ints -/
theorem tok_ints {d : PyData} (h : tokD d = true) : ∃ xs : List Int, d = .tuple (dI xs) ∧ 2 ≤ xs.length ∧ xs.length ≤ 5 := by
  obtain ⟨ds, rfl, h2, h5, ha⟩ := tok_shape h
  have key : ∀ ds : List PyData, (∀ x ∈ ds, ∃ i : Int, x = .int i ∧ 0 ≤ i ∧ i ≤ 999) → ∃ xs : List Int, ds = dI xs := by
    intro ds
    induction ds with
    | nil => exact fun _ => ⟨[], rfl⟩
    | cons d ds ih =>
      intro h
      obtain ⟨i, rfl, _⟩ := h _ List.mem_cons_self
      obtain ⟨xs, rfl⟩ := ih fun x hx => h x (List.mem_cons_of_mem _ hx)
      exact ⟨i :: xs, rfl⟩
  obtain ⟨xs, rfl⟩ := key ds ha
  rw [List.length_map] at h2 h5
  exact ⟨xs, rfl, h2, h5⟩
theorem pair_ints {d1 d2 : PyData} (h : okPair d1 d2 = true) : ∃ xs ys : List Int, d1 = .tuple (dI xs) ∧ d2 = .tuple (dI ys) ∧ xs.length = ys.length ∧ 2 ≤ xs.length ∧ xs.length ≤ 5 := by
  unfold okPair at h
  split at h
  · rename_i us ws
    simp only [Bool.and_eq_true, decide_eq_true_eq] at h
    obtain ⟨⟨h1, h2⟩, h3⟩ := h
    obtain ⟨xs, e1, a, b⟩ := tok_ints h1
    obtain ⟨ys, e2, c, e⟩ := tok_ints h2
    cases e1
    cases e2
    rw [List.length_map, List.length_map] at h3
    exact ⟨xs, ys, rfl, rfl, h3, a, b⟩
  · cases h
/-! is_within -/
def withinL (xs ys : List Int) : Bool := (List.zipWith (fun i j => decide (i ≤ j)) xs ys).all id
def gWithin (rs : List Sl) (o : Out) : Prop := ∃ xs ys : List Int, xs.length = ys.length ∧ xs.length ≤ 1000 ∧ rs = [.dat (.tuple (dI xs)), .dat (.tuple (dI ys))] ∧ o = .ok (.dat (.bool (withinL xs ys)))
theorem scWithin : FnScope ["one", "other", "mine", "theirs"] ["one", "other"] (defScope sWithin) := ⟨rfl, rfl, rfl, by decide +kernel, rfl, by decide +kernel, by decide +kernel⟩
theorem c_within (B : Bl mg) (d : Def K mg "is_within" sWithin ["one", "other"]) : Cal P w K mg base "is_within" 1 (spS K gWithin) := by
  refine d.cal scWithin (fun rs o ⟨_, _, _, _, e, _⟩ => by rw [e]; rfl) ?_
  rintro rs o ⟨xs, ys, hl, hz, rfl, rfl⟩ f cdv A outer sh H E M R D hr g qr qn qe
  refine st_ret (e_all rfl (by rfl) B.all (a1 ?_)) fun v H' R' sv => qr _ v H' rfl R' sv
  rw [← zip_dB (fun i j => decide (i ≤ j)) (fun d e => match d, e with | .int i, .int j => .bool (decide (i ≤ j)) | _, _ => .none) (fun _ _ => rfl)]
  have hl' : (dI xs).length = (dI ys).length := by rw [List.length_map, List.length_map, hl]
  refine lc_zip (own := [("mine", 2), ("theirs", 3)]) g (i := 2) (i2 := 3) _ (i_zipT (by rfl) B.zip hl' (a_cons (v 0) (a_cons (v 1) a_nil))) hl' (by rw [List.length_map]; omega) (fun d e hd he sh Hh C cl fp D acc gD => ?_) rfl scWithin.nd
    (blkOk_by (N := ["one", "other", "mine", "theirs"]) (sc := defScope sWithin) (by decide +kernel)) (fun sh Hh C cl fp => pg_tup rfl (pgs_cons (pg_name (i := 2) scWithin.nd rfl (Or.inl rfl)) (pgs_cons (pg_name (i := 3) scWithin.nd rfl (Or.inl rfl)) pgs_nil))) (by simp) (by simp)
  obtain ⟨i, rfl, _⟩ := mem_dI hd
  obtain ⟨j, rfl, _⟩ := mem_dI he
  exact e_leI (v 2) (v 3)
/-! joined, compared -/
def mx (i j : Int) : Int := if j > i then j else i
def joinL (xs ys : List Int) : List Int := List.zipWith mx xs ys
def gJoined (C : Addr) (rs : List Sl) (o : Out) : Prop := ∃ d1 d2, rs = [.dat d1, .dat d2] ∧ ((okPair d1 d2 = false ∧ o = .er (.ref C)) ∨ ∃ xs ys : List Int, d1 = .tuple (dI xs) ∧ d2 = .tuple (dI ys) ∧ okPair d1 d2 = true ∧ o = .ok (.dat (.tuple (dI (joinL xs ys)))))
theorem scJoined : FnScope ["one", "other", "mine", "theirs"] ["one", "other"] (defScope sJoined) := ⟨rfl, rfl, rfl, by decide +kernel, rfl, by decide +kernel, by decide +kernel⟩
theorem c_joined {C : Addr} (B : Bl mg) (cP : Cal P w K mg base "check_pair" 3 (spS K (gPair C))) (d : Def K mg "joined" sJoined ["one", "other"]) : Cal P w K mg base "joined" 4 (spS K (gJoined C)) := by
  refine d.cal scJoined (fun rs o ⟨_, _, e, _⟩ => by rw [e]; rfl) ?_
  rintro rs o ⟨d1, d2, rfl, ho⟩ f cdv A outer sh H E M R D hr g qr qn qe
  rcases ho with ⟨hk, rfl⟩ | ⟨xs, ys, rfl, rfl, hk, rfl⟩
  · exact st_exprW fun σ H hσ hR => x_call g cP hr (Nat.le_refl _) (by rfl) (passes_call (takes_of rfl rfl rfl rfl) fun _ _ _ _ h => h) ⟨d1, d2, rfl, by rw [hk]; rfl⟩ (a_cons (v 0) (a_cons (v 1) a_nil)) hσ hR fun H1 _ R1 => qe _ H1 rfl R1
  · obtain ⟨xs', ys', e1, e2, hl, h2, h5⟩ := pair_ints hk
    have e1 : dI xs = dI xs' := by injection e1
    have e2 : dI ys = dI ys' := by injection e2
    have l1 := congrArg List.length e1
    have l2 := congrArg List.length e2
    rw [List.length_map, List.length_map] at l1 l2
    have hl' : (dI xs).length = (dI ys).length := by rw [List.length_map, List.length_map]; omega
    refine st_expr (e_call g cP hr (Nat.le_refl _) (by rfl) (r := .dat .none) ⟨_, _, rfl, by rw [hk]; rfl⟩ (a_cons (v 0) (a_cons (v 1) a_nil))) ?_
    refine st_ret (e_tupleL g (by rfl) B.tuple (a1 ?_)) fun v H' R' sv => qr _ v H' rfl R' sv
    rw [show joinL xs ys = List.zipWith mx xs ys from rfl, ← zip_dI mx (fun d e => match d, e with | .int i, .int j => .int (mx i j) | _, _ => .none) (fun _ _ => rfl)]
    refine lc_zip (own := [("mine", 2), ("theirs", 3)]) g (i := 2) (i2 := 3) _ (i_zipT (by rfl) B.zip hl' (a_cons (v 0) (a_cons (v 1) a_nil))) hl' (by rw [List.length_map]; omega) (fun d e hd he sh Hh C cl fp D acc gD => ?_) rfl scJoined.nd
      (blkOk_by (N := ["one", "other", "mine", "theirs"]) (sc := defScope sJoined) (by decide +kernel)) (fun sh Hh C cl fp => pg_tup rfl (pgs_cons (pg_name (i := 2) scJoined.nd rfl (Or.inl rfl)) (pgs_cons (pg_name (i := 3) scJoined.nd rfl (Or.inl rfl)) pgs_nil))) (by simp) (by simp)
    obtain ⟨i, rfl, _⟩ := mem_dI hd
    obtain ⟨j, rfl, _⟩ := mem_dI he
    exact e_max2 rfl (by rfl) B.max (a_cons (v 2) (a_cons (v 3) a_nil))
def cmpL (xs ys : List Int) : Str := if xs = ys then ("same" : Str) else if withinL xs ys then ("less" : Str) else if withinL ys xs then ("more" : Str) else ("apart" : Str)
def gCompared (C : Addr) (rs : List Sl) (o : Out) : Prop := ∃ d1 d2, rs = [.dat d1, .dat d2] ∧ ((okPair d1 d2 = false ∧ o = .er (.ref C)) ∨ ∃ xs ys : List Int, d1 = .tuple (dI xs) ∧ d2 = .tuple (dI ys) ∧ okPair d1 d2 = true ∧ o = .ok (.dat (.str (cmpL xs ys))))
theorem scCompared : FnScope ["one", "other"] ["one", "other"] (defScope sCompared) := ⟨rfl, rfl, rfl, by decide +kernel, rfl, by decide +kernel, by decide +kernel⟩
theorem c_compared {C : Addr} (B : Bl mg) (cP : Cal P w K mg base "check_pair" 3 (spS K (gPair C))) (cW : Cal P w K mg base "is_within" 1 (spS K gWithin)) (d : Def K mg "compared" sCompared ["one", "other"]) : Cal P w K mg base "compared" 4 (spS K (gCompared C)) := by
  refine d.cal scCompared (fun rs o ⟨_, _, e, _⟩ => by rw [e]; rfl) ?_
  rintro rs o ⟨d1, d2, rfl, ho⟩ f cdv A outer sh H E M R D hr g qr qn qe
  rcases ho with ⟨hk, rfl⟩ | ⟨xs, ys, rfl, rfl, hk, rfl⟩
  · exact st_exprW fun σ H hσ hR => x_call g cP hr (Nat.le_refl _) (by rfl) (passes_call (takes_of rfl rfl rfl rfl) fun _ _ _ _ h => h) ⟨d1, d2, rfl, by rw [hk]; rfl⟩ (a_cons (v 0) (a_cons (v 1) a_nil)) hσ hR fun H1 _ R1 => qe _ H1 rfl R1
  · obtain ⟨xs', ys', e1, e2, hl, h2, h5⟩ := pair_ints hk
    have e1 : dI xs = dI xs' := by injection e1
    have e2 : dI ys = dI ys' := by injection e2
    have l1 := congrArg List.length e1
    have l2 := congrArg List.length e2
    rw [List.length_map, List.length_map] at l1 l2
    have hc : cmpL xs ys = if xs = ys then ("same" : Str) else if withinL xs ys then ("less" : Str) else if withinL ys xs then ("more" : Str) else ("apart" : Str) := rfl
    refine st_expr (e_call g cP hr (Nat.le_refl _) (by rfl) (r := .dat .none) ⟨_, _, rfl, by rw [hk]; rfl⟩ (a_cons (v 0) (a_cons (v 1) a_nil))) ?_
    refine st_if (t_eqD hr.units (v 0) (v 1) (shaped_tI xs) (shaped_tI ys)) (fun h => ?_) (fun h => st_thru ?_)
    · rw [eqv_tI] at h
      refine st_ret e_str fun v H' R' sv => qr _ v H' rfl R' ?_
      rw [hc, if_pos (of_decide_eq_true h)]
      exact sv
    · rw [eqv_tI] at h
      rw [hc, if_neg (of_decide_eq_false h)] at qr
      refine st_if (t_val (e_call g cW hr (by decide) (by rfl) ⟨xs, ys, by omega, by omega, rfl, rfl⟩ (a_cons (v 0) (a_cons (v 1) a_nil)))) (fun h => ?_) (fun h => st_thru ?_)
      · rw [if_pos h] at qr
        exact st_ret e_str fun v H' R' sv => qr _ v H' rfl R' sv
      · rw [if_neg (by rw [h]; exact Bool.false_ne_true)] at qr
        refine st_if (t_val (e_call g cW hr (by decide) (by rfl) ⟨ys, xs, by omega, by omega, rfl, rfl⟩ (a_cons (v 1) (a_cons (v 0) a_nil)))) (fun h => ?_) (fun h => st_thru ?_)
        · rw [if_pos h] at qr
          exact st_ret e_str fun v H' R' sv => qr _ v H' rfl R' sv
        · rw [if_neg (by rw [h]; exact Bool.false_ne_true)] at qr
          exact st_ret e_str fun v H' R' sv => qr _ v H' rfl R' sv
end
end K02
namespace DV
open PySem PySem.Spec L2 Evl
open PyProof.Rows hiding St
section
variable {S : Type} {X : Cx} {M : List Addr} {R : S → Hp → Prop} {ρ : List Sl} {s s1 s2 : S} {a b e : Expr} {rest : List Stmt} {pos : Pos} {D : Ends} {σ : St} {H : Hp}
/-! more of ints -/
theorem e_neg {i : Int} (h : Ev1 X M R ρ a s (.dat (.int i)) s1) : Ev1 X M R ρ (.UnaryOp .USub a pos) s (.dat (.int (-i))) s1 := fun σ H Q hσ hR q => wE_of (pe_un un_neg pe_w) (h σ H _ hσ hR fun v H1 e1 R1 d1 => ⟨i, sv_int d1, q _ H1 e1 R1 (.int _)⟩)
theorem e_mulR {i j : Int} (h1 : -(2 ^ 64) < j) (h2 : j < 2 ^ 64) (ha : Ev1 X M R ρ a s (.dat (.int i)) s1) (hb : Ev1 X M R ρ b s1 (.dat (.int j)) s2) : Ev1 X M R ρ (.BinOp a .Mult b pos) s (.dat (.int (i * j))) s2 := e_opI op_mul (.inr ⟨h1, h2⟩) ha hb
theorem e_mulL {i j : Int} (h1 : -(2 ^ 64) < i) (h2 : i < 2 ^ 64) (ha : Ev1 X M R ρ a s (.dat (.int i)) s1) (hb : Ev1 X M R ρ b s1 (.dat (.int j)) s2) : Ev1 X M R ρ (.BinOp a .Mult b pos) s (.dat (.int (i * j))) s2 := e_opI op_mul (.inl ⟨h1, h2⟩) ha hb
theorem e_mulX {i j : Int} (h : CMulX i j) (ha : Ev1 X M R ρ a s (.dat (.int i)) s1) (hb : Ev1 X M R ρ b s1 (.dat (.int j)) s2) : Ev1 X M R ρ (.BinOp a .Mult b pos) s (.dat (.int (i * j))) s2 := e_opI op_mulX h ha hb
theorem e_fdivW {i j : Int} (h : CDivW i j) (ha : Ev1 X M R ρ a s (.dat (.int i)) s1) (hb : Ev1 X M R ρ b s1 (.dat (.int j)) s2) : Ev1 X M R ρ (.BinOp a .FloorDiv b pos) s (.dat (.int (i / j))) s2 := e_opI op_fdivW h ha hb
/-! == of numbers, texts, truth values -/
theorem e_pow {i j : Int} (h : CPow i j) (ha : Ev1 X M R ρ a s (.dat (.int i)) s1) (hb : Ev1 X M R ρ b s1 (.dat (.int j)) s2) : Ev1 X M R ρ (.BinOp a .Pow b pos) s (.dat (.int (i ^ j.toNat))) s2 := e_opI op_pow h ha hb
/-! ### by hand: the heap told -/
theorem slots0 (h : Slots X.K H σ ρ) : Slots X.K (cut [] H) σ ρ := by rw [cut_nil]; exact h
theorem ev0 {r : Sl} {Q : VK} (h : Ev1 X [] (fun (_ : Unit) H' => Ex H H') ρ e () r ()) (hσ : Slots X.K H σ ρ) (q : ∀ v H2, Ex H H2 → Sv X.K H2 r v → Q v H2) : wE X e σ H Q :=
  h σ H Q (slots0 hσ) (exId _) fun v H2 _ R2 d2 => q v H2 R2 (by rw [cut_nil] at d2; exact d2)
theorem et0 {k : Bool} {Q : Bool → Hp → Prop} (h : EvT1 X [] (fun (_ : Unit) H' => Ex H H') ρ e () k ()) (hσ : Slots X.K H σ ρ) (q : ∀ H2, Ex H H2 → Q k H2) : wT X e σ H Q :=
  h σ H Q (slots0 hσ) (exId _) fun H2 _ R2 => q H2 R2
theorem rg0 : Rg ([] : List Addr) (fun (_ : Unit) H' => Ex H H') := rg_pure fun a m => by cases m
theorem b_if {c : Expr} {x y : List Stmt} (h : wT X c σ H fun k H1 => if k = true then wB X x { D with nx := wB X rest D } σ H1 else wB X y { D with nx := wB X rest D } σ H1) : wB X (.If c x y pos :: rest) D σ H := wB_cons (wS_of (ps_if pt_w pss_w pss_w) h)
theorem b_nil (h : D.nx σ H) : wB X [] D σ H := wB_of pss_nil h
theorem b_ret (h : wE X e σ H D.rt) : wB X (.Return (some e) pos :: rest) D σ H := wB_cons (wS_of (ps_ret pe_w) h)
theorem b_set (i : Nat) {x : Str} {px : Pos} (h : wE X e σ H fun v H1 => wB X rest D (σ.set i (some v)) H1) (hN : X.N.Nodup) (hi : X.N[i]? = some x) (hx : Loc X.env.scope x) (hs : swapsWith e (some (.Name x px)) pos.line X.env = pure false := by rfl)
    (hf : X.fn x = true ∨ X.env.scope.names.lookup x = some .local := by first | exact .inl rfl | exact .inr rfl) : wB X (.Assign [.Name x px] e pos :: rest) D σ H := wB_cons (wS_of (ps_set (i := i) hN hi hx pe_w hs hf) h)
theorem b_expr (h : wE X e σ H fun _ H1 => wB X rest D σ H1) (hs : swapsWith e none pos.line X.env = pure false := by rfl) : wB X (.Expr e pos :: rest) D σ H := wB_cons (wS_of (ps_expr pe_w hs) h)
/-- o[i] = e, o a list -/
theorem b_put {o i : Expr} {ps : Pos} (h : wE X e σ H fun x H1 => wE X o σ H1 fun ov H2 => wE X i σ H2 fun iv H3 => rSetL ov iv x H3 fun H4 => wB X rest D σ H4)
    (hs : swapsWithSole [.Subscript o i ps] e pos.line X.env = pure false := by rfl) (hw : swappedStores [.Subscript o i ps] e X.env = pure none := by rfl) (h1 : (assignEach [.Subscript o i ps] X.env).map (·.2) = [assign (.Subscript o i ps) X.env] := by rfl)
    (ha : ∀ v, assign (.Subscript o i ps) X.env v = (do
      let ov ← holding [v] (eval o X.env)
      let iv ← holding [v, ov] (eval i X.env)
      standAt ps
      holding [v, ov, iv] (setItem ov iv v)
      release [v, ov, iv] []) := by intro _; rfl) : wB X (.Assign [.Subscript o i ps] e pos :: rest) D σ H :=
  wB_cons (wS_of (ps_asg pe_w (pg_sub pe_w pe_w set_list ha) hs hw h1) h)
end
/-! ### the box of draws -/
abbrev Bx := List Int × Int
def BoxAt (b l : Addr) (st : Bx) (H : Hp) : Prop := H b = some (.lst [.ref l, .int st.2]) ∧ H l = some (.lst (st.1.map V.int))
theorem BoxAt.ne {b l : Addr} {st : Bx} {H : Hp} (h : BoxAt b l st H) : b ≠ l := fun e => by
  obtain ⟨h1, h2⟩ := h
  rw [e, h2] at h1
  have : st.1.map V.int = [.ref l, .int st.2] := HO.lst.inj (Option.some.inj h1)
  cases q : st.1 with
  | nil => rw [q] at this; cases this
  | cons x r => rw [q] at this; cases this
def boxD (st : Bx) : PyData := .list [.list (dI st.1), .int st.2]
theorem BoxAt.dv {K : PySem.W.Frag} {b l : Addr} {st : Bx} {H : Hp} (h : BoxAt b l st H) : Dv K H (.ref b) (boxD st) := .lst h.1 (.cons (.lst h.2 (dpa_of_ints _)) (.cons (.int _) .nil))
theorem BoxAt.ex {b l : Addr} {st : Bx} {H H' : Hp} (h : BoxAt b l st H) (e : Ex H H') : BoxAt b l st H' := ⟨e _ _ h.1, e _ _ h.2⟩
def takeS : Bx → Int → Bx
  | ([], t), _ => ([], t * 48271 % 2147483647)
  | (x :: xs, t), n => if x / n = 0 ∨ x / n = -1 then (xs, t) else (x / n :: xs, t)
def takeV : Bx → Int → Int
  | ([], t), n => t * 48271 % 2147483647 / 7 % n
  | (x :: _, _), n => x % n
def spTake : Sp := fun vs H Q _ => ∃ (b l : Addr) (st : Bx) (n : Int), vs = [.ref b, .int n] ∧ 0 < n ∧ n.natAbs.log2 < 9000 ∧ BoxAt b l st H ∧ ∀ H', Ex (cut [b, l] H) (cut [b, l] H') → BoxAt b l (takeS st n) H' → Q (.int (takeV st n)) H'
theorem takeV_nonneg {st : Bx} {n : Int} (h : 0 < n) : 0 ≤ takeV st n := by
  obtain ⟨xs, t⟩ := st
  cases xs with
  | nil => exact Int.emod_nonneg _ (by omega)
  | cons x r => exact Int.emod_nonneg _ (by omega)
theorem takeV_lt {st : Bx} {n : Int} (h : 0 < n) : takeV st n < n := by
  obtain ⟨xs, t⟩ := st
  cases xs with
  | nil => exact Int.emod_lt_of_pos _ h
  | cons x r => exact Int.emod_lt_of_pos _ h
/-- the state holds a box -/
structure BoxIn {S : Type} (M : List Addr) (R : S → Hp → Prop) (b l : Addr) (get : S → Bx) (put : S → Bx → S) : Prop where
  mb : b ∈ M
  ml : l ∈ M
  at_ : ∀ {s : S} {H : Hp}, R s H → BoxAt b l (get s) H
  to : ∀ {s : S} {H H' : Hp} {st : Bx}, R s H → Ex (cut [b, l] H) (cut [b, l] H') → BoxAt b l st H' → R (put s st) H'
theorem BoxIn.rd {S : Type} {M : List Addr} {R : S → Hp → Prop} {b l : Addr} {get : S → Bx} {put : S → Bx → S} (h : BoxIn M R b l get put) (D : Addr) (acc : List V) : BoxIn (D :: M) (RD R D acc) b l get put := by
  refine ⟨List.mem_cons_of_mem _ h.mb, List.mem_cons_of_mem _ h.ml, fun ⟨q, _⟩ => (h.at_ q).ex ex_rem, fun {s H H' st} ⟨q, d⟩ e bx => ?_⟩
  have b0 := h.at_ q
  have nb : b ≠ D := (rem_some b0.1).1
  have nl : l ≠ D := (rem_some b0.2).1
  refine ⟨h.to q (fun a o ha => ?_) ⟨by rw [rem_ne nb]; exact bx.1, by rw [rem_ne nl]; exact bx.2⟩, ?_⟩
  · obtain ⟨n, ha⟩ := cut_some ha
    obtain ⟨nD, ha⟩ := rem_some ha
    have := e a o (by rw [cut_out n]; exact ha)
    rw [cut_out n] at this ⊢
    rw [rem_ne nD]
    exact this
  · have nD : D ∉ [b, l] := fun m => by
      rcases List.mem_cons.mp m with z | m
      · exact nb z.symm
      · rcases List.mem_cons.mp m with z | m
        · exact nl z.symm
        · cases m
    have := e D _ (by rw [cut_out nD]; exact d)
    rw [cut_out nD] at this
    exact this
theorem BoxIn.rx {S : Type} {M : List Addr} {R : S → Hp → Prop} {b l : Addr} {get : S → Bx} {put : S → Bx → S} (h : BoxIn M R b l get put) (H1 : Hp) : BoxIn M (RX R M H1) b l get put := by
  refine ⟨h.mb, h.ml, fun ⟨q, _⟩ => h.at_ q, fun {s H H' st} ⟨q, x⟩ e bx => ⟨h.to q e bx, fun a o ha => ?_⟩⟩
  have z := x a o ha
  have nM := (cut_some ha).1
  have n2 : a ∉ [b, l] := fun m => by
    rcases List.mem_cons.mp m with z | m
    · exact nM (by rw [z]; exact h.mb)
    · rcases List.mem_cons.mp m with z | m
      · exact nM (by rw [z]; exact h.ml)
      · cases m
  rw [cut_out nM] at z ⊢
  have := e a o (by rw [cut_out n2]; exact z)
  rw [cut_out n2] at this
  exact this
section
variable {S : Type} {X : Cx} {M : List Addr} {R : S → Hp → Prop} {ρ : List Sl} {s s1 s2 : S} {e e' : Expr} {px pos : Pos} {b l : Addr} {get : S → Bx} {put : S → Bx → S} {j k : Nat}
/-- _law_take(box, n) -/
theorem e_take {x : Str} {n : Int} (B : BoxIn M R b l get put) (c : Cal X.prog X.w X.K X.mg X.base x k spTake) (hr : Room j X.A) (hk : k ≤ j) (hg : Gl X x) (hn : 0 < n) (hn2 : n.natAbs.log2 < 9000) (ha : EvA1 X M R ρ [e, e'] s [.raw (.ref b), .dat (.int n)] s1) (hdb : (x == ("__debug__" : Str)) = false := by decide)
    (he : starEach [e, e'] X.env = (false, eval e X.env) :: starEach [e'] X.env := by rfl) (hpl : (backTo pos (starEach [e'] X.env)).any (·.1) = false := by rfl) :
    Ev1 X M R ρ (.Call (.Name x px) [e, e'] [] pos) s (.dat (.int (takeV (get s1) n))) (put s1 (takeS (get s1) n)) := by
  intro σ H Q hσ hR q
  refine w_call c hr hk hg passL ha hσ hR (fun vs H1 e1 d1 R1 => ?_) hdb he hpl
  obtain ⟨v, w, rfl, d1, d2⟩ := svall2 d1
  have d1 : v = .ref b := d1
  subst d1
  refine ⟨b, l, get s1, n, by rw [sv_int d2], hn, hn2, B.at_ R1, fun H' e2 bx => ?_⟩
  refine q _ H' (e1.trans fun a o ha => ?_) (B.to R1 e2 bx) (.int _)
  have nM := (cut_some ha).1
  have n2 : a ∉ [b, l] := fun m => by
    rcases List.mem_cons.mp m with z | m
    · exact nM (by rw [z]; exact B.mb)
    · rcases List.mem_cons.mp m with z | m
      · exact nM (by rw [z]; exact B.ml)
      · cases m
  rw [cut_out nM] at ha ⊢
  have := e2 a o (by rw [cut_out n2]; exact ha)
  rw [cut_out n2] at this
  exact this
end
section
variable {P : Program} {w : World} {K : PySem.W.Frag} {mg : Str → Option Value} {base : Heap}
/-- a def by any promise, its body's reading -/
theorem Def.calW {x : Str} {st : Stmt} {ps N : List Str} {k : Nat} {sp : Sp} (d : Def K mg x st ps) (S : FnScope N ps (defScope st)) (len : ∀ vs H Q E, sp vs H Q E → vs.length = ps.length)
    (hb : ∀ (f : Addr) (cdv : Value) (A : Around) (outer : List Env) (sh : Shared) (H : Hp) (vs : List V) (Q : VK) (E : XK), Room k (A.deeper (envOfC x (defScope st) sh.heap.objs.size f cdv)) → sp vs H Q E →
      wB (dx P w K mg base N x st f cdv A outer sh H E) (defBody st) { nx := fun _ H' => Q .non H', rt := Q } (L2.start N vs) H) : Cal P w K mg base x (k + 1) sp := by
  obtain ⟨f, fd, F, hm, b⟩ := d.ex
  refine ⟨f, fd, ps, ?_, hm, F.kp, b⟩
  exact F.okX S len fun cdv A outer s H vs Q E hr h => ⟨_, pss_w, hb f cdv A outer s H vs Q E hr h⟩
end
end DV
namespace K02
open PySem PySem.Spec L2 Evl DV
open PyProof.Rows hiding St
abbrev sBegun : Stmt := topS 26
abbrev sTake : Stmt := topS 27
abbrev sAlike : Stmt := topS 28
abbrev sTold : Stmt := topS 29
abbrev sAll : Stmt := topS 30
abbrev sLWithin : Stmt := topS 31
abbrev sLJoin : Stmt := topS 32
abbrev sLToken : Stmt := topS 33
abbrev sLOdd : Stmt := topS 34
abbrev sLaw : Stmt := topS 35
section
variable {P : Program} {w : World} {K : PySem.W.Frag} {mg : Str → Option Value} {base : Heap}
theorem exU {M : List Addr} {H H' : Hp} {b : Addr} {o : HO} (e : Ex (cut M H) (cut M H')) (m : b ∈ M) : Ex (cut M H) (cut M (upd H' b o)) := by rw [cut_upd_in m]; exact e
theorem at0 {α : Type} {x : α} {xs : List α} : atI (x :: xs) 0 = some x := atI_nat (j := 0) rfl
theorem ix0 {n : Nat} : ixN (n + 1) 0 = some 0 := by
  unfold ixN
  rw [if_pos (by omega), if_pos (by omega)]
  rfl
theorem seq0 {n : Nat} : seqIndex? 0 (n + 1) = some 0 := by
  unfold seqIndex?
  simp
theorem mem_b {b l : Addr} : b ∈ [b, l] := List.mem_cons_self
theorem mem_l {b l : Addr} : l ∈ [b, l] := List.mem_cons_of_mem _ List.mem_cons_self
theorem scTake : FnScope ["_law_box", "_law_many", "_law_number"] ["_law_box", "_law_many"] (defScope sTake) := ⟨rfl, rfl, rfl, by decide +kernel, rfl, by decide +kernel, by decide +kernel⟩
theorem c_take (d : Def K mg "_law_take" sTake ["_law_box", "_law_many"]) : Cal P w K mg base "_law_take" 1 spTake := by
  refine d.calW scTake (fun vs H Q E ⟨_, _, _, _, e, _⟩ => by rw [e]; rfl) ?_
  rintro f cdv A outer sh H vs Q E hr ⟨b, l, ⟨xs, t⟩, n, rfl, hn, hn2, bx, q⟩
  have hb : b ≠ l := bx.ne
  cases xs with
  | nil =>
    have hσ : ∀ {t : Int} {H1 : Hp}, BoxAt b l ([], t) H1 → Slots K H1 (L2.start ["_law_box", "_law_many", "_law_number"] [.ref b, .int n]) [.dat (boxD ([], t)), .dat (.int n), .any] := fun bx => ⟨⟨_, rfl, bx.dv⟩, ⟨_, rfl, .int n⟩, trivial, trivial⟩
    have hρ : ∀ {H1 : Hp}, Slots K H1 (L2.start ["_law_box", "_law_many", "_law_number"] [.ref b, .int n]) [.raw (.ref b), .any, .any] := ⟨rfl, trivial, trivial, trivial⟩
    refine b_if (et0 (k := true) (t_eqD (d1 := .list []) (d2 := .list []) hr.units (e_ixL (v 0) e_int rfl) (e_lst rg0 (ds := []) a_nil (by simp)) rfl rfl) (hσ bx) fun H1 e1 => ?_)
    rw [if_pos rfl]
    have b1 := bx.ex e1
    refine b_put (ev0 (e_mod (by decide) (e_mulR (by decide) (by decide) (e_ixL (v 0) e_int rfl) e_int) e_int) (hσ b1) fun x H2 e2 d2 => ?_)
    rw [sv_int d2]
    refine ev0 (v 0) hρ fun ov H3 e3 d3 => ev0 e_int hρ fun iv H4 e4 d4 => ?_
    have b4 := ((b1.ex e2).ex e3).ex e4
    refine ⟨b, _, 1, 1, d3, sv_int d4, b4.1, rfl, ?_⟩
    have b5 : BoxAt b l ([], t * 48271 % 2147483647) (upd H4 b (.lst ([V.ref l, .int t].set 1 (.int (t * 48271 % 2147483647))))) := ⟨upd_same, by rw [upd_ne hb.symm]; exact b4.2⟩
    refine b_ret (ev0 (e_mod hn (e_fdivW (wide_div (b := 3) (by decide) (by decide) (by decide) (by decide)) (e_ixL (v 0) e_int rfl) e_int) (v 1)) (hσ b5) fun x H5 e5 d5 => ?_)
    rw [sv_int d5]
    have e14 : Ex H H4 := e1.trans (e2.trans (e3.trans e4))
    exact q H5 ((exU (exCut e14) mem_b).trans (exCut e5)) (b5.ex e5)
  | cons x xs =>
    have hσ : ∀ {st : Bx} {H1 : Hp} {o : Option V} {r : Sl}, So K H1 r o → BoxAt b l st H1 → Slots K H1 [some (.ref b), some (.int n), o] [.dat (boxD st), .dat (.int n), r] := fun h bx => ⟨⟨_, rfl, bx.dv⟩, ⟨_, rfl, .int n⟩, h, trivial⟩
    have hρ : ∀ {H1 : Hp} {o : Option V}, Slots K H1 [some (.ref b), some (.int n), o] [.raw (.ref b), .any, .any] := ⟨rfl, trivial, trivial, trivial⟩
    refine b_if (et0 (k := false) (t_eqD (d1 := .list (.int x :: dI xs)) (d2 := .list []) hr.units (e_ixL (v 0) e_int rfl) (e_lst rg0 (ds := []) a_nil (by simp)) (shaped_lI (x :: xs)) rfl) (hσ (r := .any) trivial bx) fun H1 e1 => ?_)
    rw [if_neg Bool.false_ne_true]
    have b1 := bx.ex e1
    refine b_nil (b_set 2 (ev0 (e_ixL (e_ixL (ds := [.list (.int x :: dI xs), .int t]) (v 0) e_int rfl) e_int at0) (hσ (r := .any) (st := (x :: xs, t)) trivial b1) fun y H2 e2 d2 => ?_) scTake.nd rfl (Or.inl rfl))
    rw [sv_int d2]
    have b2 := b1.ex e2
    have sx : ∀ {H : Hp}, So K H (.dat (.int x)) (some (.int x)) := ⟨_, rfl, .int x⟩
    refine b_put (ev0 (e_fdivW ⟨hn, hn2⟩ (v 2) (v 1)) (hσ sx b2) fun y H3 e3 d3 => ?_)
    rw [sv_int d3]
    refine wE_of (pe_ix ix_list pe_w pe_w fun _ _ => rfl) (ev0 (v 0) hρ fun ov H4 e4 d4 => ev0 e_int hρ fun iv H5 e5 d5 => ?_)
    have b5 := (b2.ex e3).ex (e4.trans e5)
    refine ⟨b, _, 0, .ref l, d4, sv_int d5, sq_of b5.1, rfl, ?_⟩
    refine ev0 e_int hρ fun iv H6 e6 d6 => ?_
    have b6 := b5.ex e6
    refine ⟨l, _, 0, 0, rfl, sv_int d6, b6.2, ix0, ?_⟩
    have e16 : Ex H H6 := e1.trans (e2.trans (e3.trans (e4.trans (e5.trans e6))))
    have b7 : BoxAt b l (x / n :: xs, t) (upd H6 l (.lst (((x :: xs).map V.int).set 0 (.int (x / n))))) := ⟨by rw [upd_ne hb]; exact b6.1, upd_same⟩
    have x7 : Ex (cut [b, l] H) (cut [b, l] (upd H6 l (.lst (((x :: xs).map V.int).set 0 (.int (x / n)))))) := exU (exCut e16) mem_l
    refine b_if (et0 (t_w (w_or (t_eqD (d1 := .int (x / n)) (d2 := .int 0) hr.units (e_ixL (e_ixL (ds := [.list (.int (x / n) :: dI xs), .int t]) (v 0) e_int rfl) e_int at0) e_int rfl rfl)
      fun _ => w_or1 (t_eqD (d1 := .int (x / n)) (d2 := .int (-1)) hr.units (e_ixL (e_ixL (ds := [.list (.int (x / n) :: dI xs), .int t]) (v 0) e_int rfl) e_int at0) (e_neg e_int) rfl rfl))) (hσ (st := (x / n :: xs, t)) sx b7) fun H8 e8 => ?_)
    have b8 := b7.ex e8
    have x8 := x7.trans (exCut e8)
    have fin : ∀ {H9 : Hp}, Ex (cut [b, l] H) (cut [b, l] H9) → BoxAt b l (takeS (x :: xs, t) n) H9 → wB (dx P w K mg base ["_law_box", "_law_many", "_law_number"] "_law_take" sTake f cdv A outer sh H E) [defBody sTake |>.getD 4 (.Pass ⟨0, 0, 0, 0⟩)] { nx := fun _ H' => Q .non H', rt := Q } [some (.ref b), some (.int n), some (.int x)] H9 := fun {H9} x9 b9 =>
      b_ret (ev0 (ρ := [.any, .dat (.int n), .dat (.int x)]) (e_mod hn (v 2) (v 1)) ⟨trivial, ⟨_, rfl, .int n⟩, sx, trivial⟩ fun y H10 e10 d10 => by
        rw [sv_int d10]
        exact q H10 (x9.trans (exCut e10)) (b9.ex e10))
    by_cases hq : x / n = 0 ∨ x / n = -1
    · have hk : (PyData.eqv (.int (x / n)) (.int 0) || PyData.eqv (.int (x / n)) (.int (-1))) = true := by
        show ((x / n == 0) || (x / n == -1)) = true
        simpa using hq
      rw [if_pos hk]
      have es : takeS (x :: xs, t) n = (xs, t) := if_pos hq
      refine b_expr (wE_of (pe_bm PySem.F.plainAttrs_list PySem.F.slot_list_pop PySem.F.type_list_pop (mt_popAt : MtM _ _ _) (pe_ix ix_list pe_w pe_w fun _ _ => rfl) pa_w) (ev0 (v 0) hρ fun ov H9 e9 d9 => ev0 e_int hρ fun iv H10 e10 d10 => ?_))
      have b10 := b8.ex (e9.trans e10)
      refine ⟨b, _, 0, .ref l, d9, sv_int d10, sq_of b10.1, rfl, .inl ⟨rfl, _, sq_of b10.2⟩, ?_⟩
      refine wA_of (pa_cons pe_w pa_nil) (ev0 e_int hρ fun iv H11 e11 d11 => ?_)
      rw [sv_int d11]
      have b11 := b10.ex e11
      refine ⟨l, _, 0, 0, .int (x / n), rfl, rfl, b11.2, by decide, by decide, seq0, rfl, ?_⟩
      · refine b_nil (fin (exU (x8.trans (exCut (e9.trans (e10.trans e11)))) mem_l) ?_)
        rw [es]
        exact ⟨by rw [upd_ne hb]; exact b11.1, upd_same⟩
    · have hk : (PyData.eqv (.int (x / n)) (.int 0) || PyData.eqv (.int (x / n)) (.int (-1))) = false := by
        show ((x / n == 0) || (x / n == -1)) = false
        simpa using hq
      rw [hk, if_neg Bool.false_ne_true]
      have es : takeS (x :: xs, t) n = (x / n :: xs, t) := if_neg hq
      exact b_nil (fin x8 (by rw [es]; exact b8))
end
end K02
namespace DV
open PySem PySem.Spec L2 Evl
open PyProof.Rows hiding St
section
variable {S : Type} {X : Cx} {M : List Addr} {R : S → Hp → Prop} {ρ : List Sl} {s s1 s2 : S} {a b e e' tg : Expr} {es : List Expr} {rest : List Stmt} {px pos : Pos} {D : Ends} {σ : St} {H : Hp}
/-! a list that is only read, told by the state -/
theorem i_raw {p : Addr} {ns : List Int} (hS : ∀ H', R s1 H' → SqL X.K H' p (ns.map V.int)) (h : Ev1 X M R ρ e s (.raw (.ref p)) s1) (keep : ∀ H1 H2, R s1 H1 → Ex (cut M H1) (cut M H2) → SqL X.K H2 p (ns.map V.int)) :
    EvI1 X M R ρ tg e s ns.length (itD (dI ns)) s1 := by
  refine ⟨_, pi_list pe_w, fun σ H k hσ hR q => ?_⟩
  refine h σ H _ hσ hR fun v H1 e1 R1 d1 => ?_
  have d1 : v = .ref p := d1
  subst d1
  refine ⟨p, rfl, ⟨_, hS H1 R1⟩, q _ H1 e1 R1 ⟨fun H => SqL X.K H p (ns.map V.int), fun H2 e2 => keep H1 H2 R1 e2, ?_⟩⟩
  have l : (ns.map V.int).length = ns.length := List.length_map _
  rw [← l]
  refine walk_list.mono (fun _ h => h) fun i H2 x H' _ _ ⟨e, hx⟩ M' em dm e2 => ?_
  subst e
  exact ⟨exId _, sv_itD (dpa_of_ints ns) hx⟩
theorem e_lenR {p : Addr} {ns : List Int} (hS : ∀ H', R s1 H' → SqL X.K H' p (ns.map V.int)) (hg : Gl X "len") (hm : X.mg "len" = none) (ha : EvA1 X M R ρ [e] s [.raw (.ref p)] s1) (he : starEach [e] X.env = (false, eval e X.env) :: starEach [] X.env := by rfl)
    (hpl : (backTo pos (starEach [] X.env)).any (·.1) = false := by rfl) : Ev1 X M R ρ (.Call (.Name "len" px) [e] [] pos) s (.dat (.int ns.length)) s1 :=
  e_callB call_len_seq hg hm PySem.boot_len ha (fun vs H Q h hR q => by
    obtain ⟨v, rfl, h1⟩ := svall1 h
    have h1 : v = .ref p := h1
    subst h1
    refine ⟨p, _, rfl, .inl (hS H hR), ?_⟩
    rw [List.length_map]
    exact q _ H (exId _) hR (.int _)) (by decide) (by decide) he hpl
theorem e_listR (g : Rg M R) {p : Addr} {ns : List Int} (hS : ∀ H', R s1 H' → SqL X.K H' p (ns.map V.int)) (hg : Gl X "list") (hm : X.mg "list" = none) (ha : EvA1 X M R ρ [e] s [.raw (.ref p)] s1) (he : starEach [e] X.env = (false, eval e X.env) :: starEach [] X.env := by rfl)
    (hpl : (backTo pos (starEach [] X.env)).any (·.1) = false := by rfl) : Ev1 X M R ρ (.Call (.Name "list" px) [e] [] pos) s (.dat (.list (dI ns))) s1 :=
  e_callTy call_list_of hg hm boot_list ha (fun vs H Q h hR q => by
    obtain ⟨v, rfl, h1⟩ := svall1 h
    have h1 : v = .ref p := h1
    subst h1
    exact ⟨p, _, rfl, .inl (hS H hR), fun l n => new_lst g hR n (dpa_of_ints ns) q⟩) (by decide) (by decide) he hpl
theorem e_lenTI {xs : List Int} (hg : Gl X "len") (hm : X.mg "len" = none) (ha : EvA1 X M R ρ [e] s [.dat (.tuple (dI xs))] s1) (he : starEach [e] X.env = (false, eval e X.env) :: starEach [] X.env := by rfl)
    (hpl : (backTo pos (starEach [] X.env)).any (·.1) = false := by rfl) : Ev1 X M R ρ (.Call (.Name "len" px) [e] [] pos) s (.dat (.int xs.length)) s1 := by
  have h := e_lenT (px := px) (pos := pos) hg hm ha he hpl
  rw [List.length_map] at h
  exact h
theorem i_rngN {n : Nat} (hg : Gl X "range") (hm : X.mg "range" = none) (hn : n ≤ 1000000) (h : EvA1 X M R ρ [e] s [.dat (.int (n : Int))] s1) (hs : starEach [e] X.env = [(false, eval e X.env)] := by rfl) :
    EvI1 X M R ρ tg (.Call (.Name "range" px) [e] [] pos) s n (fun i => .dat (.int i)) s1 := by
  have k := i_rng (tg := tg) (px := px) (pos := pos) hg hm (by omega) (by omega) h hs
  rw [Int.toNat_natCast] at k
  exact k
/-! is None -/
def isN : PyData → Bool
  | .none => true
  | _ => false
theorem dv_non {K : PySem.W.Frag} {H : Hp} {d : PyData} {v : V} (h : Dv K H v d) : decide (v = .non) = isN d := by
  cases h <;> first | rfl | exact decide_eq_false (by intro z; cases z)
theorem e_isN {d : PyData} {j pos'} (h : Ev1 X M R ρ a s (.dat d) s1) : Ev1 X M R ρ (.Compare a [.Is] [.Constant .none j pos'] pos) s (.dat (.bool (isN d))) s1 := fun σ H Q hσ hR q =>
  wE_of (pe_cmp (pc_isN pe_w) rfl) (h σ H _ hσ hR fun v H1 e1 R1 d1 => by
    rw [dv_non (show Dv X.K (cut M H1) v d from d1)]
    exact q _ H1 e1 R1 (.bl _))
theorem t_isN {d : PyData} {j pos'} (h : Ev1 X M R ρ a s (.dat d) s1) : EvT1 X M R ρ (.Compare a [.Is] [.Constant .none j pos'] pos) s (isN d) s1 := fun σ H Q hσ hR q =>
  wT_of (pt_cmp (pc_isN pe_w) rfl) (h σ H _ hσ hR fun v H1 e1 R1 d1 => ⟨_, rfl, by
    rw [dv_non (show Dv X.K (cut M H1) v d from d1)]
    exact q H1 e1 R1⟩)
/-! a, b = x, y -/
theorem st_par {i j : Nat} {x y : Str} {ra rb : Sl} {pxx pyy pt : Pos} {kt k2 pt2} (hc : X.calm = true) (hN : X.N.Nodup) (hi : X.N[i]? = some x) (hj : X.N[j]? = some y) (hij : i ≠ j) (hx : X.env.scope.names.lookup x = some .local) (hy : X.env.scope.names.lookup y = some .local)
    (ha : EvA1 X M R ρ [a, b] s [ra, rb] s1) (k : St1 X M R ((ρ.set i ra).set j rb) rest s1 D) (P : ∀ {ta : TA}, PA X [a, b] ta → PS X (.Assign [.Tuple [.Name x pxx, .Name y pyy] kt pt] (.Tuple [a, b] k2 pt2) pos) (tPar i j ta)) :
    St1 X M R ρ (.Assign [.Tuple [.Name x pxx, .Name y pyy] kt pt] (.Tuple [a, b] k2 pt2) pos :: rest) s D := by
  intro σ H hσ hR
  refine wB_cons (wS_of (P pa_w) ?_)
  refine ha σ H _ hσ hR fun vs H1 e1 R1 d1 => ?_
  obtain ⟨v, w, rfl, d1, d2⟩ := svall2 d1
  exact ⟨v, w, rfl, k _ H1 (Slots.set d2 j (Slots.set d1 i (hσ.ex e1))) R1⟩
end
end DV
namespace K02
open PySem PySem.Spec L2 Evl DV
open PyProof.Rows hiding St
section
variable {P : Program} {w : World} {K : PySem.W.Frag} {mg : Str → Option Value} {base : Heap}
/-! _law_begun -/
def stir (ns : List Int) : Int := ns.foldl (fun t z => (t * 48271 + z * 69621 + 11) % 2147483647) 0
def begunS (ns : List Int) : Bx := (ns, stir ns * (if decide (2 < (ns.length : Int)) = true then 1 else 0))
def spBegun (K : PySem.W.Frag) : Sp := fun vs H Q _ => ∃ (a : Addr) (ns : List Int), vs = [.ref a] ∧ SqL K H a (ns.map V.int) ∧ ns.length ≤ 63 ∧ (∀ z ∈ ns, Builtin.Int.intBits z ≤ 1048576) ∧
  ∀ H' b l, Ex H H' → H b = none → H l = none → BoxAt b l (begunS ns) H' → Q (.ref b) H'
theorem stir_take {ns : List Int} {i : Nat} {z : Int} (h : ns[i]? = some z) : stir (ns.take (i + 1)) = (stir (ns.take i) * 48271 + z * 69621 + 11) % 2147483647 := by
  unfold stir
  rw [take_succ' h, List.foldl_append]
  rfl
theorem stir_range (ns : List Int) : 0 ≤ stir ns ∧ stir ns < 2147483647 := by
  have key : ∀ (ns : List Int) (t : Int), 0 ≤ t → t < 2147483647 → 0 ≤ ns.foldl (fun t z => (t * 48271 + z * 69621 + 11) % 2147483647) t ∧ ns.foldl (fun t z => (t * 48271 + z * 69621 + 11) % 2147483647) t < 2147483647 := by
    intro ns
    induction ns with
    | nil => exact fun t a b => ⟨a, b⟩
    | cons z ns ih => exact fun t _ _ => ih _ (Int.emod_nonneg _ (by decide)) (Int.emod_lt_of_pos _ (by decide))
  exact key ns 0 (by decide) (by decide)
theorem scBegun : FnScope ["_law_script", "_law_stirred", "_law_cell"] ["_law_script"] (defScope sBegun) := ⟨rfl, rfl, rfl, by decide +kernel, rfl, by decide +kernel, by decide +kernel⟩
theorem c_begun (B : Bl mg) (d : Def K mg "_law_begun" sBegun ["_law_script"]) : Cal P w K mg base "_law_begun" 1 (spBegun K) := by
  refine d.calW scBegun (fun vs H Q E ⟨_, _, e, _⟩ => by rw [e]; rfl) ?_
  rintro f cdv A outer sh H vs Q E hr ⟨a, ns, rfl, hS, hl, hbits, q⟩
  have hS' : ∀ H', Ex H H' → SqL K H' a (ns.map V.int) := fun H' e => ex_l e hS
  have main : St1 (dx P w K mg base ["_law_script", "_law_stirred", "_law_cell"] "_law_begun" sBegun f cdv A outer sh H E) [] (fun (_ : Unit) H' => Ex H H') [.raw (.ref a), .any, .any] (defBody sBegun) () { nx := fun _ H' => Q .non H', rt := Q } := by
    refine st_set 1 scBegun.nd rfl (Or.inl rfl) e_int ?_
    refine st_for rg0 (fun i ρ' _ => ∃ r, ρ' = [.raw (.ref a), .dat (.int (stir (ns.take i))), r]) (passes_of rfl) rfl (pg_name (i := 2) scBegun.nd rfl (Or.inl rfl)) (i_raw (ns := ns) (fun H' e => hS' H' e) (v 0) fun H1 H2 e1 e2 => hS' H2 (e1.trans (by rw [cut_nil, cut_nil] at e2; exact e2))) ⟨_, rfl⟩
      (fun i ρi si H1 hi hJ g1 => ?_) (fun ρ' s' hJ => ?_)
    · obtain ⟨r, rfl⟩ := hJ
      have hd : ns[i]? = some ns[i] := List.getElem?_eq_getElem hi
      have hd2 : (dI ns)[i]? = some (.int ns[i]) := by rw [List.getElem?_map, hd]; rfl
      refine ⟨_, tg0_name, fun N hN => ?_⟩
      rw [itD_lt hd2]
      have hb := hbits ns[i] (List.getElem_mem hi)
      have h69 : Builtin.Int.intBits 69621 ≤ 64 := by decide +kernel
      refine st_set 1 scBegun.nd rfl (Or.inl rfl) (e_mod (by decide) (e_add (e_add (e_mulR (by decide) (by decide) (v 1) e_int) (e_mulX (i := ns[i]) (j := 69621) (by show (_ : Int) + _ ≤ _; omega) (v 2) e_int)) e_int) e_int) ?_
      refine st_nil fun σ H2 hσ hR => hN σ H2 _ _ ⟨.dat (.int ns[i]), ?_⟩ hσ hR
      rw [stir_take hd]
      rfl
    · obtain ⟨r, rfl⟩ := hJ
      rw [List.take_length]
      intro σ H1 hσ e1
      rw [cut_nil] at hσ
      refine b_ret (wE_of (pe_lst (pa_cons pe_w (pa_cons pe_w pa_nil))) ?_)
      refine wE_of (pe_callTy call_list_of (by rfl) B.list boot_list pa_w) ?_
      refine wA_of (pa_cons pe_w pa_nil) (ev0 (v 0) hσ fun v1 H2 e2 d2 => ?_)
      have d2 : v1 = .ref a := d2
      subst d2
      refine ⟨a, _, rfl, .inl (hS' H2 (e1.trans e2)), fun l nl => ?_⟩
      have e2' : Ex H2 (upd H2 l (.lst (ns.map V.int))) := Ex.new nl
      refine ev0 (r := .dat (.int (begunS ns).2)) (H := upd H2 l (.lst (ns.map V.int))) (ρ := [.raw (.ref a), .dat (.int (stir ns)), r]) ?_ (hσ.ex (e2.trans e2')) fun v2 H3 e3 d3 => ?_
      · have hx : ∀ H', Ex (upd H2 l (.lst (ns.map V.int))) H' → SqL K H' a (ns.map V.int) := fun H' e => hS' H' (e1.trans (e2.trans (e2'.trans e)))
        have h1 := stir_range ns
        refine e_mulL (by omega) (by omega) (v 1) (e_intB (by rfl) B.int (a1 (e_gtI (e_lenR (ns := ns) (fun H' e => hx H' e) (by rfl) B.len (a1 (v 0))) e_int)))
      · rw [sv_int d3]
        refine ⟨by show 2 ≤ sizeLine; decide, fun b nb => ?_⟩
        have hbl : l ≠ b := ne_of_none (e3 _ _ (upd_same)) nb
        refine q _ b l ?_ ?_ ?_ ⟨upd_same, ?_⟩
        · exact e1.trans (e2.trans (e2'.trans (e3.trans (Ex.new nb))))
        · exact fresh_back (e1.trans (e2.trans (e2'.trans e3))) nb
        · exact fresh_back (e1.trans e2) nl
        · rw [upd_ne hbl]
          exact e3 _ _ upd_same
  exact main _ H (slots0 ⟨rfl, trivial, trivial, trivial⟩) (exId _)
/-! _law_within, _law_join -/
theorem getD_of {xs : List Int} {j : Nat} (h : j < xs.length) : xs[j]? = some (xs.getD j 0) := by
  rw [List.getD_eq_getElem?_getD, List.getElem?_eq_getElem h]
  rfl
theorem scLWithin : FnScope ["_law_one", "_law_other", "_law_k"] ["_law_one", "_law_other"] (defScope sLWithin) := ⟨rfl, rfl, rfl, by decide +kernel, rfl, by decide +kernel, by decide +kernel⟩
theorem within_filter (xs ys : List Int) (hl : xs.length = ys.length) : decide ((((List.range xs.length).filter fun j => decide (ys.getD j 0 < xs.getD j 0)).map fun j => ((j : Nat) : Int)) = ([] : List Int)) = withinL xs ys := by
  rw [Bool.eq_iff_iff, decide_eq_true_eq, List.map_eq_nil_iff, List.filter_eq_nil_iff]
  unfold withinL
  rw [List.all_eq_true]
  constructor
  · intro h x hx
    obtain ⟨j, hj⟩ := List.mem_iff_getElem?.mp hx
    rw [List.getElem?_zipWith] at hj
    have hjl : j < xs.length := by
      by_cases z : j < xs.length
      · exact z
      · rw [List.getElem?_eq_none (by omega)] at hj
        cases hj
    rw [getD_of hjl, getD_of (xs := ys) (by omega)] at hj
    have := h j (List.mem_range.mpr hjl)
    have e : x = decide (xs.getD j 0 ≤ ys.getD j 0) := (Option.some.inj hj).symm
    rw [e]
    simp at this ⊢
    exact this
  · intro h j hj
    have hjl := List.mem_range.mp hj
    have : decide (xs.getD j 0 ≤ ys.getD j 0) ∈ List.zipWith (fun i j => decide (i ≤ j)) xs ys := by
      refine List.mem_iff_getElem?.mpr ⟨j, ?_⟩
      rw [List.getElem?_zipWith, getD_of hjl, getD_of (xs := ys) (by omega)]
    have := h _ this
    simp at this ⊢
    exact this
theorem ix_dI {xs : List Int} {j : Nat} (h : j < xs.length) : atI (dI xs) (j : Int) = some (.int (xs.getD j 0)) := atI_nat (by rw [List.getElem?_map, getD_of h]; rfl)
theorem c_lwithin (B : Bl mg) (d : Def K mg "_law_within" sLWithin ["_law_one", "_law_other"]) : Cal P w K mg base "_law_within" 1 (spS K gWithin) := by
  refine d.cal scLWithin (fun rs o ⟨_, _, _, _, e, _⟩ => by rw [e]; rfl) ?_
  rintro rs o ⟨xs, ys, hl, hz, rfl, rfl⟩ f cdv A outer sh H E M R D hr g qr qn qe
  have hlen : ((dI xs).length : Int) = xs.length := by rw [List.length_map]
  have em : ((List.range xs.length).filter fun j => decide (ys.getD j 0 < xs.getD j 0)).map (fun j => PyData.int (j : Nat)) = dI (((List.range xs.length).filter fun j => decide (ys.getD j 0 < xs.getD j 0)).map fun j => ((j : Nat) : Int)) := by
    show _ = List.map PyData.int (List.map _ _)
    rw [List.map_map]
    rfl
  have key : Ev1 (dx P w K mg base ["_law_one", "_law_other", "_law_k"] "_law_within" sLWithin f cdv A outer sh H E) M R (ini ["_law_one", "_law_other", "_law_k"] [.dat (.tuple (dI xs)), .dat (.tuple (dI ys))])
      (match defBody sLWithin with | [.Return (some (.Compare e _ _ _)) _] => e | _ => .Constant .none 0 ⟨0, 0, 0, 0⟩) () (.dat (.list (dI (((List.range xs.length).filter fun j => decide (ys.getD j 0 < xs.getD j 0)).map fun j => ((j : Nat) : Int))))) () := by
    rw [← em]
    refine lc_rngF (own := [("_law_k", 2)]) g (i := 2) (n := xs.length) _ _ ?_ (by omega) (fun j hj sh Hh C cl fp D acc gD => ?_) (fun j hj hp sh Hh C cl fp D acc gD => v 2) rfl scLWithin.nd (blkOk_by (N := ["_law_one", "_law_other", "_law_k"]) (sc := defScope sLWithin) (by decide +kernel)) (fun sh Hh C cl fp => pg_name (i := 2) scLWithin.nd rfl (Or.inl rfl)) (by simp)
    · exact i_rngN (by rfl) B.range (by omega) (a1 (e_lenTI (by rfl) B.len (a1 (v 0))))
    · exact t_gtI (e_ixT (v 0) (v 2) (ix_dI hj)) (e_ixT (v 1) (v 2) (ix_dI (by omega)))
  refine st_ret (e_eqD hr.units key (e_lst g (ds := []) a_nil (by simp)) (shaped_lI _) rfl) fun v H' R' sv => qr _ v H' rfl R' ?_
  rw [← within_filter xs ys hl, ← eqv_lI]
  exact sv
end
end K02
namespace DV
open PySem PySem.Spec L2 Evl
open PyProof.Rows hiding St
/-- a def that draws from the box, which is its first argument -/
def spB (K : PySem.W.Frag) (G : List Sl → Bx → Sl → Bx → Prop) : Sp := fun vs H Q _ => ∃ (M : List Addr) (b l : Addr) (st : Bx) (rs : List Sl) (r : Sl) (st' : Bx) (vs' : List V), vs = .ref b :: vs' ∧ b ∈ M ∧ l ∈ M ∧ (∀ a ∈ M, ∃ o, H a = some o) ∧ BoxAt b l st H ∧ SvAll K (cut M H) rs vs' ∧
  G rs st r st' ∧ ∀ v H', Ex (cut [b, l] H) (cut [b, l] H') → BoxAt b l st' H' → Sv K (cut M H') r v → Q v H'
theorem ex_of_cut2 {M : List Addr} {b l : Addr} {H H' : Hp} (hb : b ∈ M) (hl : l ∈ M) (e : Ex (cut [b, l] H) (cut [b, l] H')) : Ex (cut M H) (cut M H') := fun a o ha => by
  have nM := (cut_some ha).1
  have n2 : a ∉ [b, l] := fun m => by
    rcases List.mem_cons.mp m with z | m
    · exact nM (by rw [z]; exact hb)
    · rcases List.mem_cons.mp m with z | m
      · exact nM (by rw [z]; exact hl)
      · cases m
  rw [cut_out nM] at ha ⊢
  have := e a o (by rw [cut_out n2]; exact ha)
  rw [cut_out n2] at this
  exact this
section
variable {S : Type} {X : Cx} {M : List Addr} {R : S → Hp → Prop} {ρ : List Sl} {s s1 s2 : S} {e : Expr} {es : List Expr} {px pos : Pos} {rs : List Sl} {b l : Addr} {get : S → Bx} {put : S → Bx → S} {j k : Nat} {x : Str}
theorem e_boxed (g : Rg M R) {G : List Sl → Bx → Sl → Bx → Prop} {r : Sl} {st' : Bx} (B : BoxIn M R b l get put) (c : Cal X.prog X.w X.K X.mg X.base x k (spB X.K G)) (hr : Room j X.A) (hk : k ≤ j) (hg : Gl X x) (hG : G rs (get s1) r st') (ha : EvA1 X M R ρ (e :: es) s (.raw (.ref b) :: rs) s1)
    (hdb : (x == ("__debug__" : Str)) = false := by decide) (he : starEach (e :: es) X.env = (false, eval e X.env) :: starEach es X.env := by rfl) (hpl : (backTo pos (starEach es X.env)).any (·.1) = false := by rfl) :
    Ev1 X M R ρ (.Call (.Name x px) (e :: es) [] pos) s r (put s1 st') := by
  intro σ H Q hσ hR q
  refine w_call c hr hk hg passL ha hσ hR (fun vs H1 e1 d1 R1 => ?_) hdb he hpl
  match vs, d1 with
  | v :: vs, ⟨d1, d2⟩ =>
    have d1 : v = .ref b := d1
    subst d1
    exact ⟨M, b, l, get s1, rs, r, st', vs, rfl, B.mb, B.ml, fun a m => g.dom R1 m, B.at_ R1, d2, hG, fun v H' e2 bx sv => q v H' (e1.trans (ex_of_cut2 B.mb B.ml e2)) (B.to R1 e2 bx) sv⟩
end
section
variable {P : Program} {w : World} {K : PySem.W.Frag} {mg : Str → Option Value} {base : Heap}
/-- what such a body is to show -/
def BodyB (P : Program) (w : World) (K : PySem.W.Frag) (mg : Str → Option Value) (base : Heap) (N : List Str) (x : Str) (st : Stmt) (k : Nat) (rs : List Sl) (bs : Bx) (r : Sl) (bs' : Bx) : Prop :=
  ∀ (f : Addr) (cdv : Value) (A : Around) (outer : List Env) (sh : Shared) (H : Hp) (E : XK) (M : List Addr) (R : Bx → Hp → Prop) (D : Ends) (b l : Addr), Room k (A.deeper (envOfC x (defScope st) sh.heap.objs.size f cdv)) → Rg M R → BoxIn M R b l id (fun _ t => t) →
    (∀ v H', R bs' H' → Sv K (cut M H') r v → D.rt v H') → St1 (dx P w K mg base N x st f cdv A outer sh H E) M R (ini N (.raw (.ref b) :: rs)) (defBody st) bs D
theorem Def.calB {x : Str} {st : Stmt} {ps N : List Str} {k : Nat} {G : List Sl → Bx → Sl → Bx → Prop} (d : Def K mg x st ps) (S : FnScope N ps (defScope st)) (len : ∀ rs bs r bs', G rs bs r bs' → rs.length + 1 = ps.length)
    (hb : ∀ rs bs r bs', G rs bs r bs' → BodyB P w K mg base N x st k rs bs r bs') : Cal P w K mg base x (k + 1) (spB K G) := by
  refine d.calW S (fun vs H Q E ⟨M, b, l, st, rs, r, st', vs', e, _, _, _, _, sv, g, _⟩ => by rw [e, List.length_cons, sv.len, len rs _ _ _ g]) ?_
  rintro f cdv A outer sh H vs Q E hr ⟨M, b, l, bs, rs, r, bs', vs', rfl, mb, ml, dom, bx, sv, hG, q⟩
  have hin : ∀ {a : Addr}, a ∈ [b, l] → a = b ∨ a = l := fun m => by simpa using m
  refine hb rs bs r bs' hG f cdv A outer sh H E M (fun t H' => BoxAt b l t H' ∧ Ex (cut [b, l] H) (cut [b, l] H')) _ b l hr ⟨fun ⟨h1, h2⟩ e => ⟨h1.ex e, h2.trans (exCut e)⟩, fun {s H' a} ⟨h1, h2⟩ m => ?_⟩ ⟨mb, ml, fun h => h.1, fun ⟨h1, h2⟩ e bx => ⟨bx, h2.trans e⟩⟩ ?_ _ H (slots_ini (rs := .raw (.ref b) :: rs) ⟨rfl, sv⟩) ⟨bx, exId _⟩
  · by_cases z : a ∈ [b, l]
    · rcases hin z with e | e
      · rw [e]; exact ⟨_, h1.1⟩
      · rw [e]; exact ⟨_, h1.2⟩
    · obtain ⟨o, ho⟩ := dom a m
      have := h2 a o (by rw [cut_out z]; exact ho)
      exact ⟨o, (cut_some this).2⟩
  · exact fun v H' ⟨h1, h2⟩ s => q v H' h2 h1 s
end
theorem atI_lt {α : Type} {ds : List α} {i : Int} (h0 : 0 ≤ i) (h1 : i < ds.length) : ∃ h : i.toNat < ds.length, atI ds i = some ds[i.toNat] := by
  have h : i.toNat < ds.length := by omega
  refine ⟨h, ?_⟩
  have e : ((i.toNat : Nat) : Int) = i := by omega
  have q := atI_nat (xs := ds) (j := i.toNat) (List.getElem?_eq_getElem h)
  rw [e] at q
  exact q
end DV
namespace K02
open PySem PySem.Spec L2 Evl DV
open PyProof.Rows hiding St
section
variable {P : Program} {w : World} {K : PySem.W.Frag} {mg : Str → Option Value} {base : Heap}
/-! _law_join -/
def gJoin (rs : List Sl) (o : Out) : Prop := ∃ xs ys : List Int, xs.length = ys.length ∧ xs.length ≤ 1000 ∧ rs = [.dat (.tuple (dI xs)), .dat (.tuple (dI ys))] ∧ o = .ok (.dat (.tuple (dI (joinL xs ys))))
theorem scLJoin : FnScope ["_law_one", "_law_other", "_law_k"] ["_law_one", "_law_other"] (defScope sLJoin) := ⟨rfl, rfl, rfl, by decide +kernel, rfl, by decide +kernel, by decide +kernel⟩
theorem join_range (xs ys : List Int) (hl : xs.length = ys.length) : (List.range xs.length).map (fun j => PyData.int (mx (xs.getD j 0) (ys.getD j 0))) = dI (joinL xs ys) := by
  refine List.ext_getElem? fun j => ?_
  show _ = (List.map PyData.int (List.zipWith mx xs ys))[j]?
  rw [List.getElem?_map, List.getElem?_map, List.getElem?_zipWith]
  by_cases h : j < xs.length
  · rw [getD_of h, getD_of (xs := ys) (by omega), List.getElem?_range h]
    rfl
  · rw [List.getElem?_eq_none (by rw [List.length_range]; omega), List.getElem?_eq_none (l := xs) (by omega)]
    rfl
theorem c_ljoin (B : Bl mg) (d : Def K mg "_law_join" sLJoin ["_law_one", "_law_other"]) : Cal P w K mg base "_law_join" 1 (spS K gJoin) := by
  refine d.cal scLJoin (fun rs o ⟨_, _, _, _, e, _⟩ => by rw [e]; rfl) ?_
  rintro rs o ⟨xs, ys, hl, hz, rfl, rfl⟩ f cdv A outer sh H E M R D hr g qr qn qe
  refine st_ret (e_tupleL g (by rfl) B.tuple (a1 ?_)) fun v H' R' sv => qr _ v H' rfl R' sv
  rw [← join_range xs ys hl]
  exact lc_rng (own := [("_law_k", 2)]) g (i := 2) (n := xs.length) (ss := fun _ => ()) _ (i_rngN (by rfl) B.range (by omega) (a1 (e_lenTI (by rfl) B.len (a1 (v 0))))) (by omega)
    (fun j hj sh Hh C cl fp D acc gD => e_max2 rfl (by rfl) B.max (a_cons (e_ixT (v 0) (v 2) (ix_dI hj)) (a_cons (e_ixT (v 1) (v 2) (ix_dI (by omega))) a_nil))) rfl scLJoin.nd (blkOk_by (N := ["_law_one", "_law_other", "_law_k"]) (sc := defScope sLJoin) (by decide +kernel))
    (fun sh Hh C cl fp => pg_name (i := 2) scLJoin.nd rfl (Or.inl rfl)) (by simp)
/-! _law_token -/
def pick (a b : Int) (i : Int) : Int := if i = 0 then a else b
theorem ix_pick {a b : Int} {st : Bx} : atI [PyData.int a, .int b] (takeV st 2) = some (.int (pick a b (takeV st 2))) := by
  have h0 := takeV_nonneg (st := st) (n := 2) (by decide)
  have h1 := takeV_lt (st := st) (n := 2) (by decide)
  have h : takeV st 2 = 0 ∨ takeV st 2 = 1 := by omega
  rcases h with h | h <;> rw [h] <;> rfl
def tokStep (st : Bx) : Bx × Int := (takeS (takeS st 2) (pick 3 1000 (takeV st 2)), takeV (takeS st 2) (pick 3 1000 (takeV st 2)))
def tokS (st : Bx) : Nat → Bx
  | 0 => st
  | j + 1 => (tokStep (tokS st j)).1
def tokV (st : Bx) (m : Nat) : List Int := (List.range m).map fun j => (tokStep (tokS st j)).2
theorem tokStep_range (st : Bx) : 0 ≤ (tokStep st).2 ∧ (tokStep st).2 ≤ 999 := by
  have hp : 0 < pick 3 1000 (takeV st 2) ∧ pick 3 1000 (takeV st 2) ≤ 1000 := by unfold pick; split <;> decide
  have h1 := takeV_nonneg (st := takeS st 2) hp.1
  have h2 := takeV_lt (st := takeS st 2) hp.1
  exact ⟨h1, by show takeV (takeS st 2) _ ≤ 999; omega⟩
theorem tokV_len (st : Bx) (m : Nat) : (tokV st m).length = m := by
  unfold tokV
  rw [List.length_map, List.length_range]
def inTok (xs : List Int) : Prop := ∀ x ∈ xs, 0 ≤ x ∧ x ≤ 999
theorem tokV_in (st : Bx) (m : Nat) : inTok (tokV st m) := fun x hx => by
  obtain ⟨j, _, rfl⟩ := List.mem_map.mp hx
  exact tokStep_range _
def gTokB (rs : List Sl) (st : Bx) (r : Sl) (st' : Bx) : Prop := ∃ m : Nat, m ≤ 1000 ∧ rs = [.dat (.int m)] ∧ r = .dat (.tuple (dI (tokV st m))) ∧ st' = tokS st m
theorem scLToken : FnScope ["_law_box", "_law_many", "_law_k"] ["_law_box", "_law_many"] (defScope sLToken) := ⟨rfl, rfl, rfl, by decide +kernel, rfl, by decide +kernel, by decide +kernel⟩
theorem pick_ok {i : Int} : 0 < pick 3 1000 i ∧ (pick 3 1000 i).natAbs.log2 < 9000 := by unfold pick; split <;> decide
theorem c_ltoken (B : Bl mg) (cT : Cal P w K mg base "_law_take" 1 spTake) (d : Def K mg "_law_token" sLToken ["_law_box", "_law_many"]) : Cal P w K mg base "_law_token" 2 (spB K gTokB) := by
  refine d.calB scLToken (fun rs bs r bs' ⟨_, _, e, _⟩ => by rw [e]; rfl) ?_
  rintro rs bs r bs' ⟨m, hm, rfl, rfl, rfl⟩ f cdv A outer sh H E M R D b l hr g BI q
  refine st_ret (e_tupleL g (by rfl) B.tuple (a1 ?_)) q
  have em : dI (tokV bs m) = (List.range m).map fun j => PyData.int (tokStep (tokS bs j)).2 := by
    show List.map PyData.int (List.map _ _) = _
    rw [List.map_map]
    rfl
  rw [em]
  refine lc_rng (own := [("_law_k", 2)]) g (i := 2) (n := m) (ss := fun j => tokS bs j) _ (i_rngN (by rfl) B.range (by omega) (a1 (v 1))) (by omega)
    (fun j hj sh Hh C cl fp D acc gD => ?_) rfl scLToken.nd (blkOk_by (N := ["_law_box", "_law_many", "_law_k"]) (sc := defScope sLToken) (by decide +kernel)) (fun sh Hh C cl fp => pg_name (i := 2) scLToken.nd rfl (Or.inl rfl)) (by simp)
  exact e_take (BI.rd D acc) cT hr (Nat.le_refl _) (by rfl) pick_ok.1 pick_ok.2 (a_cons (v 0) (a_cons (e_ixL (e_lst gD (ds := [.int 3, .int 1000]) (a_cons e_int (a_cons e_int a_nil)) (by simp)) (e_take (BI.rd D acc) cT hr (Nat.le_refl _) (by rfl) (by decide) (by decide) (a_cons (v 0) (a_cons e_int a_nil))) ix_pick) a_nil))
end
end K02
namespace K02
open PySem PySem.Spec L2 Evl DV
open PyProof.Rows hiding St cutD
/-! what is no token beside one -/
theorem okPair_l {xs : List Int} {d : PyData} (h : tokD d = false) : okPair (.tuple (dI xs)) d = false := by
  cases d with
  | tuple ys =>
    show (tokD (.tuple (dI xs)) && tokD (.tuple ys) && decide ((dI xs).length = ys.length)) = false
    rw [h, Bool.and_false]
    rfl
  | _ => rfl
theorem okPair_r {xs : List Int} {d : PyData} (h : tokD d = false) : okPair d (.tuple (dI xs)) = false := by
  cases d with
  | tuple ys =>
    show (tokD (.tuple ys) && tokD (.tuple (dI xs)) && decide (ys.length = (dI xs).length)) = false
    rw [h]
    rfl
  | _ => rfl
theorem okPair_len {xs : List Int} {ys : List PyData} (h : ys.length ≠ xs.length) : okPair (.tuple (dI xs)) (.tuple ys) = false ∧ okPair (.tuple ys) (.tuple (dI xs)) = false := by
  constructor
  · show (tokD (.tuple (dI xs)) && tokD (.tuple ys) && decide ((dI xs).length = ys.length)) = false
    rw [decide_eq_false (by rw [List.length_map]; omega), Bool.and_false]
  · show (tokD (.tuple ys) && tokD (.tuple (dI xs)) && decide (ys.length = (dI xs).length)) = false
    rw [decide_eq_false (by rw [List.length_map]; omega), Bool.and_false]
def oddOne (xs : List Int) (d : PyData) : Prop := okPair (.tuple (dI xs)) d = false ∧ okPair d (.tuple (dI xs)) = false
theorem odd_tok {xs : List Int} {d : PyData} (h : tokD d = false) : oddOne xs d := ⟨okPair_l h, okPair_r h⟩
theorem tok_mem {ds : List PyData} {x : PyData} (h : x ∈ ds) (hx : wholeD x 0 999 = false) : tokD (.tuple ds) = false := by
  have e : (ds.all fun d => wholeD d 0 999) = false := by
    rw [List.all_eq_false]
    exact ⟨x, h, by rw [hx]; exact Bool.false_ne_true⟩
  show ((decide (2 ≤ (ds.length : Int)) && decide ((ds.length : Int) ≤ 5)) && ds.all fun d => wholeD d 0 999) = false
  rw [e, Bool.and_false]
theorem cutD_len (ds : List PyData) (lo hi : Option Int) : (cutD ds lo hi).length ≤ ds.length := by
  unfold cutD
  rw [List.length_take, List.length_drop]
  omega
theorem sIx_back (n d : Nat) (h : 1 ≤ n) : HT.sIx n d (some (-1)) = n - 1 := by
  have := HT.clip_eq (-1) n d
  rw [if_pos (by decide)] at this
  omega
theorem cutD_back (ds : List PyData) (h : 1 ≤ ds.length) : (cutD ds none (some (-1))).length = ds.length - 1 := by
  unfold cutD
  rw [List.length_take, List.length_drop, HT.sIx_none, sIx_back _ _ h]
  omega
/-! the draws of _law_odd -/
def oFarN (st : Bx) : Int := pick 2 1000000000000000000 (takeV st 2)
def oFarV (st : Bx) : Int := takeV (takeS st 2) (oFarN st)
def oS1 (st : Bx) : Bx := takeS (takeS st 2) (oFarN st)
def oKV (st : Bx) (n : Nat) : Int := takeV (oS1 st) n
def oS2 (st : Bx) (n : Nat) : Bx := takeS (oS1 st) n
def oBads (st : Bx) : List PyData := [.int (1000 + oFarV st), .int (-1 - oFarV st), .none, .bool true, .str "1"]
def oBad (st : Bx) (n : Nat) : PyData := (oBads st).getD (takeV (oS2 st n) 5).toNat .none
def oS3 (st : Bx) (n : Nat) : Bx := takeS (oS2 st n) 5
def oSome (xs : List Int) (st : Bx) : List PyData :=
  [.tuple ((cutD (dI xs) none (some (oKV st xs.length)) ++ [oBad st xs.length]) ++ cutD (dI xs) (some (oKV st xs.length + 1)) none), .tuple (dI xs ++ [.int 0]), .tuple (cutD (dI xs) none (some (-1))), .list (dI xs), .none, .tuple [], .int 3, .str "tokens", .tuple (dI xs ++ dI xs)]
def oddD (xs : List Int) (st : Bx) : PyData := (oSome xs st).getD (takeV (oS3 st xs.length) 9).toNat .none
def oddS (xs : List Int) (st : Bx) : Bx := takeS (oS3 st xs.length) 9
theorem getD_mem {α : Type} {l : List α} {i : Nat} {x : α} (h : i < l.length) : l.getD i x ∈ l := by
  rw [List.getD_eq_getElem?_getD, List.getElem?_eq_getElem h]
  exact List.getElem_mem h
theorem ix_getD {ds : List PyData} {i : Int} (h0 : 0 ≤ i) (h1 : i < ds.length) : atI ds i = some (ds.getD i.toNat .none) := by
  obtain ⟨h, e⟩ := atI_lt h0 h1
  rw [e, List.getD_eq_getElem?_getD, List.getElem?_eq_getElem h]
  rfl
theorem farN_pos (st : Bx) : 0 < oFarN st ∧ (oFarN st).natAbs.log2 < 9000 := by unfold oFarN pick; split <;> decide
theorem bad_bad {st : Bx} {n : Nat} : wholeD (oBad st n) 0 999 = false := by
  have h0 := takeV_nonneg (st := oS2 st n) (n := 5) (by decide)
  have h1 := takeV_lt (st := oS2 st n) (n := 5) (by decide)
  have hf : 0 ≤ oFarV st := takeV_nonneg (farN_pos st).1
  have hm : oBad st n ∈ oBads st := getD_mem (by show _ < 5; omega)
  have key : ∀ d ∈ oBads st, wholeD d 0 999 = false := by
    intro d hd
    simp only [oBads, List.mem_cons, List.not_mem_nil, or_false] at hd
    rcases hd with rfl | rfl | rfl | rfl | rfl
    · show (decide (0 ≤ 1000 + oFarV st) && decide (1000 + oFarV st ≤ 999)) = false
      rw [decide_eq_false (p := 1000 + oFarV st ≤ 999) (by omega), Bool.and_false]
    · show (decide (0 ≤ -1 - oFarV st) && decide (-1 - oFarV st ≤ 999)) = false
      rw [decide_eq_false (p := 0 ≤ -1 - oFarV st) (by omega)]
      rfl
    · rfl
    · rfl
    · rfl
  exact key _ hm
theorem odd_odd {xs : List Int} {st : Bx} (h2 : 2 ≤ xs.length) : oddOne xs (oddD xs st) := by
  have h0 := takeV_nonneg (st := oS3 st xs.length) (n := 9) (by decide)
  have h1 := takeV_lt (st := oS3 st xs.length) (n := 9) (by decide)
  have hm : oddD xs st ∈ oSome xs st := getD_mem (by show _ < 9; omega)
  have key : ∀ d ∈ oSome xs st, oddOne xs d := by
    intro d hd
    simp only [oSome, List.mem_cons, List.not_mem_nil, or_false] at hd
    rcases hd with rfl | rfl | rfl | rfl | rfl | rfl | rfl | rfl | rfl
    · exact odd_tok (tok_mem (x := oBad st xs.length) (by simp) bad_bad)
    · exact okPair_len (by rw [List.length_append, List.length_map, List.length_singleton]; omega)
    · exact okPair_len (by rw [cutD_back _ (by rw [List.length_map]; omega), List.length_map]; omega)
    · exact odd_tok rfl
    · exact odd_tok rfl
    · exact odd_tok rfl
    · exact odd_tok rfl
    · exact odd_tok rfl
    · exact okPair_len (by rw [List.length_append, List.length_map]; omega)
  exact key _ hm
section
variable {P : Program} {w : World} {K : PySem.W.Frag} {mg : Str → Option Value} {base : Heap}
def gOdd (rs : List Sl) (st : Bx) (r : Sl) (st' : Bx) : Prop := ∃ xs : List Int, 2 ≤ xs.length ∧ xs.length ≤ 5 ∧ rs = [.dat (.tuple (dI xs))] ∧ r = .dat (oddD xs st) ∧ st' = oddS xs st
theorem scLOdd : FnScope ["_law_box", "_law_one", "_law_far", "_law_k", "_law_bad", "_law_some"] ["_law_box", "_law_one"] (defScope sLOdd) := ⟨rfl, rfl, rfl, by decide +kernel, rfl, by decide +kernel, by decide +kernel⟩
theorem c_lodd (B : Bl mg) (cT : Cal P w K mg base "_law_take" 1 spTake) (d : Def K mg "_law_odd" sLOdd ["_law_box", "_law_one"]) : Cal P w K mg base "_law_odd" 2 (spB K gOdd) := by
  refine d.calB scLOdd (fun rs bs r bs' ⟨_, _, _, e, _⟩ => by rw [e]; rfl) ?_
  rintro rs bs r bs' ⟨xs, h2, h5, rfl, rfl, rfl⟩ f cdv A outer sh H E M R D b l hr g BI q
  have lx : (dI xs).length = xs.length := List.length_map _
  have hlog : (xs.length : Int).natAbs.log2 < 9000 := by have := log_small (i := (xs.length : Int)) (by omega) (by omega); omega
  refine st_par (i := 2) (j := 3) rfl scLOdd.nd rfl rfl (by decide) rfl rfl
    (a_cons (e_take (n := oFarN bs) BI cT hr (Nat.le_refl _) (by rfl) (farN_pos bs).1 (farN_pos bs).2 (a_cons (v 0) (a_cons (e_ixL (e_lst g (ds := [.int 2, .int 1000000000000000000]) (a_cons e_int (a_cons (e_pow (i := 10) (j := 18) ⟨by decide, by decide, by decide⟩ e_int e_int) a_nil)) (by simp)) (e_take BI cT hr (Nat.le_refl _) (by rfl) (by decide) (by decide) (a_cons (v 0) (a_cons e_int a_nil))) ix_pick) a_nil)))
      (a_cons (e_take (n := xs.length) BI cT hr (Nat.le_refl _) (by rfl) (by omega) hlog (a_cons (v 0) (a_cons (e_lenTI (by rfl) B.len (a1 (v 1))) a_nil))) a_nil)) ?_ (fun ha => ps_par rfl scLOdd.nd rfl rfl (by decide) rfl rfl ha (by rfl))
  have b0 := takeV_nonneg (st := oS2 bs xs.length) (n := 5) (by decide)
  have b1 := takeV_lt (st := oS2 bs xs.length) (n := 5) (by decide)
  refine st_set 4 scLOdd.nd rfl (Or.inl rfl) (e_ixL (d := oBad bs xs.length) (e_lst g (ds := oBads bs) (a_cons (e_add e_int (v 2)) (a_cons (e_sub (e_neg e_int) (v 2)) (a_cons e_non (a_cons e_bl (a_cons e_str a_nil))))) (by show 5 ≤ 100000; decide))
    (e_take BI cT hr (Nat.le_refl _) (by rfl) (by decide) (by decide) (a_cons (v 0) (a_cons e_int a_nil))) (ix_getD b0 (by show _ < (5 : Int); exact b1))) ?_
  have c1 := cutD_len (dI xs) none (some (oKV bs xs.length))
  have c2 := cutD_len (dI xs) (some (oKV bs xs.length + 1)) none
  refine st_set 5 scLOdd.nd rfl (Or.inl rfl) (e_lst g (ds := oSome xs bs)
    (a_cons (e_catT g (by rw [List.length_append, List.length_singleton]; omega) (e_catT g (by rw [List.length_singleton]; omega) (e_slT g (v 1) ⟨rfl, rfl⟩ ⟨_, rfl, v 3⟩) (e_tup g (ds := [oBad bs xs.length]) (a_cons (v 4) a_nil) (by simp))) (e_slT g (v 1) ⟨_, rfl, e_add (v 3) e_int⟩ ⟨rfl, rfl⟩))
    (a_cons (e_catT g (by rw [List.length_singleton]; omega) (v 1) (e_tup g (ds := [.int 0]) (a_cons e_int a_nil) (by simp)))
    (a_cons (e_slT g (v 1) ⟨rfl, rfl⟩ ⟨_, rfl, e_neg e_int⟩)
    (a_cons (e_listT g (by rfl) B.list (a1 (v 1))) (a_cons e_non (a_cons (e_tup g (ds := []) a_nil (by simp)) (a_cons e_int (a_cons e_str (a_cons (e_catT g (by omega) (v 1) (v 1)) a_nil))))))))) (by show 9 ≤ 100000; decide)) ?_
  have d0 := takeV_nonneg (st := oS3 bs xs.length) (n := 9) (by decide)
  have d1 := takeV_lt (st := oS3 bs xs.length) (n := 9) (by decide)
  exact st_ret (e_ixL (d := oddD xs bs) (v 5) (e_take BI cT hr (Nat.le_refl _) (by rfl) (by decide) (by decide) (a_cons (v 0) (a_cons e_int a_nil))) (ix_getD d0 (by show _ < (9 : Int); exact d1))) q
end
end K02
namespace DV
open PySem PySem.Spec L2 Evl
open PyProof.Rows hiding St cutD
/-! ### data of bounded size -/
mutual
def okD : PyData → Bool
  | .none | .bool _ | .int _ => true
  | .str x => PyData.canLay0 (.str x)
  | .list xs | .tuple xs => decide (xs.length ≤ 1000) && okAll xs
  | .dict _ => false
def okAll : List PyData → Bool
  | [] => true
  | x :: xs => okD x && okAll xs
end
mutual
theorem lay_ok : ∀ d : PyData, okD d = true → d.canLay0 = true
  | .none, _ => rfl
  | .bool _, _ => rfl
  | .int _, _ => rfl
  | .str _, h => h
  | .list xs, h => lay_okAll xs (Bool.and_eq_true_iff.mp (show (decide (xs.length ≤ 1000) && okAll xs) = true from h)).2
  | .tuple xs, h => lay_okAll xs (Bool.and_eq_true_iff.mp (show (decide (xs.length ≤ 1000) && okAll xs) = true from h)).2
  | .dict _, h => by cases h
theorem lay_okAll : ∀ ds : List PyData, okAll ds = true → PyData.canLayAll0 ds = true
  | [], _ => rfl
  | d :: ds, h => by
    have h := Bool.and_eq_true_iff.mp (show (okD d && okAll ds) = true from h)
    show (d.canLay0 && PyData.canLayAll0 ds) = true
    rw [lay_ok d h.1, lay_okAll ds h.2]
    rfl
end
theorem okAll_get : ∀ {ds : List PyData} {i : Nat} {d : PyData}, okAll ds = true → ds[i]? = some d → okD d = true
  | [], _, _, _, h => by simp at h
  | x :: xs, 0, d, h, e => by
    have h := Bool.and_eq_true_iff.mp (show (okD x && okAll xs) = true from h)
    have e : some x = some d := e
    cases e
    exact h.1
  | x :: xs, i + 1, d, h, e => by
    have h := Bool.and_eq_true_iff.mp (show (okD x && okAll xs) = true from h)
    exact okAll_get (i := i) h.2 (by simpa using e)
theorem depth_get : ∀ {ds : List PyData} {i : Nat} {d : PyData}, ds[i]? = some d → d.depth ≤ PyData.depthAll ds
  | [], _, _, h => by simp at h
  | x :: xs, 0, d, e => by
    have e : some x = some d := e
    cases e
    exact Nat.le_max_left _ _
  | x :: xs, i + 1, d, e => Nat.le_trans (depth_get (i := i) (by simpa using e)) (Nat.le_max_right _ _)
theorem okAll_ints : ∀ xs : List Int, okAll (dI xs) = true
  | [] => rfl
  | _ :: xs => by
    show (true && okAll (dI xs)) = true
    rw [okAll_ints xs]
    rfl
theorem okD_tI {xs : List Int} (h : xs.length ≤ 1000) : okD (.tuple (dI xs)) = true := by
  show (decide ((dI xs).length ≤ 1000) && okAll (dI xs)) = true
  rw [okAll_ints, decide_eq_true (by rw [List.length_map]; exact h)]
  rfl
theorem okD_lI {xs : List Int} (h : xs.length ≤ 1000) : okD (.list (dI xs)) = true := by
  show (decide ((dI xs).length ≤ 1000) && okAll (dI xs)) = true
  rw [okAll_ints, decide_eq_true (by rw [List.length_map]; exact h)]
  rfl
end DV
namespace K02
open PySem PySem.Spec L2 Evl DV
open PyProof.Rows hiding St cutD
section
variable {P : Program} {w : World} {K : PySem.W.Frag} {mg : Str → Option Value} {base : Heap}
/-! _law_alike, of two that are alike -/
def gAlike (n : Nat) (rs : List Sl) (o : Out) : Prop := ∃ d : PyData, rs = [.dat d, .dat d] ∧ okD d = true ∧ d.depth ≤ n ∧ o = .ok (.dat (.bool true))
theorem scAlike : FnScope ["_law_found", "_law_due", "_law_k"] ["_law_found", "_law_due"] (defScope sAlike) := ⟨rfl, rfl, rfl, by decide +kernel, rfl, by decide +kernel, by decide +kernel⟩
theorem b_alike (B : Bl mg) (d : Def K mg "_law_alike" sAlike ["_law_found", "_law_due"]) (n : Nat) (ih : n ≠ 0 → Cal P w K mg base "_law_alike" n (spS K (gAlike (n - 1)))) : Cal P w K mg base "_law_alike" (n + 1) (spS K (gAlike n)) := by
  refine d.cal scAlike (fun rs o ⟨_, e, _⟩ => by rw [e]; rfl) ?_
  rintro rs o ⟨d, rfl, hok, hdp, rfl⟩ f cdv A outer sh H E M R D hr g qr qn qe
  have qt : ∀ {b : Bool}, b = true → ∀ v H', R () H' → Sv K (cut M H') (.dat (.bool b)) v → D.rt v H' := fun hb v H' R' sv => qr _ v H' rfl R' (by rw [← hb]; exact sv)
  refine st_if (t_isN (v 1)) (fun h => st_ret (e_isN (v 0)) (qt h)) (fun h1 => st_thru ?_)
  refine st_if (t_val (isi boot_bool B.isi B.bool (kit_bool d) (v 1))) (fun h => ?_) (fun h2 => st_thru ?_)
  · cases d with
    | bool b => exact st_ret (e_and (isi boot_bool B.isi B.bool (kit_bool (.bool b)) (v 0)) fun _ => e_one (e_eqD hr.units (v 0) (v 1) rfl rfl)) (qt (by cases b <;> rfl))
    | _ => cases h
  refine st_if (t_val (isi boot_int B.isi B.int (kit_int d) (v 1))) (fun h => ?_) (fun h3 => st_thru ?_)
  · cases d with
    | int i => exact st_ret (e_and (isi boot_int B.isi B.int (kit_int (.int i)) (v 0)) fun _ => e_and (e_not (isi boot_bool B.isi B.bool (kit_bool (.int i)) (v 0))) fun _ => e_one (e_eqD hr.units (v 0) (v 1) rfl rfl)) (qt (by show (true && (true && (i == i))) = true; simp))
    | bool b => cases h2
    | _ => cases h
  refine st_if (t_val (isi boot_str B.isi B.str (kit_str d) (v 1))) (fun h => ?_) (fun h4 => st_thru ?_)
  · cases d with
    | str x =>
      have hx : SeqAt.shaped (.str x) = true := by
        show (PyData.canLay0 (.str x) && decide (0 ≤ 64)) = true
        rw [show PyData.canLay0 (.str x) = true from hok]
        rfl
      exact st_ret (e_and (isi boot_str B.isi B.str (kit_str (.str x)) (v 0)) fun _ => e_one (e_eqD hr.units (v 0) (v 1) hx hx)) (qt (by show (true && (x == x)) = true; simp))
    | _ => cases h
  have e2 : ∀ b : Bool, (!PyData.eqv (.bool b) (.bool b)) = false := fun b => by cases b <;> rfl
  refine st_if (t_w (w_or (t_neD hr.units (isi boot_tuple B.isi B.tuple (kit_tuple d) (v 1)) (isi boot_tuple B.isi B.tuple (kit_tuple d) (v 0)) rfl rfl)
    fun _ => w_or1 (t_neD hr.units (isi boot_list B.isi B.list (kit_list d) (v 1)) (isi boot_list B.isi B.list (kit_list d) (v 0)) rfl rfl))) (fun h => ?_) (fun h5 => st_thru ?_)
  · rw [e2, e2] at h
    cases h
  have e3 : ∀ i : Int, (!PyData.eqv (.int i) (.int i)) = false := fun i => by
    show (!(i == i)) = false
    simp
  cases d with
  | tuple ds =>
    have hk := Bool.and_eq_true_iff.mp (show (decide (ds.length ≤ 1000) && okAll ds) = true from hok)
    have hz : ds.length ≤ 1000 := of_decide_eq_true hk.1
    have hd : PyData.depthAll ds + 1 ≤ n := hdp
    refine st_if (t_neD hr.units (e_lenT (by rfl) B.len (a1 (v 0))) (e_lenT (by rfl) B.len (a1 (v 1))) rfl rfl) (fun h => ?_) (fun h6 => st_thru ?_)
    · rw [e3] at h
      cases h
    refine st_for g (fun i ρ' _ => ∃ r, ρ' = [.dat (.tuple ds), .dat (.tuple ds), r]) (passes_of rfl) rfl (pg_name (i := 2) scAlike.nd rfl (Or.inl rfl)) (i_rngN (n := ds.length) (by rfl) B.range (by omega) (a1 (e_lenT (by rfl) B.len (a1 (v 1))))) ⟨_, rfl⟩ (fun i ρi si H1 hi hJ g1 => ?_) (fun ρ' s' hJ => ?_)
    · obtain ⟨r, rfl⟩ := hJ
      have hg : ds[i]? = some ds[i] := List.getElem?_eq_getElem hi
      refine ⟨_, tg0_name, fun N hN => ?_⟩
      refine st_if (t_not (t_val (e_call g1 (ih (by omega)) hr (Nat.le_refl _) (by rfl) (r := .dat (.bool true)) ⟨ds[i], rfl, okAll_get hk.2 hg, Nat.le_trans (depth_get hg) (by omega), rfl⟩ (a_cons (e_ixT (v 0) (v 2) (atI_nat hg)) (a_cons (e_ixT (v 1) (v 2) (atI_nat hg)) a_nil))))) (fun h => by cases h) (fun _ => st_thru ?_)
      exact st_nil fun σ H2 hσ hR => hN σ H2 _ _ ⟨_, rfl⟩ hσ hR
    · obtain ⟨r, rfl⟩ := hJ
      exact st_ret e_bl (qt rfl)
  | list ds =>
    have hk := Bool.and_eq_true_iff.mp (show (decide (ds.length ≤ 1000) && okAll ds) = true from hok)
    have hz : ds.length ≤ 1000 := of_decide_eq_true hk.1
    have hd : PyData.depthAll ds + 1 ≤ n := hdp
    refine st_if (t_neD hr.units (e_lenL (by rfl) B.len (a1 (v 0))) (e_lenL (by rfl) B.len (a1 (v 1))) rfl rfl) (fun h => ?_) (fun h6 => st_thru ?_)
    · rw [e3] at h
      cases h
    refine st_for g (fun i ρ' _ => ∃ r, ρ' = [.dat (.list ds), .dat (.list ds), r]) (passes_of rfl) rfl (pg_name (i := 2) scAlike.nd rfl (Or.inl rfl)) (i_rngN (n := ds.length) (by rfl) B.range (by omega) (a1 (e_lenL (by rfl) B.len (a1 (v 1))))) ⟨_, rfl⟩ (fun i ρi si H1 hi hJ g1 => ?_) (fun ρ' s' hJ => ?_)
    · obtain ⟨r, rfl⟩ := hJ
      have hg : ds[i]? = some ds[i] := List.getElem?_eq_getElem hi
      refine ⟨_, tg0_name, fun N hN => ?_⟩
      refine st_if (t_not (t_val (e_call g1 (ih (by omega)) hr (Nat.le_refl _) (by rfl) (r := .dat (.bool true)) ⟨ds[i], rfl, okAll_get hk.2 hg, Nat.le_trans (depth_get hg) (by omega), rfl⟩ (a_cons (e_ixL (v 0) (v 2) (atI_nat hg)) (a_cons (e_ixL (v 1) (v 2) (atI_nat hg)) a_nil))))) (fun h => by cases h) (fun _ => st_thru ?_)
      exact st_nil fun σ H2 hσ hR => hN σ H2 _ _ ⟨_, rfl⟩ hσ hR
    · obtain ⟨r, rfl⟩ := hJ
      exact st_ret e_bl (qt rfl)
  | none => cases h1
  | bool b => cases h2
  | int i => cases h3
  | str x => cases h4
  | dict kvs => cases hok
theorem c_alike (B : Bl mg) (d : Def K mg "_law_alike" sAlike ["_law_found", "_law_due"]) : ∀ n : Nat, Cal P w K mg base "_law_alike" (n + 1) (spS K (gAlike n))
  | 0 => b_alike B d 0 fun h => absurd rfl h
  | n + 1 => b_alike B d (n + 1) fun _ => c_alike B d n
end
end K02
namespace DV
open PySem PySem.Spec L2 Evl LamX NdefX
open PyProof.Rows hiding St cutD
/-! ### lambdas -/
structure Lam where
  qual : Str
  params : Arguments
  body : Expr
  scope : Scope
  cl : List (Str × Addr)
  c : Addr
  dV : Value
abbrev Lam.fd (L : Lam) (doc pm ctv : Value) : FuncData := PySem.W.kdv_fn "<lambda>" L.qual L.params (.expr L.body) L.scope L.cl L.dV doc pm (.ref L.c) ctv
def LamO (f : Addr) (L : Lam) : HO := .ext fun h => ∃ (od : Option Addr) (sl : Array (Option Value)) (doc pm ctv : Value), h.get? f = some (⟨.type "function", od, .func (L.fd doc pm ctv), sl⟩ : Obj)
theorem lamO_ne {f : Addr} {L : Lam} (ps : Array Value) : LamO f L ≠ .tbl ps := fun z => by unfold LamO at z; cases z
theorem lamO_at {P : Program} {w : World} {H : Hp} {h : Heap} {f : Addr} {L : Lam} (hok : HOk P w H h) (e : H f = some (LamO f L)) : ∃ (od : Option Addr) (sl : Array (Option Value)) (doc pm ctv : Value), h.get? f = some (⟨.type "function", od, .func (L.fd doc pm ctv), sl⟩ : Obj) := (hok f _ e).1
/-- all that was told but P's table is told still -/
def ExP (P : Addr) (H H' : Hp) : Prop := ∀ b o, b ≠ P → H b = some o → H' b = some o
section
variable {X : Cx} {pins : List (Addr × Obj)} {σ : L2.St} {H : Hp} {s : Shared} {E : Value → Shared → Prop} {Q : Value → Shared → Prop}
theorem lam_tail {c P : Addr} {params : Arguments} {body : Expr} {scope : Scope} {pos : Pos} {dV : Value} (I : Inv X pins σ H s) (TB : TabB X.base X.mg c P) (hcode : X.env.code = .ref c) (hT : TabS H P (X.env.qual ++ "<lambda>"))
    (hfree : ∀ y ∈ scope.names, y.2 = .free → ∃ c, X.env.cells.lookup y.1 = some c)
    (h : ∀ (f c' : Addr) (H1 : Hp) (s' : Shared), Inv X pins σ H1 s' → ExP P H H1 → TabS H1 P (X.env.qual ++ "<lambda>") → H f = none → H1 f = some (LamO f ⟨X.env.qual ++ "<lambda>", params, body, scope, cloFrom X.env.cells scope.names [], c', dV⟩) →
      H1 c' = some (CodeO c' (X.env.qual ++ "<lambda>")) → Q (.ref f) s') :
    wpAny (model X.prog X.w) X.A (makeTail "<lambda>" (X.env.qual ++ "<lambda>") params (.expr body) scope X.env dV .none none pos pos.line) Q E s := by
  obtain ⟨ps, hP, ht, ha⟩ := hT
  have bP : s.heap.BuiltinsAt X.mg P := TB.bm.keeps I.bk
  have hP' : s.heap.get? P = some { cls := .none, data := .fields ps } := I.hok P _ hP
  have push : ∀ {H' : Hp} {h' : Heap} {tk : Nat} {c' : Addr} {ctv doc pm : Value}, Inv X pins σ H' { s with heap := h', toks := tk } →
      Inv X pins σ (upd H' h'.objs.size (LamO h'.objs.size ⟨X.env.qual ++ "<lambda>", params, body, scope, cloFrom X.env.cells scope.names [], c', dV⟩))
        { s with heap := h'.push (PySem.W.kdv_obj "<lambda>" (X.env.qual ++ "<lambda>") params (.expr body) scope (cloFrom X.env.cells scope.names []) dV doc pm c' ctv), toks := tk } := fun {H' h' tk c' ctv doc pm} J => by
    refine Inv.laid (s := { s with heap := h', toks := tk }) (t' := tk) J (fun b o e => Heap.get?_push_of_some _ e) (Nat.le_refl _) ?_
    refine ⟨⟨_, _, _, _, _, Heap.get?_push_size _ rfl⟩, ⟨_, Heap.get?_push_size _ rfl⟩, fun h1 h2 ⟨od, sl, doc, pm, ctv, e⟩ st => ⟨od, sl, doc, pm, ctv, st _ e⟩⟩
  cases hc : codeAmong pos ps.toList with
  | none =>
    refine PySem.W.kdv_makeTail (mg := X.mg) (c := c) (P := P) (ps := ps) (closure_ok hfree) I.ok.glob (I.mod.glob.keeps I.bk) hcode (TB.code.keeps I.bk) hP' ht hc TB.gP bP fun c' ctv doc h' tk hx hge hlt hrec htb => ?_
    obtain ⟨c2, oc, vs, t, e2, hoc, hd, hv⟩ := hrec
    cases e2
    have hsz : s.heap.objs.size ≤ h'.objs.size := Nat.le_trans hge (Nat.le_of_lt hlt)
    have nC : H c' = none := I.hok.fresh hge
    have nF : H h'.objs.size = none := I.hok.fresh hsz
    have I1 := inv_table (t' := tk) (more := #[rawInt pos.line, rawInt pos.col, .ref c']) (h' := h') (q := X.env.qual ++ "<lambda>") I hP (fun b o hb e => hx b o hb e) htb hge ⟨oc, vs, t, hoc, hd, hv⟩
    have n1 : h'.objs.size ≠ c' := Nat.ne_of_gt hlt
    have n2 : h'.objs.size ≠ P := Nat.ne_of_gt (Nat.lt_of_lt_of_le (Heap.lt_size hP') hsz)
    have I2 := push (c' := c') (ctv := ctv) (doc := doc) (pm := (X.mg "__name__").getD .none) I1
    have eL : (ps ++ #[rawInt pos.line, rawInt pos.col, .ref c']).toList = ps.toList ++ [rawInt pos.line, rawInt pos.col, .ref c'] := by simp
    have eC : upd (upd (upd H P (.tbl (ps ++ #[rawInt pos.line, rawInt pos.col, .ref c']))) c' (CodeO c' (X.env.qual ++ "<lambda>"))) h'.objs.size
        (LamO h'.objs.size ⟨X.env.qual ++ "<lambda>", params, body, scope, cloFrom X.env.cells scope.names [], c', dV⟩) c' = some (CodeO c' (X.env.qual ++ "<lambda>")) := by rw [upd_ne n1.symm, upd_same]
    have eE : ExP P H (upd (upd (upd H P (.tbl (ps ++ #[rawInt pos.line, rawInt pos.col, .ref c']))) c' (CodeO c' (X.env.qual ++ "<lambda>"))) h'.objs.size
        (LamO h'.objs.size ⟨X.env.qual ++ "<lambda>", params, body, scope, cloFrom X.env.cells scope.names [], c', dV⟩)) := fun b o hb e => by
      rw [upd_ne (ne_of_none e nF), upd_ne (ne_of_none e nC), upd_ne hb]
      exact e
    refine h h'.objs.size c' _ _ I2 eE ⟨_, by rw [upd_ne n2.symm, upd_ne (ne_of_none hP nC), upd_same], by rw [eL]; exact PySem.TriplesOk_snoc _ _ _ _ ht, fun p' cv hcv => ?_⟩ nF upd_same eC
    rw [eL] at hcv
    rcases among_app _ ht hcv with z | z
    · obtain ⟨c0, e1, e2⟩ := ha p' cv z
      refine ⟨c0, e1, eE _ _ (fun z => ?_) e2⟩
      rw [z, hP] at e2
      exact codeO_ne ps (Option.some.inj e2).symm
    · exact ⟨c', z, eC⟩
  | some cv =>
    obtain ⟨c', e, hco⟩ := ha pos cv hc
    subst e
    refine PySem.W.kdv_makeTailHit (mg := X.mg) (c := c) (P := P) (ps := ps) (closure_ok hfree) I.ok.glob (I.mod.glob.keeps I.bk) hcode (TB.code.keeps I.bk) hP' ht hc bP fun ctv doc h' tk hx hsz => ?_
    have nF : H h'.objs.size = none := I.hok.fresh hsz
    have I1 : Inv X pins σ H { s with heap := h', toks := tk } := I.kept hx
    have I2 := push (c' := c') (ctv := ctv) (doc := doc) (pm := (X.mg "__name__").getD .none) I1
    have eE : Ex H (upd H h'.objs.size (LamO h'.objs.size ⟨X.env.qual ++ "<lambda>", params, body, scope, cloFrom X.env.cells scope.names [], c', dV⟩)) := Ex.new nF
    refine h h'.objs.size c' _ _ I2 (fun b o _ e => eE b o e) ?_ nF upd_same (eE _ _ hco)
    exact TabS.ext ⟨ps, hP, ht, ha⟩ eE
end
/-- what a lambda's making asks of its maker's text -/
structure LamB (X : Cx) (c P : Addr) (scope : Scope) : Prop where
  tb : TabB X.base X.mg c P
  code : X.env.code = .ref c
  free : ∀ y ∈ scope.names, y.2 = .free → X.env.scope.names.lookup y.1 = some .cell ∨ X.env.scope.names.lookup y.1 = some .free
section
variable {X : Cx} {σ : L2.St} {H : Hp} {Q : VK} {c P : Addr} {params : Arguments} {body : Expr} {scope : Scope} {pos : Pos}
theorem LamB.has (B : LamB X c P scope) (ok : X.Ok) : ∀ y ∈ scope.names, y.2 = .free → ∃ c, X.env.cells.lookup y.1 = some c := fun y hy e => (B.free y hy e).elim (fun k => ok.has _ (.inl k)) fun k => ok.has _ (.inr k)
/-- lambda: .. -/
theorem w_lam0 (B : LamB X c P scope) (hd : params.defaults = []) (hk : params.kw_defaults = []) (hT : TabS H P (X.env.qual ++ "<lambda>"))
    (h : ∀ (f c' : Addr) (H1 : Hp), ExP P H H1 → TabS H1 P (X.env.qual ++ "<lambda>") → H f = none → H1 f = some (LamO f ⟨X.env.qual ++ "<lambda>", params, body, scope, cloFrom X.env.cells scope.names [], c', .none⟩) → H1 c' = some (CodeO c' (X.env.qual ++ "<lambda>")) → Q (.ref f) H1) :
    wE X (.Lambda params body scope pos) σ H Q := by
  intro pins s I
  refine PySem.W.kla_eval (by rw [defaultsOf_eq, hd, hk]; rfl) ?_
  rw [makeFunction_eq]
  simp only [List.zip_nil_right, List.filterMap_nil, List.isEmpty_nil, if_true, pure_bind]
  refine lam_tail (dV := .none) I B.tb B.code hT (B.has I.ok) fun f c' H1 s' I1 eE T1 hf hl hc => ?_
  exact ⟨.ref f, H1, I1, rfl, h f c' H1 eE T1 hf hl hc⟩
/-- lambda x=0: .. -/
theorem w_lam1 {i : Int} {j : Nat} {p1 : Pos} (B : LamB X c P scope) (hd : params.defaults = [.Constant (.int i) j p1]) (hk : params.kw_defaults = []) (hT : TabS H P (X.env.qual ++ "<lambda>"))
    (h : ∀ (f c' T : Addr) (H1 : Hp), ExP P H H1 → TabS H1 P (X.env.qual ++ "<lambda>") → H f = none → H1 f = some (LamO f ⟨X.env.qual ++ "<lambda>", params, body, scope, cloFrom X.env.cells scope.names [], c', .ref T⟩) → H1 c' = some (CodeO c' (X.env.qual ++ "<lambda>")) →
      H1 T = some (.tup [.int i]) → Q (.ref f) H1) : wE X (.Lambda params body scope pos) σ H Q := by
  intro pins s I
  refine PySem.W.kdv_lam (by rw [hd]; rfl) hk ?_
  rw [hd]
  refine PySem.W.kdv_all1 (wpAny_Constant_int (PySem.W.kdv_all0 ?_))
  rw [makeFunction_eq]
  simp only [List.zip_nil_right, List.filterMap_nil, List.isEmpty_nil, if_true, pure_bind, List.isEmpty_cons, Bool.false_eq_true, if_false]
  refine wpAny_bind (wpAny_newTextTuple ?_)
  have I0 := I.tok (s.toks + 1)
  have nT : H s.heap.objs.size = none := I.hok.fresh (Nat.le_refl _)
  have I1 : Inv X pins σ (upd H s.heap.objs.size (.tup [.int i])) { s with heap := s.heap.push { cls := .type "tuple", data := .seq [Value.int i s.toks].toArray }, toks := s.toks + 1 } := by
    refine Inv.laid (t' := s.toks + 1) I (fun b o e => Heap.get?_push_of_some _ e) (Nat.le_refl _) ?_
    exact ⟨by show 1 ≤ sizeLine; decide, _, .cons ⟨_, rfl⟩ .nil, IsTup.new _ _⟩
  have hT1 : TabS (upd H s.heap.objs.size (.tup [.int i])) P (X.env.qual ++ "<lambda>") := hT.ext (Ex.new nT)
  have nP : s.heap.objs.size ≠ P := fun z => by
    obtain ⟨ps, hP, _⟩ := hT
    rw [← z, nT] at hP
    cases hP
  refine lam_tail (dV := .ref s.heap.objs.size) I1 B.tb B.code hT1 (B.has I.ok) fun f c' H1 s' I2 eE T1 hf hl hc => ?_
  refine ⟨.ref f, H1, I2, rfl, h f c' s.heap.objs.size H1 (fun b o hb e => eE b o hb (Ex.new nT b o e)) T1 ?_ hl hc (eE _ _ nP upd_same)⟩
  exact NdefX.upd_none hf
end
end DV
namespace DV
open PySem PySem.Spec L2 Evl LamX NdefX
open PyProof.Rows hiding St cutD
/-! ### cells, told for the while of a call -/
/-- the cell's object o, which holds v -/
def CellF (o : Obj) (v : V) : HO := .frz o (.ext fun _ => ∃ u, RelV v u ∧ o.data = .cell (some u))
/-- over a heap -/
def ov (G : Addr → Option HO) (H : Hp) : Hp := fun a => match G a with
  | some o => some o
  | none => H a
def un (G : Addr → Option HO) (H : Hp) : Hp := fun a => match G a with
  | some _ => none
  | none => H a
theorem ov_some {G : Addr → Option HO} {H : Hp} {a : Addr} {o : HO} (h : G a = some o) : ov G H a = some o := by unfold ov; rw [h]
theorem ov_none {G : Addr → Option HO} {H : Hp} {a : Addr} (h : G a = none) : ov G H a = H a := by unfold ov; rw [h]
theorem un_some {G : Addr → Option HO} {H : Hp} {a : Addr} {o : HO} (h : G a = some o) : un G H a = none := by unfold un; rw [h]
theorem un_none {G : Addr → Option HO} {H : Hp} {a : Addr} (h : G a = none) : un G H a = H a := by unfold un; rw [h]
/-- G tells cells of the heap h -/
def CellsG (G : Addr → Option HO) (h : Heap) : Prop := ∀ a ho, G a = some ho → ∃ o v, ho = CellF o v ∧ h.get? a = some o ∧ ∃ u, RelV v u ∧ o.data = .cell (some u)
section
variable {P : Program} {w : World} {G : Addr → Option HO} {H H' : Hp} {h h' : Heap} {fs ex : List Addr}
theorem CellsG.ok (c : CellsG G h) {H : Hp} {a : Addr} {ho : HO} (e : G a = some ho) (hx : ∀ o, h.get? a = some o → h'.get? a = some o) : ObjOk P w H h' a ho := by
  obtain ⟨o, v, rfl, ho, u, r, d⟩ := c a ho e
  exact ⟨hx o ho, ⟨u, r, d⟩, ⟨o, hx o ho⟩, fun _ _ q _ => q⟩
theorem CellsG.kind (c : CellsG G h) {a : Addr} {ho : HO} (e : G a = some ho) : ∃ o u, ho = .frz o u := by
  obtain ⟨o, v, rfl, _⟩ := c a ho e
  exact ⟨o, _, rfl⟩
/-- told: the heap with them holds -/
theorem hok_ov (ok : HOk P w H h) (c : CellsG G h) (n : ∀ a ho, G a = some ho → H a = none) : HOk P w (ov G H) h := fun a o e => by
  cases g : G a with
  | some ho =>
    rw [ov_some g] at e
    cases e
    exact c.ok g fun _ q => q
  | none =>
    rw [ov_none g] at e
    refine (ok a o e).stay (fun b u _ q => q) (fun b q => ?_) fun b xs q => ?_
    · cases gb : G b with
      | some ho => rw [n b ho gb] at q; cases q
      | none => rw [ov_none gb]; exact q
    · cases gb : G b with
      | some ho => rw [n b ho gb] at q; cases q
      | none => rw [ov_none gb]; exact q
/-- forgotten again -/
theorem hok_un (ok : HOk P w H h) (c : ∀ a ho, G a = some ho → H a = some ho ∧ ∃ o u, ho = .frz o u) : HOk P w (un G H) h := fun a o e => by
  cases g : G a with
  | some ho => rw [un_some g] at e; cases e
  | none =>
    rw [un_none g] at e
    refine (ok a o e).stay (fun b u _ q => q) (fun b q => ?_) fun b xs q => ?_
    · cases gb : G b with
      | some ho =>
        obtain ⟨e1, o1, u1, e2⟩ := c b ho gb
        rw [e1, e2] at q
        cases q
      | none => rw [un_none gb]; exact q
    · cases gb : G b with
      | some ho =>
        obtain ⟨e1, o1, u1, e2⟩ := c b ho gb
        rw [e1, e2] at q
        cases q
      | none => rw [un_none gb]; exact q
theorem CellsG.stay (c : CellsG G h) (u : Un fs ex (ov G H) H' h h') {a : Addr} {ho : HO} (e : G a = some ho) : H' a = some ho := by
  obtain ⟨o, x, rfl⟩ := c.kind e
  exact u.frzs a o x (ov_some e)
/-- what a call did, without the cells that were told -/
theorem un_out (c : CellsG G h) (n : ∀ a ho, G a = some ho → H a = none) (nf : ∀ a ho, G a = some ho → a ∉ fs) (u : Un fs ex (ov G H) H' h h') (ok : HOk P w H' h') : Un fs ex H (un G H') h h' where
  keep := fun b o q hn hb hx => by
    cases g : G b with
    | some ho =>
      obtain ⟨o', v, e1, e2, _⟩ := c b ho g
      rw [q] at e2
      cases e2
      subst e1
      exact (ok b _ (c.stay u g)).1
    | none => exact u.keep b o q (by rw [ov_none g]; exact hn) hb hx
  slot := fun b o q hn hb hx => by
    cases g : G b with
    | some ho => exact absurd hb (nf b ho g)
    | none => exact u.slot b o q (by rw [ov_none g]; exact hn) hb hx
  free := fun b o q hn hx => by
    cases g : G b with
    | some ho => exact un_some g
    | none =>
      rw [un_none g]
      exact u.free b o q (by rw [ov_none g]; exact hn) hx
  there := u.there
  tups := fun b xs q => by
    cases g : G b with
    | some ho => rw [n b ho g] at q; cases q
    | none =>
      rw [un_none g]
      exact u.tups b xs (by rw [ov_none g]; exact q)
  frzs := fun b o x q => by
    cases g : G b with
    | some ho => rw [n b ho g] at q; cases q
    | none =>
      rw [un_none g]
      exact u.frzs b o x (by rw [ov_none g]; exact q)
  tbls := fun b ps q => by
    cases g : G b with
    | some ho => rw [n b ho g] at q; cases q
    | none =>
      obtain ⟨m, e⟩ := u.tbls b ps (by rw [ov_none g]; exact q)
      exact ⟨m, by rw [un_none g]; exact e⟩
/-- what a call did, with the cells that were hidden -/
theorem un_in (c : CellsG G h) (t : ∀ a ho, G a = some ho → H a = some ho) (u : Un fs [] (un G H) H' h h') : Un fs [] H (ov G H') h h' := by
  have ng : ∀ {b}, H b = none → G b = none := fun {b} q => by
    cases g : G b with
    | some ho => rw [t b ho g] at q; cases q
    | none => rfl
  refine ⟨fun b o q hn hb hx => u.keep b o q (by rw [un_none (ng hn)]; exact hn) hb hx, fun b o q hn hb hx => u.slot b o q (by rw [un_none (ng hn)]; exact hn) hb hx, fun b o q hn hx => ?_, u.there, fun b xs q => ?_, fun b o x q => ?_, fun b ps q => ?_⟩
  · rw [ov_none (ng hn)]
    exact u.free b o q (by rw [un_none (ng hn)]; exact hn) hx
  · cases g : G b with
    | some ho =>
      obtain ⟨o, x, e⟩ := c.kind g
      rw [t b ho g, e] at q
      cases q
    | none =>
      rw [ov_none g]
      exact u.tups b xs (by rw [un_none g]; exact q)
  · cases g : G b with
    | some ho => rw [ov_some g, ← t b ho g]; exact q
    | none =>
      rw [ov_none g]
      exact u.frzs b o x (by rw [un_none g]; exact q)
  · cases g : G b with
    | some ho =>
      obtain ⟨o, x, e⟩ := c.kind g
      rw [t b ho g, e] at q
      cases q
    | none =>
      obtain ⟨m, e⟩ := u.tbls b ps (by rw [un_none g]; exact q)
      exact ⟨m, by rw [ov_none g]; exact e⟩
theorem ub_in {B : Heap} (c : CellsG G h) (t : ∀ a ho, G a = some ho → H a = some ho) (u : UB fs (un G H) H' h B h') : UB fs H (ov G H') h B h' := by
  have ng : ∀ {b}, H b = none → G b = none := fun {b} q => by
    cases g : G b with
    | some ho => rw [t b ho g] at q; cases q
    | none => rfl
  refine ⟨fun b o q hn hb => u.keep b o q (by rw [un_none (ng hn)]; exact hn) hb, u.slot, fun b o q hn => ?_, u.there, fun b xs q => ?_, fun b o x q => ?_, fun b ps q => ?_⟩
  · rw [ov_none (ng hn)]
    exact u.free b o q (by rw [un_none (ng hn)]; exact hn)
  · cases g : G b with
    | some ho =>
      obtain ⟨o, x, e⟩ := c.kind g
      rw [t b ho g, e] at q
      cases q
    | none =>
      rw [ov_none g]
      exact u.tups b xs (by rw [un_none g]; exact q)
  · cases g : G b with
    | some ho => rw [ov_some g, ← t b ho g]; exact q
    | none =>
      rw [ov_none g]
      exact u.frzs b o x (by rw [un_none g]; exact q)
  · cases g : G b with
    | some ho =>
      obtain ⟨o, x, e⟩ := c.kind g
      rw [t b ho g, e] at q
      cases q
    | none =>
      obtain ⟨m, e⟩ := u.tbls b ps (by rw [un_none g]; exact q)
      exact ⟨m, by rw [ov_none g]; exact e⟩
theorem un_ex (t : ∀ a ho, G a = some ho → H a = some ho) (e : Ex (un G H) H') : Ex H (ov G H') := fun a o q => by
  cases g : G a with
  | some ho => rw [ov_some g, ← t a ho g]; exact q
  | none =>
    rw [ov_none g]
    exact e a o (by rw [un_none g]; exact q)
theorem ov_ex (n : ∀ a ho, G a = some ho → H a = none) (e : Ex (ov G H) H') : Ex H (un G H') := fun a o q => by
  cases g : G a with
  | some ho => rw [n a ho g] at q; cases q
  | none =>
    rw [un_none g]
    exact e a o (by rw [ov_none g]; exact q)
theorem ex_ov (n : ∀ a ho, G a = some ho → H a = none) : Ex H (ov G H) := fun a o q => by
  cases g : G a with
  | some ho => rw [n a ho g] at q; cases q
  | none => rw [ov_none g]; exact q
end
/-! ### calls of what a name holds -/
/-- f(), in the heap H: what comes of it -/
def Calls (P : Program) (w : World) (K : PySem.W.Frag) (mg : Str → Option Value) (base : Heap) (k : Nat) (f : Addr) (H : Hp) (Q : VK) (E : XK) : Prop :=
  ∀ (A : Around) (outer : List Env) (s : Shared), Room k A → Env0 P w K mg base A outer s H → codeAny (model P w) A (.call (.ref f) ⟨[], []⟩) (CR (L2.CX P w) outer P w H s Q E) s
theorem Calls.imp {P : Program} {w : World} {K : PySem.W.Frag} {mg : Str → Option Value} {base : Heap} {k : Nat} {f : Addr} {H : Hp} {Q Q' : VK} {E E' : XK} (c : Calls P w K mg base k f H Q E) (hq : ∀ v H', Q v H' → Q' v H') (he : ∀ cls d H', E cls d H' → E' cls d H') : Calls P w K mg base k f H Q' E' := by
  intro A outer s hr e0
  refine codeAny_mono (c A outer s hr e0) fun r s' h => ?_
  cases r with
  | error e =>
    obtain ⟨a, B, H', cls, d, e1, fl, hk, ub, na, os, ab, we⟩ := h
    exact ⟨a, B, H', cls, d, e1, fl, hk, ub, na, os, ab, he _ _ _ we⟩
  | ok fl =>
    cases fl with
    | ret u =>
      obtain ⟨v, H', os, bare, un', hok, rv, qv⟩ := h
      exact ⟨v, H', os, bare, un', hok, rv, hq _ _ qv⟩
    | next => exact h
    | brk => exact h
    | cont => exact h
theorem Calls.mono {P : Program} {w : World} {K : PySem.W.Frag} {mg : Str → Option Value} {base : Heap} {j k : Nat} {f : Addr} {H : Hp} {Q : VK} {E : XK} (c : Calls P w K mg base j f H Q E) (h : j ≤ k) : Calls P w K mg base k f H Q E := fun A outer s hr e0 => c A outer s (hr.mono h) e0
section
variable {P : Program} {w : World} {K : PySem.W.Frag} {mg : Str → Option Value} {base : Heap}
/-- the lambda as a nested def's record (its body stands apart) -/
abbrev Lam.nf (L : Lam) : NF := ⟨"<lambda>", L.qual, L.params, [], L.scope, L.cl, L.c⟩
/-- the cells of L as H tells them -/
def capG (L : Lam) (H : Hp) : Addr → Option HO := fun a => if a ∈ L.cl.map (·.2) then H a else none
theorem lookup_mem {l : List (Str × Addr)} {y : Str} {c : Addr} (h : l.lookup y = some c) : c ∈ l.map (·.2) := List.mem_map.mpr ⟨(y, c), PySem.mem_of_lookup h, rfl⟩
theorem Calls.lam {N ps fr : List Str} {L : Lam} {f : Addr} {k : Nat} {H : Hp} {Q : VK} {E : XK} {vs : List V} {ws : List (Option V)} (S : NScope N ps fr L.scope) (hf : H f = some (LamO f L)) (hc : H L.c = some (CodeO L.c L.qual)) (hl : vs.length = ps.length) (hw : ws.length = fr.length)
    (hb : ∀ s : Shared, HOk P w H s.heap → ∃ us, Vals vs us ∧ ∀ doc pm ctv, BindsTo s (L.fd doc pm ctv) ⟨[], []⟩ (ps.zip us))
    (cells : ∀ (i : Nat) (y : Str), fr[i]? = some y → ∃ c o v, L.cl.lookup y = some c ∧ ws[i]? = some (some v) ∧ H c = some (CellF o v))
    (only : ∀ p ∈ L.cl, ∃ i : Nat, fr[i]? = some p.1 ∧ L.cl.lookup p.1 = some p.2) (inj : ∀ x y c, L.cl.lookup x = some c → L.cl.lookup y = some c → x = y)
    (body : ∀ (A : Around) (outer : List Env) (s : Shared) (E' : XK), (E' = fun cls d H' => E cls d (ov (capG L H) H')) → Room k (A.deeper (envF L.nf f s.heap.objs.size)) →
      wE (ncx (L2.CX P w) P w K mg base N L.nf f A outer s (un (capG L H) H) E') L.body (startF N vs ws) (un (capG L H) H) fun v H' => Q v (ov (capG L H) H')) :
    Calls P w K mg base (k + 1) f H Q E := by
  intro A outer s hr e0
  have tG : ∀ a ho, capG L H a = some ho → H a = some ho := fun a ho e => by
    unfold capG at e
    split at e
    · exact e
    · cases e
  have inG : ∀ {c : Addr} {o : Obj} {v : V}, c ∈ L.cl.map (·.2) → H c = some (CellF o v) → capG L H c = some (CellF o v) := fun hm e => by
    unfold capG
    rw [if_pos hm]
    exact e
  have memc : ∀ {c : Addr}, c ∈ L.cl.map (·.2) → ∃ o v, H c = some (CellF o v) := fun {c} hm => by
    obtain ⟨p, hp, rfl⟩ := List.mem_map.mp hm
    obtain ⟨i, hi, hlk⟩ := only p hp
    obtain ⟨c', o, v, e1, _, e3⟩ := cells i p.1 hi
    rw [hlk] at e1
    cases e1
    exact ⟨o, v, e3⟩
  have cG : CellsG (capG L H) s.heap := fun a ho e => by
    have hm : a ∈ L.cl.map (·.2) := by
      unfold capG at e
      split at e
      · assumption
      · cases e
    obtain ⟨o, v, e2⟩ := memc hm
    have e3 := tG a ho e
    rw [e2] at e3
    cases e3
    obtain ⟨q1, ⟨u, r, d⟩, _⟩ := (e0.hok a _ e2)
    exact ⟨o, v, rfl, q1, u, r, d⟩
  have hok' : HOk P w (un (capG L H) H) s.heap := hok_un e0.hok fun a ho e => ⟨tG a ho e, cG.kind e⟩
  have e0' : Env0 P w K mg base A outer s (un (capG L H) H) := by
    refine ⟨e0.frames, e0.mod, fun b o q => ⟨(e0.bs b o q).1, ?_⟩, e0.bsz, e0.funs, fun b hb => ?_, hok', e0.bare⟩
    · cases g : capG L H b with
      | some ho => exact un_some g
      | none => rw [un_none g]; exact (e0.bs b o q).2
    · cases g : capG L H b with
      | some ho => exact un_some g
      | none => rw [un_none g]; exact e0.frf b hb
  have ngf : capG L H f = none := by
    cases g : capG L H f with
    | none => rfl
    | some ho =>
      obtain ⟨o, u, e⟩ := cG.kind g
      have := tG f ho g
      rw [hf, e] at this
      unfold LamO at this
      cases this
  have C : CellsAt L.cl fr ws s.heap (un (capG L H) H) := by
    refine ⟨hw, fun y c e => ?_, inj, fun i y e => ?_⟩
    · obtain ⟨o, v, e2⟩ := memc (lookup_mem e)
      have g := inG (lookup_mem e) e2
      obtain ⟨o', v', _, q1, u, r, d⟩ := cG c _ g
      exact ⟨un_some g, some u, o', q1, d⟩
    · obtain ⟨c, o, v, e1, e2, e3⟩ := cells i y e
      refine ⟨c, e1, fun v' e4 => ?_⟩
      rw [e2] at e4
      cases e4
      obtain ⟨q1, ⟨u, r, d⟩, _⟩ := e0.hok c _ e3
      exact ⟨u, r, o, q1, d⟩
  have lim : s.heap.NoLimit := e0.mod.nolimit.keeps fun b o e => (e0.bs b o e).1
  obtain ⟨od, sl, doc, pm, ctv, ho⟩ := lamO_at e0.hok hf
  obtain ⟨us, rv, hbind⟩ := hb s e0.hok
  refine PySem.W.kla_callFunE hr.depth ho rfl S.co S.gen rfl (codeO_at e0.hok hc) ?_
  refine hbind doc pm ctv _ _ _ _ ?_
  refine wpAny_newFunctionEnv S.nocell (fun ⟨n, _⟩ hy => S.par n (List.of_mem_zip hy).1) (fun h₁ hns hsb => ⟨lim.fresh _ hsb, ?_⟩) S.kind
  show codeAny _ _ (.expr L.body (envF L.nf f s.heap.objs.size)) _ _
  have kp : ∀ b o, s.heap.get? b = some o → h₁.get? b = some o := fun b o e => hsb.extBut b o (Nat.ne_of_lt (Heap.lt_size e)) (Heap.get?_push_of_some _ e)
  have I : Inv (ncx (L2.CX P w) P w K mg base N L.nf f A outer s (un (capG L H) H) (fun cls d H' => E cls d (ov (capG L H) H'))) [] (startF N vs ws) (un (capG L H) H) { s with heap := h₁, toks := s.toks + (ps.zip us).length } := inv_startN S hr.hd e0' hl rv C hns kp
  have conv : ∀ e s'', L2.CX P w outer (un (capG L H) H) s (fun cls d H' => E cls d (ov (capG L H) H')) e s'' → L2.CX P w outer H s E e s'' := by
    intro e s'' hx
    obtain ⟨a, B, H', cls, d, e1, fl, hk, ub, na, os, ab, we⟩ := hx
    refine ⟨a, B, ov (capG L H) H', cls, d, e1, fl, ?_, ub_in cG tG ub, ?_, os, ab, we⟩
    · have cB : CellsG (capG L H) B := fun b ho g => by
        obtain ⟨o, v, e1, e2, e3⟩ := cG b ho g
        refine ⟨o, v, e1, ub.keep b o e2 (un_some g) ?_, e3⟩
        intro hm
        have := e0.frf b hm
        rw [tG b ho g] at this
        cases this
      exact hok_ov hk cB fun b ho g => by
        obtain ⟨o, v, e1, e2, e3⟩ := cG b ho g
        exact ub.free b o e2 (un_some g)
    · cases g : capG L H a with
      | none => rw [ov_none g]; exact na
      | some ho =>
        obtain ⟨o, v, e1, e2, _⟩ := cG a ho g
        have hB := ub.keep a o e2 (un_some g) (fun hm => by
          have := e0.frf a hm
          rw [tG a ho g] at this
          cases this)
        obtain ⟨_, hBn, _⟩ := fl
        rw [hB] at hBn
        cases hBn
  refine PySem.W.kla_codeExpr (wpAny_mono (body A outer s _ rfl (hr.deeper _) [] _ I) (fun v s' hq => ?_) fun e s' hq => ?_)
  · obtain ⟨w', H', J, r, q⟩ := hq
    have ub : Un (frs outer) [] (un (capG L H) H) H' s.heap s'.heap := J.base
    refine ⟨w', ov (capG L H) H', J.os, J.bare, un_in cG tG ub, ?_, r, q⟩
    have cB : CellsG (capG L H) s'.heap := fun b ho g => by
      obtain ⟨o, v, e1, e2, e3⟩ := cG b ho g
      refine ⟨o, v, e1, ub.keep b o e2 (un_some g) ?_ (by simp), e3⟩
      intro hm
      have := e0.frf b hm
      rw [tG b ho g] at this
      cases this
    exact hok_ov J.hok cB fun b ho g => by
      obtain ⟨o, v, e1, e2, e3⟩ := cG b ho g
      exact ub.free b o e2 (un_some g) (by simp)
  · exact wpAny_mono hq (fun _ s'' h => conv e s'' h) fun e' s'' h => conv e' s'' h
end
/-! x(), x a slot that holds such a function -/
theorem lam_fnAt {X : Cx} {pins : List (Addr × Obj)} {σ : L2.St} {H : Hp} {s : Shared} {f : Addr} {L : Lam} (I : Inv X pins σ H s) (e : H f = some (LamO f L)) : PySem.W.FnAt f s.heap := by
  obtain ⟨od, sl, doc, pm, ctv, ho⟩ := lamO_at I.hok e
  exact ⟨_, od, _, sl, ho⟩
theorem w_callV {X : Cx} {i j k : Nat} {x : Str} {f : Addr} {L : Lam} {σ : L2.St} {H : Hp} {Q : VK} {E : XK} {p pos : Pos} (hr : Room j X.A) (hk : k ≤ j) (hx : PassesAt (L2.CX X.prog X.w) X σ E) (hN : X.N[i]? = some x) (hv : Vis X.env.scope x) (hs : σ[i]? = some (some (.ref f))) (hf : H f = some (LamO f L))
    (h : Calls X.prog X.w X.K X.mg X.base k f H Q E) (hd : (x == ("__debug__" : Str)) = false := by decide) (hcd : (x == ("__classdict__" : Str)) = false := by decide) : wE X (.Call (.Name x p) [] [] pos) σ H Q := by
  intro pins s I
  refine wpAny_Call_Name_kw (thn ((pe_var (pos := p) hN hv hd hcd).run pins s σ H (fun v H1 => v = .ref f ∧ H1 = H) I ⟨.ref f, hs, rfl, rfl⟩) fun u s1 ⟨v, H1, I1, r1, q1⟩ => ?_)
  obtain ⟨ev, eH⟩ := q1
  subst ev
  rw [eH] at I1
  obtain rfl : u = Value.ref f := r1
  refine PySem.W.callWith_F0 (first := []) (lam_fnAt I1 hf) ?_
  show wpAny _ _ (call (.ref f) []) _ _ _
  refine wpAny_call (codeAny_mono (h X.A X.stack s1 (hr.mono hk) I1.env0) fun r s' hq => ?_)
  cases r with
  | error e => exact hx pins H s1 e s' I1 hq
  | ok fl =>
    cases fl with
    | ret u => exact I1.after hq
    | next => exact False.elim hq
    | brk => exact False.elim hq
    | cont => exact False.elim hq
end DV
namespace DV
open PySem PySem.Spec L2 Evl LamX NdefX
open PyProof.Rows hiding St cutD
/-- the names of ys, their cells told by G -/
structure Shown (X : Cx) (σ : L2.St) (H : Hp) (ys : List (Nat × Str)) (G : Addr → Option HO) : Prop where
  at_ : ∀ j y, (j, y) ∈ ys → ∃ c o v, X.env.cells.lookup y = some c ∧ σ[j]? = some (some v) ∧ G c = some (CellF o v)
  free : ∀ a ho, G a = some ho → H a = none
  ok : X.Ok
theorem absV_rel {u : Value} {v : V} (h : absV u = some v) : RelV v u := by
  cases u <;> simp only [absV, Option.some.injEq, reduceCtorEq] at h <;> subst h <;> first | rfl | exact ⟨_, rfl⟩
def cellOf (o : Obj) : Option V := match o.data with
  | .cell (some u) => absV u
  | _ => none
def gOf (cs : List Addr) (h : Heap) : Addr → Option HO := fun a => if a ∈ cs then (h.get? a).bind fun o => (cellOf o).map (CellF o) else none
theorem gOf_spec {cs : List Addr} {h : Heap} {a : Addr} {ho : HO} (e : gOf cs h a = some ho) : a ∈ cs ∧ ∃ o v, ho = CellF o v ∧ h.get? a = some o ∧ ∃ u, RelV v u ∧ o.data = .cell (some u) := by
  unfold gOf at e
  split at e
  · rename_i hm
    refine ⟨hm, ?_⟩
    cases ho' : h.get? a with
    | none => rw [ho'] at e; cases e
    | some o =>
      rw [ho'] at e
      have e : (cellOf o).map (CellF o) = some ho := e
      cases hv : cellOf o with
      | none => rw [hv] at e; cases e
      | some v =>
        rw [hv] at e
        have e : some (CellF o v) = some ho := e
        unfold cellOf at hv
        split at hv
        · rename_i u hu
          exact ⟨o, v, (Option.some.inj e).symm, rfl, u, absV_rel hv, hu⟩
        · cases hv
  · cases e
theorem gOf_at {cs : List Addr} {h : Heap} {a : Addr} {o : Obj} {u : Value} {v : V} (hm : a ∈ cs) (ho : h.get? a = some o) (hd : o.data = .cell (some u)) (r : RelV v u) : gOf cs h a = some (CellF o v) := by
  unfold gOf
  rw [if_pos hm, ho]
  show (cellOf o).map (CellF o) = _
  unfold cellOf
  rw [hd]
  show (absV u).map (CellF o) = _
  rw [r.abs]
  rfl
section
variable {X : Cx} {σ : L2.St} {H : Hp} {Q : VK} {x : Str} {e : Expr} {es : List Expr} {px pos : Pos} {j k : Nat} {sp : Sp}
/-- a def called by its maker, the cells of ys told for the while -/
theorem w_callG (c : Cal X.prog X.w X.K X.mg X.base x k sp) (hr : Room j X.A) (hk : k ≤ j) (hg : Gl X x) (ys : List (Nat × Str)) (hy : ∀ p ∈ ys, X.N[p.1]? = some p.2 ∧ X.env.scope.names.lookup p.2 = some .cell ∧ X.fn p.2 = true) (hσ : ∀ p ∈ ys, ∃ v, σ[p.1]? = some (some v))
    (ha : wA X (e :: es) σ H fun vs H1 => ∀ G, Shown X σ H1 ys G → sp vs (ov G H1) (fun v H' => Q v (un G H')) E0) (hdb : (x == ("__debug__" : Str)) = false := by decide)
    (he : starEach (e :: es) X.env = (false, eval e X.env) :: starEach es X.env := by rfl) (hpl : (backTo pos (starEach es X.env)).any (·.1) = false := by rfl) : wE X (.Call (.Name x px) (e :: es) [] pos) σ H Q := by
  intro pins s I
  obtain ⟨f, fd, ps, F, hm, hkp, hb⟩ := c.ex
  refine wpAny_Call_Name_kw (ld_glob I hg hm ?_ hdb)
  refine PySem.W.callWith_K (h₀ := X.base) I.ok.mod.kin hkp (thn (pa_w.run pos pins s σ H _ I ha) fun us s1 ⟨vs, H1, I1, r, q⟩ => ⟨I1.kIn, ?_⟩) he hpl
  show wpAny _ _ (call (.ref f) us) _ _ _
  let cs : List Addr := ys.filterMap fun p => X.env.cells.lookup p.2
  have csOf : ∀ {a : Addr}, a ∈ cs → ∃ p ∈ ys, X.env.cells.lookup p.2 = some a := fun {a} hm => List.mem_filterMap.mp hm
  let G := gOf cs s1.heap
  have cG : CellsG G s1.heap := fun a ho e => (gOf_spec e).2
  have nG : ∀ a ho, G a = some ho → H1 a = none := fun a ho e => by
    obtain ⟨p, hp, hl⟩ := csOf (gOf_spec e).1
    exact I1.freeC p.2 a hl
  have above : ∀ a ho, G a = some ho → X.s_0.heap.objs.size ≤ a := fun a ho e => by
    obtain ⟨p, hp, hl⟩ := csOf (gOf_spec e).1
    exact I1.ok.cab p.2 a (hy p hp).2.2 hl
  have nF : ∀ a ho, G a = some ho → a ∉ frs X.stack := fun a ho e hm => by
    obtain ⟨p, hp, hl⟩ := csOf (gOf_spec e).1
    rcases List.mem_cons.mp (I1.stkSub a hm) with z | z
    · exact I1.cne p.2 a hl z
    · obtain ⟨_, o, ho, _⟩ := I1.ok.funs.mem z
      exact absurd (Nat.lt_of_lt_of_le (Heap.lt_size ho) (above a _ e)) (Nat.lt_irrefl _)
  have sh : Shown X σ H1 ys G := by
    refine ⟨fun j y hm => ?_, nG, I1.ok⟩
    obtain ⟨hN, hc, _⟩ := hy (j, y) hm
    obtain ⟨v, hv⟩ := hσ (j, y) hm
    obtain ⟨m, hn, hl⟩ := I1.loc
    obtain ⟨u, rv, l⟩ := hl j y v hN hv (.inr (.inl hc))
    rcases l with ⟨z, _⟩ | ⟨_, c, hlk, o, ho, hd⟩
    · have z : X.env.scope.names.lookup y = some .local := z
      rw [hc] at z
      cases z
    · have hcm : c ∈ cs := List.mem_filterMap.mpr ⟨(j, y), hm, hlk⟩
      exact ⟨c, o, v, hlk, hv, gOf_at hcm ho hd rv⟩
  have e1 := I1.env0
  have e0 : Env0 X.prog X.w X.K X.mg X.base X.A X.stack s1 (ov G H1) := by
    refine ⟨e1.frames, e1.mod, fun b o q => ⟨(e1.bs b o q).1, ?_⟩, e1.bsz, e1.funs, fun b hb => ?_, hok_ov e1.hok cG nG, e1.bare⟩
    · cases g : G b with
      | none => rw [ov_none g]; exact (e1.bs b o q).2
      | some ho =>
        exact absurd (Nat.lt_of_lt_of_le (Heap.lt_size q) (Nat.le_trans I1.ok.bsz (above b ho g))) (Nat.lt_irrefl _)
    · cases g : G b with
      | none => rw [ov_none g]; exact e1.frf b hb
      | some ho => exact absurd hb (nF b ho g)
  have h := q G sh
  have hl : us.length = ps.length := by rw [← r.length]; exact F.len _ _ _ _ h
  have b := hb s1 us I1.kIn (by rw [List.append_nil]; exact hl)
  rw [List.append_nil] at b
  refine wpAny_call (codeAny_mono (F.run X.A X.stack s1 (ov G H1) ⟨us, []⟩ us vs _ E0 (hr.mono hk) e0 b r h) fun r s' hq => ?_)
  cases r with
  | error e =>
    obtain ⟨_, _, _, _, _, _, _, _, _, _, _, _, z⟩ := hq
    exact z.elim
  | ok fl =>
    cases fl with
    | ret u =>
      refine I1.after ?_
      obtain ⟨v, H', os, bare, un', hok, rv, qv⟩ := hq
      exact ⟨v, un G H', os, bare, un_out cG nG nF un' hok, hok_un hok fun a ho g => ⟨cG.stay un' g, cG.kind g⟩, rv, qv⟩
    | next => exact False.elim hq
    | brk => exact False.elim hq
    | cont => exact False.elim hq
end
end DV
namespace DV
open PySem PySem.Spec L2 Evl LamX NdefX
open PyProof.Rows hiding St cutD
/-! ### list.count of flat items -/
def rCntF (K : PySem.W.Frag) : V → List V → Hp → VK → Prop := fun x xs H Q => ∃ (p : Addr) (ys : List V) (y : V), x = .ref p ∧ xs = [y] ∧ SqL K H p ys ∧ flatV y = true ∧ ys.all flatV = true ∧ Q (.int (ys.countP (fun z => eqV z y) : Nat)) H
theorem countP_eqU {x : V} : ∀ {xs : List V} {us : List Value}, Vals xs us → xs.all flatV = true → us.countP (eqU x) = xs.countP fun y => eqV y x
  | _, _, .nil, _ => rfl
  | _, _, .cons r t, f => by
    rw [List.all_cons, Bool.and_eq_true] at f
    rw [List.countP_cons, List.countP_cons, eqU_of r f.1, countP_eqU t f.2]
theorem mt_countF {X : Cx} : MtR X "list.count" (rCntF X.K) := by
  intro pins s σ H x xs v us Q I rx rxs h
  obtain ⟨p, ys, y, rfl, rfl, hs, fy, fys, q⟩ := h
  cases rx
  obtain ⟨u, rfl, ru⟩ := rxs.one
  obtain ⟨its, rv, ⟨⟨cls, dd, data, sl⟩, n, ho, hc, hdn, hd⟩, hlen⟩ := I.list hs
  simp only at hc hd
  subst hc hd
  refine call_meets PySem.F.slot_list_count ⟨_, ho, rfl⟩ PySem.F.entry_list_count (PySem.F.args_list_count_2 _ _)
    (SeqAt.list_countAt p its.toArray n dd sl u (eqU y)) ⟨ho, fun w hw => mem_eqAt ru fy rv fys w (by simpa using hw), ?_⟩
  have ec : its.toArray.toList.countP (eqU y) = ys.countP fun z => eqV z y := countP_eqU rv fys
  refine ⟨.int (ys.countP (fun z => eqV z y) : Nat), H, I.tok _, ⟨s.toks, ?_⟩, q⟩
  show Value.int ((its.toArray.toList.countP (eqU y) : Nat) : Int) s.toks = Value.int ((ys.countP (fun z => eqV z y) : Nat) : Int) s.toks
  rw [ec]
theorem flat_bools : ∀ bs : List Bool, (bs.map V.bl).all flatV = true
  | [] => rfl
  | _ :: bs => by rw [List.map_cons, List.all_cons, flat_bools bs]; rfl
theorem count_bools (b : Bool) : ∀ bs : List Bool, (bs.map V.bl).countP (fun z => eqV z (.bl b)) = bs.count b
  | [] => rfl
  | c :: bs => by
    rw [List.map_cons, List.countP_cons, List.count_cons, count_bools b bs]
    rfl
section
variable {S : Type} {X : Cx} {M : List Addr} {R : S → Hp → Prop} {ρ : List Sl} {s s1 s2 : S} {a b o e e' : Expr} {px pos apos cpos : Pos}
theorem e_countB {bs : List Bool} {k : Bool} (ho : Ev1 X M R ρ o s (.dat (.list (bs.map .bool))) s1) (ha : EvA1 X M R ρ [e] s1 [.dat (.bool k)] s2)
    (hbase : attributeBase o "count" X.env (eval o X.env) = eval o X.env := by rfl)
    (hfew : ((backTo cpos (starEach [e] X.env)).all (fun x => !x.1) && (backToKw cpos (keywordEach [] X.env)).all (fun x => x.1.isSome) && decide ([e].length + ([] : List Keyword).length + (if ([] : List Keyword).isEmpty then 0 else 1) < 30)) = true := by rfl)
    (hline : (apos.endLine == cpos.line) = true := by rfl) (hs : starEach [e] X.env = (false, eval e X.env) :: starEach [] X.env := by rfl) (hplain : (backTo cpos (starEach [] X.env)).any (·.1) = false := by rfl) :
    Ev1 X M R ρ (.Call (.Attribute o "count" apos) [e] [] cpos) s (.dat (.int (bs.count k : Nat))) s2 := by
  intro σ H Q hσ hR q
  refine wE_of (pe_bm PySem.F.plainAttrs_list PySem.F.slot_list_count PySem.F.type_list_count (mt_countF : MtR X _ _) pe_w pa_w hbase hfew hline hs hplain) ?_
  refine ho σ H _ hσ hR fun v H1 e1 R1 d1 => ?_
  obtain ⟨p, xs, rfl, hp, hd⟩ := sv_lst d1
  rw [dpa_bools hd] at hp
  refine ⟨.inl ⟨rfl, _, sq_of (ex_cut _ _ hp)⟩, ?_⟩
  refine ha σ H1 _ (hσ.ex e1) R1 fun vs H2 e2 R2 d2 => ?_
  obtain ⟨w, rfl, h2⟩ := svall1 d2
  rw [sv_bl h2]
  refine ⟨p, _, _, rfl, rfl, sq_of (ex_cut _ _ (e2 _ _ hp)), rfl, flat_bools bs, ?_⟩
  rw [count_bools]
  exact q _ H2 (e1.trans e2) R2 (.int _)
/-- the first True -/
theorem e_indexB {bs : List Bool} {j : Nat} (hj : bs[j]? = some true) (hlt : ∀ m, m < j → bs[m]? = some false) (ho : Ev1 X M R ρ o s (.dat (.list (bs.map .bool))) s1) (ha : EvA1 X M R ρ [e] s1 [.dat (.bool true)] s2)
    (hbase : attributeBase o "index" X.env (eval o X.env) = eval o X.env := by rfl)
    (hfew : ((backTo cpos (starEach [e] X.env)).all (fun x => !x.1) && (backToKw cpos (keywordEach [] X.env)).all (fun x => x.1.isSome) && decide ([e].length + ([] : List Keyword).length + (if ([] : List Keyword).isEmpty then 0 else 1) < 30)) = true := by rfl)
    (hline : (apos.endLine == cpos.line) = true := by rfl) (hs : starEach [e] X.env = (false, eval e X.env) :: starEach [] X.env := by rfl) (hplain : (backTo cpos (starEach [] X.env)).any (·.1) = false := by rfl) :
    Ev1 X M R ρ (.Call (.Attribute o "index" apos) [e] [] cpos) s (.dat (.int (j : Nat))) s2 := by
  intro σ H Q hσ hR q
  refine wE_of (pe_bm PySem.F.plainAttrs_list PySem.F.slot_list_index PySem.F.type_list_index (mt_index : MtR X _ _) pe_w pa_w hbase hfew hline hs hplain) ?_
  refine ho σ H _ hσ hR fun v H1 e1 R1 d1 => ?_
  obtain ⟨p, xs, rfl, hp, hd⟩ := sv_lst d1
  rw [dpa_bools hd] at hp
  refine ⟨.inl ⟨rfl, _, sq_of (ex_cut _ _ hp)⟩, ?_⟩
  refine ha σ H1 _ (hσ.ex e1) R1 fun vs H2 e2 R2 d2 => ?_
  obtain ⟨w, rfl, h2⟩ := svall1 d2
  rw [sv_bl h2]
  refine ⟨p, _, _, j, .bl true, rfl, rfl, sq_of (ex_cut _ _ (e2 _ _ hp)), rfl, flat_bools bs, by rw [List.getElem?_map, hj]; rfl, rfl, fun m z hm hz => ?_, q _ H2 (e1.trans e2) R2 (.int _)⟩
  rw [List.getElem?_map, hlt m hm] at hz
  cases hz
  rfl
/-! in a written tuple of flat data -/
def flatD : PyData → Bool
  | .none | .bool _ | .int _ | .str _ => true
  | _ => false
theorem flat_dv {K : PySem.W.Frag} {H : Hp} {d : PyData} {v : V} (h : Dv K H v d) (f : flatD d = true) : flatV v = true := by
  cases h <;> first | rfl | cases f
theorem eqv_flat {K : PySem.W.Frag} {H : Hp} {d e : PyData} {v w : V} (h : Dv K H v d) (h' : Dv K H w e) (f : flatD d = true) (f' : flatD e = true) : eqV v w = PyData.eqv d e := by
  cases h <;> first | (cases f; done) | (cases h' <;> first | rfl | (cases f'; done))
theorem flat_all {K : PySem.W.Frag} {H : Hp} : ∀ {ds : List PyData} {vs : List V}, DvAll K H vs ds → ds.all flatD = true → vs.all flatV = true
  | [], _, h, _ => by cases h; rfl
  | d :: ds, _, h, f => by
    cases h with
    | cons a b =>
      rw [List.all_cons, Bool.and_eq_true] at f
      rw [List.all_cons, flat_dv a f.1, flat_all b f.2]
      rfl
theorem in_dv {K : PySem.W.Frag} {H : Hp} {d : PyData} {v : V} (h : Dv K H v d) (f : flatD d = true) : ∀ {ds : List PyData} {vs : List V}, DvAll K H vs ds → ds.all flatD = true → inV v vs = ds.any fun e => PyData.eqv e d
  | [], _, g, _ => by cases g; rfl
  | e :: ds, _, g, fs => by
    cases g with
    | cons a b =>
      rw [List.all_cons, Bool.and_eq_true] at fs
      have ih := in_dv h f b fs.2
      unfold inV at ih ⊢
      rw [List.any_cons, List.any_cons, eqv_flat a h fs.1 f, ih]
theorem t_inT {d : PyData} {ds : List PyData} (ha : Ev1 X M R ρ a s (.dat d) s1) (hb : Ev1 X M R ρ b s1 (.dat (.tuple ds)) s2) (f : flatD d = true) (fs : ds.all flatD = true) (hm : behindInMarks .In b = false := by with_unfolding_all rfl) :
    EvT1 X M R ρ (.Compare a [.In] [b] pos) s (ds.any fun e => PyData.eqv e d) s2 :=
  t_cmp op_in_seq ha hb (fun x y H Q dx dy hR q => by
    obtain ⟨p, xs, rfl, hp, hd⟩ := sv_tup dy
    refine ⟨p, xs, rfl, .inr (ex_t ex_cut hp), flat_dv dx f, flat_all hd fs, ?_⟩
    rw [in_dv dx f hd fs]
    exact q H (exId _) hR) hm
/-! isinstance of the error that the suite holds -/
theorem e_isE {X : Cx} {ad D : Addr} {oe : Obj} {pn : List (Addr × Obj)} {k : Bool} {c : V} {cv : Value} {r : Sl} (C : ExcC X.K D) (hz : Zc (.ref D) none oe) (hf : ∃ vs, oe.data = .fields vs) (hk : PySem.W.kitOne X.K (.ref D) cv = some k) (hc : ∀ H, Sv X.K H r c → ∀ u, RelV c u → u = cv) (hr : ∀ H v, Sv X.K H r v → v = c)
    (hg : Gl (X.suite ad ((ad, oe) :: pn)) "isinstance") (hm : X.mg "isinstance" = none) (ha : EvA1 (X.suite ad ((ad, oe) :: pn)) M R ρ [e, e'] s [.raw (.ref ad), r] s1)
    (he : starEach [e, e'] X.env = (false, eval e X.env) :: starEach [e'] X.env := by rfl) (hpl : (backTo pos (starEach [e'] X.env)).any (·.1) = false := by rfl) :
    Ev1 (X.suite ad ((ad, oe) :: pn)) M R ρ (.Call (.Name "isinstance" px) [e, e'] [] pos) s (.dat (.bool k)) s1 :=
  e_callB (call_isE C hz hf) hg hm boot_isinstance ha (fun vs H Q h hR q => by
    obtain ⟨v, w, rfl, h1, h2⟩ := svall2 h
    have h1 : v = .ref ad := h1
    subst h1
    have ew := hr _ w h2
    subst ew
    exact ⟨w, cv, k, rfl, hc _ h2, hk, q _ H (exId _) hR (.bl _)⟩) (by decide) (by decide) he hpl
end
end DV
namespace DV
open PySem PySem.Spec L2 Evl LamX NdefX
open PyProof.Rows hiding St cutD
/-! ### try: body, except x as n: suite -/
def tSuite (X : Cx) (suite : List Stmt) : Addr → Value → Option Addr → TS := fun a cls d D σ H => ∀ (oe : Obj) (pn : List (Addr × Obj)), Zc cls d oe → (∃ vs, oe.data = .fields vs) → wB (X.suite a ((a, oe) :: pn)) suite D σ H
theorem b_try_as {X : Cx} {i : Nat} {n x : Str} {c : Value} {body suite rest : List Stmt} {b₀ : Stmt} {np pos pos' : Pos} {D : Ends} {σ : L2.St} {H : Hp} (hs : X.stack = X.env :: X.outer) (hf : X.env.frame = some X.env.locals) (hN : X.N.Nodup) (hi : X.N[i]? = some n) (hln : X.env.kindOf n = some .local) (hc : Names X x c)
    (h : ∀ (W : WX) (pn : List (Addr × Obj)) (xe : Value → Shared → Prop), W = wAs X.K c i (tSuite X (b₀ :: suite)) (fun _ _ _ _ => False) { D with nx := wB X rest D } → Takes (X.tr pn xe) W → wB (X.tr pn xe) body { D with nx := wB X rest D } σ H) :
    wB X (.Try body [.ExceptHandler (some (.Name x np)) (some n) (b₀ :: suite) pos'] [] [] pos :: rest) D σ H := by
  refine wB_cons (wS_of (ps_try_as (i := i) (tb := fun W D' σ H => ∀ (pn : List (Addr × Obj)) (xe : Value → Shared → Prop), Takes (X.tr pn xe) W → wB (X.tr pn xe) body D' σ H) (ts := tSuite X (b₀ :: suite)) (Wout := fun _ _ _ _ => False) hs hf hN hi hln hc L2.takes0
    (fun W pn xe tk _ => ⟨fun pins s σ H D' I h' => h' pn xe tk pins s I⟩) (fun a oe cls d pn hz hd => ⟨fun pins s σ H D' I h' => h' oe pn hz hd pins s I⟩)) ?_)
  exact fun pn xe tk => h _ pn xe rfl tk
/-! ### the law's own words for errors -/
def kNames : List Str := ["BadCount", "BadKey", "BadLogs", "BadNow", "BadRules", "BadSite", "BadText", "BadToken", "BadWants", "BadWorth", "NotYet", "Stale"]
def kWord (i : Nat) : Str := kNames.getD i Str.empty
/-- the class at D is the i-th of them -/
structure Kinds (K : PySem.W.Frag) (mg : Str → Option Value) (D : Addr) (i : Nat) : Prop where
  exc : ExcC K D
  port : ∃ C, mg "PortError" = some (.ref C) ∧ PySem.W.exmOne K (.ref D) (.ref C) = some true
  val : PySem.W.kitOne K (.ref D) (.type "ValueError") = some true
  nval : mg "ValueError" = none
  kit : ∀ (j : Nat) (x : Str), kNames[j]? = some x → ∃ C, mg x = some (.ref C) ∧ PySem.W.kitOne K (.ref D) (.ref C) = some (decide (j = i))
  plain : i = 0 ∨ i = 1 ∨ i = 3 ∨ i = 4 ∨ i = 5 ∨ i = 7 ∨ i = 8 ∨ i = 9
/-- told of a function that raises such an error, or hands back a value -/
def spTold (P : Program) (w : World) (K : PySem.W.Frag) (mg : Str → Option Value) (base : Heap) (kc : Nat) : Sp := fun vs H Q _ => ∃ (f : Addr) (L : Lam) (Q1 : VK) (E1 : XK) (M : List Addr), vs = [.ref f] ∧ H f = some (LamO f L) ∧ Calls P w K mg base kc f H Q1 E1 ∧ (∀ v H', Q1 v H' → Q v H') ∧
  ∀ cls d H', E1 cls d H' → ∃ D i, cls = .ref D ∧ d = none ∧ Kinds K mg D i ∧ (∀ a ∈ M, ∃ o, H' a = some o) ∧ ∀ v H2, Ex H' H2 → Dv K (cut M H2) v (.tuple [.str (kWord i), .int 0]) → Q v H2
end DV
namespace K02
open PySem PySem.Spec L2 Evl DV
open PyProof.Rows hiding St cutD
section
variable {P : Program} {w : World} {K : PySem.W.Frag} {mg : Str → Option Value} {base : Heap}
/-! _law_told -/
abbrev nTold : List Str := ["_law_work", "e", "_law_kinds", "_law_words", "_law_word"]
theorem scTold : FnScope nTold ["_law_work"] (defScope sTold) := ⟨rfl, rfl, rfl, by decide +kernel, rfl, by decide +kernel, by decide +kernel⟩
def kB (i j : Nat) : PyData := .bool (decide (j = i))
def kBs (i : Nat) : List Bool := (List.range 12).map fun j => decide (j = i)
structure KFacts (i : Nat) : Prop where
  cnt : (kBs i).count true = 1
  at_ : (kBs i)[i]? = some true
  lt : ∀ m, m < i → (kBs i)[m]? = some false
  word : (kNames.map PyData.str)[i]? = some (.str (kWord i))
  logs : PyData.eqv (.str (kWord i)) (.str "BadLogs") = false
  two : ([PyData.str "NotYet", .str "Stale"].any fun e => PyData.eqv e (.str (kWord i))) = false
  text : PyData.eqv (.str (kWord i)) (.str "BadText") = false
  shp : SeqAt.shaped (.str (kWord i)) = true
theorem kfacts {i : Nat} (h : i = 0 ∨ i = 1 ∨ i = 3 ∨ i = 4 ∨ i = 5 ∨ i = 7 ∨ i = 8 ∨ i = 9) : KFacts i := by
  rcases h with rfl | rfl | rfl | rfl | rfl | rfl | rfl | rfl <;> exact ⟨by decide, by decide, by decide, by rfl, by decide +kernel, by decide +kernel, by decide +kernel, by decide +kernel⟩
theorem boot_VE : bootBuiltins "ValueError" = some (.type "ValueError") := by decide +kernel
section
variable {S : Type} {X : Cx} {M : List Addr} {R : S → Hp → Prop} {ρ : List Sl} {s : S} {ad D : Addr} {oe : Obj} {pn : List (Addr × Obj)} {i j : Nat} {x n : Str} {px p1 p2 pos : Pos}
/-- isinstance(e, C) -/
theorem isE (Kd : Kinds X.K X.mg D i) (hz : Zc (.ref D) none oe) (hf : ∃ vs, oe.data = .fields vs) (hm : X.mg "isinstance" = none) (hx : kNames[j]? = some x) (he : Ev1 (X.suite ad ((ad, oe) :: pn)) M R ρ (.Name n p1) s (.raw (.ref ad)) s)
    (hg : Gl (X.suite ad ((ad, oe) :: pn)) "isinstance" := by rfl) (hg2 : Gl (X.suite ad ((ad, oe) :: pn)) x := by rfl) (hd : (x == ("__debug__" : Str)) = false := by decide) :
    Ev1 (X.suite ad ((ad, oe) :: pn)) M R ρ (.Call (.Name "isinstance" px) [.Name n p1, .Name x p2] [] pos) s (.dat (kB i j)) s := by
  obtain ⟨C, hC, hk⟩ := Kd.kit j x hx
  exact e_isE (k := decide (j = i)) (c := .ref C) (r := .raw (.ref C)) Kd.exc hz hf hk (fun H _ u h => h) (fun H v h => h) hg hm (a_cons he (a_cons (e_glob (X := X.suite ad ((ad, oe) :: pn)) (v := .ref C) hg2 hC rfl (fun _ => rfl) hd) a_nil))
end
theorem c_told {Cp : Addr} {kc : Nat} (B : Bl mg) (hp : mg "PortError" = some (.ref Cp)) (d : Def K mg "_law_told" sTold ["_law_work"]) : Cal P w K mg base "_law_told" (kc + 1) (spTold P w K mg base kc) := by
  refine d.calW scTold (fun vs H Q E ⟨_, _, _, _, _, e, _⟩ => by rw [e]; rfl) ?_
  rintro f cdv A outer sh H vs Q E hr ⟨g, L, Q1, E1, M, rfl, hL, hc, hq, he⟩
  refine b_try_as (i := 1) (n := "e") (x := "PortError") (c := .ref Cp) rfl rfl scTold.nd rfl rfl ⟨rfl, by decide, .inl hp⟩ fun W pn xe eW tk => ?_
  refine b_ret (w_callV (i := 0) (E := WE W (L2.start nTold [.ref g])) hr (Nat.le_refl _) (passAt tk _) rfl (Or.inl rfl) rfl hL (hc.imp hq fun cls dd H1 hE => ?_))
  obtain ⟨D, i, rfl, rfl, Kd, dom, q⟩ := he cls dd H1 hE
  obtain ⟨C, hC, hx⟩ := Kd.port
  rw [hp] at hC
  cases hC
  show W _ _ _ _
  rw [eW]
  refine ⟨true, hx, fun _ a na oe pn2 hz hf => ?_, fun h => by cases h⟩
  have kf := kfacts Kd.plain
  have main : ∀ D' : Ends, D'.rt = Q → St1 ((dx P w K mg base nTold "_law_told" sTold f cdv A outer sh H E).suite a ((a, oe) :: pn2)) M (fun (_ : Unit) H' => Ex H1 H') [.any, .raw (.ref a), .any, .any, .any]
      (match defBody sTold with | [.Try _ [.ExceptHandler _ _ b _] _ _ _] => b | _ => []) () D' := by
    intro D' eD
    have gM := rg_pure dom
    refine st_set 2 (r := .dat (.list [kB i 0, kB i 1, kB i 2, kB i 3])) scTold.nd rfl (Or.inl rfl) (e_lst gM (ds := [kB i 0, kB i 1, kB i 2, kB i 3]) (a_cons (isE Kd hz hf B.isi rfl (v 1)) (a_cons (isE Kd hz hf B.isi rfl (v 1)) (a_cons (isE Kd hz hf B.isi rfl (v 1)) (a_cons (isE Kd hz hf B.isi rfl (v 1)) a_nil)))) (by simp)) ?_
    refine st_set 2 (r := .dat (.list [kB i 0, kB i 1, kB i 2, kB i 3, kB i 4, kB i 5, kB i 6])) scTold.nd rfl (Or.inl rfl) (e_catL gM (ds := [kB i 0, kB i 1, kB i 2, kB i 3]) (es := [kB i 4, kB i 5, kB i 6]) (by simp) (v 2) (e_lst gM (ds := [kB i 4, kB i 5, kB i 6]) (a_cons (isE Kd hz hf B.isi rfl (v 1)) (a_cons (isE Kd hz hf B.isi rfl (v 1)) (a_cons (isE Kd hz hf B.isi rfl (v 1)) a_nil))) (by simp))) ?_
    refine st_set 2 (r := .dat (.list [kB i 0, kB i 1, kB i 2, kB i 3, kB i 4, kB i 5, kB i 6, kB i 7, kB i 8, kB i 9])) scTold.nd rfl (Or.inl rfl) (e_catL gM (ds := [kB i 0, kB i 1, kB i 2, kB i 3, kB i 4, kB i 5, kB i 6]) (es := [kB i 7, kB i 8, kB i 9]) (by simp) (v 2) (e_lst gM (ds := [kB i 7, kB i 8, kB i 9]) (a_cons (isE Kd hz hf B.isi rfl (v 1)) (a_cons (isE Kd hz hf B.isi rfl (v 1)) (a_cons (isE Kd hz hf B.isi rfl (v 1)) a_nil))) (by simp))) ?_
    refine st_set 2 (r := .dat (.list ((kBs i).map .bool))) scTold.nd rfl (Or.inl rfl) (e_catL gM (ds := [kB i 0, kB i 1, kB i 2, kB i 3, kB i 4, kB i 5, kB i 6, kB i 7, kB i 8, kB i 9]) (es := [kB i 10, kB i 11]) (by simp) (v 2) (e_lst gM (ds := [kB i 10, kB i 11]) (a_cons (isE Kd hz hf B.isi rfl (v 1)) (a_cons (isE Kd hz hf B.isi rfl (v 1)) a_nil)) (by simp))) ?_
    have hk : ((!PyData.eqv (.int ((kBs i).count true : Nat)) (.int 1)) || (!true)) = false := by rw [kf.cnt]; rfl
    refine st_if (t_w (w_or (t_neD (d1 := .int ((kBs i).count true : Nat)) (d2 := .int 1) hr.units (e_countB (k := true) (bs := kBs i) (v 2) (a1 e_bl)) e_int rfl rfl)
      fun _ => w_or1 (t_not (t_val (k := true) (e_isE (c := .ty "ValueError") (r := .raw (.ty "ValueError")) Kd.exc hz hf Kd.val (fun H _ u h => h) (fun H v h => h) (by rfl) B.isi (a_cons (v 1) (a_cons (e_bltn (by rfl) Kd.nval boot_VE rfl) a_nil))))))) (fun h => by rw [hk] at h; cases h) (fun _ => st_thru ?_)
    refine st_set 3 (r := .dat (.list ((kNames.take 9).map .str))) scTold.nd rfl (Or.inl rfl) (e_lst gM (ds := (kNames.take 9).map .str) (a_cons e_str (a_cons e_str (a_cons e_str (a_cons e_str (a_cons e_str (a_cons e_str (a_cons e_str (a_cons e_str (a_cons e_str a_nil))))))))) (by decide)) ?_
    refine st_set 4 (r := .dat (.str (kWord i))) scTold.nd rfl (Or.inl rfl) (e_ixL (ds := kNames.map .str) (i := (i : Nat)) (e_catL gM (ds := (kNames.take 9).map .str) (es := (kNames.drop 9).map .str) (by decide) (v 3) (e_lst gM (ds := (kNames.drop 9).map .str) (a_cons e_str (a_cons e_str (a_cons e_str a_nil))) (by decide)))
      (e_indexB kf.at_ kf.lt (v 2) (a1 e_bl)) (atI_nat kf.word)) ?_
    refine st_if (t_eqD hr.units (v 4) e_str kf.shp (by decide +kernel)) (fun h => by rw [kf.logs] at h; cases h) (fun _ => st_thru ?_)
    refine st_if (t_inT (v 4) (e_tup gM (ds := [.str "NotYet", .str "Stale"]) (a_cons e_str (a_cons e_str a_nil)) (by decide)) rfl rfl) (fun h => by rw [kf.two] at h; cases h) (fun _ => st_thru ?_)
    refine st_ret (e_tup gM (ds := [.str (kWord i), .int 0]) (a_cons (v 4) (a_cons (e_ifF (by rw [← kf.text]; exact t_eqD hr.units (v 4) e_str kf.shp (by decide +kernel)) e_int) a_nil)) (by simp)) fun v H' e2 sv => by rw [eD]; exact q v H' e2 sv
  exact main _ rfl [some (.ref g), some (.ref a), none, none, none] H1 ⟨trivial, rfl, trivial, trivial, trivial, trivial⟩ (exId _)
end
end K02
namespace DV
open PySem PySem.Spec L2 Evl LamX NdefX
open PyProof.Rows hiding St cutD
/-! a list of functions that is walked -/
def itR (fs : List Addr) (i : Nat) : Sl := match fs[i]? with
  | some f => .raw (.ref f)
  | none => .any
section
variable {S : Type} {X : Cx} {M : List Addr} {R : S → Hp → Prop} {ρ : List Sl} {s s1 : S} {e tg : Expr}
theorem i_refs {p : Addr} {fs : List Addr} (hS : ∀ H', R s1 H' → cut M H' p = some (.lst (fs.map V.ref))) (h : Ev1 X M R ρ e s (.raw (.ref p)) s1) : EvI1 X M R ρ tg e s fs.length (itR fs) s1 := by
  refine ⟨_, pi_list pe_w, fun σ H k hσ hR q => ?_⟩
  refine h σ H _ hσ hR fun v H1 e1 R1 d1 => ?_
  have d1 : v = .ref p := d1
  subst d1
  refine ⟨p, rfl, ⟨_, sq_of (ex_cut _ _ (hS H1 R1))⟩, q _ H1 e1 R1 ⟨fun H => SqL X.K H p (fs.map V.ref), fun H2 e2 => sq_of (ex_cut _ _ (e2 _ _ (hS H1 R1))), ?_⟩⟩
  have l : (fs.map V.ref).length = fs.length := List.length_map _
  rw [← l]
  refine walk_list.mono (fun _ h => h) fun i H2 x H' _ _ ⟨e, hx⟩ M' em dm e2 => ?_
  subst e
  refine ⟨exId _, ?_⟩
  rw [List.getElem?_map] at hx
  unfold itR
  cases hf : fs[i]? with
  | none => rw [hf] at hx; cases hx
  | some f =>
    rw [hf] at hx
    exact (Option.some.inj hx).symm
end
/-- told of functions that all raise an error of the class D -/
def spAll (P : Program) (w : World) (K : PySem.W.Frag) (mg : Str → Option Value) (base : Heap) (kc : Nat) : Sp := fun vs H Q _ => ∃ (M : List Addr) (pl : Addr) (v : V) (fs : List Addr) (i : Nat) (D : Addr), vs = [.ref pl, v] ∧ (∀ a ∈ M, ∃ o, H a = some o) ∧ cut M H pl = some (.lst (fs.map V.ref)) ∧ Kinds K mg D i ∧
  Dv K (cut M H) v (.tuple [.str (kWord i), .int 0]) ∧ (∀ f ∈ fs, (∃ L, H f = some (LamO f L)) ∧ ∀ H', Ex H H' → Calls P w K mg base kc f H' (fun _ _ => False) (fun cls d H2 => cls = .ref D ∧ d = none ∧ Ex H' H2)) ∧
  ∀ H', Ex H H' → Q (.bl true) H'
end DV
namespace K02
open PySem PySem.Spec L2 Evl DV
open PyProof.Rows hiding St cutD
section
variable {P : Program} {w : World} {K : PySem.W.Frag} {mg : Str → Option Value} {base : Heap}
/-! _law_all -/
abbrev nAll : List Str := ["_law_works", "_law_due", "_law_work"]
theorem scAll : FnScope nAll ["_law_works", "_law_due"] (defScope sAll) := ⟨rfl, rfl, rfl, by decide +kernel, rfl, by decide +kernel, by decide +kernel⟩
theorem due_ok {i : Nat} (h : i = 0 ∨ i = 1 ∨ i = 3 ∨ i = 4 ∨ i = 5 ∨ i = 7 ∨ i = 8 ∨ i = 9) : okD (.tuple [.str (kWord i), .int 0]) = true := by
  rcases h with rfl | rfl | rfl | rfl | rfl | rfl | rfl | rfl <;> decide +kernel
theorem c_all {kc : Nat} (h2 : 2 ≤ kc + 1) (B : Bl mg) (cT : Cal P w K mg base "_law_told" (kc + 1) (spTold P w K mg base kc)) (cA : Cal P w K mg base "_law_alike" 2 (spS K (gAlike 1))) (d : Def K mg "_law_all" sAll ["_law_works", "_law_due"]) : Cal P w K mg base "_law_all" (kc + 2) (spAll P w K mg base kc) := by
  refine d.calW scAll (fun vs H Q E ⟨_, _, _, _, _, _, e, _⟩ => by rw [e]; rfl) ?_
  rintro f cdv A outer sh H vs Q E hr ⟨M, pl, v0, fs, i, C, rfl, dom, hpl, Kd, hv0, hfs, q⟩
  have gM := rg_pure dom
  have main : St1 (dx P w K mg base nAll "_law_all" sAll f cdv A outer sh H E) M (fun (_ : Unit) H' => Ex H H') [.raw (.ref pl), .dat (.tuple [.str (kWord i), .int 0]), .any] (defBody sAll) () { nx := fun _ H' => Q .non H', rt := Q } := by
    refine st_ret (s1 := ()) (r := .dat (.bool true)) (e_eqD (s1 := ()) (s2 := ()) (d1 := .list []) (d2 := .list []) hr.units ?_ (e_lst gM (ds := []) a_nil (by simp)) rfl rfl) fun v H' e sv => by rw [sv_bl sv]; exact q H' e
    refine e_lc (own := [("_law_work", 2)]) (gt := gName 2) (n := fs.length) (it := itR fs) (ss := fun _ => ()) (outs := fun _ => []) gM rfl scAll.nd (blkOk_by (N := nAll) (sc := defScope sAll) (by decide +kernel)) (fun sh Hh C cl fp => pg_name (i := 2) scAll.nd rfl (Or.inl rfl)) (i_refs (fun H' e => exCut e _ _ hpl) (v 0)) rfl (fun j hj => by simp) (fun j hj => ?_)
    have hf : fs[j]? = some fs[j] := List.getElem?_eq_getElem hj
    refine ⟨_, tg_name (by simp), fun D acc gD => ⟨false, (), fun sh Hh C cl fp => ?_, fun h => (by cases h), fun _ => ⟨rfl, rfl⟩⟩⟩
    rw [show itR fs j = .raw (.ref fs[j]) by unfold itR; rw [hf]]
    refine t_not (k := true) (t_val (e_call gD cA hr h2 (by rfl) (r := .dat (.bool true)) ⟨.tuple [.str (kWord i), .int 0], rfl, due_ok Kd.plain, Nat.le_refl 1, rfl⟩ (a_cons (s1 := ()) ?_ (a_cons (v 1) a_nil))))
    intro σ H1 Q' hσ hR q'
    refine w_call (s1 := ()) cT hr (Nat.le_refl _) (by rfl) passL (a_cons (v 2) a_nil) hσ hR (fun vs H2 e1 d1 R1 => ?_)
    obtain ⟨u, hu, dz⟩ := svall1 d1
    subst hu
    have dz : u = .ref fs[j] := dz
    subst dz
    have eH : Ex H H2 := R1.1.trans ex_rem
    obtain ⟨⟨L, hL⟩, hc⟩ := hfs _ (List.getElem_mem hj)
    refine ⟨fs[j], L, _, _, D :: M, rfl, eH _ _ hL, hc H2 eH, fun _ _ h => h.elim, ?_⟩
    rintro cls dd H3 ⟨rfl, rfl, e3⟩
    exact ⟨_, i, rfl, rfl, Kd, fun a m => gD.dom (gD.up R1 e3) m, fun v H4 e4 dv => q' v H4 (e1.trans (exCut (e3.trans e4))) (gD.up R1 (e3.trans e4)) dv⟩
  exact main [some (.ref pl), some v0, none] H ⟨rfl, ⟨_, rfl, hv0⟩, trivial, trivial⟩ (exId _)
end
end K02
namespace DV
open PySem PySem.Spec L2 Evl LamX NdefX
open PyProof.Rows hiding St cutD
/-! ### slots forgotten -/
def onlyR : Nat → List Sl → List Sl
  | _, [] => []
  | 0, r :: ρ => r :: ρ.map fun _ => .any
  | n + 1, _ :: ρ => .any :: onlyR n ρ
theorem slots_none {K : PySem.W.Frag} {H : Hp} : ∀ {σ : St} {ρ : List Sl}, Slots K H σ ρ → Slots K H σ (ρ.map fun _ => Sl.any)
  | [], [], _ => trivial
  | _ :: _, _ :: _, ⟨_, b⟩ => ⟨trivial, slots_none b⟩
  | [], _ :: _, h => h.elim
  | _ :: _, [], h => h.elim
theorem slots_only {K : PySem.W.Frag} {H : Hp} : ∀ {σ : St} {ρ : List Sl} (n : Nat), Slots K H σ ρ → Slots K H σ (onlyR n ρ)
  | [], [], n, _ => by cases n <;> exact trivial
  | _ :: _, _ :: _, 0, ⟨a, b⟩ => ⟨a, slots_none b⟩
  | _ :: _, _ :: _, n + 1, ⟨_, b⟩ => ⟨trivial, slots_only n b⟩
  | [], _ :: _, _, h => h.elim
  | _ :: _, [], _, h => h.elim
/-! ### a maker's state: a box, a table of code objects -/
structure LawR (M : List Addr) (R : Bx → Hp → Prop) (b l T : Addr) (q : Str) : Prop where
  g : Rg M R
  box : BoxIn M R b l id fun _ t => t
  mT : T ∈ M
  tab : ∀ {st H}, R st H → TabS H T q
  to : ∀ {st H H'}, R st H → ExP T H H' → TabS H' T q → R st H'
  out : ∀ {st H a}, R st H → a ∈ M → (∃ xs, H a = some (.lst xs)) ∨ ∃ ps, H a = some (.tbl ps)
theorem exP_cut {M : List Addr} {T : Addr} {H H' : Hp} (m : T ∈ M) (e : ExP T H H') : Ex (cut M H) (cut M H') := fun a o ha => by
  obtain ⟨n, ha⟩ := cut_some ha
  rw [cut_out n]
  exact e a o (fun z => n (by rw [z]; exact m)) ha
theorem LawR.rx {M : List Addr} {R : Bx → Hp → Prop} {b l T : Addr} {q : Str} (L : LawR M R b l T q) (H1 : Hp) : LawR M (RX R M H1) b l T q :=
  ⟨RX.rg L.g H1, L.box.rx H1, L.mT, fun h => L.tab h.1, fun h e t => ⟨L.to h.1 e t, h.2.trans (exP_cut L.mT e)⟩, fun h m => L.out h.1 m⟩
theorem LawR.cut_ext {M : List Addr} {R : Bx → Hp → Prop} {b l T : Addr} {q : Str} (L : LawR M R b l T q) {st : Bx} {H : Hp} {a : Addr} {φ : Heap → Prop} (h : R st H) (e : H a = some (.ext φ)) : cut M H a = some (.ext φ) := by
  have n : a ∉ M := fun m => by
    rcases L.out h m with ⟨_, z⟩ | ⟨_, z⟩ <;> rw [e] at z <;> cases z
  rw [cut_out n, e]
theorem LawR.cut_tup {M : List Addr} {R : Bx → Hp → Prop} {b l T : Addr} {q : Str} (L : LawR M R b l T q) {st : Bx} {H : Hp} {a : Addr} {xs : List V} (h : R st H) (e : H a = some (.tup xs)) : cut M H a = some (.tup xs) := by
  have n : a ∉ M := fun m => by
    rcases L.out h m with ⟨_, z⟩ | ⟨_, z⟩ <;> rw [e] at z <;> cases z
  rw [cut_out n, e]
theorem tabS_but {H H' : Hp} {P : Addr} {q : Str} (h : TabS H P q) (e : ∀ a o, H a = some o → (∀ xs, o ≠ .lst xs) → H' a = some o) : TabS H' P q := by
  obtain ⟨ps, h1, h2, h3⟩ := h
  refine ⟨ps, e _ _ h1 (fun xs z => by cases z), h2, fun pos cv hc => ?_⟩
  obtain ⟨c, e1, e2⟩ := h3 pos cv hc
  exact ⟨c, e1, e _ _ e2 fun xs z => by unfold CodeO at z; cases z⟩
/-- the law's own R -/
def RLaw (b l T : Addr) (q : Str) : Bx → Hp → Prop := fun st H => BoxAt b l st H ∧ TabS H T q
theorem lawR {b l T : Addr} {q : Str} (hb : b ≠ T) (hl : l ≠ T) : LawR [b, l, T] (RLaw b l T q) b l T q where
  g := ⟨fun h e => ⟨h.1.ex e, h.2.ext e⟩, fun {st H a} h m => by
    simp only [List.mem_cons, List.not_mem_nil, or_false] at m
    rcases m with rfl | rfl | rfl
    · exact ⟨_, h.1.1⟩
    · exact ⟨_, h.1.2⟩
    · obtain ⟨ps, e, _⟩ := h.2
      exact ⟨_, e⟩⟩
  box := ⟨by simp, by simp, fun h => h.1, fun {s H H' st} h e bx => ⟨bx, tabS_but h.2 fun a o ha hn => by
    have n : a ∉ [b, l] := fun m => by
      simp only [List.mem_cons, List.not_mem_nil, or_false] at m
      rcases m with rfl | rfl
      · rw [h.1.1] at ha
        exact hn _ (Option.some.inj ha).symm
      · rw [h.1.2] at ha
        exact hn _ (Option.some.inj ha).symm
    have := e a o (by rw [cut_out n]; exact ha)
    rw [cut_out n] at this
    exact this⟩⟩
  mT := by simp
  tab := fun h => h.2
  to := fun h e t => ⟨⟨e _ _ hb h.1.1, e _ _ hl h.1.2⟩, t⟩
  out := fun {st H a} h m => by
    simp only [List.mem_cons, List.not_mem_nil, or_false] at m
    rcases m with rfl | rfl | rfl
    · exact .inl ⟨_, h.1.1⟩
    · exact .inl ⟨_, h.1.2⟩
    · obtain ⟨ps, e, _⟩ := h.2
      exact .inr ⟨_, e⟩
section
variable {X : Cx} {M : List Addr} {R : Bx → Hp → Prop} {b l c T : Addr} {st : Bx} {σ : L2.St} {H : Hp} {Q : VK} {params : Arguments} {body : Expr} {scope : Scope} {pos : Pos}
theorem LawR.lam0 (L : LawR M R b l T (X.env.qual ++ "<lambda>")) (B : LamB X c T scope) (hd : params.defaults = []) (hk : params.kw_defaults = []) (hR : R st H)
    (h : ∀ (f c' : Addr) (H1 : Hp), Ex (cut M H) (cut M H1) → R st H1 → cut M H1 f = some (LamO f ⟨X.env.qual ++ "<lambda>", params, body, scope, cloFrom X.env.cells scope.names [], c', .none⟩) → cut M H1 c' = some (CodeO c' (X.env.qual ++ "<lambda>")) → Q (.ref f) H1) :
    wE X (.Lambda params body scope pos) σ H Q :=
  w_lam0 B hd hk (L.tab hR) fun f c' H1 eE T1 nf hf hc => by
    have R1 := L.to hR eE T1
    exact h f c' H1 (exP_cut L.mT eE) R1 (L.cut_ext R1 hf) (L.cut_ext R1 hc)
theorem LawR.lam1 {i : Int} {j : Nat} {p1 : Pos} (L : LawR M R b l T (X.env.qual ++ "<lambda>")) (B : LamB X c T scope) (hd : params.defaults = [.Constant (.int i) j p1]) (hk : params.kw_defaults = []) (hR : R st H)
    (h : ∀ (f c' D : Addr) (H1 : Hp), Ex (cut M H) (cut M H1) → R st H1 → cut M H1 f = some (LamO f ⟨X.env.qual ++ "<lambda>", params, body, scope, cloFrom X.env.cells scope.names [], c', .ref D⟩) → cut M H1 c' = some (CodeO c' (X.env.qual ++ "<lambda>")) →
      cut M H1 D = some (.tup [.int i]) → Q (.ref f) H1) : wE X (.Lambda params body scope pos) σ H Q :=
  w_lam1 B hd hk (L.tab hR) fun f c' D H1 eE T1 nf hf hc ht => by
    have R1 := L.to hR eE T1
    exact h f c' D H1 (exP_cut L.mT eE) R1 (L.cut_ext R1 hf) (L.cut_ext R1 hc) (L.cut_tup R1 ht)
end
/-! ### lambdas that raise -/
/-- at f, known in h: called while the cells of ys are told, an error of the class D -/
def LamGood (X : Cx) (σ : L2.St) (ys : List (Nat × Str)) (D f : Addr) (h : Hp) : Prop := (∃ L, h f = some (LamO f L)) ∧
  ∀ (σ' : L2.St) (H1 : Hp) (G : Addr → Option HO) (H' : Hp), (∀ p ∈ ys, σ'[p.1]? = σ[p.1]?) → Shown X σ' H1 ys G → Ex h H1 → Ex (ov G H1) H' → Calls X.prog X.w X.K X.mg X.base 5 f H' (fun _ _ => False) (fun cls d H2 => cls = .ref D ∧ d = none ∧ Ex H' H2)
theorem LamGood.ex {X : Cx} {σ : L2.St} {ys : List (Nat × Str)} {D f : Addr} {h h' : Hp} (g : LamGood X σ ys D f h) (e : Ex h h') : LamGood X σ ys D f h' := by
  obtain ⟨⟨L, hL⟩, k⟩ := g
  exact ⟨⟨L, e _ _ hL⟩, fun σ' H1 G H' a sh e1 e2 => k σ' H1 G H' a sh (e.trans e1) e2⟩
theorem LamGood.slots {X : Cx} {σ σ2 : L2.St} {ys : List (Nat × Str)} {D f : Addr} {h : Hp} (g : LamGood X σ ys D f h) (e : ∀ p ∈ ys, σ2[p.1]? = σ[p.1]?) : LamGood X σ2 ys D f h := by
  obtain ⟨hL, k⟩ := g
  exact ⟨hL, fun σ' H1 G H' a sh e1 e2 => k σ' H1 G H' (fun p hp => (a p hp).trans (e p hp)) sh e1 e2⟩
section
variable {X : Cx} {σ : L2.St} {ys : List (Nat × Str)} {D f c : Addr} {h : Hp} {L : Lam} {N ps fr : List Str} {js : List Nat} {vs : List V} {x : Str} {e : Expr} {es : List Expr} {px pos : Pos} {G2 : List Sl → Out → Prop} {rs ρ : List Sl}
theorem lam_er (hL : h f = some (LamO f L)) (hc : h L.c = some (CodeO L.c L.qual)) (hcl : L.cl = cloFrom X.env.cells L.scope.names []) (hfree : ∀ y ∈ L.scope.names, y.2 = .free → X.env.scope.names.lookup y.1 = some .cell ∨ X.env.scope.names.lookup y.1 = some .free)
    (S : NScope N ps fr L.scope) (hl : vs.length = ps.length) (hjs : js.length = fr.length) (hys : ∀ (i : Nat) (y : Str), fr[i]? = some y → ∃ j, js[i]? = some j ∧ (j, y) ∈ ys)
    (hb : ∀ (H' : Hp) (s : Shared), Ex h H' → HOk X.prog X.w H' s.heap → ∃ us, Vals vs us ∧ ∀ doc pm ctv, BindsTo s (L.fd doc pm ctv) ⟨[], []⟩ (ps.zip us))
    (hbody : L.body = .Call (.Name x px) (e :: es) [] pos) (cd : Cal X.prog X.w X.K X.mg X.base x 4 (DV.spS X.K G2)) (hG : G2 rs (.er (.ref D))) (hσ : ∀ Hx, Ex h Hx → Slots X.K Hx (startF N vs (js.map (slotAt σ))) ρ)
    (hgl : ∀ A outer s Hx E', Gl (ncx (L2.CX X.prog X.w) X.prog X.w X.K X.mg X.base N L.nf f A outer s Hx E') x)
    (ha : ∀ A outer s Hx E', EvA1 (ncx (L2.CX X.prog X.w) X.prog X.w X.K X.mg X.base N L.nf f A outer s Hx E') [] (fun (_ : Unit) H'' => Ex Hx H'') ρ (e :: es) () rs ())
    (hdb : (x == ("__debug__" : Str)) = false) (he : ∀ env, starEach (e :: es) env = (false, eval e env) :: starEach es env) (hpl : ∀ env, (backTo pos (starEach es env)).any (·.1) = false) : LamGood X σ ys D f h := by
  refine ⟨⟨L, hL⟩, fun σ' H1 G H' hag sh e1 e2 => ?_⟩
  have hfr : ∀ y ∈ L.scope.names, y.2 = .free → ∃ c, X.env.cells.lookup y.1 = some c := fun y hy k => (hfree y hy k).elim (fun z => sh.ok.has _ (.inl z)) fun z => sh.ok.has _ (.inr z)
  have e3 : Ex h H' := e1.trans ((ex_ov sh.free).trans e2)
  have hit : ∀ (i : Nat) (y : Str), fr[i]? = some y → ∃ c o v j, L.cl.lookup y = some c ∧ js[i]? = some j ∧ σ[j]? = some (some v) ∧ H' c = some (CellF o v) ∧ G c = some (CellF o v) := fun i y hi => by
    obtain ⟨j, hj, hm⟩ := hys i y hi
    obtain ⟨c, o, v, k1, k2, k3⟩ := sh.at_ j y hm
    have hy : (y, NameKind.free) ∈ L.scope.names := PySem.mem_of_lookup (S.frk y (List.mem_of_getElem? hi))
    refine ⟨c, o, v, j, ?_, hj, ?_, e2 _ _ (ov_some k3), k3⟩
    · rw [hcl]
      exact clo_has hfr hy k1
    · rw [← hag (j, y) hm]
      exact k2
  have only : ∀ p ∈ L.cl, ∃ i : Nat, fr[i]? = some p.1 ∧ L.cl.lookup p.1 = some p.2 := fun p hp => by
    rw [hcl] at hp
    rcases cloFrom_mem (n := p.1) (c := p.2) hp with z | ⟨z1, z2⟩
    · cases z
    · obtain ⟨i, hi⟩ := List.mem_iff_getElem?.mp (S.free _ z1 rfl)
      obtain ⟨c, hc⟩ := hfr _ z1 rfl
      have hc : X.env.cells.lookup p.1 = some c := hc
      refine ⟨i, hi, ?_⟩
      rw [hcl, z2, hc]
      exact clo_has hfr z1 hc
  have inj : ∀ x y c, L.cl.lookup x = some c → L.cl.lookup y = some c → x = y := fun x y c k1 k2 => by
    rw [hcl] at k1 k2
    exact sh.ok.inj x y c (clo_cm hfr k1) (clo_cm hfr k2)
  refine Calls.lam (k := 4) (N := N) (ps := ps) (fr := fr) (vs := vs) (ws := js.map (slotAt σ)) S (e3 _ _ hL) (e3 _ _ hc) hl (by rw [List.length_map]; exact hjs) (fun s hok => hb H' s e3 hok) (fun i y hi => ?_) only inj fun A outer s E' eE hr => ?_
  · obtain ⟨c, o, v, j, k1, k2, k3, k4, _⟩ := hit i y hi
    refine ⟨c, o, v, k1, ?_, k4⟩
    rw [List.getElem?_map, k2]
    show some (slotAt σ j) = _
    rw [slotAt_of k3]
  · rw [hbody]
    have eX : Ex h (un (capG L H') H') := fun a o hao => by
      have q := e3 a o hao
      have hn : capG L H' a = none := by
        unfold capG
        split
        · rename_i hm
          obtain ⟨p, hp, rfl⟩ := List.mem_map.mp hm
          obtain ⟨i, hi, hlk⟩ := only p hp
          obtain ⟨c, o', v, j, k1, _, _, _, k5⟩ := hit i p.1 hi
          rw [hlk] at k1
          cases k1
          have z := e1 _ _ hao
          rw [sh.free _ _ k5] at z
          cases z
        · rfl
      rw [un_none hn]
      exact q
    have tG : ∀ a ho, capG L H' a = some ho → H' a = some ho := fun a ho e => by
      unfold capG at e
      split at e
      · exact e
      · cases e
    refine x_call (M := []) (R := fun (_ : Unit) H'' => Ex (un (capG L H') H') H'') (s := ()) (s1 := ()) (rs := rs) (rg_pure fun a m => by cases m) cd hr (Nat.le_refl _) (hgl _ _ _ _ _) (passes_call (takes_of rfl rfl rfl rfl) fun _ _ _ _ h => h) hG (ha _ _ _ _ _) (by rw [cut_nil]; exact hσ _ eX) (exId _) (fun H2 _ R2 => ?_) hdb (he _) (hpl _)
    rw [eE]
    exact ⟨rfl, rfl, un_ex tG R2⟩
end
end DV
namespace DV
open PySem PySem.Spec L2 Evl LamX NdefX
open PyProof.Rows hiding St cutD
/-! ### if not _law_all(works, due): .. -/
section
variable {X : Cx} {M : List Addr} {R : Bx → Hp → Prop} {b l T : Addr} {q x : Str} {st : Bx} {σ : L2.St} {H : Hp} {e1 e2 : Expr} {rest bad : List Stmt} {px pos p1 p2 : Pos} {D : Ends} {ρ : List Sl} {j i : Nat} {C : Addr} {ys : List (Nat × Str)}
theorem b_all (L : LawR M R b l T q) (c : Cal X.prog X.w X.K X.mg X.base x 7 (spAll X.prog X.w X.K X.mg X.base 5)) (hr : Room j X.A) (hk : 7 ≤ j) (hg : Gl X x) (Kd : Kinds X.K X.mg C i) (hy : ∀ p ∈ ys, X.N[p.1]? = some p.2 ∧ X.env.scope.names.lookup p.2 = some .cell ∧ X.fn p.2 = true) (hys : ∀ p ∈ ys, ∃ v, σ[p.1]? = some (some v))
    (hσ : Slots X.K (cut M H) σ ρ) (hR : R st H)
    (h1 : ∀ Q : VK, (∀ (pl : Addr) (fs : List Addr) (H1 : Hp), Ex (cut M H) (cut M H1) → R st H1 → cut M H1 pl = some (.lst (fs.map V.ref)) → (∀ f ∈ fs, LamGood X σ ys C f (cut M H1)) → Q (.ref pl) H1) → wE X e1 σ H Q)
    (h2 : ∀ H1, Slots X.K (cut M H1) σ ρ → R st H1 → Ev1 X M R ρ e2 st (.dat (.tuple [.str (kWord i), .int 0])) st) (k : ∀ H1, Slots X.K (cut M H1) σ ρ → R st H1 → wB X rest D σ H1)
    (hdb : (x == ("__debug__" : Str)) = false := by decide) (he : starEach [e1, e2] X.env = (false, eval e1 X.env) :: starEach [e2] X.env := by rfl) (he2 : starEach [e2] X.env = (false, eval e2 X.env) :: starEach [] X.env := by rfl) (hpl : (backTo pos (starEach [e2] X.env)).any (·.1) = false := by rfl) :
    wB X (.If (.UnaryOp .Not (.Call (.Name x px) [e1, e2] [] pos) p1) bad [] p2 :: rest) D σ H := by
  refine b_if (wT_of (pt_not pt_w) (wT_of (pt_val pe_w fun whole => rfl) ?_))
  refine w_callG c hr hk hg ys hy hys (wA_of (pa_cons pe_w pa_w he) (h1 _ fun pl fs H1 x1 R1 hpl' hfs => wA_of (pa_cons pe_w pa_nil he2) ?_)) hdb he hpl
  refine h2 H1 (hσ.ex x1) R1 σ H1 _ (hσ.ex x1) R1 fun v2 H2 x2 R2 d2 => ?_
  intro G sh
  have eo := exCut (M := M) (ex_ov sh.free)
  refine ⟨M, pl, v2, fs, i, C, rfl, fun a m => ?_, eo _ _ (x2 _ _ hpl'), Kd, dp_ex eo _ _ d2, fun f hf => ?_, fun H' e' => ⟨true, rfl, ?_⟩⟩
  · obtain ⟨o, ho⟩ := L.g.dom R2 m
    exact ⟨o, ex_ov sh.free _ _ ho⟩
  · have g := (hfs f hf).ex x2
    obtain ⟨⟨Lf, hL⟩, gk⟩ := g
    exact ⟨⟨Lf, ex_ov sh.free _ _ (ex_cut _ _ hL)⟩, fun H' e' => gk σ H2 G H' (fun _ _ => rfl) sh ex_cut e'⟩
  · have e3 := ov_ex sh.free e'
    show (if (!true) = true then _ else wB X [] { D with nx := wB X rest D } σ (un G H'))
    rw [if_neg (by decide)]
    exact b_nil (k _ (hσ.ex (x1.trans (x2.trans (exCut e3)))) (L.g.up R2 e3))
end
/-! ### {k: v, k: v}.get(x, y), all of them texts -/
section
variable {S : Type} {X : Cx} {M : List Addr} {R : S → Hp → Prop} {ρ : List Sl} {s : S} {e f : Expr} {p1 p2 p3 p4 dp apos cpos : Pos}
theorem e_disp2 (g : Rg M R) {k1 v1 k2 v2 x y : Str} {j1 j2 j3 j4} (hu : X.A.units + 1 < cLine) (he : Ev1 X M R ρ e s (.dat (.str x)) s) (hf : Ev1 X M R ρ f s (.dat (.str y)) s) (hne : k1 ≠ k2)
    (m : M2 X (.Dict [some (.Constant (.str k1) j1 p1), some (.Constant (.str k2) j2 p2)] [.Constant (.str v1) j3 p3, .Constant (.str v2) j4 p4] dp) "get" apos e f cpos) :
    Ev1 X M R ρ (.Call (.Attribute (.Dict [some (.Constant (.str k1) j1 p1), some (.Constant (.str k2) j2 p2)] [.Constant (.str v1) j3 p3, .Constant (.str v2) j4 p4] dp) "get" apos) [e, f] [] cpos) s (.dat (.str (if k1 = x then v1 else if k2 = x then v2 else y))) s := by
  intro σ H Q hσ hR q
  refine wE_of (pe_dget2 hu pe_w pe_w pe_w m) ?_
  refine wE_of (pe_disp (pps_cons pe_str pe_str (pps_cons pe_str pe_str pps_nil)) rfl rfl (by simp) (by simp)) fun p hp => ?_
  refine ⟨upd_same, [(.inr k1, .str v1), (.inr k2, .str v2)], rfl, by simp, ?_⟩
  have hpM : p ∉ M := g.fresh hR hp
  have eH : Ex H (upd (upd H p (.dK [])) p (.dK (mergeK [] [(.inr k1, .str v1), (.inr k2, .str v2)]))) := fun a o ha => by
    have n : a ≠ p := fun z => by rw [z, hp] at ha; cases ha
    rw [upd_ne n, upd_ne n]
    exact ha
  have hm : mergeK [] [(.inr k1, .str v1), (.inr k2, .str v2)] = ([(.inr k1, .str v1), (.inr k2, .str v2)] : List (Key × V)) := by
    unfold mergeK
    simp [putK, hne]
  refine ⟨p, rfl, .inl ⟨_, .of upd_same⟩, ?_⟩
  refine he σ _ _ (hσ.ex (exCut eH)) (g.up hR eH) fun w1 H2 e2 R2 d2 => ?_
  refine hf σ H2 _ (hσ.ex ((exCut eH).trans e2)) R2 fun w2 H3 e3 R3 d3 => ?_
  rw [sv_str d2, sv_str d3]
  have hp3 : H3 p = some (.dK [(.inr k1, .str v1), (.inr k2, .str v2)]) := by
    rw [hm] at e2
    exact ex_cut _ _ (e3 _ _ (e2 _ _ (cut_upd hpM)))
  refine ⟨_, DGet.k (k := .inr x) hp3, ?_⟩
  have hv : (valV [((.inr k1 : Key), V.str v1), (.inr k2, .str v2)] (.inr x)).getD (.str y) = .str (if k1 = x then v1 else if k2 = x then v2 else y) := by
    by_cases a : k1 = x
    · rw [valV_pos (by rw [a]), if_pos a]; rfl
    · rw [valV_neg (fun z => a (Sum.inr.inj z)), if_neg a]
      by_cases b : k2 = x
      · rw [valV_pos (by rw [b]), if_pos b]; rfl
      · rw [valV_neg (fun z => b (Sum.inr.inj z)), if_neg b]; rfl
  rw [hv]
  exact q _ H3 ((exCut eH).trans (e2.trans e3)) R3 (.str _)
end
end DV
namespace K02
open PySem PySem.Spec L2 Evl DV
open PyProof.Rows hiding St cutD
/-! tokens, by their numbers -/
theorem within_both : ∀ {xs ys : List Int}, xs.length = ys.length → withinL xs ys = true → withinL ys xs = true → xs = ys
  | [], [], _, _, _ => rfl
  | [], _ :: _, h, _, _ => by cases h
  | _ :: _, [], h, _, _ => by cases h
  | x :: xs, y :: ys, h, h1, h2 => by
    have h1 : (decide (x ≤ y) && withinL xs ys) = true := h1
    have h2 : (decide (y ≤ x) && withinL ys xs) = true := h2
    rw [Bool.and_eq_true, decide_eq_true_eq] at h1 h2
    rw [within_both (by simpa using h) h1.2 h2.2]
    have : x = y := by omega
    rw [this]
theorem within_self : ∀ xs : List Int, withinL xs xs = true
  | [] => rfl
  | x :: xs => by
    show (decide (x ≤ x) && withinL xs xs) = true
    rw [within_self xs, decide_eq_true (by omega)]
    rfl
theorem cmp_word {xs ys : List Int} (hl : xs.length = ys.length) : cmpL xs ys = if (withinL xs ys && withinL ys xs) = true then ("same" : Str) else if withinL xs ys = true then ("less" : Str) else if withinL ys xs = true then ("more" : Str) else ("apart" : Str) := by
  unfold cmpL
  by_cases e : xs = ys
  · subst e
    rw [if_pos rfl, within_self]
    rfl
  · rw [if_neg e]
    cases h1 : withinL xs ys with
    | true =>
      cases h2 : withinL ys xs with
      | true => exact absurd (within_both hl h1 h2) e
      | false => rfl
    | false => cases h2 : withinL ys xs <;> rfl
theorem cmp_self (xs : List Int) : cmpL xs xs = "same" := if_pos rfl
theorem cmp_flip {xs ys : List Int} (hl : xs.length = ys.length) : cmpL ys xs = if ("less" : Str) = cmpL xs ys then ("more" : Str) else if ("more" : Str) = cmpL xs ys then ("less" : Str) else cmpL xs ys := by
  rw [cmp_word hl, cmp_word hl.symm]
  cases withinL xs ys <;> cases withinL ys xs <;> decide +kernel
theorem cmp_shp (xs ys : List Int) : SeqAt.shaped (.str (cmpL xs ys)) = true := by
  unfold cmpL
  split
  · decide +kernel
  · split
    · decide +kernel
    · split <;> decide +kernel
theorem join_comm (xs ys : List Int) : joinL xs ys = joinL ys xs := by
  unfold joinL
  rw [List.zipWith_comm]
  congr 1
  funext a b
  unfold mx
  split <;> split <;> omega
theorem join_self : ∀ xs : List Int, joinL xs xs = xs
  | [] => rfl
  | x :: xs => by
    show mx x x :: joinL xs xs = x :: xs
    rw [join_self xs]
    unfold mx
    simp
theorem join_len {xs ys : List Int} (h : xs.length = ys.length) : (joinL xs ys).length = xs.length := by
  unfold joinL
  rw [List.length_zipWith]
  omega
theorem tok_ok {xs : List Int} (h : inTok xs) (h2 : 2 ≤ xs.length) (h5 : xs.length ≤ 5) : tokD (.tuple (dI xs)) = true := by
  have e : ((dI xs).all fun d => wholeD d 0 999) = true := by
    rw [List.all_eq_true]
    intro d hd
    obtain ⟨i, rfl, hi⟩ := mem_dI hd
    obtain ⟨a, b⟩ := h i hi
    show (decide (0 ≤ i) && decide (i ≤ 999)) = true
    rw [decide_eq_true a, decide_eq_true b]
    rfl
  show ((decide (2 ≤ ((dI xs).length : Int)) && decide (((dI xs).length : Int) ≤ 5)) && (dI xs).all fun d => wholeD d 0 999) = true
  rw [e, List.length_map, decide_eq_true (by omega), decide_eq_true (by omega)]
  rfl
theorem pair_ok {xs ys : List Int} (h : inTok xs) (h' : inTok ys) (hl : xs.length = ys.length) (h2 : 2 ≤ xs.length) (h5 : xs.length ≤ 5) : okPair (.tuple (dI xs)) (.tuple (dI ys)) = true := by
  show (tokD (.tuple (dI xs)) && tokD (.tuple (dI ys)) && decide ((dI xs).length = (dI ys).length)) = true
  rw [tok_ok h h2 h5, tok_ok h' (by omega) (by omega), decide_eq_true (by rw [List.length_map, List.length_map, hl])]
  rfl
theorem eqv_str (x : Str) : PyData.eqv (.str x) (.str x) = true := by
  show (x == x) = true
  simp
/-! the other token -/
def othStep (x : Int) (st : Bx) : Bx × Int := if takeV st 2 = 0 then (takeS st 2, x) else (takeS (takeS st 2) 1000, takeV (takeS st 2) 1000)
def othS (xs : List Int) (st : Bx) : Nat → Bx
  | 0 => st
  | j + 1 => (othStep (xs.getD j 0) (othS xs st j)).1
def othV (xs : List Int) (st : Bx) (j : Nat) : Int := (othStep (xs.getD j 0) (othS xs st j)).2
def othL (xs : List Int) (st : Bx) : List Int := (List.range xs.length).map (othV xs st)
theorem oth_len (xs : List Int) (st : Bx) : (othL xs st).length = xs.length := by unfold othL; rw [List.length_map, List.length_range]
theorem oth_in {xs : List Int} (h : inTok xs) (st : Bx) : inTok (othL xs st) := fun x hx => by
  obtain ⟨j, hj, rfl⟩ := List.mem_map.mp hx
  have hj := List.mem_range.mp hj
  unfold othV othStep
  split
  · have : xs[j]? = some (xs.getD j 0) := getD_of hj
    exact h _ (List.mem_of_getElem? this)
  · have h0 := takeV_nonneg (st := takeS (othS xs st j) 2) (n := 1000) (by decide)
    have h1 := takeV_lt (st := takeS (othS xs st j) 2) (n := 1000) (by decide)
    exact ⟨h0, by show takeV _ 1000 ≤ 999; omega⟩
/-! few -/
def fewN (st : Bx) : Nat := [1, 6, 0].getD (takeV st 3).toNat 0
def fewS (st : Bx) : Nat → Bx
  | 0 => st
  | j + 1 => takeS (fewS st j) 9
def fewL (st : Bx) (n : Nat) : List Int := (List.range n).map fun j => takeV (fewS st j) 9
theorem few_n (st : Bx) : fewN st = 1 ∨ fewN st = 6 ∨ fewN st = 0 := by
  have h0 := takeV_nonneg (st := st) (n := 3) (by decide)
  have h1 := takeV_lt (st := st) (n := 3) (by decide)
  have h : takeV st 3 = 0 ∨ takeV st 3 = 1 ∨ takeV st 3 = 2 := by omega
  unfold fewN
  rcases h with h | h | h <;> rw [h]
  · exact .inl rfl
  · exact .inr (.inl rfl)
  · exact .inr (.inr rfl)
theorem few_ix (st : Bx) : atI [PyData.int 1, .int 6, .int 0] (takeV st 3) = some (.int (fewN st : Nat)) := by
  have h0 := takeV_nonneg (st := st) (n := 3) (by decide)
  have h1 := takeV_lt (st := st) (n := 3) (by decide)
  have h : takeV st 3 = 0 ∨ takeV st 3 = 1 ∨ takeV st 3 = 2 := by omega
  unfold fewN
  rcases h with h | h | h <;> rw [h] <;> rfl
theorem few_bad (st st' : Bx) : okPair (.tuple (dI (fewL st' (fewN st)))) (.tuple (dI (fewL st' (fewN st)))) = false := by
  have e : tokD (.tuple (dI (fewL st' (fewN st)))) = false := by
    have hl : ((dI (fewL st' (fewN st))).length) = fewN st := by unfold fewL; rw [List.length_map, List.length_map, List.length_range]
    show ((decide (2 ≤ ((dI (fewL st' (fewN st))).length : Int)) && decide (((dI (fewL st' (fewN st))).length : Int) ≤ 5)) && _) = false
    rw [hl]
    rcases few_n st with h | h | h <;> rw [h] <;> rfl
  show (tokD _ && tokD _ && _) = false
  rw [e]
  rfl
end K02
namespace K02
open PySem PySem.Spec L2 Evl DV LamX NdefX
open PyProof.Rows hiding St cutD
abbrev nLaw : List Str := ["_law_script", "_law_box", "_law_turn", "_law_many", "_law_one", "_law_other", "_law_less", "_law_more", "_law_word", "_law_few", "_law_odd_here", "_law_works", "_law_k"]
theorem scLaw : FnScope nLaw ["_law_script"] (defScope sLaw) := ⟨rfl, rfl, rfl, by decide +kernel, rfl, by decide +kernel, by decide +kernel⟩
theorem free_by {sc sl : Scope} (h : (sc.names.all fun y => !decide (y.2 = .free) || decide (sl.names.lookup y.1 = some .cell)) = true) : ∀ y ∈ sc.names, y.2 = .free → sl.names.lookup y.1 = some .cell ∨ sl.names.lookup y.1 = some .free := fun y hy e => by
  have := List.all_eq_true.mp h y hy
  rw [e] at this
  exact .inl (by simpa using this)
theorem zip_has {js : List Nat} {fr : List Str} (hl : js.length = fr.length) (i : Nat) (y : Str) (h : fr[i]? = some y) : ∃ j, js[i]? = some j ∧ (j, y) ∈ js.zip fr := by
  have hi : i < fr.length := by
    by_cases z : i < fr.length
    · exact z
    · rw [List.getElem?_eq_none (by omega)] at h; cases h
  have hj : js[i]? = some (js[i]'(by omega)) := List.getElem?_eq_getElem _
  refine ⟨_, hj, List.mem_iff_getElem?.mpr ⟨i, ?_⟩⟩
  rw [List.getElem?_zip_eq_some]
  exact ⟨hj, h⟩
theorem dflt_of {P : Program} {w : World} {H : Hp} {h : Heap} {T : Addr} (ok : HOk P w H h) (e : H T = some (.tup [.int 0])) : ∃ (u : Value) (o : Obj) (n : Nat), RelV (.int 0) u ∧ h.get? T = some o ∧ o.data = .seq #[u] n := by
  obtain ⟨_, its, rv, o, ho, _, n, hd⟩ := ok T _ e
  cases rv with
  | cons r t =>
    cases t
    exact ⟨_, o, n, r, ho, hd⟩
theorem t_cast {S : Type} {X : Cx} {M : List Addr} {R : S → Hp → Prop} {ρ : List Sl} {s s' : S} {e : Expr} {k k' : Bool} (h : EvT1 X M R ρ e s k s') (q : k = k') : EvT1 X M R ρ e s k' s' := by
  subst q
  exact h
structure Cals (P : Program) (w : World) (K : PySem.W.Frag) (mg : Str → Option Value) (base : Heap) (C : Addr) : Prop where
  begun : Cal P w K mg base "_law_begun" 1 (spBegun K)
  take : Cal P w K mg base "_law_take" 1 spTake
  tok : Cal P w K mg base "_law_token" 2 (spB K gTokB)
  odd : Cal P w K mg base "_law_odd" 2 (spB K gOdd)
  within : Cal P w K mg base "_law_within" 1 (DV.spS K gWithin)
  join : Cal P w K mg base "_law_join" 1 (DV.spS K gJoin)
  alike : Cal P w K mg base "_law_alike" 3 (DV.spS K (gAlike 2))
  joined : Cal P w K mg base "joined" 4 (DV.spS K (gJoined C))
  compared : Cal P w K mg base "compared" 4 (DV.spS K (gCompared C))
  all : Cal P w K mg base "_law_all" 7 (spAll P w K mg base 5)
section
variable {P : Program} {w : World} {K : PySem.W.Frag} {mg : Str → Option Value} {base : Heap} {C c T : Addr}
abbrev ρ0 (b : Addr) : List Sl := [.any, .raw (.ref b), .any, .any, .any, .any, .any, .any, .any, .any, .any, .any, .any]
/-- the law's turn, its first half: up to the flip -/
theorem turn1 (B : Bl mg) (G : Cals P w K mg base C) {f : Addr} {cdv : Value} {A : Around} {outer : List Env} {sh : Shared} {H : Hp} {E : XK} {M : List Addr} {R : Bx → Hp → Prop} {b l : Addr} {D : Ends} {si : Bx} {i : Int}
    (hr : Room 7 (A.deeper (envOfC "law" (defScope sLaw) sh.heap.objs.size f cdv))) (g : Rg M R) (BI : BoxIn M R b l id fun _ t => t)
    (k : ∀ (st : Bx) (xs ys : List Int), inTok xs → 2 ≤ xs.length → xs.length ≤ 5 → inTok ys → ys.length = xs.length → St1 (dx P w K mg base nLaw "law" sLaw f cdv A outer sh H E) M R
      [.any, .raw (.ref b), .dat (.int i), .dat (.int xs.length), .dat (.tuple (dI xs)), .dat (.tuple (dI ys)), .dat (.bool (withinL xs ys)), .dat (.bool (withinL ys xs)), .dat (.str (cmpL xs ys)), .any, .any, .any, .any]
      (match defBody sLaw with | [_, .For _ _ body _ _, _] => body.drop 8 | _ => []) st D) :
    St1 (dx P w K mg base nLaw "law" sLaw f cdv A outer sh H E) M R [.any, .raw (.ref b), .dat (.int i), .any, .any, .any, .any, .any, .any, .any, .any, .any, .any] (match defBody sLaw with | [_, .For _ _ body _ _, _] => body | _ => []) si D := by
  have t0 := takeV_nonneg (st := si) (n := 4) (by decide)
  have t1 := takeV_lt (st := si) (n := 4) (by decide)
  obtain ⟨m, hm, m2, m5⟩ : ∃ m : Nat, (2 + takeV si 4 : Int) = m ∧ 2 ≤ m ∧ m ≤ 5 := ⟨(2 + takeV si 4).toNat, by omega, by omega, by omega⟩
  refine st_set 3 (r := .dat (.int (m : Int))) (s1 := takeS si 4) scLaw.nd rfl (Or.inl rfl) (by rw [← hm]; exact e_add e_int (e_take BI G.take hr (by decide) (by rfl) (by decide) (by decide) (a_cons (v 1) (a_cons e_int a_nil)))) ?_
  refine st_set 4 (r := .dat (.tuple (dI (tokV (takeS si 4) m)))) (s1 := tokS (takeS si 4) m) scLaw.nd rfl (Or.inr rfl) (e_boxed g BI G.tok hr (by decide) (by rfl) ⟨m, by omega, rfl, rfl, rfl⟩ (a_cons (v 1) (a_cons (v 3) a_nil))) ?_
  have hx := tokV_in (takeS si 4) m
  have lx := tokV_len (takeS si 4) m
  generalize tokV (takeS si 4) m = xs at hx lx ⊢
  subst lx
  generalize tokS (takeS si 4) xs.length = s2
  refine st_set 5 (r := .dat (.tuple (dI (othL xs s2)))) (s1 := othS xs s2 xs.length) scLaw.nd rfl (Or.inl rfl) (e_tupleL g (by rfl) B.tuple (a1 ?_)) ?_
  · have em : dI (othL xs s2) = (List.range xs.length).map fun j => PyData.int (othV xs s2 j) := by
      show List.map PyData.int (List.map _ _) = _
      rw [List.map_map]
      rfl
    rw [em]
    refine lc_rng (own := [("_law_k", 12)]) g (i := 12) (n := xs.length) (ss := othS xs s2) _ (i_rngN (by rfl) B.range (by omega) (a1 (v 3))) (by omega) (fun j hj sh Hh C cl fp D acc gD => ?_) rfl scLaw.nd (blkOk_by (N := nLaw) (sc := defScope sLaw) (by decide +kernel)) (fun sh Hh C cl fp => pg_name (i := 12) scLaw.nd rfl (Or.inl rfl)) (by simp)
    by_cases z : takeV (othS xs s2 j) 2 = 0
    · have e1 : othV xs s2 j = xs.getD j 0 := by unfold othV othStep; rw [if_pos z]
      have e2 : othS xs s2 (j + 1) = takeS (othS xs s2 j) 2 := by
        show (othStep _ _).1 = _
        unfold othStep
        rw [if_pos z]
      rw [e1, e2]
      refine e_ifT (s1 := takeS (othS xs s2 j) 2) ?_ (e_ixT (v 4) (v 12) (ix_dI hj))
      have hz : PyData.eqv (.int (takeV (othS xs s2 j) 2)) (.int 0) = true := by rw [z]; rfl
      exact t_cast (t_eqD (d1 := .int (takeV (othS xs s2 j) 2)) (d2 := .int 0) hr.units (e_take (BI.rd D acc) G.take hr (by decide) (by rfl) (by decide) (by decide) (a_cons (v 1) (a_cons e_int a_nil))) e_int rfl rfl) hz
    · have e1 : othV xs s2 j = takeV (takeS (othS xs s2 j) 2) 1000 := by unfold othV othStep; rw [if_neg z]
      have e2 : othS xs s2 (j + 1) = takeS (takeS (othS xs s2 j) 2) 1000 := by
        show (othStep _ _).1 = _
        unfold othStep
        rw [if_neg z]
      rw [e1, e2]
      refine e_ifF (s1 := takeS (othS xs s2 j) 2) ?_ (e_take (BI.rd D acc) G.take hr (by decide) (by rfl) (by decide) (by decide) (a_cons (v 1) (a_cons e_int a_nil)))
      have hz : PyData.eqv (.int (takeV (othS xs s2 j) 2)) (.int 0) = false := by
        show (takeV (othS xs s2 j) 2 == 0) = false
        simpa using z
      exact t_cast (t_eqD (d1 := .int (takeV (othS xs s2 j) 2)) (d2 := .int 0) hr.units (e_take (BI.rd D acc) G.take hr (by decide) (by rfl) (by decide) (by decide) (a_cons (v 1) (a_cons e_int a_nil))) e_int rfl rfl) hz
  have hy := oth_in hx s2
  have ly := oth_len xs s2
  generalize othL xs s2 = ys at hy ly ⊢
  generalize othS xs s2 xs.length = s3
  refine st_par (i := 6) (j := 7) (s1 := s3) (ra := .dat (.bool (withinL xs ys))) (rb := .dat (.bool (withinL ys xs))) rfl scLaw.nd rfl rfl (by decide) rfl rfl
    (a_cons (e_call g G.within hr (by decide) (by rfl) ⟨xs, ys, by omega, by omega, rfl, rfl⟩ (a_cons (v 4) (a_cons (v 5) a_nil))) (a_cons (e_call g G.within hr (by decide) (by rfl) ⟨ys, xs, by omega, by omega, rfl, rfl⟩ (a_cons (v 5) (a_cons (v 4) a_nil))) a_nil)) ?_ (fun ha => ps_par rfl scLaw.nd rfl rfl (by decide) rfl rfl ha (by rfl))
  refine st_set 8 (r := .dat (.str (cmpL xs ys))) (s1 := s3) scLaw.nd rfl (Or.inl rfl) ?_ ?_
  · rw [cmp_word (by omega)]
    generalize withinL xs ys = p
    generalize withinL ys xs = q
    cases p <;> cases q
    · exact e_ifF (t_w (w_andF (t_val (v 6)))) (e_ifF (t_val (v 6)) (e_ifF (t_val (v 7)) e_str))
    · exact e_ifF (t_w (w_andF (t_val (v 6)))) (e_ifF (t_val (v 6)) (e_ifT (t_val (v 7)) e_str))
    · exact e_ifF (t_w (w_andT (t_val (v 6)) (w_and1 (t_val (v 7))))) (e_ifT (t_val (v 6)) e_str)
    · exact e_ifT (t_w (w_andT (t_val (v 6)) (w_and1 (t_val (v 7))))) e_str
  have okp := pair_ok hx hy (by omega) m2 m5
  have okq := pair_ok hy hx (by omega) (by omega) (by omega)
  have okx := pair_ok hx hx rfl m2 m5
  refine st_if (k := !true) (s1 := s3) (t_not (t_val (e_call g G.alike hr (by decide) (by rfl) (r := .dat (.bool true)) ⟨.list [.tuple (dI (joinL xs ys)), .tuple (dI (joinL xs ys))], rfl, ?_, ?_, rfl⟩
    (a_cons (e_lst g (ds := [.tuple (dI (joinL xs ys)), .tuple (dI (joinL xs ys))]) (a_cons (e_call g G.joined hr (by decide) (by rfl) ⟨_, _, rfl, .inr ⟨xs, ys, rfl, rfl, okp, rfl⟩⟩ (a_cons (v 4) (a_cons (v 5) a_nil))) (a_cons (e_call g G.joined hr (by decide) (by rfl) ⟨_, _, rfl, .inr ⟨ys, xs, rfl, rfl, okq, by rw [join_comm xs ys]⟩⟩ (a_cons (v 5) (a_cons (v 4) a_nil))) a_nil)) (by simp))
    (a_cons (e_repL g (ds := [.tuple (dI (joinL xs ys))]) (k := 2) (by decide) (by decide) (by simp) (e_lst g (ds := [.tuple (dI (joinL xs ys))]) (a_cons (e_call g G.join hr (by decide) (by rfl) ⟨xs, ys, by omega, by omega, rfl, rfl⟩ (a_cons (v 4) (a_cons (v 5) a_nil))) a_nil) (by simp)) e_int) a_nil))))) (fun h => by cases h) (fun _ => st_thru ?_)
  · have hj := okD_tI (xs := joinL xs ys) (by rw [join_len (by omega)]; omega)
    show (decide (2 ≤ 1000) && (okD (.tuple (dI (joinL xs ys))) && (okD (.tuple (dI (joinL xs ys))) && true))) = true
    rw [hj]
    rfl
  · show max (PyData.depthAll (dI (joinL xs ys)) + 1) (max (PyData.depthAll (dI (joinL xs ys)) + 1) 0) + 1 ≤ 2
    rw [depth_ints]
    decide
  refine st_if (k := (!PyData.eqv (.str (cmpL xs ys)) (.str (cmpL xs ys))) || ((!PyData.eqv (.str (cmpL xs xs)) (.str "same")) || (!PyData.eqv (.tuple (dI (joinL xs xs))) (.tuple (dI xs))))) (s1 := s3)
    (t_w (w_or (t_neD hr.units (e_call g G.compared hr (by decide) (by rfl) ⟨_, _, rfl, .inr ⟨xs, ys, rfl, rfl, okp, rfl⟩⟩ (a_cons (v 4) (a_cons (v 5) a_nil))) (v 8) (cmp_shp _ _) (cmp_shp _ _))
      fun _ => w_or (t_neD hr.units (e_call g G.compared hr (by decide) (by rfl) ⟨_, _, rfl, .inr ⟨xs, xs, rfl, rfl, okx, rfl⟩⟩ (a_cons (v 4) (a_cons (v 4) a_nil))) e_str (cmp_shp _ _) (by decide +kernel))
      fun _ => w_or1 (t_neD hr.units (e_call g G.joined hr (by decide) (by rfl) ⟨_, _, rfl, .inr ⟨xs, xs, rfl, rfl, okx, rfl⟩⟩ (a_cons (v 4) (a_cons (v 4) a_nil))) (v 4) (shaped_tI _) (shaped_tI _)))) (fun h => ?_) (fun _ => st_thru ?_)
  · rw [cmp_self, join_self, eqv_str, eqv_str, eqv_tI, decide_eq_true rfl] at h
    cases h
  refine st_if (s1 := s3) (t_neD hr.units (e_call g G.compared hr (by decide) (by rfl) ⟨_, _, rfl, .inr ⟨ys, xs, rfl, rfl, okq, rfl⟩⟩ (a_cons (v 5) (a_cons (v 4) a_nil))) (e_disp2 g (Nat.lt_of_le_of_lt (Nat.add_le_add_left (by decide : 1 ≤ 64) _) hr.units) (v 8) (v 8) (by decide) ⟨rfl, rfl, rfl, rfl⟩) (cmp_shp _ _) ?_) (fun h => ?_) (fun _ => st_thru ?_)
  · rw [← cmp_flip (by omega)]
    exact cmp_shp _ _
  · rw [← cmp_flip (by omega), eqv_str] at h
    cases h
  exact k s3 xs ys hx m2 m5 hy ly
end
end K02
namespace K02
open PySem PySem.Spec L2 Evl DV LamX NdefX
open PyProof.Rows hiding St cutD
section
variable {P : Program} {w : World} {K : PySem.W.Frag} {mg : Str → Option Value} {base : Heap} {C c T : Addr}
abbrev body8 : List Stmt := match defBody sLaw with | [_, .For _ _ body _ _, _] => body.drop 8 | _ => []
abbrev body10 : List Stmt := match defBody sLaw with | [_, .For _ _ body _ _, _] => body.drop 10 | _ => []
/-- the second part: few counts -/
theorem turn2 (B : Bl mg) (G : Cals P w K mg base C) (TB : TabB base mg c T) (Kd : DV.Kinds K mg C 7) {f : Addr} {A : Around} {outer : List Env} {sh : Shared} {H : Hp} {E : XK} {M : List Addr} {R : Bx → Hp → Prop} {b l : Addr} {D : Ends} {st : Bx} {r0 r2 r3 r4 r5 r6 r7 r8 r9 r10 r11 r12 : Sl}
    (hr : Room 7 (A.deeper (envOfC "law" (defScope sLaw) sh.heap.objs.size f (.ref c)))) (L : LawR M R b l T ((dx P w K mg base nLaw "law" sLaw f (.ref c) A outer sh H E).env.qual ++ "<lambda>"))
    (k : ∀ (s2 : Bx) (zs : List Int), St1 (dx P w K mg base nLaw "law" sLaw f (.ref c) A outer sh H E) M R [r0, .raw (.ref b), r2, r3, r4, r5, r6, r7, r8, .dat (.tuple (dI zs)), r10, r11, r12] body10 s2 D) :
    St1 (dx P w K mg base nLaw "law" sLaw f (.ref c) A outer sh H E) M R [r0, .raw (.ref b), r2, r3, r4, r5, r6, r7, r8, r9, r10, r11, r12] body8 st D := by
  have g := L.g
  have BI := L.box
  have nf := few_n st
  refine st_set 9 (r := .dat (.tuple (dI (fewL (takeS st 3) (fewN st))))) (s1 := fewS (takeS st 3) (fewN st)) scLaw.nd rfl (Or.inr rfl) (e_tupleL g (by rfl) B.tuple (a1 ?_)) ?_
  · have em : dI (fewL (takeS st 3) (fewN st)) = (List.range (fewN st)).map fun j => PyData.int (takeV (fewS (takeS st 3) j) 9) := by
      show List.map PyData.int (List.map _ _) = _
      rw [List.map_map]
      rfl
    rw [em]
    refine lc_rng (own := [("_law_k", 12)]) g (i := 12) (n := fewN st) (ss := fewS (takeS st 3)) _ (i_rngN (by rfl) B.range (by omega) (a1 (e_ixL (ds := [.int 1, .int 6, .int 0]) (e_lst g (ds := [.int 1, .int 6, .int 0]) (a_cons e_int (a_cons e_int (a_cons e_int a_nil))) (by simp)) (e_take BI G.take hr (by decide) (by rfl) (by decide) (by decide) (a_cons (v 1) (a_cons e_int a_nil))) (few_ix st)))) (by omega) (fun j hj sh Hh C cl fp D acc gD => ?_) rfl scLaw.nd (blkOk_by (N := nLaw) (sc := defScope sLaw) (by decide +kernel)) (fun sh Hh C cl fp => pg_name (i := 12) scLaw.nd rfl (Or.inl rfl)) (by simp)
    exact e_take (BI.rd D acc) G.take hr (by decide) (by rfl) (by decide) (by decide) (a_cons (v 1) (a_cons e_int a_nil))
  have bad := few_bad st (takeS st 3)
  generalize fewL (takeS st 3) (fewN st) = zs at bad ⊢
  generalize fewS (takeS st 3) (fewN st) = s2
  intro σ H0 hσ hR
  obtain ⟨o, h9, v9, rfl, d9⟩ := hσ.get (i := 9) (r := .dat (.tuple (dI zs))) rfl
  have sl : slotAt σ 9 = some v9 := slotAt_of h9
  refine b_all L G.all hr (by decide) (by rfl) Kd (ys := [(9, "_law_few")]) (fun p hp => ?_) (fun p hp => ?_) hσ hR (fun Q q => ?_) (fun H1 _ R1 => ?_) (fun H1 hσ1 R1 => k s2 zs σ H1 hσ1 R1)
  · simp only [List.mem_cons, List.not_mem_nil, or_false] at hp
    subst hp
    exact ⟨rfl, rfl, rfl⟩
  · simp only [List.mem_cons, List.not_mem_nil, or_false] at hp
    subst hp
    exact ⟨_, h9⟩
  · refine wE_of (pe_lst (pa_cons pe_w (pa_cons pe_w pa_nil))) ?_
    refine L.lam0 ⟨TB, rfl, free_by (by rfl)⟩ rfl rfl hR fun f1 c1 H1 x1 R1 hf1 hc1 => ?_
    refine L.lam1 ⟨TB, rfl, free_by (by rfl)⟩ rfl rfl R1 fun f2 c2 T2 H2 x2 R2 hf2 hc2 ht2 => ?_
    refine ⟨(by decide : 2 ≤ sizeLine), fun p np => ?_⟩
    have x3 : Ex (cut M H2) (cut M (upd H2 p (.lst [V.ref f1, V.ref f2]))) := exCut (Ex.new np)
    refine q p [f1, f2] _ (x1.trans (x2.trans x3)) (g.up R2 (Ex.new np)) (cut_upd (g.fresh R2 np)) fun f hf => ?_
    have d9' : ∀ {Hx : Hp}, Ex (cut M H1) Hx → Dv K Hx v9 (.tuple (dI zs)) := fun e => dp_ex (x1.trans e) _ _ d9
    simp only [List.mem_cons, List.not_mem_nil, or_false] at hf
    rcases hf with rfl | rfl
    · refine (lam_er hf1 hc1 rfl (free_by (by rfl)) (N := ["_law_few"]) (ps := []) (fr := ["_law_few"]) (js := [9]) (vs := []) (ρ := [.dat (.tuple (dI zs))]) (nscope_by (by rfl)) rfl rfl (zip_has rfl) (fun H' s _ _ => ⟨[], .nil, fun doc pm ctv => BindsTo.of_eq rfl⟩) rfl G.joined (rs := [.dat (.tuple (dI zs)), .dat (.tuple (dI zs))]) ⟨_, _, rfl, .inl ⟨bad, rfl⟩⟩ (fun Hx e => ?_)
        (fun A outer s Hx E' => by rfl) (fun A outer s Hx E' => a_cons (v 0) (a_cons (v 0) a_nil)) (by decide) (fun env => rfl) (fun env => rfl)).ex (x2.trans x3)
      exact ⟨⟨v9, sl, d9' e⟩, trivial⟩
    · refine (lam_er hf2 hc2 rfl (free_by (by rfl)) (N := ["_law_a", "_law_few"]) (ps := ["_law_a"]) (fr := ["_law_few"]) (js := [9]) (vs := [.int 0]) (ρ := [.any, .dat (.tuple (dI zs))]) (nscope_by (by rfl)) rfl rfl (zip_has rfl) (fun H' s e hok => ?_) rfl G.compared (rs := [.dat (.tuple (dI zs)), .dat (.tuple (dI zs))]) ⟨_, _, rfl, .inl ⟨bad, rfl⟩⟩ (fun Hx e => ?_)
        (fun A outer s Hx E' => by rfl) (fun A outer s Hx E' => a_cons (v 1) (a_cons (v 1) a_nil)) (by decide) (fun env => rfl) (fun env => rfl)).ex x3
      · obtain ⟨u, o, n, r, ho, hd⟩ := dflt_of hok (e _ _ ht2)
        exact ⟨[u], .cons r .nil, fun doc pm ctv => BindsTo.of_defaults rfl ho hd rfl rfl⟩
      · exact ⟨trivial, ⟨v9, sl, d9' (x2.trans e)⟩, trivial⟩
  · exact e_tup g (ds := [.str (kWord 7), .int 0]) (a_cons e_str (a_cons e_int a_nil)) (by simp)
end
end K02
namespace K02
open PySem PySem.Spec L2 Evl DV LamX NdefX
open PyProof.Rows hiding St cutD
section
variable {P : Program} {w : World} {K : PySem.W.Frag} {mg : Str → Option Value} {base : Heap} {C c T : Addr}
abbrev ysOdd : List (Nat × Str) := [(4, "_law_one"), (10, "_law_odd_here")]
/-- the third part: what is odd beside a token -/
theorem turn3 (B : Bl mg) (G : Cals P w K mg base C) (TB : TabB base mg c T) (Kd : DV.Kinds K mg C 7) {f : Addr} {A : Around} {outer : List Env} {sh : Shared} {H : Hp} {E : XK} {M : List Addr} {R : Bx → Hp → Prop} {b l : Addr} {D : Ends} {st : Bx} {xs : List Int} {r0 r2 r3 r5 r6 r7 r8 r9 r10 r11 r12 : Sl}
    (hr : Room 7 (A.deeper (envOfC "law" (defScope sLaw) sh.heap.objs.size f (.ref c)))) (L : LawR M R b l T ((dx P w K mg base nLaw "law" sLaw f (.ref c) A outer sh H E).env.qual ++ "<lambda>")) (x2 : 2 ≤ xs.length) (x5 : xs.length ≤ 5)
    (k : ∀ (s2 : Bx) (ρ' : List Sl), ρ'[1]? = some (.raw (.ref b)) → ρ'.length = 13 → St1 (dx P w K mg base nLaw "law" sLaw f (.ref c) A outer sh H E) M R ρ' [] s2 D) :
    St1 (dx P w K mg base nLaw "law" sLaw f (.ref c) A outer sh H E) M R [r0, .raw (.ref b), r2, r3, .dat (.tuple (dI xs)), r5, r6, r7, r8, r9, r10, r11, r12] body10 st D := by
  have g := L.g
  have BI := L.box
  refine st_set 10 (r := .dat (oddD xs st)) (s1 := oddS xs st) scLaw.nd rfl (Or.inr rfl) (e_boxed g BI G.odd hr (by decide) (by rfl) ⟨xs, x2, x5, rfl, rfl, rfl⟩ (a_cons (v 1) (a_cons (v 4) a_nil))) ?_
  have hodd := odd_odd (st := st) x2
  obtain ⟨bad1, bad2⟩ := hodd
  generalize oddD xs st = d at bad1 bad2 ⊢
  generalize oddS xs st = s2
  intro σ H0 hσ hR
  obtain ⟨o, h4, v4, rfl, d4⟩ := hσ.get (i := 4) (r := .dat (.tuple (dI xs))) rfl
  obtain ⟨o, h10, v10, rfl, d10⟩ := hσ.get (i := 10) (r := .dat d) rfl
  have sl4 : slotAt σ 4 = some v4 := slotAt_of h4
  have sl10 : slotAt σ 10 = some v10 := slotAt_of h10
  have gj1 : gJoined C [.dat (.tuple (dI xs)), .dat d] (.er (.ref C)) := ⟨_, _, rfl, .inl ⟨bad1, rfl⟩⟩
  have gc1 : gCompared C [.dat (.tuple (dI xs)), .dat d] (.er (.ref C)) := ⟨_, _, rfl, .inl ⟨bad1, rfl⟩⟩
  have gj2 : gJoined C [.dat d, .dat (.tuple (dI xs))] (.er (.ref C)) := ⟨_, _, rfl, .inl ⟨bad2, rfl⟩⟩
  have gc2 : gCompared C [.dat d, .dat (.tuple (dI xs))] (.er (.ref C)) := ⟨_, _, rfl, .inl ⟨bad2, rfl⟩⟩
  refine b_set 11 (wE_of (pe_lst (pa_cons pe_w (pa_cons pe_w (pa_cons pe_w pa_nil)))) ?_) scLaw.nd rfl (Or.inl rfl)
  refine L.lam0 ⟨TB, rfl, free_by (by rfl)⟩ rfl rfl hR fun f1 c1 H1 y1 R1 hf1 hc1 => ?_
  refine L.lam1 ⟨TB, rfl, free_by (by rfl)⟩ rfl rfl R1 fun f2 c2 T2 H2 y2 R2 hf2 hc2 ht2 => ?_
  refine L.lam1 ⟨TB, rfl, free_by (by rfl)⟩ rfl rfl R2 fun f3 c3 T3 H3 y3 R3 hf3 hc3 ht3 => ?_
  refine ⟨(by decide : 3 ≤ sizeLine), fun p np => ?_⟩
  have y4 : Ex (cut M H3) (cut M (upd H3 p (.lst [V.ref f1, V.ref f2, V.ref f3]))) := exCut (Ex.new np)
  have R4 := g.up R3 (Ex.new (o := .lst [V.ref f1, V.ref f2, V.ref f3]) np)
  have hp4 : cut M (upd H3 p (.lst [V.ref f1, V.ref f2, V.ref f3])) p = some (.lst [V.ref f1, V.ref f2, V.ref f3]) := cut_upd (g.fresh R3 np)
  have dd : ∀ {Hx : Hp}, Ex (cut M H0) Hx → Dv K Hx v4 (.tuple (dI xs)) ∧ Dv K Hx v10 d := fun e => ⟨dp_ex e _ _ d4, dp_ex e _ _ d10⟩
  have good1 : LamGood (dx P w K mg base nLaw "law" sLaw f (.ref c) A outer sh H E) σ ysOdd C f1 (cut M H1) := by
    refine lam_er hf1 hc1 rfl (free_by (by rfl)) (N := ["_law_one", "_law_odd_here"]) (ps := []) (fr := ["_law_one", "_law_odd_here"]) (js := [4, 10]) (vs := []) (ρ := [.dat (.tuple (dI xs)), .dat d]) (nscope_by (by rfl)) rfl rfl (zip_has rfl) (fun H' s _ _ => ⟨[], .nil, fun doc pm ctv => BindsTo.of_eq rfl⟩) rfl G.joined gj1 (fun Hx e => ?_)
      (fun A outer s Hx E' => by rfl) (fun A outer s Hx E' => a_cons (v 0) (a_cons (v 1) a_nil)) (by decide) (fun env => rfl) (fun env => rfl)
    obtain ⟨a1, a2⟩ := dd (y1.trans e)
    exact ⟨⟨v4, sl4, a1⟩, ⟨v10, sl10, a2⟩, trivial⟩
  have good2 : LamGood (dx P w K mg base nLaw "law" sLaw f (.ref c) A outer sh H E) σ ysOdd C f2 (cut M H2) := by
    refine lam_er hf2 hc2 rfl (free_by (by rfl)) (N := ["_law_a", "_law_one", "_law_odd_here"]) (ps := ["_law_a"]) (fr := ["_law_one", "_law_odd_here"]) (js := [4, 10]) (vs := [.int 0]) (ρ := [.any, .dat (.tuple (dI xs)), .dat d]) (nscope_by (by rfl)) rfl rfl (zip_has rfl) (fun H' s e hok => ?_) rfl G.compared gc1 (fun Hx e => ?_)
      (fun A outer s Hx E' => by rfl) (fun A outer s Hx E' => a_cons (v 1) (a_cons (v 2) a_nil)) (by decide) (fun env => rfl) (fun env => rfl)
    · obtain ⟨u, o, n, r, ho, hd⟩ := dflt_of hok (e _ _ ht2)
      exact ⟨[u], .cons r .nil, fun doc pm ctv => BindsTo.of_defaults rfl ho hd rfl rfl⟩
    · obtain ⟨a1, a2⟩ := dd (y1.trans (y2.trans e))
      exact ⟨trivial, ⟨v4, sl4, a1⟩, ⟨v10, sl10, a2⟩, trivial⟩
  have good3 : LamGood (dx P w K mg base nLaw "law" sLaw f (.ref c) A outer sh H E) σ ysOdd C f3 (cut M H3) := by
    refine lam_er hf3 hc3 rfl (free_by (by rfl)) (N := ["_law_b", "_law_one", "_law_odd_here"]) (ps := ["_law_b"]) (fr := ["_law_one", "_law_odd_here"]) (js := [4, 10]) (vs := [.int 0]) (ρ := [.any, .dat (.tuple (dI xs)), .dat d]) (nscope_by (by rfl)) rfl rfl (zip_has rfl) (fun H' s e hok => ?_) rfl G.compared gc2 (fun Hx e => ?_)
      (fun A outer s Hx E' => by rfl) (fun A outer s Hx E' => a_cons (v 2) (a_cons (v 1) a_nil)) (by decide) (fun env => rfl) (fun env => rfl)
    · obtain ⟨u, o, n, r, ho, hd⟩ := dflt_of hok (e _ _ ht3)
      exact ⟨[u], .cons r .nil, fun doc pm ctv => BindsTo.of_defaults rfl ho hd rfl rfl⟩
    · obtain ⟨a1, a2⟩ := dd (y1.trans (y2.trans (y3.trans e)))
      exact ⟨trivial, ⟨v4, sl4, a1⟩, ⟨v10, sl10, a2⟩, trivial⟩
  have g1 := good1.ex (y2.trans (y3.trans y4))
  have g2 := good2.ex (y3.trans y4)
  have g3 := good3.ex y4
  have e14 : Ex (cut M H0) (cut M (upd H3 p (.lst [V.ref f1, V.ref f2, V.ref f3]))) := y1.trans (y2.trans (y3.trans y4))
  generalize upd H3 p (.lst [V.ref f1, V.ref f2, V.ref f3]) = H4 at R4 hp4 g1 g2 g3 e14
  have hσ4 := Slots.set (K := K) (H := cut M H4) (r := .raw (.ref p)) (v := .ref p) rfl 11 (hσ.ex e14)
  have ag : ∀ q ∈ ysOdd, (σ.set 11 (some (V.ref p)))[q.1]? = σ[q.1]? := fun q hq => by
    simp only [List.mem_cons, List.not_mem_nil, or_false] at hq
    rcases hq with rfl | rfl
    · exact List.getElem?_set_ne (by decide)
    · exact List.getElem?_set_ne (by decide)
  have h11 : (σ.set 11 (some (V.ref p)))[11]? = some (some (.ref p)) := by
    obtain ⟨o, ho, z⟩ := hσ4.get (i := 11) (r := .raw (.ref p)) rfl
    have z : o = some (.ref p) := z
    rw [ho, z]
  have sl4' : slotAt (σ.set 11 (some (V.ref p))) 4 = some v4 := slotAt_of ((ag (4, "_law_one") (by simp)).trans h4)
  have sl10' : slotAt (σ.set 11 (some (V.ref p))) 10 = some v10 := slotAt_of ((ag (10, "_law_odd_here") (by simp)).trans h10)
  refine b_all L G.all hr (by decide) (by rfl) Kd (ys := ysOdd) (fun q hq => ?_) (fun q hq => ?_) hσ4 R4 (fun Q q => ?_) (fun H1 _ R1 => ?_) (fun H1 hσ1 R1 => k s2 _ rfl rfl _ H1 hσ1 R1)
  · simp only [List.mem_cons, List.not_mem_nil, or_false] at hq
    rcases hq with rfl | rfl <;> exact ⟨rfl, rfl, rfl⟩
  · rw [ag q hq]
    simp only [List.mem_cons, List.not_mem_nil, or_false] at hq
    rcases hq with rfl | rfl
    · exact ⟨_, h4⟩
    · exact ⟨_, h10⟩
  · refine wE_of (pe_op op_cat pe_w pe_w) ?_
    refine wE_of (pe_var (i := 11) rfl (Or.inl rfl) (by decide) (by decide)) ⟨.ref p, h11, ?_⟩
    have z5 : Ex (cut M H4) (cut M H4) := exId _
    refine wE_of (pe_lst (pa_cons pe_w pa_nil)) ?_
    refine L.lam1 ⟨TB, rfl, free_by (by rfl)⟩ rfl rfl R4 fun f4 c4 T4 H6 y6 R6 hf4 hc4 ht4 => ?_
    refine ⟨(by decide : 1 ≤ sizeLine), fun p2 np2 => ?_⟩
    have y7 : Ex (cut M H6) (cut M (upd H6 p2 (.lst [V.ref f4]))) := exCut (Ex.new np2)
    have R7 := g.up R6 (Ex.new (o := .lst [V.ref f4]) np2)
    have hp7 := ex_cut _ _ (y7 _ _ (y6 _ _ (z5 _ _ hp4)))
    refine ⟨p, p2, _, _, rfl, rfl, hp7, upd_same, (by decide : 4 ≤ sizeLine), fun p3 np3 => ?_⟩
    have y8 : Ex (cut M (upd H6 p2 (.lst [V.ref f4]))) (cut M (upd (upd H6 p2 (.lst [V.ref f4])) p3 (.lst ([V.ref f1, V.ref f2, V.ref f3] ++ [V.ref f4])))) := exCut (Ex.new np3)
    have good4 : LamGood (dx P w K mg base nLaw "law" sLaw f (.ref c) A outer sh H E) (σ.set 11 (some (V.ref p))) ysOdd C f4 (cut M H6) := by
      refine lam_er hf4 hc4 rfl (free_by (by rfl)) (N := ["_law_c", "_law_one", "_law_odd_here"]) (ps := ["_law_c"]) (fr := ["_law_one", "_law_odd_here"]) (js := [4, 10]) (vs := [.int 0]) (ρ := [.any, .dat (.tuple (dI xs)), .dat d]) (nscope_by (by rfl)) rfl rfl (zip_has rfl) (fun H' s e hok => ?_) rfl G.joined gj2 (fun Hx e => ?_)
        (fun A outer s Hx E' => by rfl) (fun A outer s Hx E' => a_cons (v 2) (a_cons (v 1) a_nil)) (by decide) (fun env => rfl) (fun env => rfl)
      · obtain ⟨u, o, n, r, ho, hd⟩ := dflt_of hok (e _ _ ht4)
        exact ⟨[u], .cons r .nil, fun doc pm ctv => BindsTo.of_defaults rfl ho hd rfl rfl⟩
      · obtain ⟨a1, a2⟩ := dd (e14.trans (z5.trans (y6.trans e)))
        exact ⟨trivial, ⟨v4, sl4', a1⟩, ⟨v10, sl10', a2⟩, trivial⟩
    have y48 := z5.trans (y6.trans (y7.trans y8))
    refine q p3 [f1, f2, f3, f4] _ y48 (g.up R7 (Ex.new np3)) (cut_upd (g.fresh R7 np3)) fun f hf => ?_
    simp only [List.mem_cons, List.not_mem_nil, or_false] at hf
    rcases hf with rfl | rfl | rfl | rfl
    · exact (g1.slots ag).ex y48
    · exact (g2.slots ag).ex y48
    · exact (g3.slots ag).ex y48
    · exact good4.ex (y7.trans y8)
  · exact e_tup g (ds := [.str (kWord 7), .int 0]) (a_cons e_str (a_cons e_int a_nil)) (by simp)
end
end K02
namespace K02
open PySem PySem.Spec L2 Evl DV LamX NdefX
open PyProof.Rows hiding St cutD
section
variable {P : Program} {w : World} {K : PySem.W.Frag} {mg : Str → Option Value} {base : Heap} {C c T : Addr}
def spLaw (K : PySem.W.Frag) (T : Addr) : Sp := fun vs H Q _ => ∃ (a : Addr) (ns : List Int), vs = [.ref a] ∧ H T = some (.tbl #[]) ∧ SqL K H a (ns.map V.int) ∧ ns.length ≤ 63 ∧ (∀ z ∈ ns, Builtin.Int.intBits z ≤ 1048576) ∧ ∀ H', Q (.bl true) H'
theorem law_fn {fa : Addr} {dV kV doc pm ct oc : Value} {an od : Option Addr} {osl : Array (Option Value)} (lk : K.lookup fa = some ⟨oc, od, .func (PySem.W.fnOf "law" "law" (defArgs sLaw) (defBody sLaw) (defScope sLaw) dV kV doc pm an (.ref c) ct), osl⟩) (hcd : PySem.W.codeIn K (.ref c) "law" = true)
    (B : Bl mg) (G : Cals P w K mg base C) (TB : TabB base mg c T) (Kd : DV.Kinds K mg C 7) : FnOk P w K mg base (L2.CX P w) 8 fa (PySem.W.fnOf "law" "law" (defArgs sLaw) (defBody sLaw) (defScope sLaw) dV kV doc pm an (.ref c) ct) ["_law_script"] (spLaw K T) := by
  refine fn_of lk hcd scLaw (fun vs H Q E ⟨_, _, e, _⟩ => by rw [e]; rfl) fun A outer s H vs Q E hr hsp => ?_
  obtain ⟨a, ns, rfl, hT, hS, hl, hbits, q⟩ := hsp
  refine ⟨_, pss_w, ?_⟩
  show wB (dx P w K mg base nLaw "law" sLaw fa (.ref c) A outer s H E) (defBody sLaw) _ _ H
  refine b_set 1 (w_call (M := []) (R := fun (_ : Unit) H' => Ex H H') (s := ()) (s1 := ()) (rs := [.raw (.ref a)]) (ρ := [.raw (.ref a), .any, .any, .any, .any, .any, .any, .any, .any, .any, .any, .any, .any]) G.begun hr (by decide) (by rfl) passL (a_cons (v 0) a_nil) ⟨rfl, trivial, trivial, trivial, trivial, trivial, trivial, trivial, trivial, trivial, trivial, trivial, trivial, trivial⟩ (exId _) (fun vs H1 e1 d1 R1 => ?_)) scLaw.nd rfl (Or.inr rfl)
  obtain ⟨u, hu, dz⟩ := svall1 d1
  subst hu
  have dz : u = .ref a := dz
  subst dz
  refine ⟨a, ns, rfl, ex_l R1 hS, hl, hbits, fun H' b l e2 nb nl bx => ?_⟩
  have hT1 := R1 _ _ hT
  have hT' := e2 _ _ hT1
  have hbT : b ≠ T := fun z => by rw [z, hT1] at nb; cases nb
  have hlT : l ≠ T := fun z => by rw [z, hT1] at nl; cases nl
  have L0 := lawR (q := (dx P w K mg base nLaw "law" sLaw fa (.ref c) A outer s H E).env.qual ++ "<lambda>") hbT hlT
  have tab : TabS H' T ((dx P w K mg base nLaw "law" sLaw fa (.ref c) A outer s H E).env.qual ++ "<lambda>") := ⟨#[], hT', trivial, fun pos cv h => by cases h⟩
  have main : St1 (dx P w K mg base nLaw "law" sLaw fa (.ref c) A outer s H E) [b, l, T] (RLaw b l T ((dx P w K mg base nLaw "law" sLaw fa (.ref c) A outer s H E).env.qual ++ "<lambda>")) (ρ0 b) ((defBody sLaw).drop 1) (begunS ns) { nx := fun _ H' => Q .non H', rt := Q } := by
    refine st_for L0.g (fun i ρ' _ => ρ' = ρ0 b) (passes_of rfl) rfl (pg_name (i := 2) scLaw.nd rfl (Or.inl rfl)) (i_rngN (n := 6) (by rfl) B.range (by decide) (a1 e_int)) rfl (fun i ρi si H1 hi hJ g1 => ?_) (fun ρ' s' hJ => ?_)
    · subst hJ
      refine ⟨_, tg0_name, fun N hN => ?_⟩
      have L1 := L0.rx H1
      refine turn1 B G hr L1.g L1.box fun st xs ys hx h2 h5 hy hly => ?_
      refine turn2 B G TB Kd hr L1 fun s2 zs => ?_
      refine turn3 B G TB Kd hr L1 h2 h5 fun s3 ρ' h1 h13 => ?_
      refine st_nil fun σ H2 hσ hR => hN σ H2 (ρ0 b) s3 rfl ?_ hR
      have h0 := slots_only 1 hσ
      have e : onlyR 1 ρ' = ρ0 b := by
        match ρ', h1, h13 with
        | [r0, r1, r2, r3, r4, r5, r6, r7, r8, r9, r10, r11, r12], h1, _ =>
          have h1 : some r1 = some _ := h1
          cases h1
          rfl
      rw [e] at h0
      exact h0
    · subst hJ
      exact st_ret e_bl fun v H' R' sv => by
        rw [sv_bl sv]
        exact q H'
  exact main _ H' ⟨trivial, rfl, trivial, trivial, trivial, trivial, trivial, trivial, trivial, trivial, trivial, trivial, trivial, trivial⟩ ⟨bx, tab⟩
end
end K02
namespace DV
open PySem PySem.Spec L2 Evl LamX NdefX
open PyProof.Rows hiding St cutD
/-! ### what the top has written -/
section
variable {K : PySem.W.Frag} {mg : Str → Option Value} {h : Heap}
theorem def_mk {x : Str} {st : Stmt} {ps : List Str} {f : Addr} {oc : Value} {od an : Option Addr} {osl : Array (Option Value)} {kV doc pm cdv ct : Value} (X : K.In h) (G : h.Ns mainGlobals mg) (a : PySem.W.nsIn K mainGlobals x = some (some (.ref f)))
    (l : K.lookup f = some ⟨oc, od, .func (PySem.W.fnOf x x (defArgs st) (defBody st) (defScope st) .none kV doc pm an cdv ct), osl⟩) (c : PySem.W.codeIn K cdv x = true) (k : PySem.W.keepIn K (.ref f) = true)
    (b : ∀ (kV doc pm : Value) (an : Option Addr) (cdv ct : Value) (us : List Value), us.length = ps.length → bindArgs (PySem.W.fnOf x x (defArgs st) (defBody st) (defScope st) .none kV doc pm an cdv ct) ⟨us, []⟩ = pure (ps.zip us)) : Def K mg x st ps :=
  ⟨f, _, fun_mk l c k, PySem.W.mg_of X G a, (fun_mk l c k).binds b⟩
theorem kit_ref {C D : Addr} {b : Bool} (h1 : PySem.W.isClsIn K D = true) (h2 : PySem.W.typeIn K (.ref D) = some (.type "type")) (h3 : PySem.W.subIn K (.ref C) (.ref D) = some b) (h4 : C ≠ D ∨ b = true) : PySem.W.kitOne K (.ref C) (.ref D) = some b := by
  have e2 : ((PySem.W.clsIn K D).isSome && PySem.W.typeIn K (.ref D) == some (.type "type")) = true := by
    have h1' : (PySem.W.clsIn K D).isSome = true := h1
    rw [h1', h2] <;> rfl
  show (if (Value.ref C == Value.ref D) = true then some true else if ((PySem.W.clsIn K D).isSome && PySem.W.typeIn K (.ref D) == some (.type "type")) = true then PySem.W.subIn K (.ref C) (.ref D) else none) = some b
  by_cases z : (Value.ref C == Value.ref D) = true
  · rw [if_pos z]
    rcases h4 with h4 | h4
    · refine absurd ?_ h4
      have := beq_iff_eq.mp z
      exact Value.ref.inj this
    · rw [h4]
  · rw [if_neg z, if_pos e2]
    exact h3
theorem kit_type {C : Addr} {T : String} {b : Bool} (h1 : PySem.W.kitMeta T = true) (h3 : PySem.W.subIn K (.ref C) (.type T) = some b) : PySem.W.kitOne K (.ref C) (.type T) = some b := by
  show (if (Value.ref C == Value.type T) = true then some true else if PySem.W.kitMeta T = true then PySem.W.subIn K (.ref C) (.type T) else none) = some b
  have z : (Value.ref C == Value.type T) = false := rfl
  rw [z, if_neg Bool.false_ne_true, if_pos h1]
  exact h3
/-- a class beside the class C -/
structure KC (K : PySem.W.Frag) (mg : Str → Option Value) (C : Addr) (x : Str) (b : Bool) : Prop where
  ex : ∃ D, mg x = some (.ref D) ∧ PySem.W.kitOne K (.ref C) (.ref D) = some b
theorem kc_mk {x : Str} {C D : Addr} {b : Bool} (X : K.In h) (G : h.Ns mainGlobals mg) (a : PySem.W.nsIn K mainGlobals x = some (some (.ref D))) (h1 : PySem.W.isClsIn K D = true) (h2 : PySem.W.typeIn K (.ref D) = some (.type "type")) (h3 : PySem.W.subIn K (.ref C) (.ref D) = some b) (h4 : C ≠ D ∨ b = true) :
    KC K mg C x b := ⟨D, PySem.W.mg_of X G a, kit_ref h1 h2 h3 h4⟩
theorem look_mem {α : Type} {l : List (Addr × α)} {a : Addr} {x : α} (h : l.lookup a = some x) : a ∈ l.map (·.1) := by
  induction l with
  | nil => cases h
  | cons p r ih =>
    obtain ⟨b, y⟩ := p
    rw [List.lookup_cons] at h
    cases e : a == b with
    | true => rw [beq_iff_eq.mp e]; exact List.mem_cons_self
    | false =>
      rw [e] at h
      exact List.mem_cons_of_mem _ (ih h)
theorem no_tab {K : Params → PySem.W.Frag} {as : List Addr} {e : ∀ P, as = (K P).map (·.1)} {ts : List Addr} {w : World} {h : Heap} {T : Addr} (Y : (PySem.W.kmHook K as e ts).says w h) (n : as.contains T = false) : (K w.params).lookup T = none := by
  cases q : (K w.params).lookup T with
  | none => rfl
  | some o =>
    have hm : T ∈ as := by
      rw [e w.params]
      exact look_mem q
    rw [List.contains_eq_mem, decide_eq_true hm] at n
    cases n
end
end DV
namespace K02
open PySem PySem.Spec L2 Evl DV LamX NdefX
open PyProof.Rows hiding St cutD

theorem all_mk {l : PySem.W.OpenLaw} {w : World} {K : PySem.W.Frag} {h : Heap} {mg : Str → Option Value} {fa : Addr}
    {f0 : Addr} {od0 an0 : Option Addr} {sl0 : Array (Option Value)} {oc0 kV0 dc0 pm0 cd0 ct0 : Value}
    {f1 : Addr} {od1 an1 : Option Addr} {sl1 : Array (Option Value)} {oc1 kV1 dc1 pm1 cd1 ct1 : Value}
    {f2 : Addr} {od2 an2 : Option Addr} {sl2 : Array (Option Value)} {oc2 kV2 dc2 pm2 cd2 ct2 : Value}
    {f3 : Addr} {od3 an3 : Option Addr} {sl3 : Array (Option Value)} {oc3 kV3 dc3 pm3 cd3 ct3 : Value}
    {f4 : Addr} {od4 an4 : Option Addr} {sl4 : Array (Option Value)} {oc4 kV4 dc4 pm4 cd4 ct4 : Value}
    {f5 : Addr} {od5 an5 : Option Addr} {sl5 : Array (Option Value)} {oc5 kV5 dc5 pm5 cd5 ct5 : Value}
    {f6 : Addr} {od6 an6 : Option Addr} {sl6 : Array (Option Value)} {oc6 kV6 dc6 pm6 cd6 ct6 : Value}
    {f7 : Addr} {od7 an7 : Option Addr} {sl7 : Array (Option Value)} {oc7 kV7 dc7 pm7 cd7 ct7 : Value}
    {f8 : Addr} {od8 an8 : Option Addr} {sl8 : Array (Option Value)} {oc8 kV8 dc8 pm8 cd8 ct8 : Value}
    {f9 : Addr} {od9 an9 : Option Addr} {sl9 : Array (Option Value)} {oc9 kV9 dc9 pm9 cd9 ct9 : Value}
    {f10 : Addr} {od10 an10 : Option Addr} {sl10 : Array (Option Value)} {oc10 kV10 dc10 pm10 cd10 ct10 : Value}
    {f11 : Addr} {od11 an11 : Option Addr} {sl11 : Array (Option Value)} {oc11 kV11 dc11 pm11 cd11 ct11 : Value}
    {f12 : Addr} {od12 an12 : Option Addr} {sl12 : Array (Option Value)} {oc12 kV12 dc12 pm12 cd12 ct12 : Value}
    {f13 : Addr} {od13 an13 : Option Addr} {sl13 : Array (Option Value)} {oc13 kV13 dc13 pm13 cd13 ct13 : Value}
    {f14 : Addr} {od14 an14 : Option Addr} {sl14 : Array (Option Value)} {oc14 kV14 dc14 pm14 cd14 ct14 : Value}
    {fl c T : Addr} {odL anL : Option Addr} {slL : Array (Option Value)} {ocL kVL dcL pmL ctL : Value} {ddc : Option Addr} {vsc : Array Value} {slc : Array (Option Value)}
    {Cp K0 K1 K2 K3 K4 K5 K6 K7 K8 K9 K10 K11 : Addr} {t1 t2 t3 : Tok}
    (X : K.In h) (G : h.Ns mainGlobals mg) (hfa : mg "law" = some (.ref fa)) (own : LamX.OwnTab K fa h)
    (a0 : PySem.W.nsIn K mainGlobals "is_whole" = some (some (.ref f0))) (l0 : K.lookup f0 = some ⟨oc0, od0, .func (PySem.W.fnOf "is_whole" "is_whole" (defArgs sWhole) (defBody sWhole) (defScope sWhole) .none kV0 dc0 pm0 an0 cd0 ct0), sl0⟩) (c0 : PySem.W.codeIn K cd0 "is_whole" = true) (k0 : PySem.W.keepIn K (.ref f0) = true)
    (a1 : PySem.W.nsIn K mainGlobals "is_token" = some (some (.ref f1))) (l1 : K.lookup f1 = some ⟨oc1, od1, .func (PySem.W.fnOf "is_token" "is_token" (defArgs sIsToken) (defBody sIsToken) (defScope sIsToken) .none kV1 dc1 pm1 an1 cd1 ct1), sl1⟩) (c1 : PySem.W.codeIn K cd1 "is_token" = true) (k1 : PySem.W.keepIn K (.ref f1) = true)
    (a2 : PySem.W.nsIn K mainGlobals "check_pair" = some (some (.ref f2))) (l2 : K.lookup f2 = some ⟨oc2, od2, .func (PySem.W.fnOf "check_pair" "check_pair" (defArgs sPair) (defBody sPair) (defScope sPair) .none kV2 dc2 pm2 an2 cd2 ct2), sl2⟩) (c2 : PySem.W.codeIn K cd2 "check_pair" = true) (k2 : PySem.W.keepIn K (.ref f2) = true)
    (a3 : PySem.W.nsIn K mainGlobals "is_within" = some (some (.ref f3))) (l3 : K.lookup f3 = some ⟨oc3, od3, .func (PySem.W.fnOf "is_within" "is_within" (defArgs sWithin) (defBody sWithin) (defScope sWithin) .none kV3 dc3 pm3 an3 cd3 ct3), sl3⟩) (c3 : PySem.W.codeIn K cd3 "is_within" = true) (k3 : PySem.W.keepIn K (.ref f3) = true)
    (a4 : PySem.W.nsIn K mainGlobals "joined" = some (some (.ref f4))) (l4 : K.lookup f4 = some ⟨oc4, od4, .func (PySem.W.fnOf "joined" "joined" (defArgs sJoined) (defBody sJoined) (defScope sJoined) .none kV4 dc4 pm4 an4 cd4 ct4), sl4⟩) (c4 : PySem.W.codeIn K cd4 "joined" = true) (k4 : PySem.W.keepIn K (.ref f4) = true)
    (a5 : PySem.W.nsIn K mainGlobals "compared" = some (some (.ref f5))) (l5 : K.lookup f5 = some ⟨oc5, od5, .func (PySem.W.fnOf "compared" "compared" (defArgs sCompared) (defBody sCompared) (defScope sCompared) .none kV5 dc5 pm5 an5 cd5 ct5), sl5⟩) (c5 : PySem.W.codeIn K cd5 "compared" = true) (k5 : PySem.W.keepIn K (.ref f5) = true)
    (a6 : PySem.W.nsIn K mainGlobals "_law_begun" = some (some (.ref f6))) (l6 : K.lookup f6 = some ⟨oc6, od6, .func (PySem.W.fnOf "_law_begun" "_law_begun" (defArgs sBegun) (defBody sBegun) (defScope sBegun) .none kV6 dc6 pm6 an6 cd6 ct6), sl6⟩) (c6 : PySem.W.codeIn K cd6 "_law_begun" = true) (k6 : PySem.W.keepIn K (.ref f6) = true)
    (a7 : PySem.W.nsIn K mainGlobals "_law_take" = some (some (.ref f7))) (l7 : K.lookup f7 = some ⟨oc7, od7, .func (PySem.W.fnOf "_law_take" "_law_take" (defArgs sTake) (defBody sTake) (defScope sTake) .none kV7 dc7 pm7 an7 cd7 ct7), sl7⟩) (c7 : PySem.W.codeIn K cd7 "_law_take" = true) (k7 : PySem.W.keepIn K (.ref f7) = true)
    (a8 : PySem.W.nsIn K mainGlobals "_law_alike" = some (some (.ref f8))) (l8 : K.lookup f8 = some ⟨oc8, od8, .func (PySem.W.fnOf "_law_alike" "_law_alike" (defArgs sAlike) (defBody sAlike) (defScope sAlike) .none kV8 dc8 pm8 an8 cd8 ct8), sl8⟩) (c8 : PySem.W.codeIn K cd8 "_law_alike" = true) (k8 : PySem.W.keepIn K (.ref f8) = true)
    (a9 : PySem.W.nsIn K mainGlobals "_law_told" = some (some (.ref f9))) (l9 : K.lookup f9 = some ⟨oc9, od9, .func (PySem.W.fnOf "_law_told" "_law_told" (defArgs sTold) (defBody sTold) (defScope sTold) .none kV9 dc9 pm9 an9 cd9 ct9), sl9⟩) (c9 : PySem.W.codeIn K cd9 "_law_told" = true) (k9 : PySem.W.keepIn K (.ref f9) = true)
    (a10 : PySem.W.nsIn K mainGlobals "_law_all" = some (some (.ref f10))) (l10 : K.lookup f10 = some ⟨oc10, od10, .func (PySem.W.fnOf "_law_all" "_law_all" (defArgs sAll) (defBody sAll) (defScope sAll) .none kV10 dc10 pm10 an10 cd10 ct10), sl10⟩) (c10 : PySem.W.codeIn K cd10 "_law_all" = true) (k10 : PySem.W.keepIn K (.ref f10) = true)
    (a11 : PySem.W.nsIn K mainGlobals "_law_within" = some (some (.ref f11))) (l11 : K.lookup f11 = some ⟨oc11, od11, .func (PySem.W.fnOf "_law_within" "_law_within" (defArgs sLWithin) (defBody sLWithin) (defScope sLWithin) .none kV11 dc11 pm11 an11 cd11 ct11), sl11⟩) (c11 : PySem.W.codeIn K cd11 "_law_within" = true) (k11 : PySem.W.keepIn K (.ref f11) = true)
    (a12 : PySem.W.nsIn K mainGlobals "_law_join" = some (some (.ref f12))) (l12 : K.lookup f12 = some ⟨oc12, od12, .func (PySem.W.fnOf "_law_join" "_law_join" (defArgs sLJoin) (defBody sLJoin) (defScope sLJoin) .none kV12 dc12 pm12 an12 cd12 ct12), sl12⟩) (c12 : PySem.W.codeIn K cd12 "_law_join" = true) (k12 : PySem.W.keepIn K (.ref f12) = true)
    (a13 : PySem.W.nsIn K mainGlobals "_law_token" = some (some (.ref f13))) (l13 : K.lookup f13 = some ⟨oc13, od13, .func (PySem.W.fnOf "_law_token" "_law_token" (defArgs sLToken) (defBody sLToken) (defScope sLToken) .none kV13 dc13 pm13 an13 cd13 ct13), sl13⟩) (c13 : PySem.W.codeIn K cd13 "_law_token" = true) (k13 : PySem.W.keepIn K (.ref f13) = true)
    (a14 : PySem.W.nsIn K mainGlobals "_law_odd" = some (some (.ref f14))) (l14 : K.lookup f14 = some ⟨oc14, od14, .func (PySem.W.fnOf "_law_odd" "_law_odd" (defArgs sLOdd) (defBody sLOdd) (defScope sLOdd) .none kV14 dc14 pm14 an14 cd14 ct14), sl14⟩) (c14 : PySem.W.codeIn K cd14 "_law_odd" = true) (k14 : PySem.W.keepIn K (.ref f14) = true)
    (aL : PySem.W.nsIn K mainGlobals "law" = some (some (.ref fl))) (lL : K.lookup fl = some ⟨ocL, odL, .func (PySem.W.fnOf "law" "law" (defArgs sLaw) (defBody sLaw) (defScope sLaw) .none kVL dcL pmL anL (.ref c) ctL), slL⟩) (cL : PySem.W.codeIn K (.ref c) "law" = true) (lc : K.lookup c = some ⟨.type "code", ddc, .fields vsc, slc⟩)
    (h11 : vsc[11]? = some (.ref T)) (hvs : ∃ file tf flags tg inF text tt, vsc.getD 11 .none = .ref T ∧ vsc.getD 18 .none = .str file tf ∧ vsc.getD 7 .none = .int flags tg ∧ vsc.getD 9 .none = .bool inF ∧ vsc.getD 10 .none = .int text tt) (hcT : c ≠ T) (nT : K.lookup T = none)
    (aP : PySem.W.nsIn K mainGlobals "PortError" = some (some (.ref Cp))) (sP : PySem.W.subIn K (.ref Cp) (.type "BaseException") = some true) (hP : PySem.W.hasDictIn K Cp = true) (tP : PySem.W.typeIn K (.ref Cp) = some (.type "type"))
    (e0 : PySem.W.nsIn K mainGlobals "BadCount" = some (some (.ref K0))) (i0 : PySem.W.isClsIn K K0 = true) (t0' : PySem.W.typeIn K (.ref K0) = some (.type "type"))
    (e1 : PySem.W.nsIn K mainGlobals "BadKey" = some (some (.ref K1))) (i1 : PySem.W.isClsIn K K1 = true) (t1' : PySem.W.typeIn K (.ref K1) = some (.type "type"))
    (e2 : PySem.W.nsIn K mainGlobals "BadLogs" = some (some (.ref K2))) (i2 : PySem.W.isClsIn K K2 = true) (t2' : PySem.W.typeIn K (.ref K2) = some (.type "type"))
    (e3 : PySem.W.nsIn K mainGlobals "BadNow" = some (some (.ref K3))) (i3 : PySem.W.isClsIn K K3 = true) (t3' : PySem.W.typeIn K (.ref K3) = some (.type "type"))
    (e4 : PySem.W.nsIn K mainGlobals "BadRules" = some (some (.ref K4))) (i4 : PySem.W.isClsIn K K4 = true) (t4' : PySem.W.typeIn K (.ref K4) = some (.type "type"))
    (e5 : PySem.W.nsIn K mainGlobals "BadSite" = some (some (.ref K5))) (i5 : PySem.W.isClsIn K K5 = true) (t5' : PySem.W.typeIn K (.ref K5) = some (.type "type"))
    (e6 : PySem.W.nsIn K mainGlobals "BadText" = some (some (.ref K6))) (i6 : PySem.W.isClsIn K K6 = true) (t6' : PySem.W.typeIn K (.ref K6) = some (.type "type"))
    (e7 : PySem.W.nsIn K mainGlobals "BadToken" = some (some (.ref K7))) (i7 : PySem.W.isClsIn K K7 = true) (t7' : PySem.W.typeIn K (.ref K7) = some (.type "type"))
    (e8 : PySem.W.nsIn K mainGlobals "BadWants" = some (some (.ref K8))) (i8 : PySem.W.isClsIn K K8 = true) (t8' : PySem.W.typeIn K (.ref K8) = some (.type "type"))
    (e9 : PySem.W.nsIn K mainGlobals "BadWorth" = some (some (.ref K9))) (i9 : PySem.W.isClsIn K K9 = true) (t9' : PySem.W.typeIn K (.ref K9) = some (.type "type"))
    (e10 : PySem.W.nsIn K mainGlobals "NotYet" = some (some (.ref K10))) (i10 : PySem.W.isClsIn K K10 = true) (t10' : PySem.W.typeIn K (.ref K10) = some (.type "type"))
    (e11 : PySem.W.nsIn K mainGlobals "Stale" = some (some (.ref K11))) (i11 : PySem.W.isClsIn K K11 = true) (t11' : PySem.W.typeIn K (.ref K11) = some (.type "type"))
    (s0 : PySem.W.subIn K (.ref K7) (.ref K0) = some false) (n0 : K7 ≠ K0)
    (s1 : PySem.W.subIn K (.ref K7) (.ref K1) = some false) (n1 : K7 ≠ K1)
    (s2 : PySem.W.subIn K (.ref K7) (.ref K2) = some false) (n2 : K7 ≠ K2)
    (s3 : PySem.W.subIn K (.ref K7) (.ref K3) = some false) (n3 : K7 ≠ K3)
    (s4 : PySem.W.subIn K (.ref K7) (.ref K4) = some false) (n4 : K7 ≠ K4)
    (s5 : PySem.W.subIn K (.ref K7) (.ref K5) = some false) (n5 : K7 ≠ K5)
    (s6 : PySem.W.subIn K (.ref K7) (.ref K6) = some false) (n6 : K7 ≠ K6)
    (s7 : PySem.W.subIn K (.ref K7) (.ref K7) = some true)
    (s8 : PySem.W.subIn K (.ref K7) (.ref K8) = some false) (n8 : K7 ≠ K8)
    (s9 : PySem.W.subIn K (.ref K7) (.ref K9) = some false) (n9 : K7 ≠ K9)
    (s10 : PySem.W.subIn K (.ref K7) (.ref K10) = some false) (n10 : K7 ≠ K10)
    (s11 : PySem.W.subIn K (.ref K7) (.ref K11) = some false) (n11 : K7 ≠ K11)
    (uP : PySem.W.subIn K (.ref K7) (.ref Cp) = some true) (uV : PySem.W.subIn K (.ref K7) (.type "ValueError") = some true) (uB : PySem.W.subIn K (.ref K7) (.type "BaseException") = some true) (x7 : PySem.W.excIn K K7 [.type "ValueError", .type "Exception", .type "BaseException", .type "object"] "ValueError.__new__" = true) (kp7 : PySem.W.keepIn K (.ref K7) = true)
    (g7 : PySem.W.findIn K (.ref K7) "__getattribute__" = some (some (.builtin "BaseException.__getattribute__"))) (gk7 : PySem.W.findIn K (.ref K7) "__getattr__" = some none) (hd7 : PySem.W.hasDictIn K K7 = true) (ha7 : PySem.W.findIn K (.ref K7) "__class__" = some (some (.builtin "object.__class__")))
    (hn7 : PySem.W.specialIn K (.builtin "object.__class__") "__get__" = some (some (.builtin "getset_descriptor.__get__"))) (ht7 : PySem.W.takesIn K (.builtin "object.__class__") = some true) (hm7 : PySem.W.mroIn K K7 (.type "object") = some true)
    (m1 : PySem.W.nsIn K mainGlobals "FEWEST_SITES" = some (some (.int 2 t1))) (m2 : PySem.W.nsIn K mainGlobals "MOST_SITES" = some (some (.int 5 t2))) (m3 : PySem.W.nsIn K mainGlobals "MOST_PUTS" = some (some (.int 999 t3)))
    (z0 : PySem.W.nsIn K mainGlobals "isinstance" = some none)
    (z1 : PySem.W.nsIn K mainGlobals "bool" = some none)
    (z2 : PySem.W.nsIn K mainGlobals "int" = some none)
    (z3 : PySem.W.nsIn K mainGlobals "str" = some none)
    (z4 : PySem.W.nsIn K mainGlobals "tuple" = some none)
    (z5 : PySem.W.nsIn K mainGlobals "list" = some none)
    (z6 : PySem.W.nsIn K mainGlobals "len" = some none)
    (z7 : PySem.W.nsIn K mainGlobals "all" = some none)
    (z8 : PySem.W.nsIn K mainGlobals "max" = some none)
    (z9 : PySem.W.nsIn K mainGlobals "zip" = some none)
    (z10 : PySem.W.nsIn K mainGlobals "range" = some none)
    (z11 : PySem.W.nsIn K mainGlobals "ValueError" = some none) :
    LamX.LawAtS l w K (L2.CX l.prog w) 8 63 "_law_script" mg fa h := by
  have e := hfa.symm.trans (PySem.W.mg_of X G aL)
  cases e
  have d0 : Def K mg "is_whole" sWhole ["thing", "least", "most"] := def_mk X G a0 l0 c0 k0 fun _ _ _ _ _ _ us hl => match us, hl with | [_, _, _], _ => rfl
  have d1 : Def K mg "is_token" sIsToken ["thing"] := def_mk X G a1 l1 c1 k1 fun _ _ _ _ _ _ us hl => match us, hl with | [_], _ => rfl
  have d2 : Def K mg "check_pair" sPair ["one", "other"] := def_mk X G a2 l2 c2 k2 fun _ _ _ _ _ _ us hl => match us, hl with | [_, _], _ => rfl
  have d3 : Def K mg "is_within" sWithin ["one", "other"] := def_mk X G a3 l3 c3 k3 fun _ _ _ _ _ _ us hl => match us, hl with | [_, _], _ => rfl
  have d4 : Def K mg "joined" sJoined ["one", "other"] := def_mk X G a4 l4 c4 k4 fun _ _ _ _ _ _ us hl => match us, hl with | [_, _], _ => rfl
  have d5 : Def K mg "compared" sCompared ["one", "other"] := def_mk X G a5 l5 c5 k5 fun _ _ _ _ _ _ us hl => match us, hl with | [_, _], _ => rfl
  have d6 : Def K mg "_law_begun" sBegun ["_law_script"] := def_mk X G a6 l6 c6 k6 fun _ _ _ _ _ _ us hl => match us, hl with | [_], _ => rfl
  have d7 : Def K mg "_law_take" sTake ["_law_box", "_law_many"] := def_mk X G a7 l7 c7 k7 fun _ _ _ _ _ _ us hl => match us, hl with | [_, _], _ => rfl
  have d8 : Def K mg "_law_alike" sAlike ["_law_found", "_law_due"] := def_mk X G a8 l8 c8 k8 fun _ _ _ _ _ _ us hl => match us, hl with | [_, _], _ => rfl
  have d9 : Def K mg "_law_told" sTold ["_law_work"] := def_mk X G a9 l9 c9 k9 fun _ _ _ _ _ _ us hl => match us, hl with | [_], _ => rfl
  have d10 : Def K mg "_law_all" sAll ["_law_works", "_law_due"] := def_mk X G a10 l10 c10 k10 fun _ _ _ _ _ _ us hl => match us, hl with | [_, _], _ => rfl
  have d11 : Def K mg "_law_within" sLWithin ["_law_one", "_law_other"] := def_mk X G a11 l11 c11 k11 fun _ _ _ _ _ _ us hl => match us, hl with | [_, _], _ => rfl
  have d12 : Def K mg "_law_join" sLJoin ["_law_one", "_law_other"] := def_mk X G a12 l12 c12 k12 fun _ _ _ _ _ _ us hl => match us, hl with | [_, _], _ => rfl
  have d13 : Def K mg "_law_token" sLToken ["_law_box", "_law_many"] := def_mk X G a13 l13 c13 k13 fun _ _ _ _ _ _ us hl => match us, hl with | [_, _], _ => rfl
  have d14 : Def K mg "_law_odd" sLOdd ["_law_box", "_law_one"] := def_mk X G a14 l14 c14 k14 fun _ _ _ _ _ _ us hl => match us, hl with | [_, _], _ => rfl
  have B : Bl mg := ⟨PySem.W.mg_none_of X G z0, PySem.W.mg_none_of X G z1, PySem.W.mg_none_of X G z2, PySem.W.mg_none_of X G z3, PySem.W.mg_none_of X G z4, PySem.W.mg_none_of X G z5, PySem.W.mg_none_of X G z6, PySem.W.mg_none_of X G z7, PySem.W.mg_none_of X G z8, PySem.W.mg_none_of X G z9, PySem.W.mg_none_of X G z10⟩
  have Nm : Nums mg := ⟨⟨_, PySem.W.mg_of X G m1⟩, ⟨_, PySem.W.mg_of X G m2⟩, ⟨_, PySem.W.mg_of X G m3⟩⟩
  have hp := PySem.W.mg_of X G aP
  have Ex7 : DV.Exn K mg "BadToken" K7 := ⟨PySem.W.mg_of X G e7, x7, kp7, uB, t7'⟩
  have Kd : DV.Kinds K mg K7 7 := by
    refine ⟨⟨g7, gk7, uB, hd7, ha7, hn7, ht7, hm7⟩, ⟨Cp, hp, PySem.W.exm_ref sP hP tP uP⟩, kit_type (by decide +kernel) uV, PySem.W.mg_none_of X G z11, fun j x hx => ?_, by decide⟩
    match j, hx with
    | 0, hx => cases hx; exact ⟨K0, PySem.W.mg_of X G e0, kit_ref i0 t0' s0 (.inl n0)⟩
    | 1, hx => cases hx; exact ⟨K1, PySem.W.mg_of X G e1, kit_ref i1 t1' s1 (.inl n1)⟩
    | 2, hx => cases hx; exact ⟨K2, PySem.W.mg_of X G e2, kit_ref i2 t2' s2 (.inl n2)⟩
    | 3, hx => cases hx; exact ⟨K3, PySem.W.mg_of X G e3, kit_ref i3 t3' s3 (.inl n3)⟩
    | 4, hx => cases hx; exact ⟨K4, PySem.W.mg_of X G e4, kit_ref i4 t4' s4 (.inl n4)⟩
    | 5, hx => cases hx; exact ⟨K5, PySem.W.mg_of X G e5, kit_ref i5 t5' s5 (.inl n5)⟩
    | 6, hx => cases hx; exact ⟨K6, PySem.W.mg_of X G e6, kit_ref i6 t6' s6 (.inl n6)⟩
    | 7, hx => cases hx; exact ⟨K7, PySem.W.mg_of X G e7, kit_ref i7 t7' s7 (.inr rfl)⟩
    | 8, hx => cases hx; exact ⟨K8, PySem.W.mg_of X G e8, kit_ref i8 t8' s8 (.inl n8)⟩
    | 9, hx => cases hx; exact ⟨K9, PySem.W.mg_of X G e9, kit_ref i9 t9' s9 (.inl n9)⟩
    | 10, hx => cases hx; exact ⟨K10, PySem.W.mg_of X G e10, kit_ref i10 t10' s10 (.inl n10)⟩
    | 11, hx => cases hx; exact ⟨K11, PySem.W.mg_of X G e11, kit_ref i11 t11' s11 (.inl n11)⟩
    | j + 12, hx => exact absurd hx (by simp [kNames])
  refine ⟨PySem.W.fnOf "law" "law" (defArgs sLaw) (defBody sLaw) (defScope sLaw) .none kVL dcL pmL anL (.ref c) ctL, [(c, T)], spLaw K T, ?_, ?_, ?_, fun s u => .of_eq rfl, fun H a ns hl hb hT hS => ⟨a, ns, rfl, hT (c, T) (List.mem_singleton.mpr rfl), hS, hl, hb, fun _ => rfl⟩, fun base XB GB hTB => ?_⟩
  · intro p hp'
    simp only [List.mem_cons, List.not_mem_nil, or_false] at hp'
    subst hp'
    exact own c T _ _ _ _ _ _ lL rfl rfl lc h11
  · intro p hp'
    simp only [List.mem_cons, List.not_mem_nil, or_false] at hp'
    subst hp'
    exact nT
  · intro p hp'
    simp only [List.mem_cons, List.not_mem_nil, or_false] at hp'
    subst hp'
    obtain ⟨file, tf, flags, tg, inF, text, tt, v1, v2, v3, v4, v5⟩ := hvs
    exact ⟨_, vsc, file, tf, flags, tg, inF, text, tt, X _ _ lc, rfl, rfl, h11, v1, v2, v3, v4, v5, hcT⟩
  · have cW := c_whole (P := l.prog) (w := w) (base := base) B d0
    have cT := c_isToken B Nm cW d1
    have cP := c_pair B Ex7 cT d2
    have cWi := c_within (P := l.prog) (w := w) (base := base) B d3
    have cJ := c_joined B cP d4
    have cC := c_compared B cP cWi d5
    have cTk := c_take (P := l.prog) (w := w) (base := base) d7
    exact law_fn lL cL B ⟨c_begun B d6, cTk, c_ltoken B cTk d13, c_lodd B cTk d14, c_lwithin B d11, c_ljoin B d12, c_alike B d8 2, cJ, cC, c_all (kc := 5) (by decide) B (c_told (kc := 5) B hp d9) (c_alike B d8 1) d10⟩ (hTB (c, T) (by simp)) Kd
end K02
open PySem PySem.W PyProof.Rows
set_option maxRecDepth 100000 in
set_option maxHeartbeats 0 in
theorem PySem.Challenge.cw_causalports_k02_tokens_holds : PySem.Challenge.rw_causalports_k02_tokens.Holds := by
  w_on; o_law; k_head; (case hw => w_witness2)
  k_fill
  refine LamX.walk_ofOwn (l := PySem.Challenge.rw_causalports_k02_tokens) (n := 63) (k := 8) (x := "_law_script") (CX := fun w => L2.CX PySem.Challenge.rw_causalports_k02_tokens.prog w) rfl (by decide) rfl ⟨rfl, by decide, by decide⟩ (by decide +kernel) (fun w h Y => PySem.W.km_in_of Y) ?F (fun _ _ _ _ _ ⟨_, _, _, _, _, _, _, _, _, _, _, _, z⟩ => z)
  case F =>
    intro w mg fa h Y KX G hmg own
    refine' K02.all_mk KX G hmg own ?a0 ?l0 ?c0 ?k0 ?a1 ?l1 ?c1 ?k1 ?a2 ?l2 ?c2 ?k2 ?a3 ?l3 ?c3 ?k3 ?a4 ?l4 ?c4 ?k4 ?a5 ?l5 ?c5 ?k5 ?a6 ?l6 ?c6 ?k6 ?a7 ?l7 ?c7 ?k7 ?a8 ?l8 ?c8 ?k8 ?a9 ?l9 ?c9 ?k9 ?a10 ?l10 ?c10 ?k10 ?a11 ?l11 ?c11 ?k11 ?a12 ?l12 ?c12 ?k12 ?a13 ?l13 ?c13 ?k13 ?a14 ?l14 ?c14 ?k14 ?aL ?lL ?cL ?lc ?h11 ?hvs ?hcT ?nT ?aP ?sP ?hP ?tP ?e0 ?i0 ?t0' ?e1 ?i1 ?t1' ?e2 ?i2 ?t2' ?e3 ?i3 ?t3' ?e4 ?i4 ?t4' ?e5 ?i5 ?t5' ?e6 ?i6 ?t6' ?e7 ?i7 ?t7' ?e8 ?i8 ?t8' ?e9 ?i9 ?t9' ?e10 ?i10 ?t10' ?e11 ?i11 ?t11' ?s0 ?n0 ?s1 ?n1 ?s2 ?n2 ?s3 ?n3 ?s4 ?n4 ?s5 ?n5 ?s6 ?n6 ?s7 ?s8 ?n8 ?s9 ?n9 ?s10 ?n10 ?s11 ?n11 ?uP ?uV ?uB ?x7 ?kp7 ?g7 ?gk7 ?hd7 ?ha7 ?hn7 ?ht7 ?hm7 ?m1 ?m2 ?m3 ?z0 ?z1 ?z2 ?z3 ?z4 ?z5 ?z6 ?z7 ?z8 ?z9 ?z10 ?z11
    (case a0 => k_is); (case l0 => k_is); (case c0 => k_is); (case k0 => k_is); (case a1 => k_is); (case l1 => k_is); (case c1 => k_is); (case k1 => k_is)
    (case a2 => k_is); (case l2 => k_is); (case c2 => k_is); (case k2 => k_is); (case a3 => k_is); (case l3 => k_is); (case c3 => k_is); (case k3 => k_is)
    (case a4 => k_is); (case l4 => k_is); (case c4 => k_is); (case k4 => k_is); (case a5 => k_is); (case l5 => k_is); (case c5 => k_is); (case k5 => k_is)
    (case a6 => k_is); (case l6 => k_is); (case c6 => k_is); (case k6 => k_is); (case a7 => k_is); (case l7 => k_is); (case c7 => k_is); (case k7 => k_is)
    (case a8 => k_is); (case l8 => k_is); (case c8 => k_is); (case k8 => k_is); (case a9 => k_is); (case l9 => k_is); (case c9 => k_is); (case k9 => k_is)
    (case a10 => k_is); (case l10 => k_is); (case c10 => k_is); (case k10 => k_is); (case a11 => k_is); (case l11 => k_is); (case c11 => k_is); (case k11 => k_is)
    (case a12 => k_is); (case l12 => k_is); (case c12 => k_is); (case k12 => k_is); (case a13 => k_is); (case l13 => k_is); (case c13 => k_is); (case k13 => k_is)
    (case a14 => k_is); (case l14 => k_is); (case c14 => k_is); (case k14 => k_is); (case aL => k_is); (case lL => k_is); (case cL => k_is); (case lc => k_is)
    (case h11 => rfl); (case hvs => exact ⟨_, _, _, _, _, _, _, rfl, rfl, rfl, rfl, rfl⟩); (case hcT => decide); (case nT => exact DV.no_tab Y (by decide +kernel)); (case aP => k_is); (case sP => k_is); (case hP => k_is); (case tP => k_is)
    (case e0 => k_is); (case i0 => k_is); (case t0' => k_is); (case e1 => k_is); (case i1 => k_is); (case t1' => k_is); (case e2 => k_is); (case i2 => k_is)
    (case t2' => k_is); (case e3 => k_is); (case i3 => k_is); (case t3' => k_is); (case e4 => k_is); (case i4 => k_is); (case t4' => k_is); (case e5 => k_is)
    (case i5 => k_is); (case t5' => k_is); (case e6 => k_is); (case i6 => k_is); (case t6' => k_is); (case e7 => k_is); (case i7 => k_is); (case t7' => k_is)
    (case e8 => k_is); (case i8 => k_is); (case t8' => k_is); (case e9 => k_is); (case i9 => k_is); (case t9' => k_is); (case e10 => k_is); (case i10 => k_is)
    (case t10' => k_is); (case e11 => k_is); (case i11 => k_is); (case t11' => k_is); (case s0 => k_is); (case n0 => decide); (case s1 => k_is); (case n1 => decide)
    (case s2 => k_is); (case n2 => decide); (case s3 => k_is); (case n3 => decide); (case s4 => k_is); (case n4 => decide); (case s5 => k_is); (case n5 => decide)
    (case s6 => k_is); (case n6 => decide); (case s7 => k_is); (case s8 => k_is); (case n8 => decide); (case s9 => k_is); (case n9 => decide); (case s10 => k_is)
    (case n10 => decide); (case s11 => k_is); (case n11 => decide); (case uP => k_is); (case uV => k_is); (case uB => k_is); (case x7 => k_exc); (case kp7 => k_is)
    (case g7 => k_is); (case gk7 => k_is); (case hd7 => k_is); (case ha7 => k_is); (case hn7 => k_is); (case ht7 => k_is); (case hm7 => k_is); (case m1 => k_is)
    (case m2 => k_is); (case m3 => k_is); (case z0 => k_is); (case z1 => k_is); (case z2 => k_is); (case z3 => k_is); (case z4 => k_is); (case z5 => k_is)
    (case z6 => k_is); (case z7 => k_is); (case z8 => k_is); (case z9 => k_is); (case z10 => k_is); (case z11 => k_is)
