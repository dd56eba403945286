import PyProof.Rows.All
import Wide.All
import OpenK.AllK
import Wide.FinOn
import HandS.Evl
import HandS.Comp
import HandS.Iter
import HandS.Walk
import HandS.Lambda
import HandS.Nested
import HandS.ExcOwn
import HandS.ExcIs
import HandS.TryOnly
import HandS.TupAny
import HandS.IsInst
import HandS.Conv
import HandS.Zip
import HandS.Words
import HandS.WordsExc
import HandS.Small
import HandS.FStr
import PyProof.FitsInt
import HandS.Wide
import HandS.WideBits
import HandS.EndOwn
import HandS.SetFor
import HandS.Dict
import KE.DataMinMax
import KE.DataMinKey
import KE.SortData
import KE.SortKeyHeap
import HandS.SortKw
import HandS.More
import HandS.CallLocal
import HandS.Text
import HandS.StrMore
import HandS.Star
import KE.KUnpackStar
import KE.KIntText
import HandS.Codes
import HandS.TupMul
import PySem.Challenge.RW_causalports_k14_tokens_and_logs_written
set_option Elab.async false
set_option linter.all false
set_option maxRecDepth 100000
set_option maxHeartbeats 8000000
namespace DV
open PySem PySem.Spec L2 Evl
open PyProof.Rows hiding St
/-! ### readings that say just what the code does -/
def wE (X : Cx) (e : Expr) : TE := fun σ H Q => ∀ pins s, Inv X pins σ H s → wpAny (model X.prog X.w) X.A (eval e X.env) (EP X pins σ Q) X.xe s
def wT (X : Cx) (e : Expr) : TT := fun σ H Q => ∀ pins s, Inv X pins σ H s → wpAny (model X.prog X.w) X.A (isTrue e X.env (eval e X.env)) (TP X pins σ Q) X.xe s
def wA (X : Cx) (es : List Expr) : TA := fun σ H Q => ∀ pos pins s, Inv X pins σ H s → wpAny (model X.prog X.w) X.A (spliced (backTo pos (starEach es X.env))) (AP X pins σ Q) X.xe s
def wS (X : Cx) (st : Stmt) : TS := fun D σ H => ∀ pins s, Inv X pins σ H s → wpAny (model X.prog X.w) X.A (exec st X.env) (SP X pins D) X.xe s
def wB (X : Cx) (st : List Stmt) : TS := fun D σ H => ∀ pins s, Inv X pins σ H s → wpAny (model X.prog X.w) X.A (execs st X.env) (SP X pins D) X.xe s
section
variable {X : Cx} {e : Expr} {es : List Expr} {st : Stmt} {sts : List Stmt} {σ : St} {H : Hp} {Q : VK} {D : Ends}
theorem pe_w : PE X e (wE X e) := ⟨fun pins s _ _ _ I h => h pins s I⟩
theorem pt_w : PT X e (wT X e) := ⟨fun pins s _ _ _ I h => h pins s I⟩
theorem pa_w : PA X es (wA X es) := ⟨fun pos pins s _ _ _ I h => h pos pins s I⟩
theorem ps_w : PS X st (wS X st) := ⟨fun pins s _ _ _ I h => h pins s I⟩
theorem pss_w : PSs X sts (wB X sts) := ⟨fun pins s _ _ _ I h => h pins s I⟩
theorem wE_of {t : TE} (p : PE X e t) (h : t σ H Q) : wE X e σ H Q := fun pins s I => p.run pins s σ H Q I h
theorem wT_of {t : TT} {Q : Bool → Hp → Prop} (p : PT X e t) (h : t σ H Q) : wT X e σ H Q := fun pins s I => p.run pins s σ H Q I h
theorem wA_of {t : TA} {Q : List V → Hp → Prop} (p : PA X es t) (h : t σ H Q) : wA X es σ H Q := fun pos pins s I => p.run pos pins s σ H Q I h
theorem wS_of {t : TS} (p : PS X st t) (h : t D σ H) : wS X st D σ H := fun pins s I => p.run pins s σ H D I h
theorem wB_of {t : TS} (p : PSs X sts t) (h : t D σ H) : wB X sts D σ H := fun pins s I => p.run pins s σ H D I h
end
/-! ### the heap without what may change -/
def cut (M : List Addr) (H : Hp) : Hp := fun a => if a ∈ M then none else H a
theorem cut_in {M : List Addr} {H : Hp} {a : Addr} (h : a ∈ M) : cut M H a = none := if_pos h
theorem cut_out {M : List Addr} {H : Hp} {a : Addr} (h : a ∉ M) : cut M H a = H a := if_neg h
theorem cut_some {M : List Addr} {H : Hp} {a : Addr} {o : HO} (h : cut M H a = some o) : a ∉ M ∧ H a = some o := by
  by_cases q : a ∈ M
  · rw [cut_in q] at h; cases h
  · rw [cut_out q] at h; exact ⟨q, h⟩
theorem ex_cut {M : List Addr} {H : Hp} : Ex (cut M H) H := fun _ _ h => (cut_some h).2
theorem exCut {M : List Addr} {H H' : Hp} (e : Ex H H') : Ex (cut M H) (cut M H') := fun a o h => by
  obtain ⟨n, h'⟩ := cut_some h
  rw [cut_out n]
  exact e a o h'
theorem cut_nil {H : Hp} : cut [] H = H := by
  funext a
  exact cut_out (by simp)
theorem cut_upd {M : List Addr} {H : Hp} {p : Addr} {o : HO} (h : p ∉ M) : cut M (upd H p o) p = some o := by rw [cut_out h, upd_same]
/-! ### data: as the layer's, but a list is one of the call's own -/
mutual
inductive Dv (K : PySem.W.Frag) (H : Hp) : V → PyData → Prop
  | non : Dv K H .non .none
  | bl (b : Bool) : Dv K H (.bl b) (.bool b)
  | int (i : Int) : Dv K H (.int i) (.int i)
  | str (x : Str) : Dv K H (.str x) (.str x)
  | lst {a : Addr} {xs : List V} {ds : List PyData} : H a = some (.lst xs) → DvAll K H xs ds → Dv K H (.ref a) (.list ds)
  | tup {a : Addr} {xs : List V} {ds : List PyData} : SqT K H a xs → DvAll K H xs ds → Dv K H (.ref a) (.tuple ds)
inductive DvAll (K : PySem.W.Frag) (H : Hp) : List V → List PyData → Prop
  | nil : DvAll K H [] []
  | cons {v : V} {vs : List V} {d : PyData} {ds : List PyData} : Dv K H v d → DvAll K H vs ds → DvAll K H (v :: vs) (d :: ds)
end
mutual
theorem dv_dp {K : PySem.W.Frag} {H : Hp} : ∀ (d : PyData) (v : V), Dv K H v d → Dp K H v d
  | .none, _, h => by cases h; exact .non
  | .bool b, _, h => by cases h; exact .bl b
  | .int i, _, h => by cases h; exact .int i
  | .str x, _, h => by cases h; exact .str x
  | .list ds, _, h => by cases h with | lst hs ha => exact .lst (sq_of hs) (dva_dp ds _ ha)
  | .tuple ds, _, h => by cases h with | tup hs ha => exact .tup hs (dva_dp ds _ ha)
  | .dict _, _, h => by cases h
theorem dva_dp {K : PySem.W.Frag} {H : Hp} : ∀ (ds : List PyData) (vs : List V), DvAll K H vs ds → DpAll K H vs ds
  | [], _, h => by cases h; exact .nil
  | d :: ds, _, h => by cases h with | cons h1 h2 => exact .cons (dv_dp d _ h1) (dva_dp ds _ h2)
end
/-! ### data stays -/
mutual
theorem dp_ex {K : PySem.W.Frag} {H H' : Hp} (e : Ex H H') : ∀ (d : PyData) (v : V), Dv K H v d → Dv K H' v d
  | .none, _, h => by cases h; exact .non
  | .bool b, _, h => by cases h; exact .bl b
  | .int i, _, h => by cases h; exact .int i
  | .str x, _, h => by cases h; exact .str x
  | .list ds, _, h => by cases h with | lst hs ha => exact .lst (e _ _ hs) (dpa_ex e ds _ ha)
  | .tuple ds, _, h => by cases h with | tup hs ha => exact .tup (ex_t e hs) (dpa_ex e ds _ ha)
  | .dict _, _, h => by cases h
theorem dpa_ex {K : PySem.W.Frag} {H H' : Hp} (e : Ex H H') : ∀ (ds : List PyData) (vs : List V), DvAll K H vs ds → DvAll K H' vs ds
  | [], _, h => by cases h; exact .nil
  | d :: ds, _, h => by cases h with | cons h1 h2 => exact .cons (dp_ex e d _ h1) (dpa_ex e ds _ h2)
end
theorem dpa_length {K : PySem.W.Frag} {H : Hp} : ∀ {vs : List V} {ds : List PyData}, DvAll K H vs ds → vs.length = ds.length
  | _, [], .nil => rfl
  | _, _ :: _, .cons _ t => by rw [List.length_cons, List.length_cons, dpa_length t]
theorem dpa_get {K : PySem.W.Frag} {H : Hp} : ∀ {vs : List V} {ds : List PyData} {i : Nat} {v : V}, DvAll K H vs ds → vs[i]? = some v → ∃ d, ds[i]? = some d ∧ Dv K H v d
  | _, [], i, v, .nil, h => by simp at h
  | _, d :: _, 0, v, .cons r _, h => by
    have h : some _ = some v := h
    cases h
    exact ⟨d, rfl, r⟩
  | _, _ :: _, i + 1, v, .cons _ t, h => dpa_get (i := i) t (by simpa using h)
theorem dpa_get' {K : PySem.W.Frag} {H : Hp} : ∀ {vs : List V} {ds : List PyData} {i : Nat} {d : PyData}, DvAll K H vs ds → ds[i]? = some d → ∃ v, vs[i]? = some v ∧ Dv K H v d
  | _, [], i, d, .nil, h => by simp at h
  | v :: _, _ :: _, 0, d, .cons r _, h => by
    have h : some _ = some d := h
    cases h
    exact ⟨v, rfl, r⟩
  | _ :: _, _ :: _, i + 1, d, .cons _ t, h => dpa_get' (i := i) t (by simpa using h)
theorem dpa_app {K : PySem.W.Frag} {H : Hp} : ∀ {vs us : List V} {ds es : List PyData}, DvAll K H vs ds → DvAll K H us es → DvAll K H (vs ++ us) (ds ++ es)
  | _, _, [], _, .nil, h => h
  | _, _, _ :: _, _, .cons r t, h => .cons r (dpa_app t h)
theorem dpa_take {K : PySem.W.Frag} {H : Hp} : ∀ (n : Nat) {vs : List V} {ds : List PyData}, DvAll K H vs ds → DvAll K H (vs.take n) (ds.take n)
  | 0, _, _, _ => .nil
  | _ + 1, _, [], .nil => .nil
  | n + 1, _, _ :: _, .cons r t => .cons r (dpa_take n t)
theorem dpa_drop {K : PySem.W.Frag} {H : Hp} : ∀ (n : Nat) {vs : List V} {ds : List PyData}, DvAll K H vs ds → DvAll K H (vs.drop n) (ds.drop n)
  | 0, _, _, h => h
  | _ + 1, _, [], .nil => .nil
  | n + 1, _, _ :: _, .cons _ t => dpa_drop n t
theorem dpa_ints {K : PySem.W.Frag} {H : Hp} : ∀ {vs : List V} {ns : List Int}, DvAll K H vs (ns.map .int) → vs = ns.map V.int
  | _, [], h => by cases h; rfl
  | _, n :: ns, h => by
    cases h with
    | cons r t =>
      cases r
      rw [dpa_ints t]
      rfl
theorem dpa_of_ints {K : PySem.W.Frag} {H : Hp} : ∀ (ns : List Int), DvAll K H (ns.map V.int) (ns.map .int)
  | [] => .nil
  | n :: ns => .cons (.int n) (dpa_of_ints ns)
theorem dpa_bools {K : PySem.W.Frag} {H : Hp} : ∀ {vs : List V} {ns : List Bool}, DvAll K H vs (ns.map .bool) → vs = ns.map V.bl
  | _, [], h => by cases h; rfl
  | _, n :: ns, h => by
    cases h with
    | cons r t =>
      cases r
      rw [dpa_bools t]
      rfl
/-! ### what a slot holds -/
/-- nothing known; just this value; a datum -/
inductive Sl where
  | any | raw (v : V) | dat (d : PyData)
def Sv (K : PySem.W.Frag) (H : Hp) : Sl → V → Prop
  | .any, _ => True
  | .raw w, v => v = w
  | .dat d, v => Dv K H v d
def So (K : PySem.W.Frag) (H : Hp) : Sl → Option V → Prop
  | .any, _ => True
  | .raw w, o => o = some w
  | .dat d, o => ∃ v, o = some v ∧ Dv K H v d
theorem Sv.ex {K : PySem.W.Frag} {H H' : Hp} {r : Sl} {v : V} (h : Sv K H r v) (e : Ex H H') : Sv K H' r v := by
  cases r with
  | any => trivial
  | raw w => exact h
  | dat d => exact dp_ex e d v h
theorem So.ex {K : PySem.W.Frag} {H H' : Hp} {r : Sl} {o : Option V} (h : So K H r o) (e : Ex H H') : So K H' r o := by
  cases r with
  | any => trivial
  | raw w => exact h
  | dat d =>
    obtain ⟨v, a, b⟩ := h
    exact ⟨v, a, dp_ex e d v b⟩
theorem So.of {K : PySem.W.Frag} {H : Hp} {r : Sl} {v : V} (h : Sv K H r v) : So K H r (some v) := by
  cases r with
  | any => trivial
  | raw w => exact congrArg some h
  | dat d => exact ⟨v, rfl, h⟩
def Slots (K : PySem.W.Frag) (H : Hp) : St → List Sl → Prop
  | [], [] => True
  | o :: σ, r :: ρ => So K H r o ∧ Slots K H σ ρ
  | _, _ => False
theorem Slots.ex {K : PySem.W.Frag} {H H' : Hp} (e : Ex H H') : ∀ {σ : St} {ρ : List Sl}, Slots K H σ ρ → Slots K H' σ ρ
  | [], [], _ => trivial
  | _ :: _, _ :: _, ⟨a, b⟩ => ⟨a.ex e, Slots.ex e b⟩
  | [], _ :: _, h => h.elim
  | _ :: _, [], h => h.elim
theorem Slots.get {K : PySem.W.Frag} {H : Hp} : ∀ {σ : St} {ρ : List Sl} {i : Nat} {r : Sl}, Slots K H σ ρ → ρ[i]? = some r → ∃ o, σ[i]? = some o ∧ So K H r o
  | [], [], _, _, _, h => by simp at h
  | o :: _, r :: _, 0, _, ⟨a, _⟩, h => by
    have h : some _ = some _ := h
    cases h
    exact ⟨o, rfl, a⟩
  | _ :: _, _ :: _, i + 1, _, ⟨_, b⟩, h => Slots.get (i := i) b (by simpa using h)
  | [], _ :: _, _, _, h, _ => h.elim
  | _ :: _, [], _, _, h, _ => h.elim
theorem Slots.set {K : PySem.W.Frag} {H : Hp} {r : Sl} {v : V} (h : Sv K H r v) : ∀ {σ : St} {ρ : List Sl} (i : Nat), Slots K H σ ρ → Slots K H (σ.set i (some v)) (ρ.set i r)
  | [], [], _, _ => trivial
  | _ :: _, _ :: _, 0, ⟨_, b⟩ => ⟨.of h, b⟩
  | _ :: _, _ :: _, i + 1, ⟨a, b⟩ => ⟨a, Slots.set h i b⟩
  | [], _ :: _, _, q => q.elim
  | _ :: _, [], _, q => q.elim
theorem Slots.unset {K : PySem.W.Frag} {H : Hp} {o : Option V} : ∀ {σ : St} {ρ : List Sl} (i : Nat), Slots K H σ ρ → Slots K H (σ.set i o) (ρ.set i .any)
  | [], [], _, _ => trivial
  | _ :: _, _ :: _, 0, ⟨_, b⟩ => ⟨trivial, b⟩
  | _ :: _, _ :: _, i + 1, ⟨a, b⟩ => ⟨a, Slots.unset i b⟩
  | [], _ :: _, _, q => q.elim
  | _ :: _, [], _, q => q.elim
theorem Slots.len {K : PySem.W.Frag} {H : Hp} : ∀ {σ : St} {ρ : List Sl}, Slots K H σ ρ → σ.length = ρ.length
  | [], [], _ => rfl
  | _ :: _, _ :: _, ⟨_, b⟩ => by rw [List.length_cons, List.length_cons, Slots.len b]
  | [], _ :: _, h => h.elim
  | _ :: _, [], h => h.elim
/-- a def's slots at its start -/
def ini (N : List Str) (rs : List Sl) : List Sl := rs ++ List.replicate (N.length - rs.length) .any
def SvAll (K : PySem.W.Frag) (H : Hp) : List Sl → List V → Prop
  | [], [] => True
  | r :: rs, v :: vs => Sv K H r v ∧ SvAll K H rs vs
  | _, _ => False
theorem SvAll.ex {K : PySem.W.Frag} {H H' : Hp} (e : Ex H H') : ∀ {rs : List Sl} {vs : List V}, SvAll K H rs vs → SvAll K H' rs vs
  | [], [], _ => trivial
  | _ :: _, _ :: _, ⟨a, b⟩ => ⟨a.ex e, SvAll.ex e b⟩
  | [], _ :: _, h => h.elim
  | _ :: _, [], h => h.elim
theorem SvAll.len {K : PySem.W.Frag} {H : Hp} : ∀ {rs : List Sl} {vs : List V}, SvAll K H rs vs → vs.length = rs.length
  | [], [], _ => rfl
  | _ :: _, _ :: _, ⟨_, b⟩ => by rw [List.length_cons, List.length_cons, SvAll.len b]
  | [], _ :: _, h => h.elim
  | _ :: _, [], h => h.elim
theorem slots_rep {K : PySem.W.Frag} {H : Hp} : ∀ n : Nat, Slots K H (List.replicate n none) (List.replicate n .any)
  | 0 => trivial
  | n + 1 => ⟨trivial, slots_rep n⟩
theorem slots_app {K : PySem.W.Frag} {H : Hp} {σ2 : St} {ρ2 : List Sl} (h2 : Slots K H σ2 ρ2) : ∀ {vs : List V} {rs : List Sl}, SvAll K H rs vs → Slots K H (vs.map some ++ σ2) (rs ++ ρ2)
  | [], [], _ => h2
  | _ :: _, _ :: _, ⟨a, b⟩ => ⟨.of a, slots_app h2 b⟩
  | [], _ :: _, h => h.elim
  | _ :: _, [], h => h.elim
theorem slots_ini {K : PySem.W.Frag} {H : Hp} {N : List Str} {rs : List Sl} {vs : List V} (h : SvAll K H rs vs) : Slots K H (L2.start N vs) (ini N rs) := by
  unfold L2.start ini
  rw [h.len]
  exact slots_app (slots_rep _) h
/-! ### the state that goes through -/
/-- M: what may change -/
structure Rg {S : Type} (M : List Addr) (R : S → Hp → Prop) : Prop where
  up : ∀ {s : S} {H H' : Hp}, R s H → Ex H H' → R s H'
  dom : ∀ {s : S} {H : Hp} {a : Addr}, R s H → a ∈ M → ∃ o, H a = some o
theorem Rg.fresh {S : Type} {M : List Addr} {R : S → Hp → Prop} {s : S} {H : Hp} {p : Addr} (g : Rg M R) (h : R s H) (n : H p = none) : p ∉ M := fun m => by
  obtain ⟨o, e⟩ := g.dom h m
  rw [n] at e
  cases e
/-- an expression's worth and the state behind it -/
def Ev1 {S : Type} (X : Cx) (M : List Addr) (R : S → Hp → Prop) (ρ : List Sl) (e : Expr) (s : S) (r : Sl) (s' : S) : Prop :=
  ∀ σ H Q, Slots X.K (cut M H) σ ρ → R s H → (∀ v H2, Ex (cut M H) (cut M H2) → R s' H2 → Sv X.K (cut M H2) r v → Q v H2) → wE X e σ H Q
def EvT1 {S : Type} (X : Cx) (M : List Addr) (R : S → Hp → Prop) (ρ : List Sl) (e : Expr) (s : S) (b : Bool) (s' : S) : Prop :=
  ∀ σ H (Q : Bool → Hp → Prop), Slots X.K (cut M H) σ ρ → R s H → (∀ H2, Ex (cut M H) (cut M H2) → R s' H2 → Q b H2) → wT X e σ H Q
def EvA1 {S : Type} (X : Cx) (M : List Addr) (R : S → Hp → Prop) (ρ : List Sl) (es : List Expr) (s : S) (rs : List Sl) (s' : S) : Prop :=
  ∀ σ H (Q : List V → Hp → Prop), Slots X.K (cut M H) σ ρ → R s H → (∀ vs H2, Ex (cut M H) (cut M H2) → R s' H2 → SvAll X.K (cut M H2) rs vs → Q vs H2) → wA X es σ H Q
def St1 {S : Type} (X : Cx) (M : List Addr) (R : S → Hp → Prop) (ρ : List Sl) (sts : List Stmt) (s : S) (D : Ends) : Prop :=
  ∀ σ H, Slots X.K (cut M H) σ ρ → R s H → wB X sts D σ H
section
variable {S : Type} {X : Cx} {M : List Addr} {R : S → Hp → Prop} {ρ : List Sl} {s s1 s2 s3 : S} {a b c : Expr} {pos : Pos}
theorem exId (H : Hp) : Ex H H := fun _ _ h => h
/-! names and constants -/
theorem e_var (i : Nat) {x : Str} {r : Sl} (hr : ρ[i]? = some r) (hne : r ≠ .any) (hN : X.N[i]? = some x) (hv : Vis X.env.scope x) (hd : (x == ("__debug__" : Str)) = false := by decide)
    (hcd : (x == ("__classdict__" : Str)) = false := by decide) : Ev1 X M R ρ (.Name x pos) s r s := by
  intro σ H Q hσ hR q
  obtain ⟨o, h1, h2⟩ := hσ.get hr
  refine wE_of (pe_var (i := i) hN hv hd hcd) ?_
  cases r with
  | any => exact absurd rfl hne
  | raw w =>
    have h2 : o = some w := h2
    subst h2
    exact ⟨w, h1, q w H (exId _) hR rfl⟩
  | dat d =>
    obtain ⟨v, e, h⟩ := h2
    subst e
    exact ⟨v, h1, q v H (exId _) hR h⟩
theorem e_int {i : Int} {j} : Ev1 X M R ρ (.Constant (.int i) j pos) s (.dat (.int i)) s := fun σ H Q _ hR q => wE_of pe_int (q _ H (exId _) hR (.int i))
theorem e_bl {i : Bool} {j} : Ev1 X M R ρ (.Constant (.bool i) j pos) s (.dat (.bool i)) s := fun σ H Q _ hR q => wE_of pe_bl (q _ H (exId _) hR (.bl i))
theorem e_non {j} : Ev1 X M R ρ (.Constant .none j pos) s (.dat .none) s := fun σ H Q _ hR q => wE_of pe_non (q _ H (exId _) hR .non)
theorem e_str {z : Str} {j} : Ev1 X M R ρ (.Constant (.str z) j pos) s (.dat (.str z)) s := fun σ H Q _ hR q => wE_of pe_str (q _ H (exId _) hR (.str z))
theorem e_glob {x : Str} {v : V} {u : Value} {r : Sl} (hg : Gl X x) (hm : X.mg x = some u) (rv : RelV v u) (hr : ∀ H, Sv X.K H r v) (hd : (x == ("__debug__" : Str)) = false := by decide) : Ev1 X M R ρ (.Name x pos) s r s :=
  fun σ H Q _ hR q => wE_of (pe_glob hg hm rv hd) (q _ H (exId _) hR (hr _))
theorem e_bltn {x : Str} {v : V} {u : Value} (hg : Gl X x) (hm : X.mg x = none) (hv : bootBuiltins x = some u) (rv : RelV v u) (hn : x ≠ "__name__" := by decide) (hd : (x == ("__debug__" : Str)) = false := by decide) :
    Ev1 X M R ρ (.Name x pos) s (.raw v) s := fun σ H Q _ hR q => wE_of (pe_bltn hg hm hv rv hn hd) (q _ H (exId _) hR rfl)
/-! two-place operations -/
theorem e_op {op : Operator} {r : R2} {ra rb rc : Sl} (ho : OpR X (binaryOp op) r) (ha : Ev1 X M R ρ a s ra s1) (hb : Ev1 X M R ρ b s1 rb s2)
    (hr : ∀ x y H (Q : VK), Sv X.K (cut M H) ra x → Sv X.K (cut M H) rb y → R s2 H → (∀ v H2, Ex (cut M H) (cut M H2) → R s3 H2 → Sv X.K (cut M H2) rc v → Q v H2) → r x y H Q) : Ev1 X M R ρ (.BinOp a op b pos) s rc s3 := by
  intro σ H Q hσ hR q
  refine wE_of (pe_op ho pe_w pe_w) ?_
  refine ha σ H _ hσ hR fun x H1 e1 R1 d1 => ?_
  refine hb σ H1 _ (hσ.ex e1) R1 fun y H2 e2 R2 d2 => ?_
  exact hr x y H2 Q (d1.ex e2) d2 R2 fun v H3 e3 R3 d3 => q v H3 (e1.trans (e2.trans e3)) R3 d3
theorem e_opI {op : Operator} {C : Int → Int → Prop} {g : Int → Int → Int} {i j : Int} (ho : OpR X (binaryOp op) (rI C fun i j => .int (g i j))) (hc : C i j) (ha : Ev1 X M R ρ a s (.dat (.int i)) s1) (hb : Ev1 X M R ρ b s1 (.dat (.int j)) s2) :
    Ev1 X M R ρ (.BinOp a op b pos) s (.dat (.int (g i j))) s2 := e_op ho ha hb fun x y H Q dx dy hR q => by
  cases dx
  cases dy
  exact ⟨i, j, rfl, rfl, hc, q _ H (exId _) hR (.int _)⟩
theorem e_opI0 {op : Operator} {g : Int → Int → Int} {i j : Int} (ho : OpR X (binaryOp op) (rI0 fun i j => .int (g i j))) (ha : Ev1 X M R ρ a s (.dat (.int i)) s1) (hb : Ev1 X M R ρ b s1 (.dat (.int j)) s2) :
    Ev1 X M R ρ (.BinOp a op b pos) s (.dat (.int (g i j))) s2 := e_op ho ha hb fun x y H Q dx dy hR q => by
  cases dx
  cases dy
  exact ⟨i, j, rfl, rfl, q _ H (exId _) hR (.int _)⟩
theorem e_add {i j : Int} (ha : Ev1 X M R ρ a s (.dat (.int i)) s1) (hb : Ev1 X M R ρ b s1 (.dat (.int j)) s2) : Ev1 X M R ρ (.BinOp a .Add b pos) s (.dat (.int (i + j))) s2 := e_opI0 op_add ha hb
theorem e_sub {i j : Int} (ha : Ev1 X M R ρ a s (.dat (.int i)) s1) (hb : Ev1 X M R ρ b s1 (.dat (.int j)) s2) : Ev1 X M R ρ (.BinOp a .Sub b pos) s (.dat (.int (i - j))) s2 := e_opI0 op_sub ha hb
theorem e_mod {i j : Int} (hj : 0 < j) (ha : Ev1 X M R ρ a s (.dat (.int i)) s1) (hb : Ev1 X M R ρ b s1 (.dat (.int j)) s2) : Ev1 X M R ρ (.BinOp a .Mod b pos) s (.dat (.int (i % j))) s2 := e_opI op_mod hj ha hb
/-! comparisons -/
theorem t_cmp {op : CmpOp} {r : R2} {ra rb : Sl} {k : Bool} (ho : OpR X (compareOp op) r) (ha : Ev1 X M R ρ a s ra s1) (hb : Ev1 X M R ρ b s1 rb s2)
    (hr : ∀ x y H (Q : VK), Sv X.K (cut M H) ra x → Sv X.K (cut M H) rb y → R s2 H → (∀ H2, Ex (cut M H) (cut M H2) → R s3 H2 → Q (.bl k) H2) → r x y H Q) (hm : behindInMarks op b = false) : EvT1 X M R ρ (.Compare a [op] [b] pos) s k s3 := by
  intro σ H Q hσ hR q
  refine wT_of (pt_cmpR ho pe_w pe_w hm) ?_
  refine ha σ H _ hσ hR fun x H1 e1 R1 d1 => ?_
  refine hb σ H1 _ (hσ.ex e1) R1 fun y H2 e2 R2 d2 => ?_
  exact hr x y H2 _ (d1.ex e2) d2 R2 fun H3 e3 R3 => ⟨k, rfl, q H3 (e1.trans (e2.trans e3)) R3⟩
theorem e_cmp {op : CmpOp} {r : R2} {ra rb : Sl} {k : Bool} (ho : OpR X (compareOp op) r) (ha : Ev1 X M R ρ a s ra s1) (hb : Ev1 X M R ρ b s1 rb s2)
    (hr : ∀ x y H (Q : VK), Sv X.K (cut M H) ra x → Sv X.K (cut M H) rb y → R s2 H → (∀ H2, Ex (cut M H) (cut M H2) → R s3 H2 → Q (.bl k) H2) → r x y H Q) (hm : behindInMarks op b = false) : Ev1 X M R ρ (.Compare a [op] [b] pos) s (.dat (.bool k)) s3 := by
  intro σ H Q hσ hR q
  refine wE_of (pe_cmpR ho pe_w pe_w hm) ?_
  refine ha σ H _ hσ hR fun x H1 e1 R1 d1 => ?_
  refine hb σ H1 _ (hσ.ex e1) R1 fun y H2 e2 R2 d2 => ?_
  exact hr x y H2 _ (d1.ex e2) d2 R2 fun H3 e3 R3 => q _ H3 (e1.trans (e2.trans e3)) R3 (.bl k)
end
end DV
namespace DV
open PySem PySem.Spec L2 Evl
open PyProof.Rows hiding St
/-! ### small looks at data -/
theorem sv_int {K : PySem.W.Frag} {H : Hp} {i : Int} {v : V} (h : Sv K H (.dat (.int i)) v) : v = .int i := by
  cases (show Dv K H v (.int i) from h); rfl
theorem sv_bl {K : PySem.W.Frag} {H : Hp} {i : Bool} {v : V} (h : Sv K H (.dat (.bool i)) v) : v = .bl i := by
  cases (show Dv K H v (.bool i) from h); rfl
theorem sv_str {K : PySem.W.Frag} {H : Hp} {i : Str} {v : V} (h : Sv K H (.dat (.str i)) v) : v = .str i := by
  cases (show Dv K H v (.str i) from h); rfl
theorem sv_non {K : PySem.W.Frag} {H : Hp} {v : V} (h : Sv K H (.dat .none) v) : v = .non := by
  cases (show Dv K H v .none from h); rfl
theorem sv_lst {K : PySem.W.Frag} {H : Hp} {ds : List PyData} {v : V} (h : Sv K H (.dat (.list ds)) v) : ∃ a xs, v = .ref a ∧ H a = some (.lst xs) ∧ DvAll K H xs ds := by
  cases (show Dv K H v (.list ds) from h) with
  | lst a b => exact ⟨_, _, rfl, a, b⟩
theorem sv_tup {K : PySem.W.Frag} {H : Hp} {ds : List PyData} {v : V} (h : Sv K H (.dat (.tuple ds)) v) : ∃ a xs, v = .ref a ∧ SqT K H a xs ∧ DvAll K H xs ds := by
  cases (show Dv K H v (.tuple ds) from h) with
  | tup a b => exact ⟨_, _, rfl, a, b⟩
theorem svall1 {K : PySem.W.Frag} {H : Hp} {r : Sl} {vs : List V} (h : SvAll K H [r] vs) : ∃ v, vs = [v] ∧ Sv K H r v := by
  match vs, h with
  | [v], ⟨a, _⟩ => exact ⟨v, rfl, a⟩
theorem svall2 {K : PySem.W.Frag} {H : Hp} {r r' : Sl} {vs : List V} (h : SvAll K H [r, r'] vs) : ∃ v w, vs = [v, w] ∧ Sv K H r v ∧ Sv K H r' w := by
  match vs, h with
  | [v, w], ⟨a, b, _⟩ => exact ⟨v, w, rfl, a, b⟩
theorem svall3 {K : PySem.W.Frag} {H : Hp} {r r' r2 : Sl} {vs : List V} (h : SvAll K H [r, r', r2] vs) : ∃ v w u, vs = [v, w, u] ∧ Sv K H r v ∧ Sv K H r' w ∧ Sv K H r2 u := by
  match vs, h with
  | [v, w, u], ⟨a, b, c, _⟩ => exact ⟨v, w, u, rfl, a, b, c⟩
/-- a list of data as slots -/
def dats (ds : List PyData) : List Sl := ds.map Sl.dat
theorem svall_dats {K : PySem.W.Frag} {H : Hp} : ∀ {ds : List PyData} {vs : List V}, SvAll K H (dats ds) vs → DvAll K H vs ds
  | [], [], _ => .nil
  | _ :: _, _ :: _, ⟨a, b⟩ => .cons a (svall_dats b)
  | [], _ :: _, h => h.elim
  | _ :: _, [], h => h.elim
theorem svall_of {K : PySem.W.Frag} {H : Hp} : ∀ {ds : List PyData} {vs : List V}, DvAll K H vs ds → SvAll K H (dats ds) vs
  | [], _, h => by cases h; trivial
  | d :: ds, _, h => by cases h with | cons a b => exact ⟨a, svall_of b⟩
theorem upd_sz {n : Nat} (h : n ≤ 100000) : n ≤ sizeLine := Nat.le_trans h (by decide)
section
variable {S : Type} {X : Cx} {M : List Addr} {R : S → Hp → Prop} {ρ : List Sl} {s s1 s2 s3 : S} {a b c : Expr} {es : List Expr} {pos : Pos} {rs : List Sl}
/-- a new object laid -/
theorem new_at (g : Rg M R) {H : Hp} {p : Addr} {o : HO} (hR : R s H) (n : H p = none) : Ex (cut M H) (cut M (upd H p o)) ∧ R s (upd H p o) ∧ cut M (upd H p o) p = some o :=
  have hp : p ∉ M := g.fresh hR n
  ⟨exCut (Ex.new n), g.up hR (Ex.new n), cut_upd hp⟩
theorem new_lst (g : Rg M R) {H : Hp} {p : Addr} {xs : List V} {ds : List PyData} {Q : VK} (hR : R s H) (n : H p = none) (h : DvAll X.K (cut M H) xs ds) (q : ∀ v H2, Ex (cut M H) (cut M H2) → R s H2 → Sv X.K (cut M H2) (.dat (.list ds)) v → Q v H2) : Q (.ref p) (upd H p (.lst xs)) := by
  obtain ⟨e, r, a⟩ := new_at g (o := .lst xs) hR n
  exact q _ _ e r (.lst a (dpa_ex e ds _ h))
theorem new_tup (g : Rg M R) {H : Hp} {p : Addr} {xs : List V} {ds : List PyData} {Q : VK} (hR : R s H) (n : H p = none) (h : DvAll X.K (cut M H) xs ds) (q : ∀ v H2, Ex (cut M H) (cut M H2) → R s H2 → Sv X.K (cut M H2) (.dat (.tuple ds)) v → Q v H2) : Q (.ref p) (upd H p (.tup xs)) := by
  obtain ⟨e, r, a⟩ := new_at g (o := .tup xs) hR n
  exact q _ _ e r (.tup (st_of a) (dpa_ex e ds _ h))
/-! argument lists, displays -/
theorem a_nil : EvA1 X M R ρ [] s [] s := fun σ H Q _ hR q => wA_of pa_nil (q [] H (exId _) hR trivial)
theorem a_cons {r : Sl} {e : Expr} (he : Ev1 X M R ρ e s r s1) (hr : EvA1 X M R ρ es s1 rs s2) (hs : starEach (e :: es) X.env = (false, eval e X.env) :: starEach es X.env := by rfl) : EvA1 X M R ρ (e :: es) s (r :: rs) s2 := by
  intro σ H Q hσ hR q
  refine wA_of (pa_cons pe_w pa_w hs) ?_
  refine he σ H _ hσ hR fun v H1 e1 R1 d1 => ?_
  exact hr σ H1 _ (hσ.ex e1) R1 fun vs H2 e2 R2 d2 => q (v :: vs) H2 (e1.trans e2) R2 ⟨d1.ex e2, d2⟩
theorem e_tup (g : Rg M R) {ds : List PyData} {k : Nat} (h : EvA1 X M R ρ es s (dats ds) s1) (hz : ds.length ≤ 100000) : Ev1 X M R ρ (.Tuple es k pos) s (.dat (.tuple ds)) s1 := by
  intro σ H Q hσ hR q
  refine wE_of (pe_tup pa_w) ?_
  refine h σ H _ hσ hR fun vs H1 e1 R1 d1 => ?_
  have d := svall_dats d1
  exact ⟨by rw [dpa_length d]; exact upd_sz hz, fun p n => new_tup g R1 n d fun v H2 e2 R2 d2 => q v H2 (e1.trans e2) R2 d2⟩
theorem e_lst (g : Rg M R) {ds : List PyData} (h : EvA1 X M R ρ es s (dats ds) s1) (hz : ds.length ≤ 100000) : Ev1 X M R ρ (.List es pos) s (.dat (.list ds)) s1 := by
  intro σ H Q hσ hR q
  refine wE_of (pe_lst pa_w) ?_
  refine h σ H _ hσ hR fun vs H1 e1 R1 d1 => ?_
  have d := svall_dats d1
  exact ⟨by rw [dpa_length d]; exact upd_sz hz, fun p n => new_lst g R1 n d fun v H2 e2 R2 d2 => q v H2 (e1.trans e2) R2 d2⟩
/-! == of data -/
theorem t_eqD {d1 d2 : PyData} (hu : X.A.units + 64 < cLine) (ha : Ev1 X M R ρ a s (.dat d1) s1) (hb : Ev1 X M R ρ b s1 (.dat d2) s2) (z1 : SeqAt.shaped d1 = true) (z2 : SeqAt.shaped d2 = true) : EvT1 X M R ρ (.Compare a [.Eq] [b] pos) s (PyData.eqv d1 d2) s2 :=
  t_cmp (op_eqD hu) ha hb (fun x y H Q dx dy hR q => ⟨d1, d2, dv_dp _ _ (dp_ex ex_cut _ _ dx), dv_dp _ _ (dp_ex ex_cut _ _ dy), z1, z2, q H (exId _) hR⟩) (nomark _)
theorem e_eqD {d1 d2 : PyData} (hu : X.A.units + 64 < cLine) (ha : Ev1 X M R ρ a s (.dat d1) s1) (hb : Ev1 X M R ρ b s1 (.dat d2) s2) (z1 : SeqAt.shaped d1 = true) (z2 : SeqAt.shaped d2 = true) : Ev1 X M R ρ (.Compare a [.Eq] [b] pos) s (.dat (.bool (PyData.eqv d1 d2))) s2 :=
  e_cmp (op_eqD hu) ha hb (fun x y H Q dx dy hR q => ⟨d1, d2, dv_dp _ _ (dp_ex ex_cut _ _ dx), dv_dp _ _ (dp_ex ex_cut _ _ dy), z1, z2, q H (exId _) hR⟩) (nomark _)
theorem t_neD {d1 d2 : PyData} (hu : X.A.units + 64 < cLine) (ha : Ev1 X M R ρ a s (.dat d1) s1) (hb : Ev1 X M R ρ b s1 (.dat d2) s2) (z1 : SeqAt.shaped d1 = true) (z2 : SeqAt.shaped d2 = true) : EvT1 X M R ρ (.Compare a [.NotEq] [b] pos) s (!PyData.eqv d1 d2) s2 :=
  t_cmp (op_neD hu) ha hb (fun x y H Q dx dy hR q => ⟨d1, d2, dv_dp _ _ (dp_ex ex_cut _ _ dx), dv_dp _ _ (dp_ex ex_cut _ _ dy), z1, z2, q H (exId _) hR⟩) (nomark _)
theorem e_neD {d1 d2 : PyData} (hu : X.A.units + 64 < cLine) (ha : Ev1 X M R ρ a s (.dat d1) s1) (hb : Ev1 X M R ρ b s1 (.dat d2) s2) (z1 : SeqAt.shaped d1 = true) (z2 : SeqAt.shaped d2 = true) : Ev1 X M R ρ (.Compare a [.NotEq] [b] pos) s (.dat (.bool (!PyData.eqv d1 d2))) s2 :=
  e_cmp (op_neD hu) ha hb (fun x y H Q dx dy hR q => ⟨d1, d2, dv_dp _ _ (dp_ex ex_cut _ _ dx), dv_dp _ _ (dp_ex ex_cut _ _ dy), z1, z2, q H (exId _) hR⟩) (nomark _)
/-! order of ints -/
theorem t_ord {op : CmpOp} {f : Int → Int → Bool} {i j : Int} (ho : OpR X (compareOp op) (rI0 fun i j => .bl (f i j))) (ha : Ev1 X M R ρ a s (.dat (.int i)) s1) (hb : Ev1 X M R ρ b s1 (.dat (.int j)) s2) (hm : behindInMarks op b = false := by exact nomark _) :
    EvT1 X M R ρ (.Compare a [op] [b] pos) s (f i j) s2 := t_cmp ho ha hb (fun x y H Q dx dy hR q => ⟨i, j, sv_int dx, sv_int dy, q H (exId _) hR⟩) hm
theorem e_ord {op : CmpOp} {f : Int → Int → Bool} {i j : Int} (ho : OpR X (compareOp op) (rI0 fun i j => .bl (f i j))) (ha : Ev1 X M R ρ a s (.dat (.int i)) s1) (hb : Ev1 X M R ρ b s1 (.dat (.int j)) s2) (hm : behindInMarks op b = false := by exact nomark _) :
    Ev1 X M R ρ (.Compare a [op] [b] pos) s (.dat (.bool (f i j))) s2 := e_cmp ho ha hb (fun x y H Q dx dy hR q => ⟨i, j, sv_int dx, sv_int dy, q H (exId _) hR⟩) hm
theorem e_ltI {i j : Int} (ha : Ev1 X M R ρ a s (.dat (.int i)) s1) (hb : Ev1 X M R ρ b s1 (.dat (.int j)) s2) : Ev1 X M R ρ (.Compare a [.Lt] [b] pos) s (.dat (.bool (decide (i < j)))) s2 := e_ord op_lt ha hb
theorem e_leI {i j : Int} (ha : Ev1 X M R ρ a s (.dat (.int i)) s1) (hb : Ev1 X M R ρ b s1 (.dat (.int j)) s2) : Ev1 X M R ρ (.Compare a [.LtE] [b] pos) s (.dat (.bool (decide (i ≤ j)))) s2 := e_ord op_le ha hb
theorem e_gtI {i j : Int} (ha : Ev1 X M R ρ a s (.dat (.int i)) s1) (hb : Ev1 X M R ρ b s1 (.dat (.int j)) s2) : Ev1 X M R ρ (.Compare a [.Gt] [b] pos) s (.dat (.bool (decide (j < i)))) s2 := e_ord op_gt ha hb
theorem e_geI {i j : Int} (ha : Ev1 X M R ρ a s (.dat (.int i)) s1) (hb : Ev1 X M R ρ b s1 (.dat (.int j)) s2) : Ev1 X M R ρ (.Compare a [.GtE] [b] pos) s (.dat (.bool (decide (j ≤ i)))) s2 := e_ord op_ge ha hb
theorem t_ltI {i j : Int} (ha : Ev1 X M R ρ a s (.dat (.int i)) s1) (hb : Ev1 X M R ρ b s1 (.dat (.int j)) s2) : EvT1 X M R ρ (.Compare a [.Lt] [b] pos) s (decide (i < j)) s2 := t_ord op_lt ha hb
theorem t_leI {i j : Int} (ha : Ev1 X M R ρ a s (.dat (.int i)) s1) (hb : Ev1 X M R ρ b s1 (.dat (.int j)) s2) : EvT1 X M R ρ (.Compare a [.LtE] [b] pos) s (decide (i ≤ j)) s2 := t_ord op_le ha hb
theorem t_gtI {i j : Int} (ha : Ev1 X M R ρ a s (.dat (.int i)) s1) (hb : Ev1 X M R ρ b s1 (.dat (.int j)) s2) : EvT1 X M R ρ (.Compare a [.Gt] [b] pos) s (decide (j < i)) s2 := t_ord op_gt ha hb
theorem t_geI {i j : Int} (ha : Ev1 X M R ρ a s (.dat (.int i)) s1) (hb : Ev1 X M R ρ b s1 (.dat (.int j)) s2) : EvT1 X M R ρ (.Compare a [.GtE] [b] pos) s (decide (j ≤ i)) s2 := t_ord op_ge ha hb
/-! lo <= x <= hi -/
theorem e_chain {op op' : CmpOp} {f f' : Int → Int → Bool} {i j k : Int} (ho : OpR X (compareOp op) (rI0 fun i j => .bl (f i j))) (ho' : OpR X (compareOp op') (rI0 fun i j => .bl (f' i j)))
    (ha : Ev1 X M R ρ a s (.dat (.int i)) s) (hb : Ev1 X M R ρ b s (.dat (.int j)) s) (hc : Ev1 X M R ρ c s (.dat (.int k)) s) (hm : lastMarks [op, op'] [b, c] = false := by with_unfolding_all rfl) :
    Ev1 X M R ρ (.Compare a [op, op'] [b, c] pos) s (.dat (.bool (f i j && f' j k))) s := by
  intro σ H Q hσ hR q
  refine wE_of (pe_chain ho ho' pe_w pe_w pe_w hm) ?_
  refine ha σ H _ hσ hR fun x H1 e1 R1 d1 => ?_
  refine hb σ H1 _ (hσ.ex e1) R1 fun y H2 e2 R2 d2 => ?_
  refine ⟨i, j, sv_int d1, sv_int d2, f i j, rfl, ?_⟩
  cases e : f i j with
  | false =>
    rw [if_neg Bool.false_ne_true]
    rw [e] at q
    exact q _ H2 (e1.trans e2) R2 (.bl _)
  | true =>
    rw [if_pos rfl]
    rw [e] at q
    refine hc σ H2 _ (hσ.ex (e1.trans e2)) R2 fun z H3 e3 R3 d3 => ?_
    exact ⟨j, k, sv_int d2, sv_int d3, q _ H3 (e1.trans (e2.trans e3)) R3 (.bl _)⟩
theorem t_val {e : Expr} {k : Bool} (h : Ev1 X M R ρ e s (.dat (.bool k)) s1) (he : ∀ whole, isTrue e X.env whole = (do let v ← whole; standAt e.pos; holding [v] (truthy v)) := by intro _; rfl) : EvT1 X M R ρ e s k s1 := by
  intro σ H Q hσ hR q
  refine wT_of (pt_val pe_w he) ?_
  exact h σ H _ hσ hR fun v H1 e1 R1 d1 => ⟨k, sv_bl d1, q H1 e1 R1⟩
theorem t_chain {op op' : CmpOp} {f f' : Int → Int → Bool} {i j k : Int} (ho : OpR X (compareOp op) (rI0 fun i j => .bl (f i j))) (ho' : OpR X (compareOp op') (rI0 fun i j => .bl (f' i j)))
    (ha : Ev1 X M R ρ a s (.dat (.int i)) s) (hb : Ev1 X M R ρ b s (.dat (.int j)) s) (hc : Ev1 X M R ρ c s (.dat (.int k)) s) (hm : lastMarks [op, op'] [b, c] = false := by with_unfolding_all rfl) :
    EvT1 X M R ρ (.Compare a [op, op'] [b, c] pos) s (f i j && f' j k) s := by
  intro σ H Q hσ hR q
  refine wT_of (pt_chain ho ho' pe_w pe_w pe_w hm) ?_
  refine ha σ H _ hσ hR fun x H1 e1 R1 d1 => ?_
  refine hb σ H1 _ (hσ.ex e1) R1 fun y H2 e2 R2 d2 => ?_
  refine ⟨i, j, sv_int d1, sv_int d2, f i j, rfl, ?_⟩
  cases e : f i j with
  | false =>
    rw [if_neg Bool.false_ne_true]
    rw [e] at q
    exact ⟨_, rfl, q H2 (e1.trans e2) R2⟩
  | true =>
    rw [if_pos rfl]
    rw [e] at q
    refine hc σ H2 _ (hσ.ex (e1.trans e2)) R2 fun z H3 e3 R3 d3 => ?_
    exact ⟨j, k, sv_int d2, sv_int d3, _, rfl, q H3 (e1.trans (e2.trans e3)) R3⟩
/-! not, and, or, conditional expressions -/
theorem t_not {k : Bool} (h : EvT1 X M R ρ a s k s1) : EvT1 X M R ρ (.UnaryOp .Not a pos) s (!k) s1 := fun σ H Q hσ hR q => wT_of (pt_not pt_w) (h σ H _ hσ hR fun H1 e1 R1 => q H1 e1 R1)
theorem e_not {k : Bool} (h : Ev1 X M R ρ a s (.dat (.bool k)) s1) : Ev1 X M R ρ (.UnaryOp .Not a pos) s (.dat (.bool (!k))) s1 := fun σ H Q hσ hR q =>
  wE_of (pe_not pe_w) (h σ H _ hσ hR fun v H1 e1 R1 d1 => ⟨k, sv_bl d1, q _ H1 e1 R1 (.bl _)⟩)
def EvW1 {S : Type} (X : Cx) (M : List Addr) (R : S → Hp → Prop) (ρ : List Sl) (e : Expr) (s : S) (b : Bool) (s' : S) : Prop :=
  ∀ whole σ H (Q : Bool → Hp → Prop), Slots X.K (cut M H) σ ρ → R s H → (∀ H2, Ex (cut M H) (cut M H2) → R s' H2 → Q b H2) → ∀ pins sh, Inv X pins σ H sh → wpAny (model X.prog X.w) X.A (isTrue e X.env whole) (TP X pins σ Q) X.xe sh
def wW (X : Cx) (e : Expr) : TT := fun σ H Q => ∀ whole pins s, Inv X pins σ H s → wpAny (model X.prog X.w) X.A (isTrue e X.env whole) (TP X pins σ Q) X.xe s
theorem pw_w {e : Expr} : PW X e (wW X e) := ⟨fun whole pins s _ _ _ I h => h whole pins s I⟩
theorem w_and1 {k : Bool} (h : EvT1 X M R ρ a s k s1) : EvW1 X M R ρ (.BoolOp .And [a] pos) s k s1 := fun whole σ H Q hσ hR q pins sh I => (pw_and1 pt_w).run whole pins sh σ H Q I (h σ H _ hσ hR q)
theorem w_or1 {k : Bool} (h : EvT1 X M R ρ a s k s1) : EvW1 X M R ρ (.BoolOp .Or [a] pos) s k s1 := fun whole σ H Q hσ hR q pins sh I => (pw_or1 pt_w).run whole pins sh σ H Q I (h σ H _ hσ hR q)
theorem w_andT {k : Bool} {rest : List Expr} (ha : EvT1 X M R ρ a s true s1) (hb : EvW1 X M R ρ (.BoolOp .And (b :: rest) pos) s1 k s2) : EvW1 X M R ρ (.BoolOp .And (a :: b :: rest) pos) s k s2 := fun whole σ H Q hσ hR q pins sh I => by
  refine (pw_and pt_w pw_w).run whole pins sh σ H Q I (ha σ H _ hσ hR fun H1 e1 R1 => ?_)
  rw [if_pos rfl]
  exact fun whole pins sh I => hb whole σ H1 Q (hσ.ex e1) R1 (fun H2 e2 R2 => q H2 (e1.trans e2) R2) pins sh I
theorem w_andF {rest : List Expr} (ha : EvT1 X M R ρ a s false s1) : EvW1 X M R ρ (.BoolOp .And (a :: b :: rest) pos) s false s1 := fun whole σ H Q hσ hR q pins sh I => by
  refine (pw_and pt_w pw_w).run whole pins sh σ H Q I (ha σ H _ hσ hR fun H1 e1 R1 => ?_)
  rw [if_neg Bool.false_ne_true]
  exact q H1 e1 R1
theorem w_orF {k : Bool} {rest : List Expr} (ha : EvT1 X M R ρ a s false s1) (hb : EvW1 X M R ρ (.BoolOp .Or (b :: rest) pos) s1 k s2) : EvW1 X M R ρ (.BoolOp .Or (a :: b :: rest) pos) s k s2 := fun whole σ H Q hσ hR q pins sh I => by
  refine (pw_or pt_w pw_w).run whole pins sh σ H Q I (ha σ H _ hσ hR fun H1 e1 R1 => ?_)
  rw [if_neg Bool.false_ne_true]
  exact fun whole pins sh I => hb whole σ H1 Q (hσ.ex e1) R1 (fun H2 e2 R2 => q H2 (e1.trans e2) R2) pins sh I
theorem w_orT {rest : List Expr} (ha : EvT1 X M R ρ a s true s1) : EvW1 X M R ρ (.BoolOp .Or (a :: b :: rest) pos) s true s1 := fun whole σ H Q hσ hR q pins sh I => by
  refine (pw_or pt_w pw_w).run whole pins sh σ H Q I (ha σ H _ hσ hR fun H1 e1 R1 => ?_)
  rw [if_pos rfl]
  exact q H1 e1 R1
/-- pure tests: and, or by their worth -/
theorem w_and {j k : Bool} {rest : List Expr} (ha : EvT1 X M R ρ a s j s) (hb : j = true → EvW1 X M R ρ (.BoolOp .And (b :: rest) pos) s k s) : EvW1 X M R ρ (.BoolOp .And (a :: b :: rest) pos) s (j && k) s := by
  cases j with
  | true => exact w_andT ha (hb rfl)
  | false => exact w_andF ha
theorem w_or {j k : Bool} {rest : List Expr} (ha : EvT1 X M R ρ a s j s) (hb : j = false → EvW1 X M R ρ (.BoolOp .Or (b :: rest) pos) s k s) : EvW1 X M R ρ (.BoolOp .Or (a :: b :: rest) pos) s (j || k) s := by
  cases j with
  | true => exact w_orT ha
  | false => exact w_orF ha (hb rfl)
theorem t_w {e : Expr} {k : Bool} (h : EvW1 X M R ρ e s k s1) : EvT1 X M R ρ e s k s1 := fun σ H Q hσ hR q pins sh I => h _ σ H Q hσ hR q pins sh I
/-- .. as values, of bools -/
theorem e_one {op : BoolOp} {r : Sl} (h : Ev1 X M R ρ a s r s1) : Ev1 X M R ρ (.BoolOp op [a] pos) s r s1 := fun σ H Q hσ hR q => wE_of (pe_one pe_w) (h σ H Q hσ hR q)
theorem e_and {j k : Bool} {rest : List Expr} (ha : Ev1 X M R ρ a s (.dat (.bool j)) s) (hb : j = true → Ev1 X M R ρ (.BoolOp .And (b :: rest) pos) s (.dat (.bool k)) s) : Ev1 X M R ρ (.BoolOp .And (a :: b :: rest) pos) s (.dat (.bool (j && k))) s := by
  intro σ H Q hσ hR q
  refine wE_of (pe_and pe_w pe_w) (ha σ H _ hσ hR fun v H1 e1 R1 d1 => ⟨j, sv_bl d1, ?_⟩)
  cases j with
  | true =>
    rw [if_pos rfl]
    exact hb rfl σ H1 Q (hσ.ex e1) R1 fun v H2 e2 R2 d2 => q v H2 (e1.trans e2) R2 d2
  | false =>
    rw [if_neg Bool.false_ne_true]
    exact q _ H1 e1 R1 (.bl _)
theorem e_or {j k : Bool} {rest : List Expr} (ha : Ev1 X M R ρ a s (.dat (.bool j)) s) (hb : j = false → Ev1 X M R ρ (.BoolOp .Or (b :: rest) pos) s (.dat (.bool k)) s) : Ev1 X M R ρ (.BoolOp .Or (a :: b :: rest) pos) s (.dat (.bool (j || k))) s := by
  intro σ H Q hσ hR q
  refine wE_of (pe_or pe_w pe_w) (ha σ H _ hσ hR fun v H1 e1 R1 d1 => ⟨j, sv_bl d1, ?_⟩)
  cases j with
  | false =>
    rw [if_neg Bool.false_ne_true]
    exact hb rfl σ H1 Q (hσ.ex e1) R1 fun v H2 e2 R2 d2 => q v H2 (e1.trans e2) R2 d2
  | true =>
    rw [if_pos rfl]
    exact q _ H1 e1 R1 (.bl _)
theorem e_ifT {r : Sl} (hc : EvT1 X M R ρ c s true s1) (h : Ev1 X M R ρ a s1 r s2) : Ev1 X M R ρ (.IfExp c a b pos) s r s2 := fun σ H Q hσ hR q =>
  wE_of (pe_ifExp pt_w pe_w pe_w) (hc σ H _ hσ hR fun H1 e1 R1 => by
    rw [if_pos rfl]
    exact h σ H1 Q (hσ.ex e1) R1 fun v H2 e2 R2 d2 => q v H2 (e1.trans e2) R2 d2)
theorem e_ifF {r : Sl} (hc : EvT1 X M R ρ c s false s1) (h : Ev1 X M R ρ b s1 r s2) : Ev1 X M R ρ (.IfExp c a b pos) s r s2 := fun σ H Q hσ hR q =>
  wE_of (pe_ifExp pt_w pe_w pe_w) (hc σ H _ hσ hR fun H1 e1 R1 => by
    rw [if_neg Bool.false_ne_true]
    exact h σ H1 Q (hσ.ex e1) R1 fun v H2 e2 R2 d2 => q v H2 (e1.trans e2) R2 d2)
theorem e_if {r : Sl} {k : Bool} (hc : EvT1 X M R ρ c s k s1) (h1 : k = true → Ev1 X M R ρ a s1 r s2) (h2 : k = false → Ev1 X M R ρ b s1 r s2) : Ev1 X M R ρ (.IfExp c a b pos) s r s2 := by
  cases k with
  | true => exact e_ifT hc (h1 rfl)
  | false => exact e_ifF hc (h2 rfl)
/-! items, slices, sums of sequences -/
theorem atI_dv {K : PySem.W.Frag} {H : Hp} {xs : List V} {ds : List PyData} {i : Int} {d : PyData} (h : DvAll K H xs ds) (hi : atI ds i = some d) : ∃ v, atI xs i = some v ∧ Dv K H v d := by
  unfold atI at hi ⊢
  rw [dpa_length h]
  cases e : ixN ds.length i with
  | none => rw [e] at hi; cases hi
  | some j =>
    rw [e] at hi
    exact dpa_get' h hi
theorem e_ixT {ds : List PyData} {d : PyData} {i : Int} (ha : Ev1 X M R ρ a s (.dat (.tuple ds)) s1) (hb : Ev1 X M R ρ b s1 (.dat (.int i)) s2) (hi : atI ds i = some d) (hs : PlainIx b := by exact fun _ _ => rfl) :
    Ev1 X M R ρ (.Subscript a b pos) s (.dat d) s2 := by
  intro σ H Q hσ hR q
  refine wE_of (pe_ix ix_tup pe_w pe_w hs) ?_
  refine ha σ H _ hσ hR fun x H1 e1 R1 d1 => ?_
  refine hb σ H1 _ (hσ.ex e1) R1 fun y H2 e2 R2 d2 => ?_
  obtain ⟨p, xs, rfl, hq, hd⟩ := sv_tup (d1.ex e2)
  obtain ⟨v, hv, dv⟩ := atI_dv hd hi
  exact ⟨p, xs, i, v, rfl, sv_int d2, ex_t ex_cut hq, hv, q v H2 (e1.trans e2) R2 dv⟩
theorem e_ixL {ds : List PyData} {d : PyData} {i : Int} (ha : Ev1 X M R ρ a s (.dat (.list ds)) s1) (hb : Ev1 X M R ρ b s1 (.dat (.int i)) s2) (hi : atI ds i = some d) (hs : PlainIx b := by exact fun _ _ => rfl) :
    Ev1 X M R ρ (.Subscript a b pos) s (.dat d) s2 := by
  intro σ H Q hσ hR q
  refine wE_of (pe_ix ix_list pe_w pe_w hs) ?_
  refine ha σ H _ hσ hR fun x H1 e1 R1 d1 => ?_
  refine hb σ H1 _ (hσ.ex e1) R1 fun y H2 e2 R2 d2 => ?_
  obtain ⟨p, xs, rfl, hq, hd⟩ := sv_lst (d1.ex e2)
  obtain ⟨v, hv, dv⟩ := atI_dv hd hi
  exact ⟨p, xs, i, v, rfl, sv_int d2, sq_of (ex_cut _ _ hq), hv, q v H2 (e1.trans e2) R2 dv⟩
/-- parts of a slice -/
def EvO1 {S : Type} (X : Cx) (M : List Addr) (R : S → Hp → Prop) (ρ : List Sl) (o : Option Expr) (s : S) (r : Option Int) (s' : S) : Prop :=
  match o with
  | none => r = none ∧ s' = s
  | some e => ∃ i, r = some i ∧ Ev1 X M R ρ e s (.dat (.int i)) s'
def cutD (xs : List PyData) (lo hi : Option Int) : List PyData := (xs.drop (HT.sIx xs.length 0 lo)).take (HT.sIx xs.length xs.length hi - HT.sIx xs.length 0 lo)
theorem cut_dv {K : PySem.W.Frag} {H : Hp} {xs : List V} {ds : List PyData} {lo hi : Option Int} (h : DvAll K H xs ds) : DvAll K H (cutV xs lo hi) (cutD ds lo hi) := by
  unfold cutV cutD
  rw [dpa_length h]
  exact dpa_take _ (dpa_drop _ h)
def tO (X : Cx) (M : List Addr) (o : Option Expr) : TO := match o with
  | none => tNoPart
  | some e => tPart (wE X e)
theorem po_w {o : Option Expr} : PO X o (tO X M o) := by
  cases o with
  | none => exact po_none
  | some e => exact po_some pe_w
theorem eo_use {o : Option Expr} {r : Option Int} (h : EvO1 X M R ρ o s r s1) : ∀ σ H (Q : Option Int → Hp → Prop), Slots X.K (cut M H) σ ρ → R s H → (∀ H2, Ex (cut M H) (cut M H2) → R s1 H2 → Q r H2) → tO X M o σ H Q := by
  intro σ H Q hσ hR q
  cases o with
  | none =>
    obtain ⟨rfl, rfl⟩ := h
    exact q H (exId _) hR
  | some e =>
    obtain ⟨i, rfl, h⟩ := h
    exact h σ H _ hσ hR fun v H1 e1 R1 d1 => ⟨i, sv_int d1, q H1 e1 R1⟩
theorem e_slT (g : Rg M R) {ds : List PyData} {lo hi : Option Expr} {rl rh : Option Int} {p2 : Pos} (ha : Ev1 X M R ρ a s (.dat (.tuple ds)) s1) (hl : EvO1 X M R ρ lo s1 rl s2) (hh : EvO1 X M R ρ hi s2 rh s3) :
    Ev1 X M R ρ (.Subscript a (.Slice lo hi none p2) pos) s (.dat (.tuple (cutD ds rl rh))) s3 := by
  intro σ H Q hσ hR q
  refine wE_of (pe_slice sl_tupA pe_w (po_w (M := M)) (po_w (M := M))) ?_
  refine ha σ H _ hσ hR fun x H1 e1 R1 d1 => ?_
  refine eo_use hl σ H1 _ (hσ.ex e1) R1 fun H2 e2 R2 => ?_
  refine eo_use hh σ H2 _ (hσ.ex (e1.trans e2)) R2 fun H3 e3 R3 => ?_
  obtain ⟨p, xs, rfl, hq, hd⟩ := sv_tup (d1.ex (e2.trans e3))
  have e13 := e1.trans (e2.trans e3)
  refine ⟨p, xs, rfl, ex_t ex_cut hq, fun hw => ?_, fun _ p' n => new_tup g R3 n (cut_dv hd) fun v H2 e2 R2 d2 => q v H2 (e13.trans e2) R2 d2⟩
  have ew : cutD ds rl rh = ds := by
    rw [dpa_length hd] at hw
    unfold cutD
    rw [hw.1, hw.2, Nat.sub_zero, List.drop_zero, List.take_length]
  rw [ew] at q
  exact q _ H3 e13 R3 (.tup hq hd)
theorem e_catT (g : Rg M R) {ds es : List PyData} (hz : ds.length + es.length ≤ 100000) (ha : Ev1 X M R ρ a s (.dat (.tuple ds)) s1) (hb : Ev1 X M R ρ b s1 (.dat (.tuple es)) s2) : Ev1 X M R ρ (.BinOp a .Add b pos) s (.dat (.tuple (ds ++ es))) s2 :=
  e_op op_catA ha hb fun x y H Q dx dy hR q => by
    obtain ⟨p, xs, rfl, hp, hd⟩ := sv_tup dx
    obtain ⟨p', ys, rfl, hp', hd'⟩ := sv_tup dy
    have l1 := dpa_length hd
    have l2 := dpa_length hd'
    refine ⟨p, p', xs, ys, rfl, rfl, ex_t ex_cut hp, ex_t ex_cut hp', by rw [l1, l2]; exact upd_sz hz, fun z => ?_, fun _ z => ?_, fun _ _ p n => new_tup g hR n (dpa_app hd hd') q⟩
    · subst z
      have e0 : ds = [] := List.eq_nil_of_length_eq_zero l1.symm
      subst e0
      exact q _ H (exId _) hR (.tup hp' hd')
    · subst z
      have e0 : es = [] := List.eq_nil_of_length_eq_zero l2.symm
      subst e0
      rw [List.append_nil] at q
      exact q _ H (exId _) hR (.tup hp hd)
theorem e_catL (g : Rg M R) {ds es : List PyData} (hz : ds.length + es.length ≤ 100000) (ha : Ev1 X M R ρ a s (.dat (.list ds)) s1) (hb : Ev1 X M R ρ b s1 (.dat (.list es)) s2) : Ev1 X M R ρ (.BinOp a .Add b pos) s (.dat (.list (ds ++ es))) s2 :=
  e_op op_cat ha hb fun x y H Q dx dy hR q => by
    obtain ⟨p, xs, rfl, hp, hd⟩ := sv_lst dx
    obtain ⟨p', ys, rfl, hp', hd'⟩ := sv_lst dy
    exact ⟨p, p', xs, ys, rfl, rfl, ex_cut _ _ hp, ex_cut _ _ hp', by rw [dpa_length hd, dpa_length hd']; exact upd_sz hz, fun p n => new_lst g hR n (dpa_app hd hd') q⟩
theorem dpa_rep {K : PySem.W.Frag} {H : Hp} {xs : List V} {ds : List PyData} (h : DvAll K H xs ds) : ∀ n : Nat, DvAll K H (List.replicate n xs).flatten (List.replicate n ds).flatten
  | 0 => .nil
  | n + 1 => by
    rw [List.replicate_succ, List.replicate_succ, List.flatten_cons, List.flatten_cons]
    exact dpa_app h (dpa_rep h n)
theorem e_repL (g : Rg M R) {ds : List PyData} {k : Int} (hk : k < 2 ^ 63) (h0 : -(2 ^ 63) ≤ k) (hz : ds.length * k.toNat ≤ 100000) (ha : Ev1 X M R ρ a s (.dat (.list ds)) s1) (hb : Ev1 X M R ρ b s1 (.dat (.int k)) s2) :
    Ev1 X M R ρ (.BinOp a .Mult b pos) s (.dat (.list (List.replicate k.toNat ds).flatten)) s2 :=
  e_op op_rep ha hb fun x y H Q dx dy hR q => by
    obtain ⟨p, xs, rfl, hp, hd⟩ := sv_lst dx
    exact ⟨p, k, xs, rfl, sv_int dy, ex_cut _ _ hp, h0, hk, by rw [dpa_length hd]; exact upd_sz hz, fun p n => new_lst g hR n (dpa_rep hd k.toNat) q⟩
/-! calls of what is built in -/
theorem e_callB {id : String} {r : List V → Hp → VK → Prop} {e : Expr} {x : Str} {px : Pos} {rc : Sl} (hc : CallR X (.builtin id) r) (hg : Gl X x) (hm : X.mg x = none) (hv : bootBuiltins x = some (.builtin id)) (ha : EvA1 X M R ρ (e :: es) s rs s1)
    (hr : ∀ vs H (Q : VK), SvAll X.K (cut M H) rs vs → R s1 H → (∀ v H2, Ex (cut M H) (cut M H2) → R s2 H2 → Sv X.K (cut M H2) rc v → Q v H2) → r vs H Q)
    (hn : x ≠ "__name__" := by decide) (hdb : (x == ("__debug__" : Str)) = false := by decide) (he : starEach (e :: es) X.env = (false, eval e X.env) :: starEach es X.env := by rfl) (hpl : (backTo pos (starEach es X.env)).any (·.1) = false := by rfl) :
    Ev1 X M R ρ (.Call (.Name x px) (e :: es) [] pos) s rc s2 := by
  intro σ H Q hσ hR q
  refine wE_of (pe_callB hc hg hm hv pa_w hn hdb he hpl) ?_
  exact ha σ H _ hσ hR fun vs H1 e1 R1 d1 => hr vs H1 Q d1 R1 fun v H2 e2 R2 d2 => q v H2 (e1.trans e2) R2 d2
theorem e_callTy {T : String} {r : List V → Hp → VK → Prop} {e : Expr} {x : Str} {px : Pos} {rc : Sl} (hc : CallR X (.type T) r) (hg : Gl X x) (hm : X.mg x = none) (hv : bootBuiltins x = some (.type T)) (ha : EvA1 X M R ρ (e :: es) s rs s1)
    (hr : ∀ vs H (Q : VK), SvAll X.K (cut M H) rs vs → R s1 H → (∀ v H2, Ex (cut M H) (cut M H2) → R s2 H2 → Sv X.K (cut M H2) rc v → Q v H2) → r vs H Q)
    (hn : x ≠ "__name__" := by decide) (hdb : (x == ("__debug__" : Str)) = false := by decide) (he : starEach (e :: es) X.env = (false, eval e X.env) :: starEach es X.env := by rfl) (hpl : (backTo pos (starEach es X.env)).any (·.1) = false := by rfl) :
    Ev1 X M R ρ (.Call (.Name x px) (e :: es) [] pos) s rc s2 := by
  intro σ H Q hσ hR q
  refine wE_of (pe_callTy hc hg hm hv pa_w hn hdb he hpl) ?_
  exact ha σ H _ hσ hR fun vs H1 e1 R1 d1 => hr vs H1 Q d1 R1 fun v H2 e2 R2 d2 => q v H2 (e1.trans e2) R2 d2
variable {e : Expr} {px : Pos}
theorem a1 {r : Sl} (h : Ev1 X M R ρ e s r s1) (hs : starEach [e] X.env = (false, eval e X.env) :: starEach [] X.env := by rfl) : EvA1 X M R ρ [e] s [r] s1 := a_cons h a_nil hs
theorem e_lenT {ds : List PyData} (hg : Gl X "len") (hm : X.mg "len" = none) (ha : EvA1 X M R ρ [e] s [(.dat (.tuple ds))] s1) (he : starEach [e] X.env = (false, eval e X.env) :: starEach [] X.env := by rfl) (hpl : (backTo pos (starEach [] X.env)).any (·.1) = false := by rfl) : Ev1 X M R ρ (.Call (.Name "len" px) [e] [] pos) s (.dat (.int ds.length)) s1 :=
  e_callB call_len_seq hg hm PySem.boot_len ha (fun vs H Q h hR q => by
    obtain ⟨v, rfl, h1⟩ := svall1 h
    obtain ⟨p, xs, rfl, hp, hd⟩ := sv_tup h1
    refine ⟨p, xs, rfl, .inr (ex_t ex_cut hp), ?_⟩
    rw [dpa_length hd]
    exact q _ H (exId _) hR (.int _)) (by decide) (by decide) he hpl
theorem e_lenL {ds : List PyData} (hg : Gl X "len") (hm : X.mg "len" = none) (ha : EvA1 X M R ρ [e] s [(.dat (.list ds))] s1) (he : starEach [e] X.env = (false, eval e X.env) :: starEach [] X.env := by rfl) (hpl : (backTo pos (starEach [] X.env)).any (·.1) = false := by rfl) : Ev1 X M R ρ (.Call (.Name "len" px) [e] [] pos) s (.dat (.int ds.length)) s1 :=
  e_callB call_len_seq hg hm PySem.boot_len ha (fun vs H Q h hR q => by
    obtain ⟨v, rfl, h1⟩ := svall1 h
    obtain ⟨p, xs, rfl, hp, hd⟩ := sv_lst h1
    refine ⟨p, xs, rfl, .inl (sq_of (ex_cut _ _ hp)), ?_⟩
    rw [dpa_length hd]
    exact q _ H (exId _) hR (.int _)) (by decide) (by decide) he hpl
theorem e_max2 {e' : Expr} {i j : Int} (hc : X.calm = true) (hg : Gl X "max") (hm : X.mg "max" = none) (ha : EvA1 X M R ρ [e, e'] s [.dat (.int i), .dat (.int j)] s2) (he : starEach [e, e'] X.env = (false, eval e X.env) :: starEach [e'] X.env := by rfl) (hpl : (backTo pos (starEach [e'] X.env)).any (·.1) = false := by rfl) :
    Ev1 X M R ρ (.Call (.Name "max" px) [e, e'] [] pos) s (.dat (.int (if j > i then j else i))) s2 :=
  e_callB (call_max2 hc) hg hm boot_max ha (fun vs H Q h hR q => by
    obtain ⟨v, w, rfl, h1, h2⟩ := svall2 h
    exact ⟨i, j, by rw [sv_int h1, sv_int h2], q _ H (exId _) hR (.int _)⟩) (by decide) (by decide) he hpl
theorem e_all {bs : List Bool} (hc : X.calm = true) (hg : Gl X "all") (hm : X.mg "all" = none) (ha : EvA1 X M R ρ [e] s [(.dat (.list (bs.map .bool)))] s1) (he : starEach [e] X.env = (false, eval e X.env) :: starEach [] X.env := by rfl) (hpl : (backTo pos (starEach [] X.env)).any (·.1) = false := by rfl) : Ev1 X M R ρ (.Call (.Name "all" px) [e] [] pos) s (.dat (.bool (bs.all id))) s1 :=
  e_callB (cr_all hc) hg hm (by decide +kernel) ha (fun vs H Q h hR q => by
    obtain ⟨v, rfl, h1⟩ := svall1 h
    obtain ⟨p, xs, rfl, hp, hd⟩ := sv_lst h1
    rw [dpa_bools hd] at hp
    exact ⟨p, bs, rfl, sq_of (ex_cut _ _ hp), q _ H (exId _) hR (.bl _)⟩) (by decide) (by decide) he hpl
theorem e_any {bs : List Bool} (hc : X.calm = true) (hg : Gl X "any") (hm : X.mg "any" = none) (ha : EvA1 X M R ρ [e] s [(.dat (.list (bs.map .bool)))] s1) (he : starEach [e] X.env = (false, eval e X.env) :: starEach [] X.env := by rfl) (hpl : (backTo pos (starEach [] X.env)).any (·.1) = false := by rfl) : Ev1 X M R ρ (.Call (.Name "any" px) [e] [] pos) s (.dat (.bool (bs.any id))) s1 :=
  e_callB (cr_any hc) hg hm (by decide +kernel) ha (fun vs H Q h hR q => by
    obtain ⟨v, rfl, h1⟩ := svall1 h
    obtain ⟨p, xs, rfl, hp, hd⟩ := sv_lst h1
    rw [dpa_bools hd] at hp
    exact ⟨p, bs, rfl, sq_of (ex_cut _ _ hp), q _ H (exId _) hR (.bl _)⟩) (by decide) (by decide) he hpl
theorem e_sum {ns : List Int} (hc : X.calm = true) (hg : Gl X "sum") (hm : X.mg "sum" = none) (ha : EvA1 X M R ρ [e] s [(.dat (.list (ns.map .int)))] s1) (he : starEach [e] X.env = (false, eval e X.env) :: starEach [] X.env := by rfl) (hpl : (backTo pos (starEach [] X.env)).any (·.1) = false := by rfl) : Ev1 X M R ρ (.Call (.Name "sum" px) [e] [] pos) s (.dat (.int ns.sum)) s1 :=
  e_callB (cr_sum hc) hg hm (by decide +kernel) ha (fun vs H Q h hR q => by
    obtain ⟨v, rfl, h1⟩ := svall1 h
    obtain ⟨p, xs, rfl, hp, hd⟩ := sv_lst h1
    rw [dpa_ints hd] at hp
    exact ⟨p, ns, rfl, sq_of (ex_cut _ _ hp), q _ H (exId _) hR (.int _)⟩) (by decide) (by decide) he hpl
theorem e_tupleL (g : Rg M R) {ds : List PyData} (hg : Gl X "tuple") (hm : X.mg "tuple" = none) (ha : EvA1 X M R ρ [e] s [(.dat (.list ds))] s1) (he : starEach [e] X.env = (false, eval e X.env) :: starEach [] X.env := by rfl) (hpl : (backTo pos (starEach [] X.env)).any (·.1) = false := by rfl) : Ev1 X M R ρ (.Call (.Name "tuple" px) [e] [] pos) s (.dat (.tuple ds)) s1 :=
  e_callTy call_tuple_of hg hm (by decide +kernel) ha (fun vs H Q h hR q => by
    obtain ⟨v, rfl, h1⟩ := svall1 h
    obtain ⟨p, xs, rfl, hp, hd⟩ := sv_lst h1
    exact ⟨p, xs, rfl, .inl ⟨sq_of (ex_cut _ _ hp), fun l n => new_tup g hR n hd q⟩⟩) (by decide) (by decide) he hpl
theorem e_listL (g : Rg M R) {ds : List PyData} (hg : Gl X "list") (hm : X.mg "list" = none) (ha : EvA1 X M R ρ [e] s [(.dat (.list ds))] s1) (he : starEach [e] X.env = (false, eval e X.env) :: starEach [] X.env := by rfl) (hpl : (backTo pos (starEach [] X.env)).any (·.1) = false := by rfl) : Ev1 X M R ρ (.Call (.Name "list" px) [e] [] pos) s (.dat (.list ds)) s1 :=
  e_callTy call_list_of hg hm (by decide +kernel) ha (fun vs H Q h hR q => by
    obtain ⟨v, rfl, h1⟩ := svall1 h
    obtain ⟨p, xs, rfl, hp, hd⟩ := sv_lst h1
    exact ⟨p, xs, rfl, .inl (sq_of (ex_cut _ _ hp)), fun l n => new_lst g hR n hd q⟩) (by decide) (by decide) he hpl
theorem e_listT (g : Rg M R) {ds : List PyData} (hg : Gl X "list") (hm : X.mg "list" = none) (ha : EvA1 X M R ρ [e] s [(.dat (.tuple ds))] s1) (he : starEach [e] X.env = (false, eval e X.env) :: starEach [] X.env := by rfl) (hpl : (backTo pos (starEach [] X.env)).any (·.1) = false := by rfl) : Ev1 X M R ρ (.Call (.Name "list" px) [e] [] pos) s (.dat (.list ds)) s1 :=
  e_callTy call_list_of hg hm (by decide +kernel) ha (fun vs H Q h hR q => by
    obtain ⟨v, rfl, h1⟩ := svall1 h
    obtain ⟨p, xs, rfl, hp, hd⟩ := sv_tup h1
    exact ⟨p, xs, rfl, .inr (ex_t ex_cut hp), fun l n => new_lst g hR n hd q⟩) (by decide) (by decide) he hpl
theorem e_intB {k : Bool} (hg : Gl X "int") (hm : X.mg "int" = none) (ha : EvA1 X M R ρ [e] s [(.dat (.bool k))] s1) (he : starEach [e] X.env = (false, eval e X.env) :: starEach [] X.env := by rfl) (hpl : (backTo pos (starEach [] X.env)).any (·.1) = false := by rfl) : Ev1 X M R ρ (.Call (.Name "int" px) [e] [] pos) s (.dat (.int (if k then 1 else 0))) s1 :=
  e_callTy call_int1 hg hm (by decide +kernel) ha (fun vs H Q h hR q => by
    obtain ⟨v, rfl, h1⟩ := svall1 h
    exact .inr ⟨k, by rw [sv_bl h1], q _ H (exId _) hR (.int _)⟩) (by decide) (by decide) he hpl
end
end DV
namespace DV
open PySem PySem.Spec L2 Evl
open PyProof.Rows hiding St
/-! ### isinstance -/
def dTy : PyData → String
  | .none => "NoneType"
  | .bool _ => "bool"
  | .int _ => "int"
  | .str _ => "str"
  | .list _ => "list"
  | .tuple _ => "tuple"
  | .dict _ => "dict"
theorem ty_of {K : PySem.W.Frag} {H : Hp} {d : PyData} {v : V} (h : Dv K H v d) : TyX K H v (.type (dTy d)) := by
  cases h with
  | non => exact .base .non
  | bl b => exact .base (.bl b)
  | int i => exact .base (.int i)
  | str x => exact .base (.str x)
  | lst a b => exact .base (.lst a)
  | tup a b =>
    rcases a with (a | ⟨o, a⟩) | ⟨o, its, n, l, c, _⟩
    · exact .base (.tup a)
    · exact .fTuple a
    · exact .kTuple l c
theorem tyx_ex {K : PySem.W.Frag} {H H' : Hp} {v : V} {t : Value} (e : Ex H H') (h : TyX K H v t) : TyX K H' v t := by
  cases h with
  | base b =>
    cases b with
    | non => exact .base .non
    | bl b => exact .base (.bl b)
    | int i => exact .base (.int i)
    | str x => exact .base (.str x)
    | flt x => exact .base (.flt x)
    | lst a => exact .base (.lst (e _ _ a))
    | frz a => exact .base (.frz (e _ _ a))
    | tup a => exact .base (.tup (e _ _ a))
    | dK a => exact .base (.dK (e _ _ a))
    | dT a => exact .base (.dT (e _ _ a))
    | ins a b c d f g => exact .base (.ins (e _ _ a) b c d f g)
  | byt b => exact .byt b
  | set a => exact .set (e _ _ a)
  | kList a b => exact .kList a b
  | kTuple a b => exact .kTuple a b
  | kDict a b => exact .kDict a b
  | fTuple a => exact .fTuple (e _ _ a)
  | fDict a => exact .fDict (e _ _ a)
section
variable {S : Type} {X : Cx} {M : List Addr} {R : S → Hp → Prop} {ρ : List Sl} {s s1 s2 s3 : S} {a b c : Expr} {es : List Expr} {pos : Pos} {rs : List Sl} {e e' : Expr} {px : Pos}
theorem e_isi {d : PyData} {T : String} {k : Bool} (hg : Gl X "isinstance") (hm : X.mg "isinstance" = none) (hk : kitB (dTy d) T = some k) (ha : EvA1 X M R ρ [e, e'] s [.dat d, .raw (.ty T)] s1)
    (he : starEach [e, e'] X.env = (false, eval e X.env) :: starEach [e'] X.env := by rfl) (hpl : (backTo pos (starEach [e'] X.env)).any (·.1) = false := by rfl) :
    Ev1 X M R ρ (.Call (.Name "isinstance" px) [e, e'] [] pos) s (.dat (.bool k)) s1 :=
  e_callB call_isi hg hm boot_isinstance ha (fun vs H Q h hR q => by
    obtain ⟨v, w, rfl, h1, h2⟩ := svall2 h
    have h2 : w = .ty T := h2
    subst h2
    exact ⟨v, .ty T, .type (dTy d), .type T, k, rfl, .ty T, tyx_ex ex_cut (ty_of h1), kit_ty hk, q _ H (exId _) hR (.bl _)⟩) (by decide) (by decide) he hpl
end
/-! ### what is walked -/
def Src (K : PySem.W.Frag) (M : List Addr) (J : It) (n : Nat) (it : Nat → Sl) (H1 : Hp) : Prop :=
  ∃ G : Hp → Prop, (∀ H2, Ex (cut M H1) (cut M H2) → G H2) ∧ Walk J n G fun i H x H' => ∀ M', cut M' H1 = cut M H1 → (∀ a ∈ M', ∃ o, H a = some o) → Ex (cut M' H1) (cut M' H) → Ex H H' ∧ Sv K (cut M' H') (it i) x
def EvI1 {S : Type} (X : Cx) (M : List Addr) (R : S → Hp → Prop) (ρ : List Sl) (tg iter : Expr) (s : S) (n : Nat) (it : Nat → Sl) (s' : S) : Prop :=
  ∃ wi, PI X tg iter wi ∧ ∀ σ H (k : It → Hp → Prop), Slots X.K (cut M H) σ ρ → R s H → (∀ J H1, Ex (cut M H) (cut M H1) → R s' H1 → Src X.K M J n it H1 → k J H1) → wi σ H k
def itD (ds : List PyData) (i : Nat) : Sl := match ds[i]? with
  | some d => .dat d
  | none => .any
theorem sv_itD {K : PySem.W.Frag} {H : Hp} {xs : List V} {ds : List PyData} {i : Nat} {x : V} (h : DvAll K H xs ds) (hx : xs[i]? = some x) : Sv K H (itD ds i) x := by
  obtain ⟨d, e, h⟩ := dpa_get h hx
  unfold itD
  rw [e]
  exact h
section
variable {S : Type} {X : Cx} {M : List Addr} {R : S → Hp → Prop} {ρ : List Sl} {s s1 s2 : S} {tg e e' : Expr} {px pos : Pos}
theorem i_list {ds : List PyData} (h : Ev1 X M R ρ e s (.dat (.list ds)) s1) : EvI1 X M R ρ tg e s ds.length (itD ds) s1 := by
  refine ⟨_, pi_list pe_w, fun σ H k hσ hR q => ?_⟩
  refine h σ H _ hσ hR fun v H1 e1 R1 d1 => ?_
  obtain ⟨a, xs, rfl, ha, hd⟩ := sv_lst d1
  refine ⟨a, rfl, ⟨xs, sq_of (ex_cut _ _ ha)⟩, q _ H1 e1 R1 ⟨fun H => SqL X.K H a xs, fun H2 e2 => sq_of (ex_cut _ _ (e2 _ _ ha)), ?_⟩⟩
  rw [← dpa_length hd]
  refine walk_list.mono (fun _ h => h) fun i H2 x H' _ _ ⟨e, hx⟩ M' em dm e2 => ?_
  subst e
  rw [← em] at hd
  exact ⟨exId _, sv_itD (dpa_ex e2 ds xs hd) hx⟩
theorem i_tup {ds : List PyData} (h : Ev1 X M R ρ e s (.dat (.tuple ds)) s1) : EvI1 X M R ρ tg e s ds.length (itD ds) s1 := by
  refine ⟨_, pi_tup pe_w, fun σ H k hσ hR q => ?_⟩
  refine h σ H _ hσ hR fun v H1 e1 R1 d1 => ?_
  obtain ⟨a, xs, rfl, ha, hd⟩ := sv_tup d1
  refine ⟨a, rfl, ⟨xs, ex_t ex_cut ha⟩, q _ H1 e1 R1 ⟨fun H => SqT X.K H a xs, fun H2 e2 => ex_t ex_cut (ex_t e2 ha), ?_⟩⟩
  rw [← dpa_length hd]
  refine walk_tup.mono (fun _ h => h) fun i H2 x H' _ _ ⟨e, hx⟩ M' em dm e2 => ?_
  subst e
  rw [← em] at hd
  exact ⟨exId _, sv_itD (dpa_ex e2 ds xs hd) hx⟩
theorem i_rng {n : Int} (hg : Gl X "range") (hm : X.mg "range" = none) (hn : n < 2 ^ 62) (h0 : -(2 ^ 62) ≤ n) (h : EvA1 X M R ρ [e] s [.dat (.int n)] s1) (hs : starEach [e] X.env = [(false, eval e X.env)] := by rfl) :
    EvI1 X M R ρ tg (.Call (.Name "range" px) [e] [] pos) s n.toNat (fun i => .dat (.int i)) s1 := by
  refine ⟨_, pi_range1 hg hm pa_w hs, fun σ H k hσ hR q => ?_⟩
  refine h σ H _ hσ hR fun vs H1 e1 R1 d1 => ?_
  obtain ⟨v, rfl, d2⟩ := svall1 d1
  refine ⟨n, by rw [sv_int d2], h0, hn, q _ H1 e1 R1 ⟨fun _ => True, fun _ _ => trivial, ?_⟩⟩
  refine walk_range.mono (fun _ h => h) fun i H2 x H' _ _ ⟨e, hx⟩ M' em dm e2 => ?_
  subst e
  subst hx
  refine ⟨exId _, ?_⟩
  show Dv X.K _ (.int (0 + (i : Int))) (.int (i : Int))
  rw [Int.zero_add]
  exact Dv.int _
/-- the pairs of two sequences -/
def itZ (xs ys : List PyData) (i : Nat) : Sl := match xs[i]?, ys[i]? with
  | some x, some y => .dat (.tuple [x, y])
  | _, _ => .any
theorem i_zipT {elts : List Expr} {kk : Nat} {tpos : Pos} {xs ys : List PyData} (hg : Gl X "zip") (hm : X.mg "zip" = none) (hl : xs.length = ys.length) (h : EvA1 X M R ρ [e, e'] s [.dat (.tuple xs), .dat (.tuple ys)] s1)
    (hs : starEach [e, e'] X.env = (false, eval e X.env) :: starEach [e'] X.env := by rfl) (hpl : (backTo pos (starEach [e'] X.env)).any (·.1) = false := by rfl) :
    EvI1 X M R ρ (.Tuple elts kk tpos) (.Call (.Name "zip" px) [e, e'] [] pos) s xs.length (itZ xs ys) s1 := by
  refine ⟨_, RZ.pi_zipA hg hm pa_w hs hpl, fun σ H k hσ hR q => ?_⟩
  refine h σ H _ hσ hR fun vs H1 e1 R1 d1 => ?_
  obtain ⟨v, w, rfl, d1, d2⟩ := svall2 d1
  obtain ⟨a, us, rfl, ha, hd⟩ := sv_tup d1
  obtain ⟨b, ws, rfl, hb, hd'⟩ := sv_tup d2
  have l1 := dpa_length hd
  have l2 := dpa_length hd'
  refine ⟨a, b, us, ws, rfl, .inr ⟨ex_t ex_cut ha, ex_t ex_cut hb, q _ H1 e1 R1 ⟨fun H => SqT X.K H a us ∧ SqT X.K H b ws, fun H2 e2 => ⟨ex_t ex_cut (ex_t e2 ha), ex_t ex_cut (ex_t e2 hb)⟩, ?_⟩⟩⟩
  refine ⟨fun i H2 hi hG => ?_, fun H2 hG => ?_, fun i H2 x H' hi hG hy => ?_⟩
  · have hi1 : i < us.length := by omega
    have hi2 : i < ws.length := by omega
    exact ⟨us, ws, us[i], ws[i], hG.1, hG.2, List.getElem?_eq_getElem hi1, List.getElem?_eq_getElem hi2⟩
  · exact ⟨us, ws, hG.1, hG.2, .inl (by omega)⟩
  · intro M' em dm e2
    obtain ⟨T, x', y', rfl, hT, rfl, f1, f2⟩ := hy
    have hx := f1 us hG.1
    have hy := f2 ws hG.2
    have hTM : T ∉ M' := fun m => by
      obtain ⟨o, eo⟩ := dm T m
      rw [hT] at eo
      cases eo
    rw [← em] at hd hd'
    obtain ⟨d1, g1, h1⟩ := dpa_get (dpa_ex e2 _ _ hd) hx
    obtain ⟨d2, g2, h2⟩ := dpa_get (dpa_ex e2 _ _ hd') hy
    refine ⟨Ex.new hT, ?_⟩
    unfold itZ
    rw [g1, g2]
    have ee : Ex (cut M' H2) (cut M' (upd H2 T (.tup [x', y']))) := exCut (Ex.new hT)
    exact Dv.tup (st_of (cut_upd hTM)) (.cons (dp_ex ee _ _ h1) (.cons (dp_ex ee _ _ h2) .nil))
end
/-! ### list comprehensions -/
def wipeR (ρ : List Sl) : List Nat → List Sl
  | [] => ρ
  | v :: vs => (wipeR ρ vs).set v .any
theorem slots_wipe {K : PySem.W.Frag} {H : Hp} {σ : St} {ρ : List Sl} (h : Slots K H σ ρ) : ∀ vs : List Nat, Slots K H (wipe σ vs) (wipeR ρ vs)
  | [] => h
  | v :: vs => (slots_wipe h vs).unset v
theorem wipe_set {i : Nat} {o : Option V} : ∀ {vs : List Nat} {σ : St}, i ∈ vs → wipe (σ.set i o) vs = wipe σ vs
  | [], _, h => by simp at h
  | v :: vs, σ, h => by
    show (wipe (σ.set i o) vs).set v none = (wipe σ vs).set v none
    by_cases hv : i ∈ vs
    · rw [wipe_set hv]
    · have e : i = v := by
        rcases List.mem_cons.mp h with h | h
        · exact h
        · exact absurd h hv
      subst e
      have q : ∀ (ws : List Nat) (τ : St), i ∉ ws → wipe (τ.set i o) ws = (wipe τ ws).set i o := by
        intro ws
        induction ws with
        | nil => intro τ _; rfl
        | cons w ws ih =>
          intro τ hn
          have hw : i ≠ w := fun e => hn (by rw [e]; exact List.mem_cons_self)
          show (wipe (τ.set i o) ws).set w none = ((wipe τ ws).set w none).set i o
          rw [ih τ fun z => hn (List.mem_cons_of_mem _ z), List.set_comm _ _ hw]
      rw [q vs σ hv, List.set_set]
theorem wipe_wipe : ∀ {vs : List Nat} {σ : St}, wipe (wipe σ vs) vs = wipe σ vs := by
  intro vs
  have key : ∀ (ws vs : List Nat) (σ : St), (∀ w ∈ ws, w ∈ vs) → wipe (wipe σ ws) vs = wipe σ vs := by
    intro ws
    induction ws with
    | nil => intro vs σ _; rfl
    | cons w ws ih =>
      intro vs σ h
      show wipe ((wipe σ ws).set w none) vs = wipe σ vs
      rw [wipe_set (h w List.mem_cons_self), ih vs σ fun x hx => h x (List.mem_cons_of_mem _ hx)]
  intro σ
  exact key vs vs σ fun _ h => h
/-- the heap without D -/
def rem (D : Addr) (H : Hp) : Hp := fun a => if a = D then none else H a
theorem rem_ne {D a : Addr} {H : Hp} (h : a ≠ D) : rem D H a = H a := if_neg h
theorem rem_self {D : Addr} {H : Hp} : rem D H D = none := if_pos rfl
theorem rem_some {D a : Addr} {H : Hp} {o : HO} (h : rem D H a = some o) : a ≠ D ∧ H a = some o := by
  by_cases e : a = D
  · subst e; rw [rem_self] at h; cases h
  · rw [rem_ne e] at h; exact ⟨e, h⟩
theorem rem_ex {D : Addr} {H H' : Hp} (e : Ex H H') : Ex (rem D H) (rem D H') := fun a o h => by
  obtain ⟨n, q⟩ := rem_some h
  rw [rem_ne n]
  exact e a o q
theorem ex_rem {D : Addr} {H : Hp} : Ex (rem D H) H := fun a o h => (rem_some h).2
theorem rem_upd {D : Addr} {H : Hp} {o : HO} : rem D (upd H D o) = rem D H := by
  funext a
  by_cases e : a = D
  · subst e; rw [rem_self, rem_self]
  · rw [rem_ne e, rem_ne e, upd_ne e]
theorem rem_free {D : Addr} {H : Hp} (h : H D = none) : rem D H = H := by
  funext a
  by_cases e : a = D
  · subst e; rw [rem_self, h]
  · rw [rem_ne e]
/-- the state with the growing list at D beside -/
def RD {S : Type} (R : S → Hp → Prop) (D : Addr) (acc : List V) : S → Hp → Prop := fun s H => R s (rem D H) ∧ H D = some (.lst acc)
theorem RD.rg {S : Type} {M : List Addr} {R : S → Hp → Prop} (g : Rg M R) (D : Addr) (acc : List V) : Rg (D :: M) (RD R D acc) :=
  ⟨fun ⟨h, d⟩ e => ⟨g.up h (rem_ex e), e _ _ d⟩, fun ⟨h, d⟩ m => by
    rcases List.mem_cons.mp m with e | m
    · subst e; exact ⟨_, d⟩
    · obtain ⟨o, q⟩ := g.dom h m
      exact ⟨o, (rem_some q).2⟩⟩
theorem cut_cons {M : List Addr} {H : Hp} {D : Addr} : Ex (cut (D :: M) H) (cut M H) := fun a o h => by
  obtain ⟨n, e⟩ := cut_some h
  rw [cut_out fun z => n (List.mem_cons_of_mem _ z)]
  exact e
theorem cut_cons_none {M : List Addr} {H : Hp} {D : Addr} (h : H D = none) : cut (D :: M) H = cut M H := by
  funext a
  by_cases e : a = D
  · subst e
    rw [cut_in List.mem_cons_self]
    by_cases m : a ∈ M
    · rw [cut_in m]
    · rw [cut_out m, h]
  · by_cases m : a ∈ M
    · rw [cut_in m, cut_in (List.mem_cons_of_mem _ m)]
    · rw [cut_out m, cut_out fun z => (List.mem_cons.mp z).elim e m]
theorem ex_cut_back {M : List Addr} {H H' : Hp} {D : Addr} (h : H D = none) (e : Ex (cut M H) (cut M H')) : Ex (cut (D :: M) H) (cut (D :: M) H') := fun a o ha => by
  obtain ⟨n, q⟩ := cut_some ha
  have hM : a ∉ M := fun z => n (List.mem_cons_of_mem _ z)
  have := e a o (by rw [cut_out hM]; exact q)
  rw [cut_out n]
  rw [cut_out hM] at this
  exact this
theorem cut_upd_in {M : List Addr} {H : Hp} {D : Addr} {o : HO} (h : D ∈ M) : cut M (upd H D o) = cut M H := by
  funext a
  by_cases m : a ∈ M
  · rw [cut_in m, cut_in m]
  · rw [cut_out m, cut_out m, upd_ne fun e => m (by rw [e]; exact h)]
/-- what a target does of a value -/
def Tg1 (K : PySem.W.Frag) (g : TG) (vs : List Nat) (ρ : List Sl) (r : Sl) (ρ' : List Sl) : Prop :=
  ∀ (M : List Addr) (σ : St) (H : Hp) (v : V) (Q : St → Hp → Prop), Slots K (cut M H) σ ρ → Sv K (cut M H) r v → (∀ σ2, Slots K (cut M H) σ2 ρ' → wipe σ2 vs = wipe σ vs → Q σ2 H) → g v σ H Q
theorem tg_name {K : PySem.W.Frag} {i : Nat} {vs : List Nat} {ρ : List Sl} {r : Sl} (hi : i ∈ vs) : Tg1 K (gName i) vs ρ r (ρ.set i r) := fun M σ H v Q hσ hv q => q _ (Slots.set hv i hσ) (wipe_set hi)
/-- a, b = a pair -/
theorem tg_pair {K : PySem.W.Frag} {i j : Nat} {vs : List Nat} {ρ : List Sl} {d1 d2 : PyData} (hi : i ∈ vs) (hj : j ∈ vs) :
    Tg1 K (gTup K 2 (gCons (gName i) (gCons (gName j) gNil))) vs ρ (.dat (.tuple [d1, d2])) ((ρ.set i (.dat d1)).set j (.dat d2)) := fun M σ H v Q hσ hv q => by
  obtain ⟨a, xs, rfl, ha, hd⟩ := sv_tup hv
  cases hd with
  | cons h1 h2 =>
    cases h2 with
    | cons h2 h3 =>
      cases h3
      refine ⟨a, _, rfl, ex_t ex_cut ha, rfl, _, _, rfl, _, _, rfl, rfl, ?_⟩
      exact q _ (Slots.set (r := .dat d2) h2 j (Slots.set (r := .dat d1) h1 i hσ)) ((wipe_set hj).trans (wipe_set hi))
section
variable {S : Type} {X : Cx} {M : List Addr} {R : S → Hp → Prop} {ρ : List Sl} {s : S}
/-- the contexts of a comprehension's block -/
abbrev Bk (X : Cx) (scope : Scope) (sh : Shared) (Hh : Hp) (C : Addr) (cl : List (Str × Addr)) (fp : List Addr) : Cx := X.blk sh Hh scope (compEnvC scope cl C X.env) fp
def wbE (X : Cx) (scope : Scope) (e : Expr) : TE := fun σ H Q => ∀ sh Hh C cl fp, wE (Bk X scope sh Hh C cl fp) e σ H Q
def wbT (X : Cx) (scope : Scope) (ifs : List Expr) : TT := match ifs with
  | [] => tYes
  | [c] => fun σ H Q => ∀ sh Hh C cl fp, wT (Bk X scope sh Hh C cl fp) c σ H Q
  | _ => fun _ _ _ => False
/-- one turn: the test and the item -/
def Lc1 (X : Cx) (scope : Scope) (M : List Addr) (R : S → Hp → Prop) (ρ : List Sl) (ifs : List Expr) (elt : Expr) (s : S) (o o' : List PyData) (s' : S) : Prop :=
  ∀ D acc, Rg (D :: M) (RD R D acc) → ∃ (b : Bool) (s1 : S),
    (match ifs with
      | [] => b = true ∧ s1 = s
      | [c] => ∀ sh Hh C cl fp, EvT1 (Bk X scope sh Hh C cl fp) (D :: M) (RD R D acc) ρ c s b s1
      | _ => False) ∧
    (b = true → ∃ d, o' = o ++ [d] ∧ ∀ sh Hh C cl fp, Ev1 (Bk X scope sh Hh C cl fp) (D :: M) (RD R D acc) ρ elt s1 (.dat d) s') ∧ (b = false → o' = o ∧ s' = s1)
theorem e_lc (g : Rg M R) {elt tg iter : Expr} {ifs : List Expr} {scope : Scope} {own : List (Str × Nat)} {pos : Pos} {gt : TG} {n : Nat} {it : Nat → Sl} {ss : Nat → S} {outs : Nat → List PyData} (hc : X.calm = true) (hN : X.N.Nodup)
    (ok : BlkOk X.N X.env.scope scope own) (hg : ∀ sh Hh C cl fp, PG (Bk X scope sh Hh C cl fp) tg gt) (hi : EvI1 X M R ρ tg iter s n it (ss 0)) (h0 : outs 0 = []) (hz : ∀ i, i < n → (outs i).length < 100000)
    (hs : ∀ i, i < n → ∃ ρ', Tg1 X.K gt (own.map (·.2)) (wipeR ρ (own.map (·.2))) (it i) ρ' ∧ Lc1 X scope M R ρ' ifs elt (ss i) (outs i) (outs (i + 1)) (ss (i + 1)))
    (hfs : ∀ x, foldedSetIterable iter X.env x = pure x := by intro _; rfl) :
    Ev1 X M R ρ (.ListComp elt [⟨tg, iter, ifs, 0⟩] scope pos) s (.dat (.list (outs n))) (ss n) := by
  intro σ H Q hσ hR q
  obtain ⟨wi, pwi, hwi⟩ := hi
  have pts : ∀ (sh : Shared) (Hh : Hp) (C : Addr) (cl : List (Str × Addr)) (fp : List Addr), PTs (Bk X scope sh Hh C cl fp) ifs (wbT X scope ifs) := by
    intro sh Hh C cl fp
    match ifs with
    | [] => exact pts_nil
    | [c] => exact pts_one ⟨fun pins s σ H Q I h => h sh Hh C cl fp pins s I⟩
    | _ :: _ :: _ => exact ⟨fun pins s σ H Q I h => h.elim⟩
  refine wE_of (pe_lc (te := wbE X scope elt) (tt := wbT X scope ifs) (g := gt) (own := own) hc hN pwi ok hg pts (fun sh Hh C cl fp => ⟨fun pins s σ H Q I h => h sh Hh C cl fp pins s I⟩) hfs) ?_
  refine hwi σ H _ hσ hR fun J H1 e1 R1 hsrc D nD => ?_
  obtain ⟨G, hG, w⟩ := hsrc
  have hDM : D ∉ M := g.fresh R1 nD
  refine lc_it w (fun i H' => R (ss i) (rem D H') ∧ Ex (cut M H1) (cut M H') ∧ ∃ acc, H' D = some (.lst acc) ∧ DvAll X.K (cut (D :: M) H') acc (outs i)) ?_ (fun i H' _ ⟨_, e, _⟩ => hG H' e) ?_ ?_
  · refine ⟨by rw [rem_upd, rem_free nD]; exact R1, exCut (Ex.new nD), [], upd_same, ?_⟩
    rw [h0]
    exact .nil
  · intro i x H2 H' hi ⟨R2, e2, acc, hD, hacc⟩ hy
    obtain ⟨ρ', ht, hl⟩ := hs i hi
    have gD := RD.rg g D acc
    have RD2 : RD R D acc (ss i) H2 := ⟨R2, hD⟩
    obtain ⟨eH, sx⟩ := hy (D :: M) (cut_cons_none nD) (fun a m => gD.dom RD2 m) (ex_cut_back nD e2)
    have RD3 : RD R D acc (ss i) H' := gD.up RD2 eH
    have e12 : Ex (cut M H1) (cut M H') := e2.trans (exCut eH)
    have hσ' : Slots X.K (cut (D :: M) H') (wipe σ (own.map (·.2))) (wipeR ρ (own.map (·.2))) := by
      have := slots_wipe hσ (own.map (·.2))
      refine Slots.ex ?_ this
      have ee : Ex (cut M H) (cut (D :: M) H1) := by
        rw [cut_cons_none nD]
        exact e1
      exact ee.trans (ex_cut_back nD e12)
    refine ht (D :: M) _ H' x _ hσ' sx fun σ2 hσ2 hw2 => ?_
    refine ⟨hw2.trans wipe_wipe, ?_⟩
    have hacc' : DvAll X.K (cut (D :: M) H') acc (outs i) := dpa_ex (exCut eH) _ _ hacc
    obtain ⟨b, s1, hb, hb1, hb0⟩ := hl D acc gD
    have fin : ∀ H3, Ex (cut (D :: M) H') (cut (D :: M) H3) → RD R D acc s1 H3 → (if b = true then wbE X scope elt σ2 H3 fun y H4 => ∃ acc, H4 D = some (.lst acc) ∧ acc.length < sizeLine ∧
        (R (ss (i + 1)) (rem D (upd H4 D (.lst (acc ++ [y])))) ∧ Ex (cut M H1) (cut M (upd H4 D (.lst (acc ++ [y])))) ∧ ∃ acc', upd H4 D (.lst (acc ++ [y])) D = some (.lst acc') ∧ DvAll X.K (cut (D :: M) (upd H4 D (.lst (acc ++ [y])))) acc' (outs (i + 1)))
        else (R (ss (i + 1)) (rem D H3) ∧ Ex (cut M H1) (cut M H3) ∧ ∃ acc, H3 D = some (.lst acc) ∧ DvAll X.K (cut (D :: M) H3) acc (outs (i + 1)))) := by
      intro H3 e3 R3
      have back : ∀ {H5 : Hp}, Ex (cut (D :: M) H') (cut (D :: M) H5) → Ex (cut M H1) (cut M H5) := fun {H5} e a o ha => by
        have hne : a ≠ D := fun z => by
          rw [z] at ha
          rw [(cut_some ha).2] at nD
          cases nD
        have hM := (cut_some ha).1
        have q1 := e12 a o ha
        have n2 : a ∉ D :: M := fun z => (List.mem_cons.mp z).elim hne hM
        have q2 := e a o (by rw [cut_out n2]; rw [cut_out hM] at q1; exact q1)
        rw [cut_out hM]
        rw [cut_out n2] at q2
        exact q2
      cases b with
      | true =>
        rw [if_pos rfl]
        obtain ⟨d, eo, he⟩ := hb1 rfl
        intro sh Hh C cl fp
        refine he sh Hh C cl fp σ2 H3 _ (hσ2.ex e3) R3 fun y H4 e4 R4 d4 => ?_
        have la : acc.length = (outs i).length := dpa_length hacc
        refine ⟨acc, R4.2, by rw [la]; exact Nat.lt_of_lt_of_le (hz i hi) (by decide), ?_, ?_, acc ++ [y], upd_same, ?_⟩
        · rw [rem_upd]; exact R4.1
        · have := back (e3.trans e4)
          intro a o ha
          have hne : a ≠ D := fun z => by
            rw [z] at ha
            rw [(cut_some ha).2] at nD
            cases nD
          have q1 := this a o ha
          rw [cut_out (cut_some ha).1] at q1 ⊢
          rw [upd_ne hne]
          exact q1
        · rw [cut_upd_in List.mem_cons_self, eo]
          exact dpa_app (dpa_ex (e3.trans e4) _ _ hacc') (.cons d4 .nil)
      | false =>
        rw [if_neg Bool.false_ne_true]
        obtain ⟨eo, es⟩ := hb0 rfl
        refine ⟨by rw [es]; exact R3.1, back e3, acc, R3.2, ?_⟩
        rw [eo]
        exact dpa_ex e3 _ _ hacc'
    match ifs, hb with
    | [], hb =>
      obtain ⟨hbt, hs1⟩ := hb
      subst hbt
      exact fin H' (exId _) (by rw [hs1]; exact RD3)
    | [c], hb =>
      intro sh Hh C cl fp
      refine hb sh Hh C cl fp σ2 H' _ hσ2 RD3 fun H3 e3 R3 => ?_
      exact fin H3 e3 R3
    | _ :: _ :: _, hb => exact hb.elim
  · intro H' ⟨R', e', acc, hD, hacc⟩
    exact q (.ref D) H' (e1.trans e') (g.up R' ex_rem) (.lst (by rw [cut_out hDM]; exact hD) (dpa_ex cut_cons _ _ hacc))
end
end DV
namespace DV
open PySem PySem.Spec L2 Evl
open PyProof.Rows hiding St
/-! ### defs and what they promise -/
/-- a def by its name, called by places -/
structure Cal (P : Program) (w : World) (K : PySem.W.Frag) (mg : Str → Option Value) (base : Heap) (x : Str) (k : Nat) (sp : Sp) : Prop where
  ex : ∃ (f : Addr) (fd : FuncData) (ps : List Str), FnOk P w K mg base (L2.CX P w) k f fd ps sp ∧ mg x = some (.ref f) ∧ PySem.W.keepIn K (.ref f) = true ∧ Binds K fd ps []
theorem Cal.mono {P : Program} {w : World} {K : PySem.W.Frag} {mg : Str → Option Value} {base : Heap} {x : Str} {j k : Nat} {sp : Sp} (c : Cal P w K mg base x j sp) (h : j ≤ k) : Cal P w K mg base x k sp := by
  obtain ⟨f, fd, ps, F, r⟩ := c.ex
  exact ⟨f, fd, ps, F.mono h, r⟩
theorem Cal.imp {P : Program} {w : World} {K : PySem.W.Frag} {mg : Str → Option Value} {base : Heap} {x : Str} {k : Nat} {sp sp' : Sp} (c : Cal P w K mg base x k sp) (h : ∀ vs H Q E, sp' vs H Q E → sp vs H Q E) : Cal P w K mg base x k sp' := by
  obtain ⟨f, fd, ps, F, r⟩ := c.ex
  exact ⟨f, fd, ps, F.imp h, r⟩
/-- a def of the text as the top leaves it -/
structure Def (K : PySem.W.Frag) (mg : Str → Option Value) (x : Str) (st : Stmt) (ps : List Str) : Prop where
  ex : ∃ (f : Addr) (fd : FuncData), Fun K x x st f fd ∧ mg x = some (.ref f) ∧ Binds K fd ps []
/-- how a call ends: a value, or an error of a class -/
inductive Out where
  | ok (r : Sl) | er (c : Value)
def Fin (K : PySem.W.Frag) (M : List Addr) (H : Hp) (Q : VK) (E : XK) : Out → Prop
  | .ok r => ∀ v H', Ex H H' → Sv K (cut M H') r v → Q v H'
  | .er c => ∀ H', Ex H H' → E c none H'
/-- nothing that is there is changed; G: what goes in and what comes out -/
def spS (K : PySem.W.Frag) (G : List Sl → Out → Prop) : Sp := fun vs H Q E => ∃ (M : List Addr) (rs : List Sl) (o : Out), (∀ a ∈ M, ∃ o, H a = some o) ∧ SvAll K (cut M H) rs vs ∧ G rs o ∧ Fin K M H Q E o
/-- a def's context -/
abbrev dx (P : Program) (w : World) (K : PySem.W.Frag) (mg : Str → Option Value) (base : Heap) (N : List Str) (x : Str) (st : Stmt) (f : Addr) (cdv : Value) (A : Around) (outer : List Env) (sh : Shared) (H : Hp) (E : XK) : Cx :=
  cxOf (L2.CX P w) P w K mg base N x (defScope st) f cdv A outer sh H E
section
variable {P : Program} {w : World} {K : PySem.W.Frag} {mg : Str → Option Value} {base : Heap}
theorem rg_pure {M : List Addr} {H : Hp} (hM : ∀ a ∈ M, ∃ o, H a = some o) : Rg M (fun (_ : Unit) H' => Ex H H') :=
  ⟨fun a e => a.trans e, fun e m => by
    obtain ⟨o, q⟩ := hM _ m
    exact ⟨o, e _ o q⟩⟩
/-- what a body is to show: R opaque -/
def Body (P : Program) (w : World) (K : PySem.W.Frag) (mg : Str → Option Value) (base : Heap) (N : List Str) (x : Str) (st : Stmt) (k : Nat) (rs : List Sl) (o : Out) : Prop :=
  ∀ (f : Addr) (cdv : Value) (A : Around) (outer : List Env) (sh : Shared) (H : Hp) (E : XK) (M : List Addr) (R : Unit → Hp → Prop) (D : Ends), Room k (A.deeper (envOfC x (defScope st) sh.heap.objs.size f cdv)) → Rg M R →
    (∀ r v H', o = .ok r → R () H' → Sv K (cut M H') r v → D.rt v H') → (∀ σ H', o = .ok (.dat .none) → R () H' → D.nx σ H') → (∀ c H', o = .er c → R () H' → E c none H') →
    St1 (dx P w K mg base N x st f cdv A outer sh H E) M R (ini N rs) (defBody st) () D
theorem Def.cal {x : Str} {st : Stmt} {ps N : List Str} {k : Nat} {G : List Sl → Out → Prop} (d : Def K mg x st ps) (S : FnScope N ps (defScope st)) (len : ∀ rs o, G rs o → rs.length = ps.length)
    (hb : ∀ rs o, G rs o → Body P w K mg base N x st k rs o) : Cal P w K mg base x (k + 1) (spS K G) := by
  obtain ⟨f, fd, F, hm, b⟩ := d.ex
  refine ⟨f, fd, ps, ?_, hm, F.kp, b⟩
  refine F.okX S (fun vs H Q E ⟨M, rs, o, _, sv, g, _⟩ => by rw [sv.len, len rs o g]) fun cdv A outer s H vs Q E hr ⟨M, rs, o, hM, sv, g, q⟩ => ?_
  refine ⟨_, pss_w, ?_⟩
  refine hb rs o g f cdv A outer s H E M (fun _ H' => Ex H H') { nx := fun _ H' => Q .non H', rt := Q } hr (rg_pure hM) ?_ ?_ ?_ _ H (slots_ini sv) (exId _)
  · intro r v H' e h sv'
    subst e
    exact q v H' h sv'
  · intro σ H' e h
    subst e
    exact q .non H' h .non
  · intro c H' e h
    subst e
    exact q H' h
end
/-! ### calls of one's own defs -/
section
variable {S : Type} {X : Cx} {M : List Addr} {R : S → Hp → Prop} {ρ : List Sl} {s s1 s2 : S} {x : Str} {e : Expr} {es : List Expr} {px pos : Pos} {rs : List Sl} {j k : Nat} {sp : Sp} {E : XK}
theorem w_call {σ : St} {H : Hp} {Q : VK} (c : Cal X.prog X.w X.K X.mg X.base x k sp) (hr : Room j X.A) (hk : k ≤ j) (hg : Gl X x) (hx : Passes (L2.CX X.prog X.w) X E) (ha : EvA1 X M R ρ (e :: es) s rs s1) (hσ : Slots X.K (cut M H) σ ρ) (hR : R s H)
    (h : ∀ vs H1, Ex (cut M H) (cut M H1) → SvAll X.K (cut M H1) rs vs → R s1 H1 → sp vs H1 Q E) (hdb : (x == ("__debug__" : Str)) = false := by decide)
    (he : starEach (e :: es) X.env = (false, eval e X.env) :: starEach es X.env := by rfl) (hpl : (backTo pos (starEach es X.env)).any (·.1) = false := by rfl) : wE X (.Call (.Name x px) (e :: es) [] pos) σ H Q := by
  obtain ⟨f, fd, ps, F, hm, hkp, hb⟩ := c.ex
  refine wE_of (pe_call F (hr.mono hk) hg hm hkp hb .nil hx pa_w hdb he hpl) ?_
  refine ha σ H _ hσ hR fun vs H1 e1 R1 d1 => ?_
  rw [List.append_nil]
  exact h vs H1 e1 d1 R1
/-- a def that changes nothing, and raises nothing here -/
theorem e_call (g : Rg M R) {G : List Sl → Out → Prop} {r : Sl} (c : Cal X.prog X.w X.K X.mg X.base x k (spS X.K G)) (hr : Room j X.A) (hk : k ≤ j) (hg : Gl X x) (hG : G rs (.ok r)) (ha : EvA1 X M R ρ (e :: es) s rs s1) (hdb : (x == ("__debug__" : Str)) = false := by decide)
    (he : starEach (e :: es) X.env = (false, eval e X.env) :: starEach es X.env := by rfl) (hpl : (backTo pos (starEach es X.env)).any (·.1) = false := by rfl) : Ev1 X M R ρ (.Call (.Name x px) (e :: es) [] pos) s r s1 := by
  intro σ H Q hσ hR q
  refine w_call c hr hk hg passL ha hσ hR (fun vs H1 e1 d1 R1 => ?_) hdb he hpl
  exact ⟨M, rs, .ok r, fun a m => g.dom R1 m, d1, hG, fun v H' e2 d2 => q v H' (e1.trans (exCut e2)) (g.up R1 e2) d2⟩
/-- .. and raises an error of the class c -/
theorem x_call (g : Rg M R) {G : List Sl → Out → Prop} {cl : Value} {σ : St} {H : Hp} {Q : VK} (c : Cal X.prog X.w X.K X.mg X.base x k (spS X.K G)) (hr : Room j X.A) (hk : k ≤ j) (hg : Gl X x) (hx : Passes (L2.CX X.prog X.w) X E) (hG : G rs (.er cl)) (ha : EvA1 X M R ρ (e :: es) s rs s1)
    (hσ : Slots X.K (cut M H) σ ρ) (hR : R s H) (h : ∀ H1, Ex (cut M H) (cut M H1) → R s1 H1 → E cl none H1) (hdb : (x == ("__debug__" : Str)) = false := by decide)
    (he : starEach (e :: es) X.env = (false, eval e X.env) :: starEach es X.env := by rfl) (hpl : (backTo pos (starEach es X.env)).any (·.1) = false := by rfl) : wE X (.Call (.Name x px) (e :: es) [] pos) σ H Q :=
  w_call c hr hk hg hx ha hσ hR (fun vs H1 e1 d1 R1 => ⟨M, rs, .er cl, fun a m => g.dom R1 m, d1, hG, fun H' e2 => h H' (e1.trans (exCut e2)) (g.up R1 e2)⟩) hdb he hpl
/-- either way -/
theorem o_call (g : Rg M R) {G : List Sl → Out → Prop} {o : Out} {σ : St} {H : Hp} {Q : VK} (c : Cal X.prog X.w X.K X.mg X.base x k (spS X.K G)) (hr : Room j X.A) (hk : k ≤ j) (hg : Gl X x) (hx : Passes (L2.CX X.prog X.w) X E) (hG : G rs o) (ha : EvA1 X M R ρ (e :: es) s rs s1)
    (hσ : Slots X.K (cut M H) σ ρ) (hR : R s H) (h : ∀ r v H1, o = .ok r → Ex (cut M H) (cut M H1) → R s1 H1 → Sv X.K (cut M H1) r v → Q v H1) (hx2 : ∀ cl H1, o = .er cl → Ex (cut M H) (cut M H1) → R s1 H1 → E cl none H1) (hdb : (x == ("__debug__" : Str)) = false := by decide)
    (he : starEach (e :: es) X.env = (false, eval e X.env) :: starEach es X.env := by rfl) (hpl : (backTo pos (starEach es X.env)).any (·.1) = false := by rfl) : wE X (.Call (.Name x px) (e :: es) [] pos) σ H Q :=
  w_call c hr hk hg hx ha hσ hR (fun vs H1 e1 d1 R1 => ⟨M, rs, o, fun a m => g.dom R1 m, d1, hG, by
    cases o with
    | ok r => exact fun v H' e2 d2 => h r v H' rfl (e1.trans (exCut e2)) (g.up R1 e2) d2
    | er cl => exact fun H' e2 => hx2 cl H' rfl (e1.trans (exCut e2)) (g.up R1 e2)⟩) hdb he hpl
end
/-! ### statements -/
section
variable {S : Type} {X : Cx} {M : List Addr} {R : S → Hp → Prop} {ρ : List Sl} {s s1 s2 : S} {e : Expr} {rest : List Stmt} {pos : Pos} {D : Ends}
theorem wB_cons {st : Stmt} {σ : St} {H : Hp} (h : wS X st { D with nx := wB X rest D } σ H) : wB X (st :: rest) D σ H := wB_of (pss_cons ps_w pss_w) h
theorem st_nil (h : ∀ σ H, Slots X.K (cut M H) σ ρ → R s H → D.nx σ H) : St1 X M R ρ [] s D := fun σ H hσ hR => wB_of pss_nil (h σ H hσ hR)
theorem st_set (i : Nat) {x : Str} {px : Pos} {r : Sl} (hN : X.N.Nodup) (hi : X.N[i]? = some x) (hx : Loc X.env.scope x) (he : Ev1 X M R ρ e s r s1) (k : St1 X M R (ρ.set i r) rest s1 D)
    (hs : swapsWith e (some (.Name x px)) pos.line X.env = pure false := by rfl) (hf : X.fn x = true ∨ X.env.scope.names.lookup x = some .local := by first | exact .inl rfl | exact .inr rfl) : St1 X M R ρ (.Assign [.Name x px] e pos :: rest) s D := by
  intro σ H hσ hR
  refine wB_cons (wS_of (ps_set (i := i) hN hi hx pe_w hs hf) ?_)
  exact he σ H _ hσ hR fun v H1 e1 R1 d1 => k _ H1 (Slots.set d1 i (hσ.ex e1)) R1
theorem st_ret {r : Sl} (he : Ev1 X M R ρ e s r s1) (k : ∀ v H', R s1 H' → Sv X.K (cut M H') r v → D.rt v H') : St1 X M R ρ (.Return (some e) pos :: rest) s D := by
  intro σ H hσ hR
  refine wB_cons (wS_of (ps_ret pe_w) ?_)
  exact he σ H _ hσ hR fun v H1 e1 R1 d1 => k v H1 R1 d1
theorem st_retN (k : ∀ H', R s H' → D.rt .non H') : St1 X M R ρ (.Return none pos :: rest) s D := fun σ H hσ hR => wB_cons (wS_of ps_retN (k H hR))
theorem st_if {c : Expr} {a b : List Stmt} {k : Bool} (hc : EvT1 X M R ρ c s k s1) (h1 : k = true → St1 X M R ρ a s1 { D with nx := wB X rest D }) (h2 : k = false → St1 X M R ρ b s1 { D with nx := wB X rest D }) : St1 X M R ρ (.If c a b pos :: rest) s D := by
  intro σ H hσ hR
  refine wB_cons (wS_of (ps_if pt_w pss_w pss_w) ?_)
  refine hc σ H _ hσ hR fun H1 e1 R1 => ?_
  cases k with
  | true =>
    rw [if_pos rfl]
    exact h1 rfl σ H1 (hσ.ex e1) R1
  | false =>
    rw [if_neg Bool.false_ne_true]
    exact h2 rfl σ H1 (hσ.ex e1) R1
/-- the end of a branch: what follows -/
theorem st_thru (k : St1 X M R ρ rest s D) : St1 X M R ρ [] s { D with nx := wB X rest D } := st_nil k
theorem st_expr {r : Sl} (he : Ev1 X M R ρ e s r s1) (k : St1 X M R ρ rest s1 D) (hs : swapsWith e none pos.line X.env = pure false := by rfl) : St1 X M R ρ (.Expr e pos :: rest) s D := by
  intro σ H hσ hR
  refine wB_cons (wS_of (ps_expr pe_w hs) ?_)
  exact he σ H _ hσ hR fun v H1 e1 R1 d1 => k σ H1 (hσ.ex e1) R1
/-- .. that may leave by an error -/
theorem st_exprW (h : ∀ σ H, Slots X.K (cut M H) σ ρ → R s H → wE X e σ H fun _ H1 => wB X rest D σ H1) (hs : swapsWith e none pos.line X.env = pure false := by rfl) : St1 X M R ρ (.Expr e pos :: rest) s D :=
  fun σ H hσ hR => wB_cons (wS_of (ps_expr pe_w hs) (h σ H hσ hR))
theorem st_pass (k : St1 X M R ρ rest s D) : St1 X M R ρ (.Pass pos :: rest) s D := fun σ H hσ hR => wB_cons (wS_of ps_pass (k σ H hσ hR))
/-- raise C(..), C an own class without own __init__ -/
structure Exn (K : PySem.W.Frag) (mg : Str → Option Value) (x : Str) (C : Addr) : Prop where
  gC : mg x = some (.ref C)
  xC : PySem.W.excIn K C [.type "ValueError", .type "Exception", .type "BaseException", .type "object"] "ValueError.__new__" = true
  kC : PySem.W.keepIn K (.ref C) = true
  bC : PySem.W.subIn K (.ref C) (.type "BaseException") = some true
  tC : PySem.W.typeIn K (.ref C) = some (.type "type")
theorem st_raise {x : Str} {C : Addr} {es : List Expr} {px pos2 : Pos} {rs : List Sl} {W : WX} (hc : X.calm = true) (n : Exn X.K X.mg x C) (tk : Takes X W) (hg : Gl X x) (ha : EvA1 X M R ρ (e :: es) s rs s1) (hl : rs.length ≤ 1000) (k : ∀ σ H', Slots X.K (cut M H') σ ρ → R s1 H' → W (.ref C) none σ H')
    (hdb : (x == ("__debug__" : Str)) = false := by decide) (he : starEach (e :: es) X.env = (false, eval e X.env) :: starEach es X.env := by rfl) (hpl : (backTo pos (starEach es X.env)).any (·.1) = false := by rfl) :
    St1 X M R ρ (.Raise (some (.Call (.Name x px) (e :: es) [] pos)) none pos2 :: rest) s D := by
  intro σ H hσ hR
  refine wB_cons (wS_of (ps_raise hc tk (pmk_ownA PySem.F.excBase_ValueError n.xC n.gC n.kC (raises_own n.bC n.tC) hg pa_w hdb he hpl)) ?_)
  refine ha σ H _ hσ hR fun vs H1 e1 R1 d1 => ⟨?_, k σ H1 (hσ.ex e1) R1⟩
  rw [d1.len]
  exact Nat.le_of_lt (small1000 hl)
/-! for -/
def Tg0 (K : PySem.W.Frag) (g : TG) (ρ : List Sl) (r : Sl) (ρ' : List Sl) : Prop :=
  ∀ (M : List Addr) (σ : St) (H : Hp) (v : V) (Q : St → Hp → Prop), Slots K (cut M H) σ ρ → Sv K (cut M H) r v → (∀ σ2, Slots K (cut M H) σ2 ρ' → Q σ2 H) → g v σ H Q
theorem tg0_name {K : PySem.W.Frag} {i : Nat} {ρ : List Sl} {r : Sl} : Tg0 K (gName i) ρ r (ρ.set i r) := fun M σ H v Q hσ hv q => q _ (Slots.set hv i hσ)
theorem tg0_pair {K : PySem.W.Frag} {i j : Nat} {ρ : List Sl} {d1 d2 : PyData} :
    Tg0 K (gTup K 2 (gCons (gName i) (gCons (gName j) gNil))) ρ (.dat (.tuple [d1, d2])) ((ρ.set i (.dat d1)).set j (.dat d2)) := fun M σ H v Q hσ hv q => by
  obtain ⟨a, xs, rfl, ha, hd⟩ := sv_tup hv
  cases hd with
  | cons h1 h2 =>
    cases h2 with
    | cons h2 h3 =>
      cases h3
      refine ⟨a, _, rfl, ex_t ex_cut ha, rfl, _, _, rfl, _, _, rfl, rfl, ?_⟩
      exact q _ (Slots.set (r := .dat d2) h2 j (Slots.set (r := .dat d1) h1 i hσ))
/-- the state since the loop's start -/
def RX {S : Type} (R : S → Hp → Prop) (M : List Addr) (H1 : Hp) : S → Hp → Prop := fun s H => R s H ∧ Ex (cut M H1) (cut M H)
theorem RX.rg (g : Rg M R) (H1 : Hp) : Rg M (RX R M H1) := ⟨fun ⟨h, x⟩ e => ⟨g.up h e, x.trans (exCut e)⟩, fun ⟨h, _⟩ m => g.dom h m⟩
theorem st_for (g : Rg M R) {tg iter : Expr} {body : List Stmt} {gt : TG} {n : Nat} {it : Nat → Sl} (J : Nat → List Sl → S → Prop) (hp : PassesOwn (model X.prog X.w) X.A X.env X.xe) (hc : X.calm = true) (hg : PG X tg gt) (hi : EvI1 X M R ρ tg iter s n it s1) (h0 : J 0 ρ s1)
    (hs : ∀ i ρi si H1, i < n → J i ρi si → Rg M (RX R M H1) → ∃ ρ', Tg0 X.K gt ρi (it i) ρ' ∧ ∀ (N : St → Hp → Prop), (∀ σ H ρ2 s2, J (i + 1) ρ2 s2 → Slots X.K (cut M H) σ ρ2 → RX R M H1 s2 H → N σ H) → St1 X M (RX R M H1) ρ' body si { D with nx := N, ct := N, bk := wB X rest D })
    (hd : ∀ ρ' s', J n ρ' s' → St1 X M R ρ' rest s' D) (hfs : ∀ x, foldedSetIterable iter X.env x = pure x := by intro _; rfl) : St1 X M R ρ (.For tg iter body [] pos :: rest) s D := by
  intro σ H hσ hR
  obtain ⟨wi, pwi, hwi⟩ := hi
  refine wB_cons (wS_of (ps_for hp hc pwi hg pss_w hfs) ?_)
  refine hwi σ H _ hσ hR fun JJ H1 e1 R1 ⟨G, hG, wk⟩ => ?_
  have g1 := RX.rg g H1
  refine for_it wk (fun i σ H => ∃ ρ' s', J i ρ' s' ∧ Slots X.K (cut M H) σ ρ' ∧ RX R M H1 s' H) ⟨ρ, s1, h0, hσ.ex e1, R1, exId _⟩ (fun i σ H _ ⟨ρ', s', _, _, _, e⟩ => hG H e) ?_ ?_
  · intro i x σ2 H2 H' hi ⟨ρi, si, hJ, hσi, R2⟩ hy
    obtain ⟨ρ', ht, hb⟩ := hs i ρi si H1 hi hJ g1
    obtain ⟨eH, sx⟩ := hy M rfl (fun a m => g1.dom R2 m) R2.2
    refine ht M σ2 H' x _ (hσi.ex (exCut eH)) sx fun σ3 hσ3 => ?_
    exact hb _ (fun σ H ρ2 s2 a b c => ⟨ρ2, s2, a, b, c⟩) σ3 H' hσ3 (g1.up R2 eH)
  · intro σ2 H2 ⟨ρ', s', hJ, hσ', R2, _⟩
    exact hd ρ' s' hJ σ2 H2 hσ' R2
end
end DV
namespace DV
open PySem PySem.Spec L2 Evl
open PyProof.Rows hiding St
theorem itD_lt {ds : List PyData} {i : Nat} {d : PyData} (h : ds[i]? = some d) : itD ds i = .dat d := by
  unfold itD
  rw [h]
theorem itZ_lt {xs ys : List PyData} {i : Nat} {x y : PyData} (h : xs[i]? = some x) (h' : ys[i]? = some y) : itZ xs ys i = .dat (.tuple [x, y]) := by
  unfold itZ
  rw [h, h']
theorem take_succ' {α : Type} {l : List α} {i : Nat} {x : α} (h : l[i]? = some x) : l.take (i + 1) = l.take i ++ [x] := by
  rw [List.take_add_one, h]
  rfl
section
variable {S : Type} {X : Cx} {M : List Addr} {R : S → Hp → Prop} {ρ : List Sl} {s : S} {elt iter : Expr} {scope : Scope} {own : List (Str × Nat)} {pos px : Pos}
/-- [elt for x in a sequence] -/
theorem lc_map (g : Rg M R) {i : Nat} {x : Str} {ds : List PyData} (f : PyData → PyData) (hi : EvI1 X M R ρ (.Name x px) iter s ds.length (itD ds) s) (hz : ds.length ≤ 100000)
    (he : ∀ d, d ∈ ds → ∀ sh Hh C cl fp D acc, Rg (D :: M) (RD R D acc) → Ev1 (Bk X scope sh Hh C cl fp) (D :: M) (RD R D acc) ((wipeR ρ (own.map (·.2))).set i (.dat d)) elt s (.dat (f d)) s)
    (hc : X.calm = true) (hN : X.N.Nodup) (ok : BlkOk X.N X.env.scope scope own) (hg : ∀ sh Hh C cl fp, PG (Bk X scope sh Hh C cl fp) (.Name x px) (gName i)) (hm : i ∈ own.map (·.2))
    (hfs : ∀ x, foldedSetIterable iter X.env x = pure x := by intro _; rfl) : Ev1 X M R ρ (.ListComp elt [⟨.Name x px, iter, [], 0⟩] scope pos) s (.dat (.list (ds.map f))) s := by
  have key := e_lc (own := own) (scope := scope) (elt := elt) (ifs := []) (ss := fun _ => s) (outs := fun i => (ds.take i).map f) (n := ds.length) (pos := pos) g hc hN ok hg hi rfl
    (fun i hi => by
      show ((ds.take i).map f).length < 100000
      rw [List.length_map, List.length_take]
      omega) (fun j hj => ?_) hfs
  · have e : (ds.take ds.length).map f = ds.map f := by rw [List.take_length]
    show Ev1 X M R ρ _ s (.dat (.list (ds.map f))) s
    rw [← e]
    exact key
  · have hd : ds[j]? = some ds[j] := List.getElem?_eq_getElem hj
    refine ⟨_, tg_name hm, fun D acc gD => ⟨true, s, ⟨rfl, rfl⟩, fun _ => ⟨f ds[j], ?_, fun sh Hh C cl fp => ?_⟩, fun h => by cases h⟩⟩
    · show (ds.take (j + 1)).map f = (ds.take j).map f ++ [f ds[j]]
      rw [take_succ' hd, List.map_append]
      rfl
    · rw [itD_lt hd]
      exact he _ (List.getElem_mem hj) sh Hh C cl fp D acc gD
/-- [elt for x in a sequence if c] -/
theorem lc_filter (g : Rg M R) {i : Nat} {x : Str} {c : Expr} {ds : List PyData} (p : PyData → Bool) (f : PyData → PyData) (hi : EvI1 X M R ρ (.Name x px) iter s ds.length (itD ds) s) (hz : ds.length ≤ 100000)
    (ht : ∀ d, d ∈ ds → ∀ sh Hh C cl fp D acc, Rg (D :: M) (RD R D acc) → EvT1 (Bk X scope sh Hh C cl fp) (D :: M) (RD R D acc) ((wipeR ρ (own.map (·.2))).set i (.dat d)) c s (p d) s)
    (he : ∀ d, d ∈ ds → p d = true → ∀ sh Hh C cl fp D acc, Rg (D :: M) (RD R D acc) → Ev1 (Bk X scope sh Hh C cl fp) (D :: M) (RD R D acc) ((wipeR ρ (own.map (·.2))).set i (.dat d)) elt s (.dat (f d)) s)
    (hc : X.calm = true) (hN : X.N.Nodup) (ok : BlkOk X.N X.env.scope scope own) (hg : ∀ sh Hh C cl fp, PG (Bk X scope sh Hh C cl fp) (.Name x px) (gName i)) (hm : i ∈ own.map (·.2))
    (hfs : ∀ x, foldedSetIterable iter X.env x = pure x := by intro _; rfl) : Ev1 X M R ρ (.ListComp elt [⟨.Name x px, iter, [c], 0⟩] scope pos) s (.dat (.list ((ds.filter p).map f))) s := by
  have key := e_lc (own := own) (scope := scope) (elt := elt) (ifs := [c]) (ss := fun _ => s) (outs := fun i => ((ds.take i).filter p).map f) (n := ds.length) (pos := pos) g hc hN ok hg hi rfl
    (fun i hi => by
      show (((ds.take i).filter p).map f).length < 100000
      rw [List.length_map]
      have := List.length_filter_le p (ds.take i)
      rw [List.length_take] at this
      omega) (fun j hj => ?_) hfs
  · have e : ((ds.take ds.length).filter p).map f = (ds.filter p).map f := by rw [List.take_length]
    show Ev1 X M R ρ _ s (.dat (.list ((ds.filter p).map f))) s
    rw [← e]
    exact key
  · have hd : ds[j]? = some ds[j] := List.getElem?_eq_getElem hj
    refine ⟨_, tg_name hm, fun D acc gD => ⟨p ds[j], s, fun sh Hh C cl fp => ?_, fun hp => ⟨f ds[j], ?_, fun sh Hh C cl fp => ?_⟩, fun hp => ⟨?_, rfl⟩⟩⟩
    · rw [itD_lt hd]
      exact ht _ (List.getElem_mem hj) sh Hh C cl fp D acc gD
    · show ((ds.take (j + 1)).filter p).map f = ((ds.take j).filter p).map f ++ [f ds[j]]
      rw [take_succ' hd, List.filter_append, List.filter_cons, if_pos hp, List.map_append]
      rfl
    · rw [itD_lt hd]
      exact he _ (List.getElem_mem hj) hp sh Hh C cl fp D acc gD
    · show ((ds.take (j + 1)).filter p).map f = ((ds.take j).filter p).map f
      rw [take_succ' hd, List.filter_append, List.filter_cons, if_neg (by rw [hp]; exact Bool.false_ne_true), List.filter_nil, List.append_nil]
/-- [elt for a, b in zip(t, u)] -/
theorem lc_zip (g : Rg M R) {i i2 : Nat} {x x2 : Str} {px2 tpos : Pos} {kk : Nat} {xs ys : List PyData} (f : PyData → PyData → PyData) (hi : EvI1 X M R ρ (.Tuple [.Name x px, .Name x2 px2] kk tpos) iter s xs.length (itZ xs ys) s) (hl : xs.length = ys.length) (hz : xs.length ≤ 100000)
    (he : ∀ d e, d ∈ xs → e ∈ ys → ∀ sh Hh C cl fp D acc, Rg (D :: M) (RD R D acc) → Ev1 (Bk X scope sh Hh C cl fp) (D :: M) (RD R D acc) (((wipeR ρ (own.map (·.2))).set i (.dat d)).set i2 (.dat e)) elt s (.dat (f d e)) s)
    (hc : X.calm = true) (hN : X.N.Nodup) (ok : BlkOk X.N X.env.scope scope own)
    (hg : ∀ sh Hh C cl fp, PG (Bk X scope sh Hh C cl fp) (.Tuple [.Name x px, .Name x2 px2] kk tpos) (gTup X.K 2 (gCons (gName i) (gCons (gName i2) gNil)))) (hm : i ∈ own.map (·.2)) (hm2 : i2 ∈ own.map (·.2))
    (hfs : ∀ x, foldedSetIterable iter X.env x = pure x := by intro _; rfl) : Ev1 X M R ρ (.ListComp elt [⟨.Tuple [.Name x px, .Name x2 px2] kk tpos, iter, [], 0⟩] scope pos) s (.dat (.list (List.zipWith f xs ys))) s := by
  have key := e_lc (own := own) (scope := scope) (elt := elt) (ifs := []) (ss := fun _ => s) (outs := fun i => (List.zipWith f xs ys).take i) (n := xs.length) (pos := pos) g hc hN ok hg hi rfl
    (fun i hi => by
      show ((List.zipWith f xs ys).take i).length < 100000
      rw [List.length_take]
      omega) (fun j hj => ?_) hfs
  · have e : (List.zipWith f xs ys).take xs.length = List.zipWith f xs ys := List.take_of_length_le (by rw [List.length_zipWith]; omega)
    show Ev1 X M R ρ _ s (.dat (.list (List.zipWith f xs ys))) s
    rw [← e]
    exact key
  · have hj2 : j < ys.length := by omega
    have hd : xs[j]? = some xs[j] := List.getElem?_eq_getElem hj
    have hd2 : ys[j]? = some ys[j] := List.getElem?_eq_getElem hj2
    have hw : (List.zipWith f xs ys)[j]? = some (f xs[j] ys[j]) := by
      rw [List.getElem?_zipWith, hd, hd2]
    rw [itZ_lt hd hd2]
    refine ⟨_, tg_pair hm hm2, fun D acc gD => ⟨true, s, ⟨rfl, rfl⟩, fun _ => ⟨f xs[j] ys[j], ?_, fun sh Hh C cl fp => ?_⟩, fun h => by cases h⟩⟩
    · show (List.zipWith f xs ys).take (j + 1) = (List.zipWith f xs ys).take j ++ [f xs[j] ys[j]]
      rw [take_succ' hw]
    · exact he _ _ (List.getElem_mem hj) (List.getElem_mem hj2) sh Hh C cl fp D acc gD
/-- [elt for k in range(n)] -/
theorem lc_rng (g : Rg M R) {i : Nat} {x : Str} {n : Nat} {ss : Nat → S} (f : Nat → PyData) (hi : EvI1 X M R ρ (.Name x px) iter s n (fun i => .dat (.int i)) (ss 0)) (hz : n ≤ 100000)
    (he : ∀ j, j < n → ∀ sh Hh C cl fp D acc, Rg (D :: M) (RD R D acc) → Ev1 (Bk X scope sh Hh C cl fp) (D :: M) (RD R D acc) ((wipeR ρ (own.map (·.2))).set i (.dat (.int j))) elt (ss j) (.dat (f j)) (ss (j + 1)))
    (hc : X.calm = true) (hN : X.N.Nodup) (ok : BlkOk X.N X.env.scope scope own) (hg : ∀ sh Hh C cl fp, PG (Bk X scope sh Hh C cl fp) (.Name x px) (gName i)) (hm : i ∈ own.map (·.2))
    (hfs : ∀ x, foldedSetIterable iter X.env x = pure x := by intro _; rfl) : Ev1 X M R ρ (.ListComp elt [⟨.Name x px, iter, [], 0⟩] scope pos) s (.dat (.list ((List.range n).map f))) (ss n) := by
  refine e_lc (own := own) (scope := scope) (elt := elt) (ifs := []) (ss := ss) (outs := fun i => (List.range i).map f) (n := n) (pos := pos) g hc hN ok hg hi rfl
    (fun i hi => by
      show ((List.range i).map f).length < 100000
      rw [List.length_map, List.length_range]
      omega) (fun j hj => ?_) hfs
  refine ⟨_, tg_name hm, fun D acc gD => ⟨true, ss j, ⟨rfl, rfl⟩, fun _ => ⟨f j, ?_, fun sh Hh C cl fp => ?_⟩, fun h => by cases h⟩⟩
  · show (List.range (j + 1)).map f = (List.range j).map f ++ [f j]
    rw [List.range_succ, List.map_append]
    rfl
  · exact he j hj sh Hh C cl fp D acc gD
/-- [elt for k in range(n) if c] -/
theorem lc_rngF (g : Rg M R) {i : Nat} {x : Str} {c : Expr} {n : Nat} (p : Nat → Bool) (f : Nat → PyData) (hi : EvI1 X M R ρ (.Name x px) iter s n (fun i => .dat (.int i)) s) (hz : n ≤ 100000)
    (ht : ∀ j, j < n → ∀ sh Hh C cl fp D acc, Rg (D :: M) (RD R D acc) → EvT1 (Bk X scope sh Hh C cl fp) (D :: M) (RD R D acc) ((wipeR ρ (own.map (·.2))).set i (.dat (.int j))) c s (p j) s)
    (he : ∀ j, j < n → p j = true → ∀ sh Hh C cl fp D acc, Rg (D :: M) (RD R D acc) → Ev1 (Bk X scope sh Hh C cl fp) (D :: M) (RD R D acc) ((wipeR ρ (own.map (·.2))).set i (.dat (.int j))) elt s (.dat (f j)) s)
    (hc : X.calm = true) (hN : X.N.Nodup) (ok : BlkOk X.N X.env.scope scope own) (hg : ∀ sh Hh C cl fp, PG (Bk X scope sh Hh C cl fp) (.Name x px) (gName i)) (hm : i ∈ own.map (·.2))
    (hfs : ∀ x, foldedSetIterable iter X.env x = pure x := by intro _; rfl) : Ev1 X M R ρ (.ListComp elt [⟨.Name x px, iter, [c], 0⟩] scope pos) s (.dat (.list (((List.range n).filter p).map f))) s := by
  refine e_lc (own := own) (scope := scope) (elt := elt) (ifs := [c]) (ss := fun _ => s) (outs := fun i => ((List.range i).filter p).map f) (n := n) (pos := pos) g hc hN ok hg hi rfl
    (fun i hi => by
      show (((List.range i).filter p).map f).length < 100000
      rw [List.length_map]
      have := List.length_filter_le p (List.range i)
      rw [List.length_range] at this
      omega) (fun j hj => ?_) hfs
  refine ⟨_, tg_name hm, fun D acc gD => ⟨p j, s, fun sh Hh C cl fp => ht j hj sh Hh C cl fp D acc gD, fun hp => ⟨f j, ?_, fun sh Hh C cl fp => he j hj hp sh Hh C cl fp D acc gD⟩, fun hp => ⟨?_, rfl⟩⟩⟩
  · show ((List.range (j + 1)).filter p).map f = ((List.range j).filter p).map f ++ [f j]
    rw [List.range_succ, List.filter_append, List.filter_cons, if_pos hp, List.map_append]
    rfl
  · show ((List.range (j + 1)).filter p).map f = ((List.range j).filter p).map f
    rw [List.range_succ, List.filter_append, List.filter_cons, if_neg (by rw [hp]; exact Bool.false_ne_true), List.filter_nil, List.append_nil]
end
end DV
namespace DV
open PySem PySem.Spec L2 Evl
open PyProof.Rows hiding St
section
variable {S : Type} {X : Cx} {M : List Addr} {R : S → Hp → Prop} {ρ : List Sl} {s s1 s2 : S} {e e1 e2 : Expr} {es : List Expr} {pos : Pos}
theorem str_app_len (a b : Str) : (a ++ b).length = a.length + b.length := by
  show (a.cps ++ b.cps).size = a.cps.size + b.cps.size
  exact Array.size_append
/-- the parts of an f-string: their texts -/
def EvJ1 {S : Type} (X : Cx) (M : List Addr) (R : S → Hp → Prop) (ρ : List Sl) : List Expr → List Str → S → Prop
  | [], ys, _ => ys = []
  | e :: es, ys, s => ∃ y r, ys = y :: r ∧ Ev1 X M R ρ e s (.dat (.str y)) s ∧ EvJ1 X M R ρ es r s
theorem j_nil : EvJ1 X M R ρ [] [] s := rfl
theorem j_cons {y : Str} {ys : List Str} (h : Ev1 X M R ρ e s (.dat (.str y)) s) (r : EvJ1 X M R ρ es ys s) : EvJ1 X M R ρ (e :: es) (y :: ys) s := ⟨y, ys, rfl, h, r⟩
def glue : List Str → Str → Str
  | [], acc => acc
  | y :: ys, acc => glue ys (acc ++ y)
def lens : List Str → Nat
  | [] => 0
  | y :: ys => y.length + lens ys
theorem pj_w : ∀ es : List Expr, PJ X es (es.map (wE X))
  | [] => .nil
  | _ :: es => .cons pe_w (pj_w es)
theorem tjs_of : ∀ {es : List Expr} {ys : List Str} (h : EvJ1 X M R ρ es ys s) (acc : Str) (σ : St) (H : Hp) (Q : Str → Hp → Prop), acc.length + lens ys ≤ 100000 → Slots X.K (cut M H) σ ρ → R s H → (∀ H2, Ex (cut M H) (cut M H2) → R s H2 → Q (glue ys acc) H2) → tJs (es.map (wE X)) acc σ H Q
  | [], ys, h, acc, σ, H, Q, hz, hσ, hR, q => by
    have h : ys = [] := h
    subst h
    exact q H (exId _) hR
  | e :: es, ys, h, acc, σ, H, Q, hz, hσ, hR, q => by
    obtain ⟨y, r, rfl, he, hr⟩ := h
    refine he σ H _ hσ hR fun v H1 e1 R1 d1 => ⟨y, sv_str d1, ?_, ?_⟩
    · rw [str_app_len]
      have : lens (y :: r) = y.length + lens r := rfl
      exact upd_sz (by omega)
    · refine tjs_of hr (acc ++ y) σ H1 Q ?_ (hσ.ex e1) R1 fun H2 e2 R2 => q H2 (e1.trans e2) R2
      rw [str_app_len]
      have : lens (y :: r) = y.length + lens r := rfl
      omega
theorem e_fstr {ys : List Str} (h : EvJ1 X M R ρ (e1 :: e2 :: es) ys s) (hz : lens ys ≤ 100000) : Ev1 X M R ρ (.JoinedStr (e1 :: e2 :: es) pos) s (.dat (.str (glue ys Str.empty))) s := by
  intro σ H Q hσ hR q
  refine wE_of (pe_joined (pj_w (e1 :: e2 :: es))) ?_
  exact tjs_of h Str.empty σ H _ (by rw [show Str.empty.length = 0 from rfl, Nat.zero_add]; exact hz) hσ hR fun H2 e2 R2 => q _ H2 e2 R2 (.str _)
theorem e_fmtI {i : Int} (hi : i.natAbs.log2 < 1920) (h : Ev1 X M R ρ e s (.dat (.int i)) s1) : Ev1 X M R ρ (.FormattedValue e (-1) none pos) s (.dat (.str (toString i))) s1 := by
  intro σ H Q hσ hR q
  refine wE_of (pe_fmt pe_w) ?_
  exact h σ H _ hσ hR fun v H1 e1 R1 d1 => .inr ⟨i, sv_int d1, hi, q _ H1 e1 R1 (.str _)⟩
theorem fmt_len {i : Int} (hi : i.natAbs.log2 < 1920) : (Str.ofString (toString i)).length ≤ 10000 := by
  have e := int_text_length_le (k := 1920) (by decide) hi
  rw [PySem.ofString_length]
  omega
theorem log_small {i : Int} (h0 : 0 ≤ i) (h1 : i < 1000000) : i.natAbs.log2 < 1920 := by
  have : i.natAbs < 2 ^ 20 := by omega
  have h2 : i.natAbs.log2 < 20 := by
    by_cases z : i.natAbs = 0
    · rw [z]; decide
    · exact (Nat.log2_lt z).mpr this
  omega
end
end DV
namespace DV
open PySem PySem.Spec L2 Evl
open PyProof.Rows hiding St
/-! ### lists of ints as data -/
abbrev dI (xs : List Int) : List PyData := xs.map PyData.int
theorem lay_ints : ∀ xs : List Int, PyData.canLayAll0 (dI xs) = true
  | [] => rfl
  | _ :: xs => by
    show (true && PyData.canLayAll0 (dI xs)) = true
    rw [lay_ints xs]
    rfl
theorem depth_ints : ∀ xs : List Int, PyData.depthAll (dI xs) = 0
  | [] => rfl
  | _ :: xs => by
    show max 0 (PyData.depthAll (dI xs)) = 0
    rw [depth_ints xs]
    rfl
theorem shaped_tI (xs : List Int) : SeqAt.shaped (.tuple (dI xs)) = true := by
  show (PyData.canLayAll0 (dI xs) && decide (PyData.depthAll (dI xs) + 1 ≤ 64)) = true
  rw [lay_ints, depth_ints]
  rfl
theorem shaped_lI (xs : List Int) : SeqAt.shaped (.list (dI xs)) = true := by
  show (PyData.canLayAll0 (dI xs) && decide (PyData.depthAll (dI xs) + 1 ≤ 64)) = true
  rw [lay_ints, depth_ints]
  rfl
theorem eqv_all_ints : ∀ xs ys : List Int, PyData.eqvAll (dI xs) (dI ys) = decide (xs = ys)
  | [], [] => rfl
  | [], _ :: _ => by
    show false = _
    rw [decide_eq_false (by simp)]
  | _ :: _, [] => by
    show false = _
    rw [decide_eq_false (by simp)]
  | x :: xs, y :: ys => by
    show ((x == y) && PyData.eqvAll (dI xs) (dI ys)) = _
    rw [eqv_all_ints xs ys, Bool.eq_iff_iff]
    simp
theorem eqv_tI (xs ys : List Int) : PyData.eqv (.tuple (dI xs)) (.tuple (dI ys)) = decide (xs = ys) := eqv_all_ints xs ys
theorem eqv_lI (xs ys : List Int) : PyData.eqv (.list (dI xs)) (.list (dI ys)) = decide (xs = ys) := eqv_all_ints xs ys
theorem zip_dI (f : Int → Int → Int) (g : PyData → PyData → PyData) (h : ∀ i j, g (.int i) (.int j) = .int (f i j)) : ∀ xs ys : List Int, List.zipWith g (dI xs) (dI ys) = dI (List.zipWith f xs ys)
  | [], _ => rfl
  | _ :: _, [] => rfl
  | x :: xs, y :: ys => by
    show g (.int x) (.int y) :: List.zipWith g (dI xs) (dI ys) = .int (f x y) :: dI (List.zipWith f xs ys)
    rw [h, zip_dI f g h xs ys]
theorem zip_dB (f : Int → Int → Bool) (g : PyData → PyData → PyData) (h : ∀ i j, g (.int i) (.int j) = .bool (f i j)) : ∀ xs ys : List Int, List.zipWith g (dI xs) (dI ys) = (List.zipWith f xs ys).map .bool
  | [], _ => rfl
  | _ :: _, [] => rfl
  | x :: xs, y :: ys => by
    show g (.int x) (.int y) :: List.zipWith g (dI xs) (dI ys) = .bool (f x y) :: (List.zipWith f xs ys).map .bool
    rw [h, zip_dB f g h xs ys]
theorem mem_dI {xs : List Int} {d : PyData} (h : d ∈ dI xs) : ∃ i, d = .int i ∧ i ∈ xs := by
  obtain ⟨i, hi, rfl⟩ := List.mem_map.mp h
  exact ⟨i, rfl, hi⟩
end DV
namespace DV
open PySem PySem.Spec L2 Evl
open PyProof.Rows hiding St
section
variable {S : Type} {X : Cx} {M : List Addr} {R : S → Hp → Prop} {ρ : List Sl} {s s1 s2 : S} {e e' a b : Expr} {px px2 pos : Pos}
/-- the name in slot i -/
theorem v (i : Nat) {x : Str} {r : Sl} (hr : ρ[i]? = some r := by rfl) (hne : r ≠ .any := by exact fun h => by cases h) (hN : X.N[i]? = some x := by rfl) (hv : Vis X.env.scope x := by first | exact Or.inl rfl | exact Or.inr (Or.inl rfl) | exact Or.inr (Or.inr rfl))
    (hd : (x == ("__debug__" : Str)) = false := by decide) (hcd : (x == ("__classdict__" : Str)) = false := by decide) : Ev1 X M R ρ (.Name x pos) s r s := e_var i hr hne hN hv hd hcd
/-- a module's int -/
theorem gi {x : Str} {i : Int} (hm : ∃ t, X.mg x = some (.int i t)) (hg : Gl X x := by rfl) (hd : (x == ("__debug__" : Str)) = false := by decide) : Ev1 X M R ρ (.Name x pos) s (.dat (.int i)) s := by
  obtain ⟨t, hm⟩ := hm
  exact e_glob hg hm (v := .int i) ⟨t, rfl⟩ (fun H => Dv.int i) hd
/-- isinstance(e, T) -/
theorem isi {T : String} {x : Str} {d : PyData} {k : Bool} (hb : bootBuiltins x = some (.type T)) (hi : X.mg "isinstance" = none) (hx : X.mg x = none) (hk : kitB (dTy d) T = some k) (he : Ev1 X M R ρ e s (.dat d) s1) (hg : Gl X "isinstance" := by rfl) (hg2 : Gl X x := by rfl)
    (hn : x ≠ "__name__" := by decide) (hd : (x == ("__debug__" : Str)) = false := by decide) (h1 : starEach [e, .Name x px2] X.env = (false, eval e X.env) :: starEach [.Name x px2] X.env := by rfl) (h2 : starEach [.Name x px2] X.env = (false, eval (.Name x px2) X.env) :: starEach [] X.env := by rfl)
    (hpl : (backTo pos (starEach [.Name x px2] X.env)).any (·.1) = false := by rfl) : Ev1 X M R ρ (.Call (.Name "isinstance" px) [e, .Name x px2] [] pos) s (.dat (.bool k)) s1 :=
  e_isi hg hi hk (a_cons he (a_cons (e_bltn hg2 hx hb (v := .ty T) rfl hn hd) a_nil h2) h1) h1 hpl
end
/-- the built-in names that no global hides -/
structure Bl (mg : Str → Option Value) : Prop where
  isi : mg "isinstance" = none
  bool : mg "bool" = none
  int : mg "int" = none
  str : mg "str" = none
  tuple : mg "tuple" = none
  list : mg "list" = none
  len : mg "len" = none
  all : mg "all" = none
  max : mg "max" = none
  zip : mg "zip" = none
  range : mg "range" = none
theorem boot_all : bootBuiltins "all" = some (.builtin "all") := by decide +kernel
def isB : PyData → Bool
  | .bool _ => true
  | _ => false
def isI : PyData → Bool
  | .bool _ => true
  | .int _ => true
  | _ => false
def isS : PyData → Bool
  | .str _ => true
  | _ => false
def isT : PyData → Bool
  | .tuple _ => true
  | _ => false
def isL : PyData → Bool
  | .list _ => true
  | _ => false
theorem kit_bool (d : PyData) : kitB (dTy d) "bool" = some (isB d) := by
  cases d
  · exact (by decide +kernel : kitB "NoneType" "bool" = some false)
  · exact (by decide +kernel : kitB "bool" "bool" = some true)
  · exact (by decide +kernel : kitB "int" "bool" = some false)
  · exact (by decide +kernel : kitB "str" "bool" = some false)
  · exact (by decide +kernel : kitB "list" "bool" = some false)
  · exact (by decide +kernel : kitB "tuple" "bool" = some false)
  · exact (by decide +kernel : kitB "dict" "bool" = some false)
theorem kit_int (d : PyData) : kitB (dTy d) "int" = some (isI d) := by
  cases d
  · exact (by decide +kernel : kitB "NoneType" "int" = some false)
  · exact (by decide +kernel : kitB "bool" "int" = some true)
  · exact (by decide +kernel : kitB "int" "int" = some true)
  · exact (by decide +kernel : kitB "str" "int" = some false)
  · exact (by decide +kernel : kitB "list" "int" = some false)
  · exact (by decide +kernel : kitB "tuple" "int" = some false)
  · exact (by decide +kernel : kitB "dict" "int" = some false)
theorem kit_str (d : PyData) : kitB (dTy d) "str" = some (isS d) := by
  cases d
  · exact (by decide +kernel : kitB "NoneType" "str" = some false)
  · exact (by decide +kernel : kitB "bool" "str" = some false)
  · exact (by decide +kernel : kitB "int" "str" = some false)
  · exact (by decide +kernel : kitB "str" "str" = some true)
  · exact (by decide +kernel : kitB "list" "str" = some false)
  · exact (by decide +kernel : kitB "tuple" "str" = some false)
  · exact (by decide +kernel : kitB "dict" "str" = some false)
theorem kit_tuple (d : PyData) : kitB (dTy d) "tuple" = some (isT d) := by
  cases d
  · exact (by decide +kernel : kitB "NoneType" "tuple" = some false)
  · exact (by decide +kernel : kitB "bool" "tuple" = some false)
  · exact (by decide +kernel : kitB "int" "tuple" = some false)
  · exact (by decide +kernel : kitB "str" "tuple" = some false)
  · exact (by decide +kernel : kitB "list" "tuple" = some false)
  · exact (by decide +kernel : kitB "tuple" "tuple" = some true)
  · exact (by decide +kernel : kitB "dict" "tuple" = some false)
theorem kit_list (d : PyData) : kitB (dTy d) "list" = some (isL d) := by
  cases d
  · exact (by decide +kernel : kitB "NoneType" "list" = some false)
  · exact (by decide +kernel : kitB "bool" "list" = some false)
  · exact (by decide +kernel : kitB "int" "list" = some false)
  · exact (by decide +kernel : kitB "str" "list" = some false)
  · exact (by decide +kernel : kitB "list" "list" = some true)
  · exact (by decide +kernel : kitB "tuple" "list" = some false)
  · exact (by decide +kernel : kitB "dict" "list" = some false)
end DV
namespace DV
open PySem PySem.Spec L2 Evl
open PyProof.Rows hiding St
section
variable {S : Type} {X : Cx} {M : List Addr} {R : S → Hp → Prop} {ρ : List Sl} {s s1 s2 : S} {a b e : Expr} {rest : List Stmt} {pos : Pos} {D : Ends} {σ : St} {H : Hp}
/-! more of ints -/
theorem e_neg {i : Int} (h : Ev1 X M R ρ a s (.dat (.int i)) s1) : Ev1 X M R ρ (.UnaryOp .USub a pos) s (.dat (.int (-i))) s1 := fun σ H Q hσ hR q => wE_of (pe_un un_neg pe_w) (h σ H _ hσ hR fun v H1 e1 R1 d1 => ⟨i, sv_int d1, q _ H1 e1 R1 (.int _)⟩)
theorem e_mulR {i j : Int} (h1 : -(2 ^ 64) < j) (h2 : j < 2 ^ 64) (ha : Ev1 X M R ρ a s (.dat (.int i)) s1) (hb : Ev1 X M R ρ b s1 (.dat (.int j)) s2) : Ev1 X M R ρ (.BinOp a .Mult b pos) s (.dat (.int (i * j))) s2 := e_opI op_mul (.inr ⟨h1, h2⟩) ha hb
theorem e_mulL {i j : Int} (h1 : -(2 ^ 64) < i) (h2 : i < 2 ^ 64) (ha : Ev1 X M R ρ a s (.dat (.int i)) s1) (hb : Ev1 X M R ρ b s1 (.dat (.int j)) s2) : Ev1 X M R ρ (.BinOp a .Mult b pos) s (.dat (.int (i * j))) s2 := e_opI op_mul (.inl ⟨h1, h2⟩) ha hb
theorem e_mulX {i j : Int} (h : CMulX i j) (ha : Ev1 X M R ρ a s (.dat (.int i)) s1) (hb : Ev1 X M R ρ b s1 (.dat (.int j)) s2) : Ev1 X M R ρ (.BinOp a .Mult b pos) s (.dat (.int (i * j))) s2 := e_opI op_mulX h ha hb
theorem e_fdivW {i j : Int} (h : CDivW i j) (ha : Ev1 X M R ρ a s (.dat (.int i)) s1) (hb : Ev1 X M R ρ b s1 (.dat (.int j)) s2) : Ev1 X M R ρ (.BinOp a .FloorDiv b pos) s (.dat (.int (i / j))) s2 := e_opI op_fdivW h ha hb
/-! == of numbers, texts, truth values -/
theorem e_pow {i j : Int} (h : CPow i j) (ha : Ev1 X M R ρ a s (.dat (.int i)) s1) (hb : Ev1 X M R ρ b s1 (.dat (.int j)) s2) : Ev1 X M R ρ (.BinOp a .Pow b pos) s (.dat (.int (i ^ j.toNat))) s2 := e_opI op_pow h ha hb
/-! ### by hand: the heap told -/
theorem slots0 (h : Slots X.K H σ ρ) : Slots X.K (cut [] H) σ ρ := by rw [cut_nil]; exact h
theorem ev0 {r : Sl} {Q : VK} (h : Ev1 X [] (fun (_ : Unit) H' => Ex H H') ρ e () r ()) (hσ : Slots X.K H σ ρ) (q : ∀ v H2, Ex H H2 → Sv X.K H2 r v → Q v H2) : wE X e σ H Q :=
  h σ H Q (slots0 hσ) (exId _) fun v H2 _ R2 d2 => q v H2 R2 (by rw [cut_nil] at d2; exact d2)
theorem et0 {k : Bool} {Q : Bool → Hp → Prop} (h : EvT1 X [] (fun (_ : Unit) H' => Ex H H') ρ e () k ()) (hσ : Slots X.K H σ ρ) (q : ∀ H2, Ex H H2 → Q k H2) : wT X e σ H Q :=
  h σ H Q (slots0 hσ) (exId _) fun H2 _ R2 => q H2 R2
theorem rg0 : Rg ([] : List Addr) (fun (_ : Unit) H' => Ex H H') := rg_pure fun a m => by cases m
theorem b_if {c : Expr} {x y : List Stmt} (h : wT X c σ H fun k H1 => if k = true then wB X x { D with nx := wB X rest D } σ H1 else wB X y { D with nx := wB X rest D } σ H1) : wB X (.If c x y pos :: rest) D σ H := wB_cons (wS_of (ps_if pt_w pss_w pss_w) h)
theorem b_nil (h : D.nx σ H) : wB X [] D σ H := wB_of pss_nil h
theorem b_ret (h : wE X e σ H D.rt) : wB X (.Return (some e) pos :: rest) D σ H := wB_cons (wS_of (ps_ret pe_w) h)
theorem b_set (i : Nat) {x : Str} {px : Pos} (h : wE X e σ H fun v H1 => wB X rest D (σ.set i (some v)) H1) (hN : X.N.Nodup) (hi : X.N[i]? = some x) (hx : Loc X.env.scope x) (hs : swapsWith e (some (.Name x px)) pos.line X.env = pure false := by rfl)
    (hf : X.fn x = true ∨ X.env.scope.names.lookup x = some .local := by first | exact .inl rfl | exact .inr rfl) : wB X (.Assign [.Name x px] e pos :: rest) D σ H := wB_cons (wS_of (ps_set (i := i) hN hi hx pe_w hs hf) h)
theorem b_expr (h : wE X e σ H fun _ H1 => wB X rest D σ H1) (hs : swapsWith e none pos.line X.env = pure false := by rfl) : wB X (.Expr e pos :: rest) D σ H := wB_cons (wS_of (ps_expr pe_w hs) h)
/-- o[i] = e, o a list -/
theorem b_put {o i : Expr} {ps : Pos} (h : wE X e σ H fun x H1 => wE X o σ H1 fun ov H2 => wE X i σ H2 fun iv H3 => rSetL ov iv x H3 fun H4 => wB X rest D σ H4)
    (hs : swapsWithSole [.Subscript o i ps] e pos.line X.env = pure false := by rfl) (hw : swappedStores [.Subscript o i ps] e X.env = pure none := by rfl) (h1 : (assignEach [.Subscript o i ps] X.env).map (·.2) = [assign (.Subscript o i ps) X.env] := by rfl)
    (ha : ∀ v, assign (.Subscript o i ps) X.env v = (do
      let ov ← holding [v] (eval o X.env)
      let iv ← holding [v, ov] (eval i X.env)
      standAt ps
      holding [v, ov, iv] (setItem ov iv v)
      release [v, ov, iv] []) := by intro _; rfl) : wB X (.Assign [.Subscript o i ps] e pos :: rest) D σ H :=
  wB_cons (wS_of (ps_asg pe_w (pg_sub pe_w pe_w set_list ha) hs hw h1) h)
end
/-! ### the box of draws -/
abbrev Bx := List Int × Int
def BoxAt (b l : Addr) (st : Bx) (H : Hp) : Prop := H b = some (.lst [.ref l, .int st.2]) ∧ H l = some (.lst (st.1.map V.int))
theorem BoxAt.ne {b l : Addr} {st : Bx} {H : Hp} (h : BoxAt b l st H) : b ≠ l := fun e => by
  obtain ⟨h1, h2⟩ := h
  rw [e, h2] at h1
  have : st.1.map V.int = [.ref l, .int st.2] := HO.lst.inj (Option.some.inj h1)
  cases q : st.1 with
  | nil => rw [q] at this; cases this
  | cons x r => rw [q] at this; cases this
def boxD (st : Bx) : PyData := .list [.list (dI st.1), .int st.2]
theorem BoxAt.dv {K : PySem.W.Frag} {b l : Addr} {st : Bx} {H : Hp} (h : BoxAt b l st H) : Dv K H (.ref b) (boxD st) := .lst h.1 (.cons (.lst h.2 (dpa_of_ints _)) (.cons (.int _) .nil))
theorem BoxAt.ex {b l : Addr} {st : Bx} {H H' : Hp} (h : BoxAt b l st H) (e : Ex H H') : BoxAt b l st H' := ⟨e _ _ h.1, e _ _ h.2⟩
def takeS : Bx → Int → Bx
  | ([], t), _ => ([], t * 48271 % 2147483647)
  | (x :: xs, t), n => if x / n = 0 ∨ x / n = -1 then (xs, t) else (x / n :: xs, t)
def takeV : Bx → Int → Int
  | ([], t), n => t * 48271 % 2147483647 / 7 % n
  | (x :: _, _), n => x % n
def spTake : Sp := fun vs H Q _ => ∃ (b l : Addr) (st : Bx) (n : Int), vs = [.ref b, .int n] ∧ 0 < n ∧ n.natAbs.log2 < 9000 ∧ BoxAt b l st H ∧ ∀ H', Ex (cut [b, l] H) (cut [b, l] H') → BoxAt b l (takeS st n) H' → Q (.int (takeV st n)) H'
theorem takeV_nonneg {st : Bx} {n : Int} (h : 0 < n) : 0 ≤ takeV st n := by
  obtain ⟨xs, t⟩ := st
  cases xs with
  | nil => exact Int.emod_nonneg _ (by omega)
  | cons x r => exact Int.emod_nonneg _ (by omega)
theorem takeV_lt {st : Bx} {n : Int} (h : 0 < n) : takeV st n < n := by
  obtain ⟨xs, t⟩ := st
  cases xs with
  | nil => exact Int.emod_lt_of_pos _ h
  | cons x r => exact Int.emod_lt_of_pos _ h
/-- the state holds a box -/
structure BoxIn {S : Type} (M : List Addr) (R : S → Hp → Prop) (b l : Addr) (get : S → Bx) (put : S → Bx → S) : Prop where
  mb : b ∈ M
  ml : l ∈ M
  at_ : ∀ {s : S} {H : Hp}, R s H → BoxAt b l (get s) H
  to : ∀ {s : S} {H H' : Hp} {st : Bx}, R s H → Ex (cut [b, l] H) (cut [b, l] H') → BoxAt b l st H' → R (put s st) H'
theorem BoxIn.rd {S : Type} {M : List Addr} {R : S → Hp → Prop} {b l : Addr} {get : S → Bx} {put : S → Bx → S} (h : BoxIn M R b l get put) (D : Addr) (acc : List V) : BoxIn (D :: M) (RD R D acc) b l get put := by
  refine ⟨List.mem_cons_of_mem _ h.mb, List.mem_cons_of_mem _ h.ml, fun ⟨q, _⟩ => (h.at_ q).ex ex_rem, fun {s H H' st} ⟨q, d⟩ e bx => ?_⟩
  have b0 := h.at_ q
  have nb : b ≠ D := (rem_some b0.1).1
  have nl : l ≠ D := (rem_some b0.2).1
  refine ⟨h.to q (fun a o ha => ?_) ⟨by rw [rem_ne nb]; exact bx.1, by rw [rem_ne nl]; exact bx.2⟩, ?_⟩
  · obtain ⟨n, ha⟩ := cut_some ha
    obtain ⟨nD, ha⟩ := rem_some ha
    have := e a o (by rw [cut_out n]; exact ha)
    rw [cut_out n] at this ⊢
    rw [rem_ne nD]
    exact this
  · have nD : D ∉ [b, l] := fun m => by
      rcases List.mem_cons.mp m with z | m
      · exact nb z.symm
      · rcases List.mem_cons.mp m with z | m
        · exact nl z.symm
        · cases m
    have := e D _ (by rw [cut_out nD]; exact d)
    rw [cut_out nD] at this
    exact this
theorem BoxIn.rx {S : Type} {M : List Addr} {R : S → Hp → Prop} {b l : Addr} {get : S → Bx} {put : S → Bx → S} (h : BoxIn M R b l get put) (H1 : Hp) : BoxIn M (RX R M H1) b l get put := by
  refine ⟨h.mb, h.ml, fun ⟨q, _⟩ => h.at_ q, fun {s H H' st} ⟨q, x⟩ e bx => ⟨h.to q e bx, fun a o ha => ?_⟩⟩
  have z := x a o ha
  have nM := (cut_some ha).1
  have n2 : a ∉ [b, l] := fun m => by
    rcases List.mem_cons.mp m with z | m
    · exact nM (by rw [z]; exact h.mb)
    · rcases List.mem_cons.mp m with z | m
      · exact nM (by rw [z]; exact h.ml)
      · cases m
  rw [cut_out nM] at z ⊢
  have := e a o (by rw [cut_out n2]; exact z)
  rw [cut_out n2] at this
  exact this
section
variable {S : Type} {X : Cx} {M : List Addr} {R : S → Hp → Prop} {ρ : List Sl} {s s1 s2 : S} {e e' : Expr} {px pos : Pos} {b l : Addr} {get : S → Bx} {put : S → Bx → S} {j k : Nat}
/-- _law_take(box, n) -/
theorem e_take {x : Str} {n : Int} (B : BoxIn M R b l get put) (c : Cal X.prog X.w X.K X.mg X.base x k spTake) (hr : Room j X.A) (hk : k ≤ j) (hg : Gl X x) (hn : 0 < n) (hn2 : n.natAbs.log2 < 9000) (ha : EvA1 X M R ρ [e, e'] s [.raw (.ref b), .dat (.int n)] s1) (hdb : (x == ("__debug__" : Str)) = false := by decide)
    (he : starEach [e, e'] X.env = (false, eval e X.env) :: starEach [e'] X.env := by rfl) (hpl : (backTo pos (starEach [e'] X.env)).any (·.1) = false := by rfl) :
    Ev1 X M R ρ (.Call (.Name x px) [e, e'] [] pos) s (.dat (.int (takeV (get s1) n))) (put s1 (takeS (get s1) n)) := by
  intro σ H Q hσ hR q
  refine w_call c hr hk hg passL ha hσ hR (fun vs H1 e1 d1 R1 => ?_) hdb he hpl
  obtain ⟨v, w, rfl, d1, d2⟩ := svall2 d1
  have d1 : v = .ref b := d1
  subst d1
  refine ⟨b, l, get s1, n, by rw [sv_int d2], hn, hn2, B.at_ R1, fun H' e2 bx => ?_⟩
  refine q _ H' (e1.trans fun a o ha => ?_) (B.to R1 e2 bx) (.int _)
  have nM := (cut_some ha).1
  have n2 : a ∉ [b, l] := fun m => by
    rcases List.mem_cons.mp m with z | m
    · exact nM (by rw [z]; exact B.mb)
    · rcases List.mem_cons.mp m with z | m
      · exact nM (by rw [z]; exact B.ml)
      · cases m
  rw [cut_out nM] at ha ⊢
  have := e2 a o (by rw [cut_out n2]; exact ha)
  rw [cut_out n2] at this
  exact this
end
section
variable {P : Program} {w : World} {K : PySem.W.Frag} {mg : Str → Option Value} {base : Heap}
/-- a def by any promise, its body's reading -/
theorem Def.calW {x : Str} {st : Stmt} {ps N : List Str} {k : Nat} {sp : Sp} (d : Def K mg x st ps) (S : FnScope N ps (defScope st)) (len : ∀ vs H Q E, sp vs H Q E → vs.length = ps.length)
    (hb : ∀ (f : Addr) (cdv : Value) (A : Around) (outer : List Env) (sh : Shared) (H : Hp) (vs : List V) (Q : VK) (E : XK), Room k (A.deeper (envOfC x (defScope st) sh.heap.objs.size f cdv)) → sp vs H Q E →
      wB (dx P w K mg base N x st f cdv A outer sh H E) (defBody st) { nx := fun _ H' => Q .non H', rt := Q } (L2.start N vs) H) : Cal P w K mg base x (k + 1) sp := by
  obtain ⟨f, fd, F, hm, b⟩ := d.ex
  refine ⟨f, fd, ps, ?_, hm, F.kp, b⟩
  exact F.okX S len fun cdv A outer s H vs Q E hr h => ⟨_, pss_w, hb f cdv A outer s H vs Q E hr h⟩
end
end DV
namespace DV
open PySem PySem.Spec L2 Evl
open PyProof.Rows hiding St
section
variable {S : Type} {X : Cx} {M : List Addr} {R : S → Hp → Prop} {ρ : List Sl} {s s1 s2 : S} {a b e e' tg : Expr} {es : List Expr} {rest : List Stmt} {px pos : Pos} {D : Ends} {σ : St} {H : Hp}
/-! a list that is only read, told by the state -/
theorem i_raw {p : Addr} {ns : List Int} (hS : ∀ H', R s1 H' → SqL X.K H' p (ns.map V.int)) (h : Ev1 X M R ρ e s (.raw (.ref p)) s1) (keep : ∀ H1 H2, R s1 H1 → Ex (cut M H1) (cut M H2) → SqL X.K H2 p (ns.map V.int)) :
    EvI1 X M R ρ tg e s ns.length (itD (dI ns)) s1 := by
  refine ⟨_, pi_list pe_w, fun σ H k hσ hR q => ?_⟩
  refine h σ H _ hσ hR fun v H1 e1 R1 d1 => ?_
  have d1 : v = .ref p := d1
  subst d1
  refine ⟨p, rfl, ⟨_, hS H1 R1⟩, q _ H1 e1 R1 ⟨fun H => SqL X.K H p (ns.map V.int), fun H2 e2 => keep H1 H2 R1 e2, ?_⟩⟩
  have l : (ns.map V.int).length = ns.length := List.length_map _
  rw [← l]
  refine walk_list.mono (fun _ h => h) fun i H2 x H' _ _ ⟨e, hx⟩ M' em dm e2 => ?_
  subst e
  exact ⟨exId _, sv_itD (dpa_of_ints ns) hx⟩
theorem e_lenR {p : Addr} {ns : List Int} (hS : ∀ H', R s1 H' → SqL X.K H' p (ns.map V.int)) (hg : Gl X "len") (hm : X.mg "len" = none) (ha : EvA1 X M R ρ [e] s [.raw (.ref p)] s1) (he : starEach [e] X.env = (false, eval e X.env) :: starEach [] X.env := by rfl)
    (hpl : (backTo pos (starEach [] X.env)).any (·.1) = false := by rfl) : Ev1 X M R ρ (.Call (.Name "len" px) [e] [] pos) s (.dat (.int ns.length)) s1 :=
  e_callB call_len_seq hg hm PySem.boot_len ha (fun vs H Q h hR q => by
    obtain ⟨v, rfl, h1⟩ := svall1 h
    have h1 : v = .ref p := h1
    subst h1
    refine ⟨p, _, rfl, .inl (hS H hR), ?_⟩
    rw [List.length_map]
    exact q _ H (exId _) hR (.int _)) (by decide) (by decide) he hpl
theorem e_listR (g : Rg M R) {p : Addr} {ns : List Int} (hS : ∀ H', R s1 H' → SqL X.K H' p (ns.map V.int)) (hg : Gl X "list") (hm : X.mg "list" = none) (ha : EvA1 X M R ρ [e] s [.raw (.ref p)] s1) (he : starEach [e] X.env = (false, eval e X.env) :: starEach [] X.env := by rfl)
    (hpl : (backTo pos (starEach [] X.env)).any (·.1) = false := by rfl) : Ev1 X M R ρ (.Call (.Name "list" px) [e] [] pos) s (.dat (.list (dI ns))) s1 :=
  e_callTy call_list_of hg hm boot_list ha (fun vs H Q h hR q => by
    obtain ⟨v, rfl, h1⟩ := svall1 h
    have h1 : v = .ref p := h1
    subst h1
    exact ⟨p, _, rfl, .inl (hS H hR), fun l n => new_lst g hR n (dpa_of_ints ns) q⟩) (by decide) (by decide) he hpl
theorem e_lenTI {xs : List Int} (hg : Gl X "len") (hm : X.mg "len" = none) (ha : EvA1 X M R ρ [e] s [.dat (.tuple (dI xs))] s1) (he : starEach [e] X.env = (false, eval e X.env) :: starEach [] X.env := by rfl)
    (hpl : (backTo pos (starEach [] X.env)).any (·.1) = false := by rfl) : Ev1 X M R ρ (.Call (.Name "len" px) [e] [] pos) s (.dat (.int xs.length)) s1 := by
  have h := e_lenT (px := px) (pos := pos) hg hm ha he hpl
  rw [List.length_map] at h
  exact h
theorem i_rngN {n : Nat} (hg : Gl X "range") (hm : X.mg "range" = none) (hn : n ≤ 1000000) (h : EvA1 X M R ρ [e] s [.dat (.int (n : Int))] s1) (hs : starEach [e] X.env = [(false, eval e X.env)] := by rfl) :
    EvI1 X M R ρ tg (.Call (.Name "range" px) [e] [] pos) s n (fun i => .dat (.int i)) s1 := by
  have k := i_rng (tg := tg) (px := px) (pos := pos) hg hm (by omega) (by omega) h hs
  rw [Int.toNat_natCast] at k
  exact k
/-! is None -/
def isN : PyData → Bool
  | .none => true
  | _ => false
theorem dv_non {K : PySem.W.Frag} {H : Hp} {d : PyData} {v : V} (h : Dv K H v d) : decide (v = .non) = isN d := by
  cases h <;> first | rfl | exact decide_eq_false (by intro z; cases z)
theorem e_isN {d : PyData} {j pos'} (h : Ev1 X M R ρ a s (.dat d) s1) : Ev1 X M R ρ (.Compare a [.Is] [.Constant .none j pos'] pos) s (.dat (.bool (isN d))) s1 := fun σ H Q hσ hR q =>
  wE_of (pe_cmp (pc_isN pe_w) rfl) (h σ H _ hσ hR fun v H1 e1 R1 d1 => by
    rw [dv_non (show Dv X.K (cut M H1) v d from d1)]
    exact q _ H1 e1 R1 (.bl _))
theorem t_isN {d : PyData} {j pos'} (h : Ev1 X M R ρ a s (.dat d) s1) : EvT1 X M R ρ (.Compare a [.Is] [.Constant .none j pos'] pos) s (isN d) s1 := fun σ H Q hσ hR q =>
  wT_of (pt_cmp (pc_isN pe_w) rfl) (h σ H _ hσ hR fun v H1 e1 R1 d1 => ⟨_, rfl, by
    rw [dv_non (show Dv X.K (cut M H1) v d from d1)]
    exact q H1 e1 R1⟩)
/-! a, b = x, y -/
theorem st_par {i j : Nat} {x y : Str} {ra rb : Sl} {pxx pyy pt : Pos} {kt k2 pt2} (hc : X.calm = true) (hN : X.N.Nodup) (hi : X.N[i]? = some x) (hj : X.N[j]? = some y) (hij : i ≠ j) (hx : X.env.scope.names.lookup x = some .local) (hy : X.env.scope.names.lookup y = some .local)
    (ha : EvA1 X M R ρ [a, b] s [ra, rb] s1) (k : St1 X M R ((ρ.set i ra).set j rb) rest s1 D) (P : ∀ {ta : TA}, PA X [a, b] ta → PS X (.Assign [.Tuple [.Name x pxx, .Name y pyy] kt pt] (.Tuple [a, b] k2 pt2) pos) (tPar i j ta)) :
    St1 X M R ρ (.Assign [.Tuple [.Name x pxx, .Name y pyy] kt pt] (.Tuple [a, b] k2 pt2) pos :: rest) s D := by
  intro σ H hσ hR
  refine wB_cons (wS_of (P pa_w) ?_)
  refine ha σ H _ hσ hR fun vs H1 e1 R1 d1 => ?_
  obtain ⟨v, w, rfl, d1, d2⟩ := svall2 d1
  exact ⟨v, w, rfl, k _ H1 (Slots.set d2 j (Slots.set d1 i (hσ.ex e1))) R1⟩
end
end DV
namespace DV
open PySem PySem.Spec L2 Evl
open PyProof.Rows hiding St
/-- a def that draws from the box, which is its first argument -/
def spB (K : PySem.W.Frag) (G : List Sl → Bx → Sl → Bx → Prop) : Sp := fun vs H Q _ => ∃ (M : List Addr) (b l : Addr) (st : Bx) (rs : List Sl) (r : Sl) (st' : Bx) (vs' : List V), vs = .ref b :: vs' ∧ b ∈ M ∧ l ∈ M ∧ (∀ a ∈ M, ∃ o, H a = some o) ∧ BoxAt b l st H ∧ SvAll K (cut M H) rs vs' ∧
  G rs st r st' ∧ ∀ v H', Ex (cut [b, l] H) (cut [b, l] H') → BoxAt b l st' H' → Sv K (cut M H') r v → Q v H'
theorem ex_of_cut2 {M : List Addr} {b l : Addr} {H H' : Hp} (hb : b ∈ M) (hl : l ∈ M) (e : Ex (cut [b, l] H) (cut [b, l] H')) : Ex (cut M H) (cut M H') := fun a o ha => by
  have nM := (cut_some ha).1
  have n2 : a ∉ [b, l] := fun m => by
    rcases List.mem_cons.mp m with z | m
    · exact nM (by rw [z]; exact hb)
    · rcases List.mem_cons.mp m with z | m
      · exact nM (by rw [z]; exact hl)
      · cases m
  rw [cut_out nM] at ha ⊢
  have := e a o (by rw [cut_out n2]; exact ha)
  rw [cut_out n2] at this
  exact this
section
variable {S : Type} {X : Cx} {M : List Addr} {R : S → Hp → Prop} {ρ : List Sl} {s s1 s2 : S} {e : Expr} {es : List Expr} {px pos : Pos} {rs : List Sl} {b l : Addr} {get : S → Bx} {put : S → Bx → S} {j k : Nat} {x : Str}
theorem e_boxed (g : Rg M R) {G : List Sl → Bx → Sl → Bx → Prop} {r : Sl} {st' : Bx} (B : BoxIn M R b l get put) (c : Cal X.prog X.w X.K X.mg X.base x k (spB X.K G)) (hr : Room j X.A) (hk : k ≤ j) (hg : Gl X x) (hG : G rs (get s1) r st') (ha : EvA1 X M R ρ (e :: es) s (.raw (.ref b) :: rs) s1)
    (hdb : (x == ("__debug__" : Str)) = false := by decide) (he : starEach (e :: es) X.env = (false, eval e X.env) :: starEach es X.env := by rfl) (hpl : (backTo pos (starEach es X.env)).any (·.1) = false := by rfl) :
    Ev1 X M R ρ (.Call (.Name x px) (e :: es) [] pos) s r (put s1 st') := by
  intro σ H Q hσ hR q
  refine w_call c hr hk hg passL ha hσ hR (fun vs H1 e1 d1 R1 => ?_) hdb he hpl
  match vs, d1 with
  | v :: vs, ⟨d1, d2⟩ =>
    have d1 : v = .ref b := d1
    subst d1
    exact ⟨M, b, l, get s1, rs, r, st', vs, rfl, B.mb, B.ml, fun a m => g.dom R1 m, B.at_ R1, d2, hG, fun v H' e2 bx sv => q v H' (e1.trans (ex_of_cut2 B.mb B.ml e2)) (B.to R1 e2 bx) sv⟩
end
section
variable {P : Program} {w : World} {K : PySem.W.Frag} {mg : Str → Option Value} {base : Heap}
/-- what such a body is to show -/
def BodyB (P : Program) (w : World) (K : PySem.W.Frag) (mg : Str → Option Value) (base : Heap) (N : List Str) (x : Str) (st : Stmt) (k : Nat) (rs : List Sl) (bs : Bx) (r : Sl) (bs' : Bx) : Prop :=
  ∀ (f : Addr) (cdv : Value) (A : Around) (outer : List Env) (sh : Shared) (H : Hp) (E : XK) (M : List Addr) (R : Bx → Hp → Prop) (D : Ends) (b l : Addr), Room k (A.deeper (envOfC x (defScope st) sh.heap.objs.size f cdv)) → Rg M R → BoxIn M R b l id (fun _ t => t) →
    (∀ v H', R bs' H' → Sv K (cut M H') r v → D.rt v H') → St1 (dx P w K mg base N x st f cdv A outer sh H E) M R (ini N (.raw (.ref b) :: rs)) (defBody st) bs D
theorem Def.calB {x : Str} {st : Stmt} {ps N : List Str} {k : Nat} {G : List Sl → Bx → Sl → Bx → Prop} (d : Def K mg x st ps) (S : FnScope N ps (defScope st)) (len : ∀ rs bs r bs', G rs bs r bs' → rs.length + 1 = ps.length)
    (hb : ∀ rs bs r bs', G rs bs r bs' → BodyB P w K mg base N x st k rs bs r bs') : Cal P w K mg base x (k + 1) (spB K G) := by
  refine d.calW S (fun vs H Q E ⟨M, b, l, st, rs, r, st', vs', e, _, _, _, _, sv, g, _⟩ => by rw [e, List.length_cons, sv.len, len rs _ _ _ g]) ?_
  rintro f cdv A outer sh H vs Q E hr ⟨M, b, l, bs, rs, r, bs', vs', rfl, mb, ml, dom, bx, sv, hG, q⟩
  have hin : ∀ {a : Addr}, a ∈ [b, l] → a = b ∨ a = l := fun m => by simpa using m
  refine hb rs bs r bs' hG f cdv A outer sh H E M (fun t H' => BoxAt b l t H' ∧ Ex (cut [b, l] H) (cut [b, l] H')) _ b l hr ⟨fun ⟨h1, h2⟩ e => ⟨h1.ex e, h2.trans (exCut e)⟩, fun {s H' a} ⟨h1, h2⟩ m => ?_⟩ ⟨mb, ml, fun h => h.1, fun ⟨h1, h2⟩ e bx => ⟨bx, h2.trans e⟩⟩ ?_ _ H (slots_ini (rs := .raw (.ref b) :: rs) ⟨rfl, sv⟩) ⟨bx, exId _⟩
  · by_cases z : a ∈ [b, l]
    · rcases hin z with e | e
      · rw [e]; exact ⟨_, h1.1⟩
      · rw [e]; exact ⟨_, h1.2⟩
    · obtain ⟨o, ho⟩ := dom a m
      have := h2 a o (by rw [cut_out z]; exact ho)
      exact ⟨o, (cut_some this).2⟩
  · exact fun v H' ⟨h1, h2⟩ s => q v H' h2 h1 s
end
theorem atI_lt {α : Type} {ds : List α} {i : Int} (h0 : 0 ≤ i) (h1 : i < ds.length) : ∃ h : i.toNat < ds.length, atI ds i = some ds[i.toNat] := by
  have h : i.toNat < ds.length := by omega
  refine ⟨h, ?_⟩
  have e : ((i.toNat : Nat) : Int) = i := by omega
  have q := atI_nat (xs := ds) (j := i.toNat) (List.getElem?_eq_getElem h)
  rw [e] at q
  exact q
end DV
namespace DV
open PySem PySem.Spec L2 Evl
open PyProof.Rows hiding St cutD
/-! ### data of bounded size -/
mutual
def okD : PyData → Bool
  | .none | .bool _ | .int _ => true
  | .str x => PyData.canLay0 (.str x)
  | .list xs | .tuple xs => decide (xs.length ≤ 1000) && okAll xs
  | .dict _ => false
def okAll : List PyData → Bool
  | [] => true
  | x :: xs => okD x && okAll xs
end
mutual
theorem lay_ok : ∀ d : PyData, okD d = true → d.canLay0 = true
  | .none, _ => rfl
  | .bool _, _ => rfl
  | .int _, _ => rfl
  | .str _, h => h
  | .list xs, h => lay_okAll xs (Bool.and_eq_true_iff.mp (show (decide (xs.length ≤ 1000) && okAll xs) = true from h)).2
  | .tuple xs, h => lay_okAll xs (Bool.and_eq_true_iff.mp (show (decide (xs.length ≤ 1000) && okAll xs) = true from h)).2
  | .dict _, h => by cases h
theorem lay_okAll : ∀ ds : List PyData, okAll ds = true → PyData.canLayAll0 ds = true
  | [], _ => rfl
  | d :: ds, h => by
    have h := Bool.and_eq_true_iff.mp (show (okD d && okAll ds) = true from h)
    show (d.canLay0 && PyData.canLayAll0 ds) = true
    rw [lay_ok d h.1, lay_okAll ds h.2]
    rfl
end
theorem okAll_get : ∀ {ds : List PyData} {i : Nat} {d : PyData}, okAll ds = true → ds[i]? = some d → okD d = true
  | [], _, _, _, h => by simp at h
  | x :: xs, 0, d, h, e => by
    have h := Bool.and_eq_true_iff.mp (show (okD x && okAll xs) = true from h)
    have e : some x = some d := e
    cases e
    exact h.1
  | x :: xs, i + 1, d, h, e => by
    have h := Bool.and_eq_true_iff.mp (show (okD x && okAll xs) = true from h)
    exact okAll_get (i := i) h.2 (by simpa using e)
theorem depth_get : ∀ {ds : List PyData} {i : Nat} {d : PyData}, ds[i]? = some d → d.depth ≤ PyData.depthAll ds
  | [], _, _, h => by simp at h
  | x :: xs, 0, d, e => by
    have e : some x = some d := e
    cases e
    exact Nat.le_max_left _ _
  | x :: xs, i + 1, d, e => Nat.le_trans (depth_get (i := i) (by simpa using e)) (Nat.le_max_right _ _)
theorem okAll_ints : ∀ xs : List Int, okAll (dI xs) = true
  | [] => rfl
  | _ :: xs => by
    show (true && okAll (dI xs)) = true
    rw [okAll_ints xs]
    rfl
theorem okD_tI {xs : List Int} (h : xs.length ≤ 1000) : okD (.tuple (dI xs)) = true := by
  show (decide ((dI xs).length ≤ 1000) && okAll (dI xs)) = true
  rw [okAll_ints, decide_eq_true (by rw [List.length_map]; exact h)]
  rfl
theorem okD_lI {xs : List Int} (h : xs.length ≤ 1000) : okD (.list (dI xs)) = true := by
  show (decide ((dI xs).length ≤ 1000) && okAll (dI xs)) = true
  rw [okAll_ints, decide_eq_true (by rw [List.length_map]; exact h)]
  rfl
end DV
namespace DV
open PySem PySem.Spec L2 Evl LamX NdefX
open PyProof.Rows hiding St cutD
/-! ### lambdas -/
structure Lam where
  qual : Str
  params : Arguments
  body : Expr
  scope : Scope
  cl : List (Str × Addr)
  c : Addr
  dV : Value
abbrev Lam.fd (L : Lam) (doc pm ctv : Value) : FuncData := PySem.W.kdv_fn "<lambda>" L.qual L.params (.expr L.body) L.scope L.cl L.dV doc pm (.ref L.c) ctv
def LamO (f : Addr) (L : Lam) : HO := .ext fun h => ∃ (od : Option Addr) (sl : Array (Option Value)) (doc pm ctv : Value), h.get? f = some (⟨.type "function", od, .func (L.fd doc pm ctv), sl⟩ : Obj)
theorem lamO_ne {f : Addr} {L : Lam} (ps : Array Value) : LamO f L ≠ .tbl ps := fun z => by unfold LamO at z; cases z
theorem lamO_at {P : Program} {w : World} {H : Hp} {h : Heap} {f : Addr} {L : Lam} (hok : HOk P w H h) (e : H f = some (LamO f L)) : ∃ (od : Option Addr) (sl : Array (Option Value)) (doc pm ctv : Value), h.get? f = some (⟨.type "function", od, .func (L.fd doc pm ctv), sl⟩ : Obj) := (hok f _ e).1
/-- all that was told but P's table is told still -/
def ExP (P : Addr) (H H' : Hp) : Prop := ∀ b o, b ≠ P → H b = some o → H' b = some o
section
variable {X : Cx} {pins : List (Addr × Obj)} {σ : L2.St} {H : Hp} {s : Shared} {E : Value → Shared → Prop} {Q : Value → Shared → Prop}
theorem lam_tail {c P : Addr} {params : Arguments} {body : Expr} {scope : Scope} {pos : Pos} {dV : Value} (I : Inv X pins σ H s) (TB : TabB X.base X.mg c P) (hcode : X.env.code = .ref c) (hT : TabS H P (X.env.qual ++ "<lambda>"))
    (hfree : ∀ y ∈ scope.names, y.2 = .free → ∃ c, X.env.cells.lookup y.1 = some c)
    (h : ∀ (f c' : Addr) (H1 : Hp) (s' : Shared), Inv X pins σ H1 s' → ExP P H H1 → TabS H1 P (X.env.qual ++ "<lambda>") → H f = none → H1 f = some (LamO f ⟨X.env.qual ++ "<lambda>", params, body, scope, cloFrom X.env.cells scope.names [], c', dV⟩) →
      H1 c' = some (CodeO c' (X.env.qual ++ "<lambda>")) → Q (.ref f) s') :
    wpAny (model X.prog X.w) X.A (makeTail "<lambda>" (X.env.qual ++ "<lambda>") params (.expr body) scope X.env dV .none none pos pos.line) Q E s := by
  obtain ⟨ps, hP, ht, ha⟩ := hT
  have bP : s.heap.BuiltinsAt X.mg P := TB.bm.keeps I.bk
  have hP' : s.heap.get? P = some { cls := .none, data := .fields ps } := I.hok P _ hP
  have push : ∀ {H' : Hp} {h' : Heap} {tk : Nat} {c' : Addr} {ctv doc pm : Value}, Inv X pins σ H' { s with heap := h', toks := tk } →
      Inv X pins σ (upd H' h'.objs.size (LamO h'.objs.size ⟨X.env.qual ++ "<lambda>", params, body, scope, cloFrom X.env.cells scope.names [], c', dV⟩))
        { s with heap := h'.push (PySem.W.kdv_obj "<lambda>" (X.env.qual ++ "<lambda>") params (.expr body) scope (cloFrom X.env.cells scope.names []) dV doc pm c' ctv), toks := tk } := fun {H' h' tk c' ctv doc pm} J => by
    refine Inv.laid (s := { s with heap := h', toks := tk }) (t' := tk) J (fun b o e => Heap.get?_push_of_some _ e) (Nat.le_refl _) ?_
    refine ⟨⟨_, _, _, _, _, Heap.get?_push_size _ rfl⟩, ⟨_, Heap.get?_push_size _ rfl⟩, fun h1 h2 ⟨od, sl, doc, pm, ctv, e⟩ st => ⟨od, sl, doc, pm, ctv, st _ e⟩⟩
  cases hc : codeAmong pos ps.toList with
  | none =>
    refine PySem.W.kdv_makeTail (mg := X.mg) (c := c) (P := P) (ps := ps) (closure_ok hfree) I.ok.glob (I.mod.glob.keeps I.bk) hcode (TB.code.keeps I.bk) hP' ht hc TB.gP bP fun c' ctv doc h' tk hx hge hlt hrec htb => ?_
    obtain ⟨c2, oc, vs, t, e2, hoc, hd, hv⟩ := hrec
    cases e2
    have hsz : s.heap.objs.size ≤ h'.objs.size := Nat.le_trans hge (Nat.le_of_lt hlt)
    have nC : H c' = none := I.hok.fresh hge
    have nF : H h'.objs.size = none := I.hok.fresh hsz
    have I1 := inv_table (t' := tk) (more := #[rawInt pos.line, rawInt pos.col, .ref c']) (h' := h') (q := X.env.qual ++ "<lambda>") I hP (fun b o hb e => hx b o hb e) htb hge ⟨oc, vs, t, hoc, hd, hv⟩
    have n1 : h'.objs.size ≠ c' := Nat.ne_of_gt hlt
    have n2 : h'.objs.size ≠ P := Nat.ne_of_gt (Nat.lt_of_lt_of_le (Heap.lt_size hP') hsz)
    have I2 := push (c' := c') (ctv := ctv) (doc := doc) (pm := (X.mg "__name__").getD .none) I1
    have eL : (ps ++ #[rawInt pos.line, rawInt pos.col, .ref c']).toList = ps.toList ++ [rawInt pos.line, rawInt pos.col, .ref c'] := by simp
    have eC : upd (upd (upd H P (.tbl (ps ++ #[rawInt pos.line, rawInt pos.col, .ref c']))) c' (CodeO c' (X.env.qual ++ "<lambda>"))) h'.objs.size
        (LamO h'.objs.size ⟨X.env.qual ++ "<lambda>", params, body, scope, cloFrom X.env.cells scope.names [], c', dV⟩) c' = some (CodeO c' (X.env.qual ++ "<lambda>")) := by rw [upd_ne n1.symm, upd_same]
    have eE : ExP P H (upd (upd (upd H P (.tbl (ps ++ #[rawInt pos.line, rawInt pos.col, .ref c']))) c' (CodeO c' (X.env.qual ++ "<lambda>"))) h'.objs.size
        (LamO h'.objs.size ⟨X.env.qual ++ "<lambda>", params, body, scope, cloFrom X.env.cells scope.names [], c', dV⟩)) := fun b o hb e => by
      rw [upd_ne (ne_of_none e nF), upd_ne (ne_of_none e nC), upd_ne hb]
      exact e
    refine h h'.objs.size c' _ _ I2 eE ⟨_, by rw [upd_ne n2.symm, upd_ne (ne_of_none hP nC), upd_same], by rw [eL]; exact PySem.TriplesOk_snoc _ _ _ _ ht, fun p' cv hcv => ?_⟩ nF upd_same eC
    rw [eL] at hcv
    rcases among_app _ ht hcv with z | z
    · obtain ⟨c0, e1, e2⟩ := ha p' cv z
      refine ⟨c0, e1, eE _ _ (fun z => ?_) e2⟩
      rw [z, hP] at e2
      exact codeO_ne ps (Option.some.inj e2).symm
    · exact ⟨c', z, eC⟩
  | some cv =>
    obtain ⟨c', e, hco⟩ := ha pos cv hc
    subst e
    refine PySem.W.kdv_makeTailHit (mg := X.mg) (c := c) (P := P) (ps := ps) (closure_ok hfree) I.ok.glob (I.mod.glob.keeps I.bk) hcode (TB.code.keeps I.bk) hP' ht hc bP fun ctv doc h' tk hx hsz => ?_
    have nF : H h'.objs.size = none := I.hok.fresh hsz
    have I1 : Inv X pins σ H { s with heap := h', toks := tk } := I.kept hx
    have I2 := push (c' := c') (ctv := ctv) (doc := doc) (pm := (X.mg "__name__").getD .none) I1
    have eE : Ex H (upd H h'.objs.size (LamO h'.objs.size ⟨X.env.qual ++ "<lambda>", params, body, scope, cloFrom X.env.cells scope.names [], c', dV⟩)) := Ex.new nF
    refine h h'.objs.size c' _ _ I2 (fun b o _ e => eE b o e) ?_ nF upd_same (eE _ _ hco)
    exact TabS.ext ⟨ps, hP, ht, ha⟩ eE
end
/-- what a lambda's making asks of its maker's text -/
structure LamB (X : Cx) (c P : Addr) (scope : Scope) : Prop where
  tb : TabB X.base X.mg c P
  code : X.env.code = .ref c
  free : ∀ y ∈ scope.names, y.2 = .free → X.env.scope.names.lookup y.1 = some .cell ∨ X.env.scope.names.lookup y.1 = some .free
section
variable {X : Cx} {σ : L2.St} {H : Hp} {Q : VK} {c P : Addr} {params : Arguments} {body : Expr} {scope : Scope} {pos : Pos}
theorem LamB.has (B : LamB X c P scope) (ok : X.Ok) : ∀ y ∈ scope.names, y.2 = .free → ∃ c, X.env.cells.lookup y.1 = some c := fun y hy e => (B.free y hy e).elim (fun k => ok.has _ (.inl k)) fun k => ok.has _ (.inr k)
/-- lambda: .. -/
theorem w_lam0 (B : LamB X c P scope) (hd : params.defaults = []) (hk : params.kw_defaults = []) (hT : TabS H P (X.env.qual ++ "<lambda>"))
    (h : ∀ (f c' : Addr) (H1 : Hp), ExP P H H1 → TabS H1 P (X.env.qual ++ "<lambda>") → H f = none → H1 f = some (LamO f ⟨X.env.qual ++ "<lambda>", params, body, scope, cloFrom X.env.cells scope.names [], c', .none⟩) → H1 c' = some (CodeO c' (X.env.qual ++ "<lambda>")) → Q (.ref f) H1) :
    wE X (.Lambda params body scope pos) σ H Q := by
  intro pins s I
  refine PySem.W.kla_eval (by rw [defaultsOf_eq, hd, hk]; rfl) ?_
  rw [makeFunction_eq]
  simp only [List.zip_nil_right, List.filterMap_nil, List.isEmpty_nil, if_true, pure_bind]
  refine lam_tail (dV := .none) I B.tb B.code hT (B.has I.ok) fun f c' H1 s' I1 eE T1 hf hl hc => ?_
  exact ⟨.ref f, H1, I1, rfl, h f c' H1 eE T1 hf hl hc⟩
/-- lambda x=0: .. -/
theorem w_lam1 {i : Int} {j : Nat} {p1 : Pos} (B : LamB X c P scope) (hd : params.defaults = [.Constant (.int i) j p1]) (hk : params.kw_defaults = []) (hT : TabS H P (X.env.qual ++ "<lambda>"))
    (h : ∀ (f c' T : Addr) (H1 : Hp), ExP P H H1 → TabS H1 P (X.env.qual ++ "<lambda>") → H f = none → H1 f = some (LamO f ⟨X.env.qual ++ "<lambda>", params, body, scope, cloFrom X.env.cells scope.names [], c', .ref T⟩) → H1 c' = some (CodeO c' (X.env.qual ++ "<lambda>")) →
      H1 T = some (.tup [.int i]) → Q (.ref f) H1) : wE X (.Lambda params body scope pos) σ H Q := by
  intro pins s I
  refine PySem.W.kdv_lam (by rw [hd]; rfl) hk ?_
  rw [hd]
  refine PySem.W.kdv_all1 (wpAny_Constant_int (PySem.W.kdv_all0 ?_))
  rw [makeFunction_eq]
  simp only [List.zip_nil_right, List.filterMap_nil, List.isEmpty_nil, if_true, pure_bind, List.isEmpty_cons, Bool.false_eq_true, if_false]
  refine wpAny_bind (wpAny_newTextTuple ?_)
  have I0 := I.tok (s.toks + 1)
  have nT : H s.heap.objs.size = none := I.hok.fresh (Nat.le_refl _)
  have I1 : Inv X pins σ (upd H s.heap.objs.size (.tup [.int i])) { s with heap := s.heap.push { cls := .type "tuple", data := .seq [Value.int i s.toks].toArray }, toks := s.toks + 1 } := by
    refine Inv.laid (t' := s.toks + 1) I (fun b o e => Heap.get?_push_of_some _ e) (Nat.le_refl _) ?_
    exact ⟨by show 1 ≤ sizeLine; decide, _, .cons ⟨_, rfl⟩ .nil, IsTup.new _ _⟩
  have hT1 : TabS (upd H s.heap.objs.size (.tup [.int i])) P (X.env.qual ++ "<lambda>") := hT.ext (Ex.new nT)
  have nP : s.heap.objs.size ≠ P := fun z => by
    obtain ⟨ps, hP, _⟩ := hT
    rw [← z, nT] at hP
    cases hP
  refine lam_tail (dV := .ref s.heap.objs.size) I1 B.tb B.code hT1 (B.has I.ok) fun f c' H1 s' I2 eE T1 hf hl hc => ?_
  refine ⟨.ref f, H1, I2, rfl, h f c' s.heap.objs.size H1 (fun b o hb e => eE b o hb (Ex.new nT b o e)) T1 ?_ hl hc (eE _ _ nP upd_same)⟩
  exact NdefX.upd_none hf
end
end DV
namespace DV
open PySem PySem.Spec L2 Evl LamX NdefX
open PyProof.Rows hiding St cutD
/-! ### cells, told for the while of a call -/
/-- the cell's object o, which holds v -/
def CellF (o : Obj) (v : V) : HO := .frz o (.ext fun _ => ∃ u, RelV v u ∧ o.data = .cell (some u))
/-- over a heap -/
def ov (G : Addr → Option HO) (H : Hp) : Hp := fun a => match G a with
  | some o => some o
  | none => H a
def un (G : Addr → Option HO) (H : Hp) : Hp := fun a => match G a with
  | some _ => none
  | none => H a
theorem ov_some {G : Addr → Option HO} {H : Hp} {a : Addr} {o : HO} (h : G a = some o) : ov G H a = some o := by unfold ov; rw [h]
theorem ov_none {G : Addr → Option HO} {H : Hp} {a : Addr} (h : G a = none) : ov G H a = H a := by unfold ov; rw [h]
theorem un_some {G : Addr → Option HO} {H : Hp} {a : Addr} {o : HO} (h : G a = some o) : un G H a = none := by unfold un; rw [h]
theorem un_none {G : Addr → Option HO} {H : Hp} {a : Addr} (h : G a = none) : un G H a = H a := by unfold un; rw [h]
/-- G tells cells of the heap h -/
def CellsG (G : Addr → Option HO) (h : Heap) : Prop := ∀ a ho, G a = some ho → ∃ o v, ho = CellF o v ∧ h.get? a = some o ∧ ∃ u, RelV v u ∧ o.data = .cell (some u)
section
variable {P : Program} {w : World} {G : Addr → Option HO} {H H' : Hp} {h h' : Heap} {fs ex : List Addr}
theorem CellsG.ok (c : CellsG G h) {H : Hp} {a : Addr} {ho : HO} (e : G a = some ho) (hx : ∀ o, h.get? a = some o → h'.get? a = some o) : ObjOk P w H h' a ho := by
  obtain ⟨o, v, rfl, ho, u, r, d⟩ := c a ho e
  exact ⟨hx o ho, ⟨u, r, d⟩, ⟨o, hx o ho⟩, fun _ _ q _ => q⟩
theorem CellsG.kind (c : CellsG G h) {a : Addr} {ho : HO} (e : G a = some ho) : ∃ o u, ho = .frz o u := by
  obtain ⟨o, v, rfl, _⟩ := c a ho e
  exact ⟨o, _, rfl⟩
/-- told: the heap with them holds -/
theorem hok_ov (ok : HOk P w H h) (c : CellsG G h) (n : ∀ a ho, G a = some ho → H a = none) : HOk P w (ov G H) h := fun a o e => by
  cases g : G a with
  | some ho =>
    rw [ov_some g] at e
    cases e
    exact c.ok g fun _ q => q
  | none =>
    rw [ov_none g] at e
    refine (ok a o e).stay (fun b u _ q => q) (fun b q => ?_) fun b xs q => ?_
    · cases gb : G b with
      | some ho => rw [n b ho gb] at q; cases q
      | none => rw [ov_none gb]; exact q
    · cases gb : G b with
      | some ho => rw [n b ho gb] at q; cases q
      | none => rw [ov_none gb]; exact q
/-- forgotten again -/
theorem hok_un (ok : HOk P w H h) (c : ∀ a ho, G a = some ho → H a = some ho ∧ ∃ o u, ho = .frz o u) : HOk P w (un G H) h := fun a o e => by
  cases g : G a with
  | some ho => rw [un_some g] at e; cases e
  | none =>
    rw [un_none g] at e
    refine (ok a o e).stay (fun b u _ q => q) (fun b q => ?_) fun b xs q => ?_
    · cases gb : G b with
      | some ho =>
        obtain ⟨e1, o1, u1, e2⟩ := c b ho gb
        rw [e1, e2] at q
        cases q
      | none => rw [un_none gb]; exact q
    · cases gb : G b with
      | some ho =>
        obtain ⟨e1, o1, u1, e2⟩ := c b ho gb
        rw [e1, e2] at q
        cases q
      | none => rw [un_none gb]; exact q
theorem CellsG.stay (c : CellsG G h) (u : Un fs ex (ov G H) H' h h') {a : Addr} {ho : HO} (e : G a = some ho) : H' a = some ho := by
  obtain ⟨o, x, rfl⟩ := c.kind e
  exact u.frzs a o x (ov_some e)
/-- what a call did, without the cells that were told -/
theorem un_out (c : CellsG G h) (n : ∀ a ho, G a = some ho → H a = none) (nf : ∀ a ho, G a = some ho → a ∉ fs) (u : Un fs ex (ov G H) H' h h') (ok : HOk P w H' h') : Un fs ex H (un G H') h h' where
  keep := fun b o q hn hb hx => by
    cases g : G b with
    | some ho =>
      obtain ⟨o', v, e1, e2, _⟩ := c b ho g
      rw [q] at e2
      cases e2
      subst e1
      exact (ok b _ (c.stay u g)).1
    | none => exact u.keep b o q (by rw [ov_none g]; exact hn) hb hx
  slot := fun b o q hn hb hx => by
    cases g : G b with
    | some ho => exact absurd hb (nf b ho g)
    | none => exact u.slot b o q (by rw [ov_none g]; exact hn) hb hx
  free := fun b o q hn hx => by
    cases g : G b with
    | some ho => exact un_some g
    | none =>
      rw [un_none g]
      exact u.free b o q (by rw [ov_none g]; exact hn) hx
  there := u.there
  tups := fun b xs q => by
    cases g : G b with
    | some ho => rw [n b ho g] at q; cases q
    | none =>
      rw [un_none g]
      exact u.tups b xs (by rw [ov_none g]; exact q)
  frzs := fun b o x q => by
    cases g : G b with
    | some ho => rw [n b ho g] at q; cases q
    | none =>
      rw [un_none g]
      exact u.frzs b o x (by rw [ov_none g]; exact q)
  tbls := fun b ps q => by
    cases g : G b with
    | some ho => rw [n b ho g] at q; cases q
    | none =>
      obtain ⟨m, e⟩ := u.tbls b ps (by rw [ov_none g]; exact q)
      exact ⟨m, by rw [un_none g]; exact e⟩
/-- what a call did, with the cells that were hidden -/
theorem un_in (c : CellsG G h) (t : ∀ a ho, G a = some ho → H a = some ho) (u : Un fs [] (un G H) H' h h') : Un fs [] H (ov G H') h h' := by
  have ng : ∀ {b}, H b = none → G b = none := fun {b} q => by
    cases g : G b with
    | some ho => rw [t b ho g] at q; cases q
    | none => rfl
  refine ⟨fun b o q hn hb hx => u.keep b o q (by rw [un_none (ng hn)]; exact hn) hb hx, fun b o q hn hb hx => u.slot b o q (by rw [un_none (ng hn)]; exact hn) hb hx, fun b o q hn hx => ?_, u.there, fun b xs q => ?_, fun b o x q => ?_, fun b ps q => ?_⟩
  · rw [ov_none (ng hn)]
    exact u.free b o q (by rw [un_none (ng hn)]; exact hn) hx
  · cases g : G b with
    | some ho =>
      obtain ⟨o, x, e⟩ := c.kind g
      rw [t b ho g, e] at q
      cases q
    | none =>
      rw [ov_none g]
      exact u.tups b xs (by rw [un_none g]; exact q)
  · cases g : G b with
    | some ho => rw [ov_some g, ← t b ho g]; exact q
    | none =>
      rw [ov_none g]
      exact u.frzs b o x (by rw [un_none g]; exact q)
  · cases g : G b with
    | some ho =>
      obtain ⟨o, x, e⟩ := c.kind g
      rw [t b ho g, e] at q
      cases q
    | none =>
      obtain ⟨m, e⟩ := u.tbls b ps (by rw [un_none g]; exact q)
      exact ⟨m, by rw [ov_none g]; exact e⟩
theorem ub_in {B : Heap} (c : CellsG G h) (t : ∀ a ho, G a = some ho → H a = some ho) (u : UB fs (un G H) H' h B h') : UB fs H (ov G H') h B h' := by
  have ng : ∀ {b}, H b = none → G b = none := fun {b} q => by
    cases g : G b with
    | some ho => rw [t b ho g] at q; cases q
    | none => rfl
  refine ⟨fun b o q hn hb => u.keep b o q (by rw [un_none (ng hn)]; exact hn) hb, u.slot, fun b o q hn => ?_, u.there, fun b xs q => ?_, fun b o x q => ?_, fun b ps q => ?_⟩
  · rw [ov_none (ng hn)]
    exact u.free b o q (by rw [un_none (ng hn)]; exact hn)
  · cases g : G b with
    | some ho =>
      obtain ⟨o, x, e⟩ := c.kind g
      rw [t b ho g, e] at q
      cases q
    | none =>
      rw [ov_none g]
      exact u.tups b xs (by rw [un_none g]; exact q)
  · cases g : G b with
    | some ho => rw [ov_some g, ← t b ho g]; exact q
    | none =>
      rw [ov_none g]
      exact u.frzs b o x (by rw [un_none g]; exact q)
  · cases g : G b with
    | some ho =>
      obtain ⟨o, x, e⟩ := c.kind g
      rw [t b ho g, e] at q
      cases q
    | none =>
      obtain ⟨m, e⟩ := u.tbls b ps (by rw [un_none g]; exact q)
      exact ⟨m, by rw [ov_none g]; exact e⟩
theorem un_ex (t : ∀ a ho, G a = some ho → H a = some ho) (e : Ex (un G H) H') : Ex H (ov G H') := fun a o q => by
  cases g : G a with
  | some ho => rw [ov_some g, ← t a ho g]; exact q
  | none =>
    rw [ov_none g]
    exact e a o (by rw [un_none g]; exact q)
theorem ov_ex (n : ∀ a ho, G a = some ho → H a = none) (e : Ex (ov G H) H') : Ex H (un G H') := fun a o q => by
  cases g : G a with
  | some ho => rw [n a ho g] at q; cases q
  | none =>
    rw [un_none g]
    exact e a o (by rw [ov_none g]; exact q)
theorem ex_ov (n : ∀ a ho, G a = some ho → H a = none) : Ex H (ov G H) := fun a o q => by
  cases g : G a with
  | some ho => rw [n a ho g] at q; cases q
  | none => rw [ov_none g]; exact q
end
/-! ### calls of what a name holds -/
/-- f(), in the heap H: what comes of it -/
def Calls (P : Program) (w : World) (K : PySem.W.Frag) (mg : Str → Option Value) (base : Heap) (k : Nat) (f : Addr) (H : Hp) (Q : VK) (E : XK) : Prop :=
  ∀ (A : Around) (outer : List Env) (s : Shared), Room k A → Env0 P w K mg base A outer s H → codeAny (model P w) A (.call (.ref f) ⟨[], []⟩) (CR (L2.CX P w) outer P w H s Q E) s
theorem Calls.imp {P : Program} {w : World} {K : PySem.W.Frag} {mg : Str → Option Value} {base : Heap} {k : Nat} {f : Addr} {H : Hp} {Q Q' : VK} {E E' : XK} (c : Calls P w K mg base k f H Q E) (hq : ∀ v H', Q v H' → Q' v H') (he : ∀ cls d H', E cls d H' → E' cls d H') : Calls P w K mg base k f H Q' E' := by
  intro A outer s hr e0
  refine codeAny_mono (c A outer s hr e0) fun r s' h => ?_
  cases r with
  | error e =>
    obtain ⟨a, B, H', cls, d, e1, fl, hk, ub, na, os, ab, we⟩ := h
    exact ⟨a, B, H', cls, d, e1, fl, hk, ub, na, os, ab, he _ _ _ we⟩
  | ok fl =>
    cases fl with
    | ret u =>
      obtain ⟨v, H', os, bare, un', hok, rv, qv⟩ := h
      exact ⟨v, H', os, bare, un', hok, rv, hq _ _ qv⟩
    | next => exact h
    | brk => exact h
    | cont => exact h
theorem Calls.mono {P : Program} {w : World} {K : PySem.W.Frag} {mg : Str → Option Value} {base : Heap} {j k : Nat} {f : Addr} {H : Hp} {Q : VK} {E : XK} (c : Calls P w K mg base j f H Q E) (h : j ≤ k) : Calls P w K mg base k f H Q E := fun A outer s hr e0 => c A outer s (hr.mono h) e0
section
variable {P : Program} {w : World} {K : PySem.W.Frag} {mg : Str → Option Value} {base : Heap}
/-- the lambda as a nested def's record (its body stands apart) -/
abbrev Lam.nf (L : Lam) : NF := ⟨"<lambda>", L.qual, L.params, [], L.scope, L.cl, L.c⟩
/-- the cells of L as H tells them -/
def capG (L : Lam) (H : Hp) : Addr → Option HO := fun a => if a ∈ L.cl.map (·.2) then H a else none
theorem lookup_mem {l : List (Str × Addr)} {y : Str} {c : Addr} (h : l.lookup y = some c) : c ∈ l.map (·.2) := List.mem_map.mpr ⟨(y, c), PySem.mem_of_lookup h, rfl⟩
theorem Calls.lam {N ps fr : List Str} {L : Lam} {f : Addr} {k : Nat} {H : Hp} {Q : VK} {E : XK} {vs : List V} {ws : List (Option V)} (S : NScope N ps fr L.scope) (hf : H f = some (LamO f L)) (hc : H L.c = some (CodeO L.c L.qual)) (hl : vs.length = ps.length) (hw : ws.length = fr.length)
    (hb : ∀ s : Shared, HOk P w H s.heap → ∃ us, Vals vs us ∧ ∀ doc pm ctv, BindsTo s (L.fd doc pm ctv) ⟨[], []⟩ (ps.zip us))
    (cells : ∀ (i : Nat) (y : Str), fr[i]? = some y → ∃ c o v, L.cl.lookup y = some c ∧ ws[i]? = some (some v) ∧ H c = some (CellF o v))
    (only : ∀ p ∈ L.cl, ∃ i : Nat, fr[i]? = some p.1 ∧ L.cl.lookup p.1 = some p.2) (inj : ∀ x y c, L.cl.lookup x = some c → L.cl.lookup y = some c → x = y)
    (body : ∀ (A : Around) (outer : List Env) (s : Shared) (E' : XK), (E' = fun cls d H' => E cls d (ov (capG L H) H')) → Room k (A.deeper (envF L.nf f s.heap.objs.size)) →
      wE (ncx (L2.CX P w) P w K mg base N L.nf f A outer s (un (capG L H) H) E') L.body (startF N vs ws) (un (capG L H) H) fun v H' => Q v (ov (capG L H) H')) :
    Calls P w K mg base (k + 1) f H Q E := by
  intro A outer s hr e0
  have tG : ∀ a ho, capG L H a = some ho → H a = some ho := fun a ho e => by
    unfold capG at e
    split at e
    · exact e
    · cases e
  have inG : ∀ {c : Addr} {o : Obj} {v : V}, c ∈ L.cl.map (·.2) → H c = some (CellF o v) → capG L H c = some (CellF o v) := fun hm e => by
    unfold capG
    rw [if_pos hm]
    exact e
  have memc : ∀ {c : Addr}, c ∈ L.cl.map (·.2) → ∃ o v, H c = some (CellF o v) := fun {c} hm => by
    obtain ⟨p, hp, rfl⟩ := List.mem_map.mp hm
    obtain ⟨i, hi, hlk⟩ := only p hp
    obtain ⟨c', o, v, e1, _, e3⟩ := cells i p.1 hi
    rw [hlk] at e1
    cases e1
    exact ⟨o, v, e3⟩
  have cG : CellsG (capG L H) s.heap := fun a ho e => by
    have hm : a ∈ L.cl.map (·.2) := by
      unfold capG at e
      split at e
      · assumption
      · cases e
    obtain ⟨o, v, e2⟩ := memc hm
    have e3 := tG a ho e
    rw [e2] at e3
    cases e3
    obtain ⟨q1, ⟨u, r, d⟩, _⟩ := (e0.hok a _ e2)
    exact ⟨o, v, rfl, q1, u, r, d⟩
  have hok' : HOk P w (un (capG L H) H) s.heap := hok_un e0.hok fun a ho e => ⟨tG a ho e, cG.kind e⟩
  have e0' : Env0 P w K mg base A outer s (un (capG L H) H) := by
    refine ⟨e0.frames, e0.mod, fun b o q => ⟨(e0.bs b o q).1, ?_⟩, e0.bsz, e0.funs, fun b hb => ?_, hok', e0.bare⟩
    · cases g : capG L H b with
      | some ho => exact un_some g
      | none => rw [un_none g]; exact (e0.bs b o q).2
    · cases g : capG L H b with
      | some ho => exact un_some g
      | none => rw [un_none g]; exact e0.frf b hb
  have ngf : capG L H f = none := by
    cases g : capG L H f with
    | none => rfl
    | some ho =>
      obtain ⟨o, u, e⟩ := cG.kind g
      have := tG f ho g
      rw [hf, e] at this
      unfold LamO at this
      cases this
  have C : CellsAt L.cl fr ws s.heap (un (capG L H) H) := by
    refine ⟨hw, fun y c e => ?_, inj, fun i y e => ?_⟩
    · obtain ⟨o, v, e2⟩ := memc (lookup_mem e)
      have g := inG (lookup_mem e) e2
      obtain ⟨o', v', _, q1, u, r, d⟩ := cG c _ g
      exact ⟨un_some g, some u, o', q1, d⟩
    · obtain ⟨c, o, v, e1, e2, e3⟩ := cells i y e
      refine ⟨c, e1, fun v' e4 => ?_⟩
      rw [e2] at e4
      cases e4
      obtain ⟨q1, ⟨u, r, d⟩, _⟩ := e0.hok c _ e3
      exact ⟨u, r, o, q1, d⟩
  have lim : s.heap.NoLimit := e0.mod.nolimit.keeps fun b o e => (e0.bs b o e).1
  obtain ⟨od, sl, doc, pm, ctv, ho⟩ := lamO_at e0.hok hf
  obtain ⟨us, rv, hbind⟩ := hb s e0.hok
  refine PySem.W.kla_callFunE hr.depth ho rfl S.co S.gen rfl (codeO_at e0.hok hc) ?_
  refine hbind doc pm ctv _ _ _ _ ?_
  refine wpAny_newFunctionEnv S.nocell (fun ⟨n, _⟩ hy => S.par n (List.of_mem_zip hy).1) (fun h₁ hns hsb => ⟨lim.fresh _ hsb, ?_⟩) S.kind
  show codeAny _ _ (.expr L.body (envF L.nf f s.heap.objs.size)) _ _
  have kp : ∀ b o, s.heap.get? b = some o → h₁.get? b = some o := fun b o e => hsb.extBut b o (Nat.ne_of_lt (Heap.lt_size e)) (Heap.get?_push_of_some _ e)
  have I : Inv (ncx (L2.CX P w) P w K mg base N L.nf f A outer s (un (capG L H) H) (fun cls d H' => E cls d (ov (capG L H) H'))) [] (startF N vs ws) (un (capG L H) H) { s with heap := h₁, toks := s.toks + (ps.zip us).length } := inv_startN S hr.hd e0' hl rv C hns kp
  have conv : ∀ e s'', L2.CX P w outer (un (capG L H) H) s (fun cls d H' => E cls d (ov (capG L H) H')) e s'' → L2.CX P w outer H s E e s'' := by
    intro e s'' hx
    obtain ⟨a, B, H', cls, d, e1, fl, hk, ub, na, os, ab, we⟩ := hx
    refine ⟨a, B, ov (capG L H) H', cls, d, e1, fl, ?_, ub_in cG tG ub, ?_, os, ab, we⟩
    · have cB : CellsG (capG L H) B := fun b ho g => by
        obtain ⟨o, v, e1, e2, e3⟩ := cG b ho g
        refine ⟨o, v, e1, ub.keep b o e2 (un_some g) ?_, e3⟩
        intro hm
        have := e0.frf b hm
        rw [tG b ho g] at this
        cases this
      exact hok_ov hk cB fun b ho g => by
        obtain ⟨o, v, e1, e2, e3⟩ := cG b ho g
        exact ub.free b o e2 (un_some g)
    · cases g : capG L H a with
      | none => rw [ov_none g]; exact na
      | some ho =>
        obtain ⟨o, v, e1, e2, _⟩ := cG a ho g
        have hB := ub.keep a o e2 (un_some g) (fun hm => by
          have := e0.frf a hm
          rw [tG a ho g] at this
          cases this)
        obtain ⟨_, hBn, _⟩ := fl
        rw [hB] at hBn
        cases hBn
  refine PySem.W.kla_codeExpr (wpAny_mono (body A outer s _ rfl (hr.deeper _) [] _ I) (fun v s' hq => ?_) fun e s' hq => ?_)
  · obtain ⟨w', H', J, r, q⟩ := hq
    have ub : Un (frs outer) [] (un (capG L H) H) H' s.heap s'.heap := J.base
    refine ⟨w', ov (capG L H) H', J.os, J.bare, un_in cG tG ub, ?_, r, q⟩
    have cB : CellsG (capG L H) s'.heap := fun b ho g => by
      obtain ⟨o, v, e1, e2, e3⟩ := cG b ho g
      refine ⟨o, v, e1, ub.keep b o e2 (un_some g) ?_ (by simp), e3⟩
      intro hm
      have := e0.frf b hm
      rw [tG b ho g] at this
      cases this
    exact hok_ov J.hok cB fun b ho g => by
      obtain ⟨o, v, e1, e2, e3⟩ := cG b ho g
      exact ub.free b o e2 (un_some g) (by simp)
  · exact wpAny_mono hq (fun _ s'' h => conv e s'' h) fun e' s'' h => conv e' s'' h
end
/-! x(), x a slot that holds such a function -/
theorem lam_fnAt {X : Cx} {pins : List (Addr × Obj)} {σ : L2.St} {H : Hp} {s : Shared} {f : Addr} {L : Lam} (I : Inv X pins σ H s) (e : H f = some (LamO f L)) : PySem.W.FnAt f s.heap := by
  obtain ⟨od, sl, doc, pm, ctv, ho⟩ := lamO_at I.hok e
  exact ⟨_, od, _, sl, ho⟩
theorem w_callV {X : Cx} {i j k : Nat} {x : Str} {f : Addr} {L : Lam} {σ : L2.St} {H : Hp} {Q : VK} {E : XK} {p pos : Pos} (hr : Room j X.A) (hk : k ≤ j) (hx : PassesAt (L2.CX X.prog X.w) X σ E) (hN : X.N[i]? = some x) (hv : Vis X.env.scope x) (hs : σ[i]? = some (some (.ref f))) (hf : H f = some (LamO f L))
    (h : Calls X.prog X.w X.K X.mg X.base k f H Q E) (hd : (x == ("__debug__" : Str)) = false := by decide) (hcd : (x == ("__classdict__" : Str)) = false := by decide) : wE X (.Call (.Name x p) [] [] pos) σ H Q := by
  intro pins s I
  refine wpAny_Call_Name_kw (thn ((pe_var (pos := p) hN hv hd hcd).run pins s σ H (fun v H1 => v = .ref f ∧ H1 = H) I ⟨.ref f, hs, rfl, rfl⟩) fun u s1 ⟨v, H1, I1, r1, q1⟩ => ?_)
  obtain ⟨ev, eH⟩ := q1
  subst ev
  rw [eH] at I1
  obtain rfl : u = Value.ref f := r1
  refine PySem.W.callWith_F0 (first := []) (lam_fnAt I1 hf) ?_
  show wpAny _ _ (call (.ref f) []) _ _ _
  refine wpAny_call (codeAny_mono (h X.A X.stack s1 (hr.mono hk) I1.env0) fun r s' hq => ?_)
  cases r with
  | error e => exact hx pins H s1 e s' I1 hq
  | ok fl =>
    cases fl with
    | ret u => exact I1.after hq
    | next => exact False.elim hq
    | brk => exact False.elim hq
    | cont => exact False.elim hq
end DV
namespace DV
open PySem PySem.Spec L2 Evl LamX NdefX
open PyProof.Rows hiding St cutD
/-- the names of ys, their cells told by G -/
structure Shown (X : Cx) (σ : L2.St) (H : Hp) (ys : List (Nat × Str)) (G : Addr → Option HO) : Prop where
  at_ : ∀ j y, (j, y) ∈ ys → ∃ c o v, X.env.cells.lookup y = some c ∧ σ[j]? = some (some v) ∧ G c = some (CellF o v)
  free : ∀ a ho, G a = some ho → H a = none
  ok : X.Ok
theorem absV_rel {u : Value} {v : V} (h : absV u = some v) : RelV v u := by
  cases u <;> simp only [absV, Option.some.injEq, reduceCtorEq] at h <;> subst h <;> first | rfl | exact ⟨_, rfl⟩
def cellOf (o : Obj) : Option V := match o.data with
  | .cell (some u) => absV u
  | _ => none
def gOf (cs : List Addr) (h : Heap) : Addr → Option HO := fun a => if a ∈ cs then (h.get? a).bind fun o => (cellOf o).map (CellF o) else none
theorem gOf_spec {cs : List Addr} {h : Heap} {a : Addr} {ho : HO} (e : gOf cs h a = some ho) : a ∈ cs ∧ ∃ o v, ho = CellF o v ∧ h.get? a = some o ∧ ∃ u, RelV v u ∧ o.data = .cell (some u) := by
  unfold gOf at e
  split at e
  · rename_i hm
    refine ⟨hm, ?_⟩
    cases ho' : h.get? a with
    | none => rw [ho'] at e; cases e
    | some o =>
      rw [ho'] at e
      have e : (cellOf o).map (CellF o) = some ho := e
      cases hv : cellOf o with
      | none => rw [hv] at e; cases e
      | some v =>
        rw [hv] at e
        have e : some (CellF o v) = some ho := e
        unfold cellOf at hv
        split at hv
        · rename_i u hu
          exact ⟨o, v, (Option.some.inj e).symm, rfl, u, absV_rel hv, hu⟩
        · cases hv
  · cases e
theorem gOf_at {cs : List Addr} {h : Heap} {a : Addr} {o : Obj} {u : Value} {v : V} (hm : a ∈ cs) (ho : h.get? a = some o) (hd : o.data = .cell (some u)) (r : RelV v u) : gOf cs h a = some (CellF o v) := by
  unfold gOf
  rw [if_pos hm, ho]
  show (cellOf o).map (CellF o) = _
  unfold cellOf
  rw [hd]
  show (absV u).map (CellF o) = _
  rw [r.abs]
  rfl
section
variable {X : Cx} {σ : L2.St} {H : Hp} {Q : VK} {x : Str} {e : Expr} {es : List Expr} {px pos : Pos} {j k : Nat} {sp : Sp}
/-- a def called by its maker, the cells of ys told for the while -/
theorem w_callG (c : Cal X.prog X.w X.K X.mg X.base x k sp) (hr : Room j X.A) (hk : k ≤ j) (hg : Gl X x) (ys : List (Nat × Str)) (hy : ∀ p ∈ ys, X.N[p.1]? = some p.2 ∧ X.env.scope.names.lookup p.2 = some .cell ∧ X.fn p.2 = true) (hσ : ∀ p ∈ ys, ∃ v, σ[p.1]? = some (some v))
    (ha : wA X (e :: es) σ H fun vs H1 => ∀ G, Shown X σ H1 ys G → sp vs (ov G H1) (fun v H' => Q v (un G H')) E0) (hdb : (x == ("__debug__" : Str)) = false := by decide)
    (he : starEach (e :: es) X.env = (false, eval e X.env) :: starEach es X.env := by rfl) (hpl : (backTo pos (starEach es X.env)).any (·.1) = false := by rfl) : wE X (.Call (.Name x px) (e :: es) [] pos) σ H Q := by
  intro pins s I
  obtain ⟨f, fd, ps, F, hm, hkp, hb⟩ := c.ex
  refine wpAny_Call_Name_kw (ld_glob I hg hm ?_ hdb)
  refine PySem.W.callWith_K (h₀ := X.base) I.ok.mod.kin hkp (thn (pa_w.run pos pins s σ H _ I ha) fun us s1 ⟨vs, H1, I1, r, q⟩ => ⟨I1.kIn, ?_⟩) he hpl
  show wpAny _ _ (call (.ref f) us) _ _ _
  let cs : List Addr := ys.filterMap fun p => X.env.cells.lookup p.2
  have csOf : ∀ {a : Addr}, a ∈ cs → ∃ p ∈ ys, X.env.cells.lookup p.2 = some a := fun {a} hm => List.mem_filterMap.mp hm
  let G := gOf cs s1.heap
  have cG : CellsG G s1.heap := fun a ho e => (gOf_spec e).2
  have nG : ∀ a ho, G a = some ho → H1 a = none := fun a ho e => by
    obtain ⟨p, hp, hl⟩ := csOf (gOf_spec e).1
    exact I1.freeC p.2 a hl
  have above : ∀ a ho, G a = some ho → X.s_0.heap.objs.size ≤ a := fun a ho e => by
    obtain ⟨p, hp, hl⟩ := csOf (gOf_spec e).1
    exact I1.ok.cab p.2 a (hy p hp).2.2 hl
  have nF : ∀ a ho, G a = some ho → a ∉ frs X.stack := fun a ho e hm => by
    obtain ⟨p, hp, hl⟩ := csOf (gOf_spec e).1
    rcases List.mem_cons.mp (I1.stkSub a hm) with z | z
    · exact I1.cne p.2 a hl z
    · obtain ⟨_, o, ho, _⟩ := I1.ok.funs.mem z
      exact absurd (Nat.lt_of_lt_of_le (Heap.lt_size ho) (above a _ e)) (Nat.lt_irrefl _)
  have sh : Shown X σ H1 ys G := by
    refine ⟨fun j y hm => ?_, nG, I1.ok⟩
    obtain ⟨hN, hc, _⟩ := hy (j, y) hm
    obtain ⟨v, hv⟩ := hσ (j, y) hm
    obtain ⟨m, hn, hl⟩ := I1.loc
    obtain ⟨u, rv, l⟩ := hl j y v hN hv (.inr (.inl hc))
    rcases l with ⟨z, _⟩ | ⟨_, c, hlk, o, ho, hd⟩
    · have z : X.env.scope.names.lookup y = some .local := z
      rw [hc] at z
      cases z
    · have hcm : c ∈ cs := List.mem_filterMap.mpr ⟨(j, y), hm, hlk⟩
      exact ⟨c, o, v, hlk, hv, gOf_at hcm ho hd rv⟩
  have e1 := I1.env0
  have e0 : Env0 X.prog X.w X.K X.mg X.base X.A X.stack s1 (ov G H1) := by
    refine ⟨e1.frames, e1.mod, fun b o q => ⟨(e1.bs b o q).1, ?_⟩, e1.bsz, e1.funs, fun b hb => ?_, hok_ov e1.hok cG nG, e1.bare⟩
    · cases g : G b with
      | none => rw [ov_none g]; exact (e1.bs b o q).2
      | some ho =>
        exact absurd (Nat.lt_of_lt_of_le (Heap.lt_size q) (Nat.le_trans I1.ok.bsz (above b ho g))) (Nat.lt_irrefl _)
    · cases g : G b with
      | none => rw [ov_none g]; exact e1.frf b hb
      | some ho => exact absurd hb (nF b ho g)
  have h := q G sh
  have hl : us.length = ps.length := by rw [← r.length]; exact F.len _ _ _ _ h
  have b := hb s1 us I1.kIn (by rw [List.append_nil]; exact hl)
  rw [List.append_nil] at b
  refine wpAny_call (codeAny_mono (F.run X.A X.stack s1 (ov G H1) ⟨us, []⟩ us vs _ E0 (hr.mono hk) e0 b r h) fun r s' hq => ?_)
  cases r with
  | error e =>
    obtain ⟨_, _, _, _, _, _, _, _, _, _, _, _, z⟩ := hq
    exact z.elim
  | ok fl =>
    cases fl with
    | ret u =>
      refine I1.after ?_
      obtain ⟨v, H', os, bare, un', hok, rv, qv⟩ := hq
      exact ⟨v, un G H', os, bare, un_out cG nG nF un' hok, hok_un hok fun a ho g => ⟨cG.stay un' g, cG.kind g⟩, rv, qv⟩
    | next => exact False.elim hq
    | brk => exact False.elim hq
    | cont => exact False.elim hq
end
end DV
namespace DV
open PySem PySem.Spec L2 Evl LamX NdefX
open PyProof.Rows hiding St cutD
/-! ### list.count of flat items -/
def rCntF (K : PySem.W.Frag) : V → List V → Hp → VK → Prop := fun x xs H Q => ∃ (p : Addr) (ys : List V) (y : V), x = .ref p ∧ xs = [y] ∧ SqL K H p ys ∧ flatV y = true ∧ ys.all flatV = true ∧ Q (.int (ys.countP (fun z => eqV z y) : Nat)) H
theorem countP_eqU {x : V} : ∀ {xs : List V} {us : List Value}, Vals xs us → xs.all flatV = true → us.countP (eqU x) = xs.countP fun y => eqV y x
  | _, _, .nil, _ => rfl
  | _, _, .cons r t, f => by
    rw [List.all_cons, Bool.and_eq_true] at f
    rw [List.countP_cons, List.countP_cons, eqU_of r f.1, countP_eqU t f.2]
theorem mt_countF {X : Cx} : MtR X "list.count" (rCntF X.K) := by
  intro pins s σ H x xs v us Q I rx rxs h
  obtain ⟨p, ys, y, rfl, rfl, hs, fy, fys, q⟩ := h
  cases rx
  obtain ⟨u, rfl, ru⟩ := rxs.one
  obtain ⟨its, rv, ⟨⟨cls, dd, data, sl⟩, n, ho, hc, hdn, hd⟩, hlen⟩ := I.list hs
  simp only at hc hd
  subst hc hd
  refine call_meets PySem.F.slot_list_count ⟨_, ho, rfl⟩ PySem.F.entry_list_count (PySem.F.args_list_count_2 _ _)
    (SeqAt.list_countAt p its.toArray n dd sl u (eqU y)) ⟨ho, fun w hw => mem_eqAt ru fy rv fys w (by simpa using hw), ?_⟩
  have ec : its.toArray.toList.countP (eqU y) = ys.countP fun z => eqV z y := countP_eqU rv fys
  refine ⟨.int (ys.countP (fun z => eqV z y) : Nat), H, I.tok _, ⟨s.toks, ?_⟩, q⟩
  show Value.int ((its.toArray.toList.countP (eqU y) : Nat) : Int) s.toks = Value.int ((ys.countP (fun z => eqV z y) : Nat) : Int) s.toks
  rw [ec]
theorem flat_bools : ∀ bs : List Bool, (bs.map V.bl).all flatV = true
  | [] => rfl
  | _ :: bs => by rw [List.map_cons, List.all_cons, flat_bools bs]; rfl
theorem count_bools (b : Bool) : ∀ bs : List Bool, (bs.map V.bl).countP (fun z => eqV z (.bl b)) = bs.count b
  | [] => rfl
  | c :: bs => by
    rw [List.map_cons, List.countP_cons, List.count_cons, count_bools b bs]
    rfl
section
variable {S : Type} {X : Cx} {M : List Addr} {R : S → Hp → Prop} {ρ : List Sl} {s s1 s2 : S} {a b o e e' : Expr} {px pos apos cpos : Pos}
theorem e_countB {bs : List Bool} {k : Bool} (ho : Ev1 X M R ρ o s (.dat (.list (bs.map .bool))) s1) (ha : EvA1 X M R ρ [e] s1 [.dat (.bool k)] s2)
    (hbase : attributeBase o "count" X.env (eval o X.env) = eval o X.env := by rfl)
    (hfew : ((backTo cpos (starEach [e] X.env)).all (fun x => !x.1) && (backToKw cpos (keywordEach [] X.env)).all (fun x => x.1.isSome) && decide ([e].length + ([] : List Keyword).length + (if ([] : List Keyword).isEmpty then 0 else 1) < 30)) = true := by rfl)
    (hline : (apos.endLine == cpos.line) = true := by rfl) (hs : starEach [e] X.env = (false, eval e X.env) :: starEach [] X.env := by rfl) (hplain : (backTo cpos (starEach [] X.env)).any (·.1) = false := by rfl) :
    Ev1 X M R ρ (.Call (.Attribute o "count" apos) [e] [] cpos) s (.dat (.int (bs.count k : Nat))) s2 := by
  intro σ H Q hσ hR q
  refine wE_of (pe_bm PySem.F.plainAttrs_list PySem.F.slot_list_count PySem.F.type_list_count (mt_countF : MtR X _ _) pe_w pa_w hbase hfew hline hs hplain) ?_
  refine ho σ H _ hσ hR fun v H1 e1 R1 d1 => ?_
  obtain ⟨p, xs, rfl, hp, hd⟩ := sv_lst d1
  rw [dpa_bools hd] at hp
  refine ⟨.inl ⟨rfl, _, sq_of (ex_cut _ _ hp)⟩, ?_⟩
  refine ha σ H1 _ (hσ.ex e1) R1 fun vs H2 e2 R2 d2 => ?_
  obtain ⟨w, rfl, h2⟩ := svall1 d2
  rw [sv_bl h2]
  refine ⟨p, _, _, rfl, rfl, sq_of (ex_cut _ _ (e2 _ _ hp)), rfl, flat_bools bs, ?_⟩
  rw [count_bools]
  exact q _ H2 (e1.trans e2) R2 (.int _)
/-- the first True -/
theorem e_indexB {bs : List Bool} {j : Nat} (hj : bs[j]? = some true) (hlt : ∀ m, m < j → bs[m]? = some false) (ho : Ev1 X M R ρ o s (.dat (.list (bs.map .bool))) s1) (ha : EvA1 X M R ρ [e] s1 [.dat (.bool true)] s2)
    (hbase : attributeBase o "index" X.env (eval o X.env) = eval o X.env := by rfl)
    (hfew : ((backTo cpos (starEach [e] X.env)).all (fun x => !x.1) && (backToKw cpos (keywordEach [] X.env)).all (fun x => x.1.isSome) && decide ([e].length + ([] : List Keyword).length + (if ([] : List Keyword).isEmpty then 0 else 1) < 30)) = true := by rfl)
    (hline : (apos.endLine == cpos.line) = true := by rfl) (hs : starEach [e] X.env = (false, eval e X.env) :: starEach [] X.env := by rfl) (hplain : (backTo cpos (starEach [] X.env)).any (·.1) = false := by rfl) :
    Ev1 X M R ρ (.Call (.Attribute o "index" apos) [e] [] cpos) s (.dat (.int (j : Nat))) s2 := by
  intro σ H Q hσ hR q
  refine wE_of (pe_bm PySem.F.plainAttrs_list PySem.F.slot_list_index PySem.F.type_list_index (mt_index : MtR X _ _) pe_w pa_w hbase hfew hline hs hplain) ?_
  refine ho σ H _ hσ hR fun v H1 e1 R1 d1 => ?_
  obtain ⟨p, xs, rfl, hp, hd⟩ := sv_lst d1
  rw [dpa_bools hd] at hp
  refine ⟨.inl ⟨rfl, _, sq_of (ex_cut _ _ hp)⟩, ?_⟩
  refine ha σ H1 _ (hσ.ex e1) R1 fun vs H2 e2 R2 d2 => ?_
  obtain ⟨w, rfl, h2⟩ := svall1 d2
  rw [sv_bl h2]
  refine ⟨p, _, _, j, .bl true, rfl, rfl, sq_of (ex_cut _ _ (e2 _ _ hp)), rfl, flat_bools bs, by rw [List.getElem?_map, hj]; rfl, rfl, fun m z hm hz => ?_, q _ H2 (e1.trans e2) R2 (.int _)⟩
  rw [List.getElem?_map, hlt m hm] at hz
  cases hz
  rfl
/-! in a written tuple of flat data -/
def flatD : PyData → Bool
  | .none | .bool _ | .int _ | .str _ => true
  | _ => false
theorem flat_dv {K : PySem.W.Frag} {H : Hp} {d : PyData} {v : V} (h : Dv K H v d) (f : flatD d = true) : flatV v = true := by
  cases h <;> first | rfl | cases f
theorem eqv_flat {K : PySem.W.Frag} {H : Hp} {d e : PyData} {v w : V} (h : Dv K H v d) (h' : Dv K H w e) (f : flatD d = true) (f' : flatD e = true) : eqV v w = PyData.eqv d e := by
  cases h <;> first | (cases f; done) | (cases h' <;> first | rfl | (cases f'; done))
theorem flat_all {K : PySem.W.Frag} {H : Hp} : ∀ {ds : List PyData} {vs : List V}, DvAll K H vs ds → ds.all flatD = true → vs.all flatV = true
  | [], _, h, _ => by cases h; rfl
  | d :: ds, _, h, f => by
    cases h with
    | cons a b =>
      rw [List.all_cons, Bool.and_eq_true] at f
      rw [List.all_cons, flat_dv a f.1, flat_all b f.2]
      rfl
theorem in_dv {K : PySem.W.Frag} {H : Hp} {d : PyData} {v : V} (h : Dv K H v d) (f : flatD d = true) : ∀ {ds : List PyData} {vs : List V}, DvAll K H vs ds → ds.all flatD = true → inV v vs = ds.any fun e => PyData.eqv e d
  | [], _, g, _ => by cases g; rfl
  | e :: ds, _, g, fs => by
    cases g with
    | cons a b =>
      rw [List.all_cons, Bool.and_eq_true] at fs
      have ih := in_dv h f b fs.2
      unfold inV at ih ⊢
      rw [List.any_cons, List.any_cons, eqv_flat a h fs.1 f, ih]
theorem t_inT {d : PyData} {ds : List PyData} (ha : Ev1 X M R ρ a s (.dat d) s1) (hb : Ev1 X M R ρ b s1 (.dat (.tuple ds)) s2) (f : flatD d = true) (fs : ds.all flatD = true) (hm : behindInMarks .In b = false := by with_unfolding_all rfl) :
    EvT1 X M R ρ (.Compare a [.In] [b] pos) s (ds.any fun e => PyData.eqv e d) s2 :=
  t_cmp op_in_seq ha hb (fun x y H Q dx dy hR q => by
    obtain ⟨p, xs, rfl, hp, hd⟩ := sv_tup dy
    refine ⟨p, xs, rfl, .inr (ex_t ex_cut hp), flat_dv dx f, flat_all hd fs, ?_⟩
    rw [in_dv dx f hd fs]
    exact q H (exId _) hR) hm
/-! isinstance of the error that the suite holds -/
theorem e_isE {X : Cx} {ad D : Addr} {oe : Obj} {pn : List (Addr × Obj)} {k : Bool} {c : V} {cv : Value} {r : Sl} (C : ExcC X.K D) (hz : Zc (.ref D) none oe) (hf : ∃ vs, oe.data = .fields vs) (hk : PySem.W.kitOne X.K (.ref D) cv = some k) (hc : ∀ H, Sv X.K H r c → ∀ u, RelV c u → u = cv) (hr : ∀ H v, Sv X.K H r v → v = c)
    (hg : Gl (X.suite ad ((ad, oe) :: pn)) "isinstance") (hm : X.mg "isinstance" = none) (ha : EvA1 (X.suite ad ((ad, oe) :: pn)) M R ρ [e, e'] s [.raw (.ref ad), r] s1)
    (he : starEach [e, e'] X.env = (false, eval e X.env) :: starEach [e'] X.env := by rfl) (hpl : (backTo pos (starEach [e'] X.env)).any (·.1) = false := by rfl) :
    Ev1 (X.suite ad ((ad, oe) :: pn)) M R ρ (.Call (.Name "isinstance" px) [e, e'] [] pos) s (.dat (.bool k)) s1 :=
  e_callB (call_isE C hz hf) hg hm boot_isinstance ha (fun vs H Q h hR q => by
    obtain ⟨v, w, rfl, h1, h2⟩ := svall2 h
    have h1 : v = .ref ad := h1
    subst h1
    have ew := hr _ w h2
    subst ew
    exact ⟨w, cv, k, rfl, hc _ h2, hk, q _ H (exId _) hR (.bl _)⟩) (by decide) (by decide) he hpl
end
end DV
namespace DV
open PySem PySem.Spec L2 Evl LamX NdefX
open PyProof.Rows hiding St cutD
/-! ### try: body, except x as n: suite -/
def tSuite (X : Cx) (suite : List Stmt) : Addr → Value → Option Addr → TS := fun a cls d D σ H => ∀ (oe : Obj) (pn : List (Addr × Obj)), Zc cls d oe → (∃ vs, oe.data = .fields vs) → wB (X.suite a ((a, oe) :: pn)) suite D σ H
theorem b_try_as {X : Cx} {i : Nat} {n x : Str} {c : Value} {body suite rest : List Stmt} {b₀ : Stmt} {np pos pos' : Pos} {D : Ends} {σ : L2.St} {H : Hp} (hs : X.stack = X.env :: X.outer) (hf : X.env.frame = some X.env.locals) (hN : X.N.Nodup) (hi : X.N[i]? = some n) (hln : X.env.kindOf n = some .local) (hc : Names X x c)
    (h : ∀ (W : WX) (pn : List (Addr × Obj)) (xe : Value → Shared → Prop), W = wAs X.K c i (tSuite X (b₀ :: suite)) (fun _ _ _ _ => False) { D with nx := wB X rest D } → Takes (X.tr pn xe) W → wB (X.tr pn xe) body { D with nx := wB X rest D } σ H) :
    wB X (.Try body [.ExceptHandler (some (.Name x np)) (some n) (b₀ :: suite) pos'] [] [] pos :: rest) D σ H := by
  refine wB_cons (wS_of (ps_try_as (i := i) (tb := fun W D' σ H => ∀ (pn : List (Addr × Obj)) (xe : Value → Shared → Prop), Takes (X.tr pn xe) W → wB (X.tr pn xe) body D' σ H) (ts := tSuite X (b₀ :: suite)) (Wout := fun _ _ _ _ => False) hs hf hN hi hln hc L2.takes0
    (fun W pn xe tk _ => ⟨fun pins s σ H D' I h' => h' pn xe tk pins s I⟩) (fun a oe cls d pn hz hd => ⟨fun pins s σ H D' I h' => h' oe pn hz hd pins s I⟩)) ?_)
  exact fun pn xe tk => h _ pn xe rfl tk
/-! ### the law's own words for errors -/
def kNames : List Str := ["BadCount", "BadKey", "BadLogs", "BadNow", "BadRules", "BadSite", "BadText", "BadToken", "BadWants", "BadWorth", "NotYet", "Stale"]
def kWord (i : Nat) : Str := kNames.getD i Str.empty
/-- the class at D is the i-th of them -/
structure Kinds (K : PySem.W.Frag) (mg : Str → Option Value) (D : Addr) (i : Nat) : Prop where
  exc : ExcC K D
  port : ∃ C, mg "PortError" = some (.ref C) ∧ PySem.W.exmOne K (.ref D) (.ref C) = some true
  val : PySem.W.kitOne K (.ref D) (.type "ValueError") = some true
  nval : mg "ValueError" = none
  kit : ∀ (j : Nat) (x : Str), kNames[j]? = some x → ∃ C, mg x = some (.ref C) ∧ PySem.W.kitOne K (.ref D) (.ref C) = some (decide (j = i))
  plain : i = 0 ∨ i = 1 ∨ i = 3 ∨ i = 4 ∨ i = 5 ∨ i = 7 ∨ i = 8 ∨ i = 9
/-- told of a function that raises such an error, or hands back a value -/
def spTold (P : Program) (w : World) (K : PySem.W.Frag) (mg : Str → Option Value) (base : Heap) (kc : Nat) : Sp := fun vs H Q _ => ∃ (f : Addr) (L : Lam) (Q1 : VK) (E1 : XK) (M : List Addr), vs = [.ref f] ∧ H f = some (LamO f L) ∧ Calls P w K mg base kc f H Q1 E1 ∧ (∀ v H', Q1 v H' → Q v H') ∧
  ∀ cls d H', E1 cls d H' → ∃ D i, cls = .ref D ∧ d = none ∧ Kinds K mg D i ∧ (∀ a ∈ M, ∃ o, H' a = some o) ∧ ∀ v H2, Ex H' H2 → Dv K (cut M H2) v (.tuple [.str (kWord i), .int 0]) → Q v H2
end DV
namespace DV
open PySem PySem.Spec L2 Evl LamX NdefX
open PyProof.Rows hiding St cutD
/-! a list of functions that is walked -/
def itR (fs : List Addr) (i : Nat) : Sl := match fs[i]? with
  | some f => .raw (.ref f)
  | none => .any
section
variable {S : Type} {X : Cx} {M : List Addr} {R : S → Hp → Prop} {ρ : List Sl} {s s1 : S} {e tg : Expr}
theorem i_refs {p : Addr} {fs : List Addr} (hS : ∀ H', R s1 H' → cut M H' p = some (.lst (fs.map V.ref))) (h : Ev1 X M R ρ e s (.raw (.ref p)) s1) : EvI1 X M R ρ tg e s fs.length (itR fs) s1 := by
  refine ⟨_, pi_list pe_w, fun σ H k hσ hR q => ?_⟩
  refine h σ H _ hσ hR fun v H1 e1 R1 d1 => ?_
  have d1 : v = .ref p := d1
  subst d1
  refine ⟨p, rfl, ⟨_, sq_of (ex_cut _ _ (hS H1 R1))⟩, q _ H1 e1 R1 ⟨fun H => SqL X.K H p (fs.map V.ref), fun H2 e2 => sq_of (ex_cut _ _ (e2 _ _ (hS H1 R1))), ?_⟩⟩
  have l : (fs.map V.ref).length = fs.length := List.length_map _
  rw [← l]
  refine walk_list.mono (fun _ h => h) fun i H2 x H' _ _ ⟨e, hx⟩ M' em dm e2 => ?_
  subst e
  refine ⟨exId _, ?_⟩
  rw [List.getElem?_map] at hx
  unfold itR
  cases hf : fs[i]? with
  | none => rw [hf] at hx; cases hx
  | some f =>
    rw [hf] at hx
    exact (Option.some.inj hx).symm
end
/-- told of functions that all raise an error of the class D -/
def spAll (P : Program) (w : World) (K : PySem.W.Frag) (mg : Str → Option Value) (base : Heap) (kc : Nat) : Sp := fun vs H Q _ => ∃ (M : List Addr) (pl : Addr) (v : V) (fs : List Addr) (i : Nat) (D : Addr), vs = [.ref pl, v] ∧ (∀ a ∈ M, ∃ o, H a = some o) ∧ cut M H pl = some (.lst (fs.map V.ref)) ∧ Kinds K mg D i ∧
  Dv K (cut M H) v (.tuple [.str (kWord i), .int 0]) ∧ (∀ f ∈ fs, (∃ L, H f = some (LamO f L)) ∧ ∀ H', Ex H H' → Calls P w K mg base kc f H' (fun _ _ => False) (fun cls d H2 => cls = .ref D ∧ d = none ∧ Ex H' H2)) ∧
  ∀ H', Ex H H' → Q (.bl true) H'
end DV
namespace DV
open PySem PySem.Spec L2 Evl LamX NdefX
open PyProof.Rows hiding St cutD
/-! ### slots forgotten -/
def onlyR : Nat → List Sl → List Sl
  | _, [] => []
  | 0, r :: ρ => r :: ρ.map fun _ => .any
  | n + 1, _ :: ρ => .any :: onlyR n ρ
theorem slots_none {K : PySem.W.Frag} {H : Hp} : ∀ {σ : St} {ρ : List Sl}, Slots K H σ ρ → Slots K H σ (ρ.map fun _ => Sl.any)
  | [], [], _ => trivial
  | _ :: _, _ :: _, ⟨_, b⟩ => ⟨trivial, slots_none b⟩
  | [], _ :: _, h => h.elim
  | _ :: _, [], h => h.elim
theorem slots_only {K : PySem.W.Frag} {H : Hp} : ∀ {σ : St} {ρ : List Sl} (n : Nat), Slots K H σ ρ → Slots K H σ (onlyR n ρ)
  | [], [], n, _ => by cases n <;> exact trivial
  | _ :: _, _ :: _, 0, ⟨a, b⟩ => ⟨a, slots_none b⟩
  | _ :: _, _ :: _, n + 1, ⟨_, b⟩ => ⟨trivial, slots_only n b⟩
  | [], _ :: _, _, h => h.elim
  | _ :: _, [], _, h => h.elim
/-! ### a maker's state: a box, a table of code objects -/
structure LawR (M : List Addr) (R : Bx → Hp → Prop) (b l T : Addr) (q : Str) : Prop where
  g : Rg M R
  box : BoxIn M R b l id fun _ t => t
  mT : T ∈ M
  tab : ∀ {st H}, R st H → TabS H T q
  to : ∀ {st H H'}, R st H → ExP T H H' → TabS H' T q → R st H'
  out : ∀ {st H a}, R st H → a ∈ M → (∃ xs, H a = some (.lst xs)) ∨ ∃ ps, H a = some (.tbl ps)
theorem exP_cut {M : List Addr} {T : Addr} {H H' : Hp} (m : T ∈ M) (e : ExP T H H') : Ex (cut M H) (cut M H') := fun a o ha => by
  obtain ⟨n, ha⟩ := cut_some ha
  rw [cut_out n]
  exact e a o (fun z => n (by rw [z]; exact m)) ha
theorem LawR.rx {M : List Addr} {R : Bx → Hp → Prop} {b l T : Addr} {q : Str} (L : LawR M R b l T q) (H1 : Hp) : LawR M (RX R M H1) b l T q :=
  ⟨RX.rg L.g H1, L.box.rx H1, L.mT, fun h => L.tab h.1, fun h e t => ⟨L.to h.1 e t, h.2.trans (exP_cut L.mT e)⟩, fun h m => L.out h.1 m⟩
theorem LawR.cut_ext {M : List Addr} {R : Bx → Hp → Prop} {b l T : Addr} {q : Str} (L : LawR M R b l T q) {st : Bx} {H : Hp} {a : Addr} {φ : Heap → Prop} (h : R st H) (e : H a = some (.ext φ)) : cut M H a = some (.ext φ) := by
  have n : a ∉ M := fun m => by
    rcases L.out h m with ⟨_, z⟩ | ⟨_, z⟩ <;> rw [e] at z <;> cases z
  rw [cut_out n, e]
theorem LawR.cut_tup {M : List Addr} {R : Bx → Hp → Prop} {b l T : Addr} {q : Str} (L : LawR M R b l T q) {st : Bx} {H : Hp} {a : Addr} {xs : List V} (h : R st H) (e : H a = some (.tup xs)) : cut M H a = some (.tup xs) := by
  have n : a ∉ M := fun m => by
    rcases L.out h m with ⟨_, z⟩ | ⟨_, z⟩ <;> rw [e] at z <;> cases z
  rw [cut_out n, e]
theorem tabS_but {H H' : Hp} {P : Addr} {q : Str} (h : TabS H P q) (e : ∀ a o, H a = some o → (∀ xs, o ≠ .lst xs) → H' a = some o) : TabS H' P q := by
  obtain ⟨ps, h1, h2, h3⟩ := h
  refine ⟨ps, e _ _ h1 (fun xs z => by cases z), h2, fun pos cv hc => ?_⟩
  obtain ⟨c, e1, e2⟩ := h3 pos cv hc
  exact ⟨c, e1, e _ _ e2 fun xs z => by unfold CodeO at z; cases z⟩
/-- the law's own R -/
def RLaw (b l T : Addr) (q : Str) : Bx → Hp → Prop := fun st H => BoxAt b l st H ∧ TabS H T q
theorem lawR {b l T : Addr} {q : Str} (hb : b ≠ T) (hl : l ≠ T) : LawR [b, l, T] (RLaw b l T q) b l T q where
  g := ⟨fun h e => ⟨h.1.ex e, h.2.ext e⟩, fun {st H a} h m => by
    simp only [List.mem_cons, List.not_mem_nil, or_false] at m
    rcases m with rfl | rfl | rfl
    · exact ⟨_, h.1.1⟩
    · exact ⟨_, h.1.2⟩
    · obtain ⟨ps, e, _⟩ := h.2
      exact ⟨_, e⟩⟩
  box := ⟨by simp, by simp, fun h => h.1, fun {s H H' st} h e bx => ⟨bx, tabS_but h.2 fun a o ha hn => by
    have n : a ∉ [b, l] := fun m => by
      simp only [List.mem_cons, List.not_mem_nil, or_false] at m
      rcases m with rfl | rfl
      · rw [h.1.1] at ha
        exact hn _ (Option.some.inj ha).symm
      · rw [h.1.2] at ha
        exact hn _ (Option.some.inj ha).symm
    have := e a o (by rw [cut_out n]; exact ha)
    rw [cut_out n] at this
    exact this⟩⟩
  mT := by simp
  tab := fun h => h.2
  to := fun h e t => ⟨⟨e _ _ hb h.1.1, e _ _ hl h.1.2⟩, t⟩
  out := fun {st H a} h m => by
    simp only [List.mem_cons, List.not_mem_nil, or_false] at m
    rcases m with rfl | rfl | rfl
    · exact .inl ⟨_, h.1.1⟩
    · exact .inl ⟨_, h.1.2⟩
    · obtain ⟨ps, e, _⟩ := h.2
      exact .inr ⟨_, e⟩
section
variable {X : Cx} {M : List Addr} {R : Bx → Hp → Prop} {b l c T : Addr} {st : Bx} {σ : L2.St} {H : Hp} {Q : VK} {params : Arguments} {body : Expr} {scope : Scope} {pos : Pos}
theorem LawR.lam0 (L : LawR M R b l T (X.env.qual ++ "<lambda>")) (B : LamB X c T scope) (hd : params.defaults = []) (hk : params.kw_defaults = []) (hR : R st H)
    (h : ∀ (f c' : Addr) (H1 : Hp), Ex (cut M H) (cut M H1) → R st H1 → cut M H1 f = some (LamO f ⟨X.env.qual ++ "<lambda>", params, body, scope, cloFrom X.env.cells scope.names [], c', .none⟩) → cut M H1 c' = some (CodeO c' (X.env.qual ++ "<lambda>")) → Q (.ref f) H1) :
    wE X (.Lambda params body scope pos) σ H Q :=
  w_lam0 B hd hk (L.tab hR) fun f c' H1 eE T1 nf hf hc => by
    have R1 := L.to hR eE T1
    exact h f c' H1 (exP_cut L.mT eE) R1 (L.cut_ext R1 hf) (L.cut_ext R1 hc)
theorem LawR.lam1 {i : Int} {j : Nat} {p1 : Pos} (L : LawR M R b l T (X.env.qual ++ "<lambda>")) (B : LamB X c T scope) (hd : params.defaults = [.Constant (.int i) j p1]) (hk : params.kw_defaults = []) (hR : R st H)
    (h : ∀ (f c' D : Addr) (H1 : Hp), Ex (cut M H) (cut M H1) → R st H1 → cut M H1 f = some (LamO f ⟨X.env.qual ++ "<lambda>", params, body, scope, cloFrom X.env.cells scope.names [], c', .ref D⟩) → cut M H1 c' = some (CodeO c' (X.env.qual ++ "<lambda>")) →
      cut M H1 D = some (.tup [.int i]) → Q (.ref f) H1) : wE X (.Lambda params body scope pos) σ H Q :=
  w_lam1 B hd hk (L.tab hR) fun f c' D H1 eE T1 nf hf hc ht => by
    have R1 := L.to hR eE T1
    exact h f c' D H1 (exP_cut L.mT eE) R1 (L.cut_ext R1 hf) (L.cut_ext R1 hc) (L.cut_tup R1 ht)
end
/-! ### lambdas that raise -/
/-- at f, known in h: called while the cells of ys are told, an error of the class D -/
def LamGood (X : Cx) (σ : L2.St) (ys : List (Nat × Str)) (D f : Addr) (h : Hp) : Prop := (∃ L, h f = some (LamO f L)) ∧
  ∀ (σ' : L2.St) (H1 : Hp) (G : Addr → Option HO) (H' : Hp), (∀ p ∈ ys, σ'[p.1]? = σ[p.1]?) → Shown X σ' H1 ys G → Ex h H1 → Ex (ov G H1) H' → Calls X.prog X.w X.K X.mg X.base 5 f H' (fun _ _ => False) (fun cls d H2 => cls = .ref D ∧ d = none ∧ Ex H' H2)
theorem LamGood.ex {X : Cx} {σ : L2.St} {ys : List (Nat × Str)} {D f : Addr} {h h' : Hp} (g : LamGood X σ ys D f h) (e : Ex h h') : LamGood X σ ys D f h' := by
  obtain ⟨⟨L, hL⟩, k⟩ := g
  exact ⟨⟨L, e _ _ hL⟩, fun σ' H1 G H' a sh e1 e2 => k σ' H1 G H' a sh (e.trans e1) e2⟩
theorem LamGood.slots {X : Cx} {σ σ2 : L2.St} {ys : List (Nat × Str)} {D f : Addr} {h : Hp} (g : LamGood X σ ys D f h) (e : ∀ p ∈ ys, σ2[p.1]? = σ[p.1]?) : LamGood X σ2 ys D f h := by
  obtain ⟨hL, k⟩ := g
  exact ⟨hL, fun σ' H1 G H' a sh e1 e2 => k σ' H1 G H' (fun p hp => (a p hp).trans (e p hp)) sh e1 e2⟩
section
variable {X : Cx} {σ : L2.St} {ys : List (Nat × Str)} {D f c : Addr} {h : Hp} {L : Lam} {N ps fr : List Str} {js : List Nat} {vs : List V} {x : Str} {e : Expr} {es : List Expr} {px pos : Pos} {G2 : List Sl → Out → Prop} {rs ρ : List Sl}
theorem lam_er (hL : h f = some (LamO f L)) (hc : h L.c = some (CodeO L.c L.qual)) (hcl : L.cl = cloFrom X.env.cells L.scope.names []) (hfree : ∀ y ∈ L.scope.names, y.2 = .free → X.env.scope.names.lookup y.1 = some .cell ∨ X.env.scope.names.lookup y.1 = some .free)
    (S : NScope N ps fr L.scope) (hl : vs.length = ps.length) (hjs : js.length = fr.length) (hys : ∀ (i : Nat) (y : Str), fr[i]? = some y → ∃ j, js[i]? = some j ∧ (j, y) ∈ ys)
    (hb : ∀ (H' : Hp) (s : Shared), Ex h H' → HOk X.prog X.w H' s.heap → ∃ us, Vals vs us ∧ ∀ doc pm ctv, BindsTo s (L.fd doc pm ctv) ⟨[], []⟩ (ps.zip us))
    (hbody : L.body = .Call (.Name x px) (e :: es) [] pos) (cd : Cal X.prog X.w X.K X.mg X.base x 4 (DV.spS X.K G2)) (hG : G2 rs (.er (.ref D))) (hσ : ∀ Hx, Ex h Hx → Slots X.K Hx (startF N vs (js.map (slotAt σ))) ρ)
    (hgl : ∀ A outer s Hx E', Gl (ncx (L2.CX X.prog X.w) X.prog X.w X.K X.mg X.base N L.nf f A outer s Hx E') x)
    (ha : ∀ A outer s Hx E', EvA1 (ncx (L2.CX X.prog X.w) X.prog X.w X.K X.mg X.base N L.nf f A outer s Hx E') [] (fun (_ : Unit) H'' => Ex Hx H'') ρ (e :: es) () rs ())
    (hdb : (x == ("__debug__" : Str)) = false) (he : ∀ env, starEach (e :: es) env = (false, eval e env) :: starEach es env) (hpl : ∀ env, (backTo pos (starEach es env)).any (·.1) = false) : LamGood X σ ys D f h := by
  refine ⟨⟨L, hL⟩, fun σ' H1 G H' hag sh e1 e2 => ?_⟩
  have hfr : ∀ y ∈ L.scope.names, y.2 = .free → ∃ c, X.env.cells.lookup y.1 = some c := fun y hy k => (hfree y hy k).elim (fun z => sh.ok.has _ (.inl z)) fun z => sh.ok.has _ (.inr z)
  have e3 : Ex h H' := e1.trans ((ex_ov sh.free).trans e2)
  have hit : ∀ (i : Nat) (y : Str), fr[i]? = some y → ∃ c o v j, L.cl.lookup y = some c ∧ js[i]? = some j ∧ σ[j]? = some (some v) ∧ H' c = some (CellF o v) ∧ G c = some (CellF o v) := fun i y hi => by
    obtain ⟨j, hj, hm⟩ := hys i y hi
    obtain ⟨c, o, v, k1, k2, k3⟩ := sh.at_ j y hm
    have hy : (y, NameKind.free) ∈ L.scope.names := PySem.mem_of_lookup (S.frk y (List.mem_of_getElem? hi))
    refine ⟨c, o, v, j, ?_, hj, ?_, e2 _ _ (ov_some k3), k3⟩
    · rw [hcl]
      exact clo_has hfr hy k1
    · rw [← hag (j, y) hm]
      exact k2
  have only : ∀ p ∈ L.cl, ∃ i : Nat, fr[i]? = some p.1 ∧ L.cl.lookup p.1 = some p.2 := fun p hp => by
    rw [hcl] at hp
    rcases cloFrom_mem (n := p.1) (c := p.2) hp with z | ⟨z1, z2⟩
    · cases z
    · obtain ⟨i, hi⟩ := List.mem_iff_getElem?.mp (S.free _ z1 rfl)
      obtain ⟨c, hc⟩ := hfr _ z1 rfl
      have hc : X.env.cells.lookup p.1 = some c := hc
      refine ⟨i, hi, ?_⟩
      rw [hcl, z2, hc]
      exact clo_has hfr z1 hc
  have inj : ∀ x y c, L.cl.lookup x = some c → L.cl.lookup y = some c → x = y := fun x y c k1 k2 => by
    rw [hcl] at k1 k2
    exact sh.ok.inj x y c (clo_cm hfr k1) (clo_cm hfr k2)
  refine Calls.lam (k := 4) (N := N) (ps := ps) (fr := fr) (vs := vs) (ws := js.map (slotAt σ)) S (e3 _ _ hL) (e3 _ _ hc) hl (by rw [List.length_map]; exact hjs) (fun s hok => hb H' s e3 hok) (fun i y hi => ?_) only inj fun A outer s E' eE hr => ?_
  · obtain ⟨c, o, v, j, k1, k2, k3, k4, _⟩ := hit i y hi
    refine ⟨c, o, v, k1, ?_, k4⟩
    rw [List.getElem?_map, k2]
    show some (slotAt σ j) = _
    rw [slotAt_of k3]
  · rw [hbody]
    have eX : Ex h (un (capG L H') H') := fun a o hao => by
      have q := e3 a o hao
      have hn : capG L H' a = none := by
        unfold capG
        split
        · rename_i hm
          obtain ⟨p, hp, rfl⟩ := List.mem_map.mp hm
          obtain ⟨i, hi, hlk⟩ := only p hp
          obtain ⟨c, o', v, j, k1, _, _, _, k5⟩ := hit i p.1 hi
          rw [hlk] at k1
          cases k1
          have z := e1 _ _ hao
          rw [sh.free _ _ k5] at z
          cases z
        · rfl
      rw [un_none hn]
      exact q
    have tG : ∀ a ho, capG L H' a = some ho → H' a = some ho := fun a ho e => by
      unfold capG at e
      split at e
      · exact e
      · cases e
    refine x_call (M := []) (R := fun (_ : Unit) H'' => Ex (un (capG L H') H') H'') (s := ()) (s1 := ()) (rs := rs) (rg_pure fun a m => by cases m) cd hr (Nat.le_refl _) (hgl _ _ _ _ _) (passes_call (takes_of rfl rfl rfl rfl) fun _ _ _ _ h => h) hG (ha _ _ _ _ _) (by rw [cut_nil]; exact hσ _ eX) (exId _) (fun H2 _ R2 => ?_) hdb (he _) (hpl _)
    rw [eE]
    exact ⟨rfl, rfl, un_ex tG R2⟩
end
end DV
namespace DV
open PySem PySem.Spec L2 Evl LamX NdefX
open PyProof.Rows hiding St cutD
/-! ### if not _law_all(works, due): .. -/
section
variable {X : Cx} {M : List Addr} {R : Bx → Hp → Prop} {b l T : Addr} {q x : Str} {st : Bx} {σ : L2.St} {H : Hp} {e1 e2 : Expr} {rest bad : List Stmt} {px pos p1 p2 : Pos} {D : Ends} {ρ : List Sl} {j i : Nat} {C : Addr} {ys : List (Nat × Str)}
theorem b_all (L : LawR M R b l T q) (c : Cal X.prog X.w X.K X.mg X.base x 7 (spAll X.prog X.w X.K X.mg X.base 5)) (hr : Room j X.A) (hk : 7 ≤ j) (hg : Gl X x) (Kd : Kinds X.K X.mg C i) (hy : ∀ p ∈ ys, X.N[p.1]? = some p.2 ∧ X.env.scope.names.lookup p.2 = some .cell ∧ X.fn p.2 = true) (hys : ∀ p ∈ ys, ∃ v, σ[p.1]? = some (some v))
    (hσ : Slots X.K (cut M H) σ ρ) (hR : R st H)
    (h1 : ∀ Q : VK, (∀ (pl : Addr) (fs : List Addr) (H1 : Hp), Ex (cut M H) (cut M H1) → R st H1 → cut M H1 pl = some (.lst (fs.map V.ref)) → (∀ f ∈ fs, LamGood X σ ys C f (cut M H1)) → Q (.ref pl) H1) → wE X e1 σ H Q)
    (h2 : ∀ H1, Slots X.K (cut M H1) σ ρ → R st H1 → Ev1 X M R ρ e2 st (.dat (.tuple [.str (kWord i), .int 0])) st) (k : ∀ H1, Slots X.K (cut M H1) σ ρ → R st H1 → wB X rest D σ H1)
    (hdb : (x == ("__debug__" : Str)) = false := by decide) (he : starEach [e1, e2] X.env = (false, eval e1 X.env) :: starEach [e2] X.env := by rfl) (he2 : starEach [e2] X.env = (false, eval e2 X.env) :: starEach [] X.env := by rfl) (hpl : (backTo pos (starEach [e2] X.env)).any (·.1) = false := by rfl) :
    wB X (.If (.UnaryOp .Not (.Call (.Name x px) [e1, e2] [] pos) p1) bad [] p2 :: rest) D σ H := by
  refine b_if (wT_of (pt_not pt_w) (wT_of (pt_val pe_w fun whole => rfl) ?_))
  refine w_callG c hr hk hg ys hy hys (wA_of (pa_cons pe_w pa_w he) (h1 _ fun pl fs H1 x1 R1 hpl' hfs => wA_of (pa_cons pe_w pa_nil he2) ?_)) hdb he hpl
  refine h2 H1 (hσ.ex x1) R1 σ H1 _ (hσ.ex x1) R1 fun v2 H2 x2 R2 d2 => ?_
  intro G sh
  have eo := exCut (M := M) (ex_ov sh.free)
  refine ⟨M, pl, v2, fs, i, C, rfl, fun a m => ?_, eo _ _ (x2 _ _ hpl'), Kd, dp_ex eo _ _ d2, fun f hf => ?_, fun H' e' => ⟨true, rfl, ?_⟩⟩
  · obtain ⟨o, ho⟩ := L.g.dom R2 m
    exact ⟨o, ex_ov sh.free _ _ ho⟩
  · have g := (hfs f hf).ex x2
    obtain ⟨⟨Lf, hL⟩, gk⟩ := g
    exact ⟨⟨Lf, ex_ov sh.free _ _ (ex_cut _ _ hL)⟩, fun H' e' => gk σ H2 G H' (fun _ _ => rfl) sh ex_cut e'⟩
  · have e3 := ov_ex sh.free e'
    show (if (!true) = true then _ else wB X [] { D with nx := wB X rest D } σ (un G H'))
    rw [if_neg (by decide)]
    exact b_nil (k _ (hσ.ex (x1.trans (x2.trans (exCut e3)))) (L.g.up R2 e3))
end
/-! ### {k: v, k: v}.get(x, y), all of them texts -/
section
variable {S : Type} {X : Cx} {M : List Addr} {R : S → Hp → Prop} {ρ : List Sl} {s : S} {e f : Expr} {p1 p2 p3 p4 dp apos cpos : Pos}
theorem e_disp2 (g : Rg M R) {k1 v1 k2 v2 x y : Str} {j1 j2 j3 j4} (hu : X.A.units + 1 < cLine) (he : Ev1 X M R ρ e s (.dat (.str x)) s) (hf : Ev1 X M R ρ f s (.dat (.str y)) s) (hne : k1 ≠ k2)
    (m : M2 X (.Dict [some (.Constant (.str k1) j1 p1), some (.Constant (.str k2) j2 p2)] [.Constant (.str v1) j3 p3, .Constant (.str v2) j4 p4] dp) "get" apos e f cpos) :
    Ev1 X M R ρ (.Call (.Attribute (.Dict [some (.Constant (.str k1) j1 p1), some (.Constant (.str k2) j2 p2)] [.Constant (.str v1) j3 p3, .Constant (.str v2) j4 p4] dp) "get" apos) [e, f] [] cpos) s (.dat (.str (if k1 = x then v1 else if k2 = x then v2 else y))) s := by
  intro σ H Q hσ hR q
  refine wE_of (pe_dget2 hu pe_w pe_w pe_w m) ?_
  refine wE_of (pe_disp (pps_cons pe_str pe_str (pps_cons pe_str pe_str pps_nil)) rfl rfl (by simp) (by simp)) fun p hp => ?_
  refine ⟨upd_same, [(.inr k1, .str v1), (.inr k2, .str v2)], rfl, by simp, ?_⟩
  have hpM : p ∉ M := g.fresh hR hp
  have eH : Ex H (upd (upd H p (.dK [])) p (.dK (mergeK [] [(.inr k1, .str v1), (.inr k2, .str v2)]))) := fun a o ha => by
    have n : a ≠ p := fun z => by rw [z, hp] at ha; cases ha
    rw [upd_ne n, upd_ne n]
    exact ha
  have hm : mergeK [] [(.inr k1, .str v1), (.inr k2, .str v2)] = ([(.inr k1, .str v1), (.inr k2, .str v2)] : List (Key × V)) := by
    unfold mergeK
    simp [putK, hne]
  refine ⟨p, rfl, .inl ⟨_, .of upd_same⟩, ?_⟩
  refine he σ _ _ (hσ.ex (exCut eH)) (g.up hR eH) fun w1 H2 e2 R2 d2 => ?_
  refine hf σ H2 _ (hσ.ex ((exCut eH).trans e2)) R2 fun w2 H3 e3 R3 d3 => ?_
  rw [sv_str d2, sv_str d3]
  have hp3 : H3 p = some (.dK [(.inr k1, .str v1), (.inr k2, .str v2)]) := by
    rw [hm] at e2
    exact ex_cut _ _ (e3 _ _ (e2 _ _ (cut_upd hpM)))
  refine ⟨_, DGet.k (k := .inr x) hp3, ?_⟩
  have hv : (valV [((.inr k1 : Key), V.str v1), (.inr k2, .str v2)] (.inr x)).getD (.str y) = .str (if k1 = x then v1 else if k2 = x then v2 else y) := by
    by_cases a : k1 = x
    · rw [valV_pos (by rw [a]), if_pos a]; rfl
    · rw [valV_neg (fun z => a (Sum.inr.inj z)), if_neg a]
      by_cases b : k2 = x
      · rw [valV_pos (by rw [b]), if_pos b]; rfl
      · rw [valV_neg (fun z => b (Sum.inr.inj z)), if_neg b]; rfl
  rw [hv]
  exact q _ H3 ((exCut eH).trans (e2.trans e3)) R3 (.str _)
end
end DV
namespace DV
open PySem PySem.Spec L2 Evl LamX NdefX
open PyProof.Rows hiding St cutD
/-! ### sorting data -/
abbrev IsD (K : PySem.W.Frag) (H : Hp) : Value → PyData → Prop := fun u d => ∃ x, RelV x u ∧ Dv K H x d
theorem each_of {K : PySem.W.Frag} {H : Hp} : ∀ {ds : List PyData} {vs : List V} {us : List Value}, Vals vs us → DvAll K H vs ds → PySem.W.EachIs (DV.IsD K H) us ds
  | [], _, _, r, h => by
    cases h
    cases r
    exact .nil
  | d :: ds, _, _, r, h => by
    cases h with
    | cons a b =>
      cases r with
      | cons p q => exact .cons ⟨_, p, a⟩ (each_of q b)
theorem each_back {K : PySem.W.Frag} {H : Hp} : ∀ {ds : List PyData} {us : List Value}, PySem.W.EachIs (DV.IsD K H) us ds → ∃ vs, Vals vs us ∧ DvAll K H vs ds
  | _, _, .nil => ⟨[], .nil, .nil⟩
  | _, _, .cons ⟨x, p, a⟩ t => by
    obtain ⟨vs, q, b⟩ := each_back t
    exact ⟨x :: vs, .cons p q, .cons a b⟩
def depthLe (n : Nat) (ds : List PyData) : Prop := ∀ d ∈ ds, d.depth ≤ n
def rSortedD (K : PySem.W.Frag) : List V → Hp → VK → Prop := fun vs H Q => ∃ (M : List Addr) (a : Addr) (xs : List V) (ds : List PyData), vs = [.ref a] ∧ SqL K H a xs ∧ DvAll K (cut M H) xs ds ∧ PySem.W.AllAlike ds ∧ PySem.W.Sortable ds ∧ depthLe 60 ds ∧
  ∀ ys p, DvAll K (cut M H) ys (ds.mergeSort (PySem.W.dataLe false id)) → H p = none → Q (.ref p) (upd H p (.lst ys))
theorem cr_sortedD {X : Cx} (hu : X.A.units + 64 < cLine) : CallR X (.builtin "sorted") (rSortedD X.K) := by
  intro pins s σ H vs us Q I r h
  obtain ⟨M, a, xs, ds, rfl, hs, hd, hal, hk, hdp, q⟩ := h
  obtain ⟨its, rv, hl, hz⟩ := I.list hs
  rw [Vals.ref1 r]
  have e := each_of rv hd
  have hlen : its.length = ds.length := e.length
  have er : PySem.W.EachIs (fun v b => ∃ as, Reads s.heap v (id b) as) its ds := e.mono fun v d ⟨x, rx, dx⟩ => Dp.reads I d x v (dv_dp _ _ (dp_ex ex_cut _ _ dx)) rx
  have hz' : ds.length ≤ sizeLine := by rw [← hlen, ← rv.length]; exact hz
  refine PySem.W.sorted_data (enc := id) hl.isList e er (by rw [List.map_id]; exact hal) (by rw [List.map_id]; exact hk) hz' (fun d hd => ?_) fun out ho eo => ?_
  · have := hdp d hd
    show X.A.units + 2 + d.depth < cLine
    omega
  · obtain ⟨ys, ry, dy⟩ := each_back eo
    obtain ⟨ep, he'⟩ := PyProof.Rows.sortedAll_at s.heap its out.toArray
    have hly : ys.length ≤ sizeLine := by
      rw [dpa_length dy, List.length_mergeSort]
      exact hz'
    exact ⟨.ref _, upd H (s.heap.objs.size + 1) (.lst ys), I.laid (t' := s.toks) (fun _ _ => PyProof.Rows.sortedAll_old) (Nat.le_succ _) ⟨hly, out, ep, ry, he'⟩, rfl, q ys _ dy (I.hok.fresh (Nat.le_succ _))⟩
section
variable {S : Type} {X : Cx} {M : List Addr} {R : S → Hp → Prop} {ρ : List Sl} {s s1 : S} {e : Expr} {px pos : Pos}
theorem boot_sorted : bootBuiltins "sorted" = some (.builtin "sorted") := by decide +kernel
theorem e_sortedD (g : Rg M R) {ds : List PyData} (hu : X.A.units + 64 < cLine) (hal : PySem.W.AllAlike ds) (hk : PySem.W.Sortable ds) (hdp : depthLe 60 ds) (hg : Gl X "sorted") (hm : X.mg "sorted" = none) (ha : EvA1 X M R ρ [e] s [.dat (.list ds)] s1)
    (he : starEach [e] X.env = (false, eval e X.env) :: starEach [] X.env := by rfl) (hpl : (backTo pos (starEach [] X.env)).any (·.1) = false := by rfl) :
    Ev1 X M R ρ (.Call (.Name "sorted" px) [e] [] pos) s (.dat (.list (ds.mergeSort (PySem.W.dataLe false id)))) s1 :=
  e_callB (cr_sortedD hu) hg hm boot_sorted ha (fun vs H Q h hR q => by
    obtain ⟨v, rfl, h1⟩ := svall1 h
    obtain ⟨p, xs, rfl, hp, hd⟩ := sv_lst h1
    exact ⟨M, p, xs, ds, rfl, sq_of (ex_cut _ _ hp), hd, hal, hk, hdp, fun ys p' hy n => new_lst g hR n hy q⟩) (by decide) (by decide) he hpl
/-! max of ints -/
def maxI : List Int → Int
  | [] => 0
  | n :: ns => ns.foldl max n
def rMaxI (K : PySem.W.Frag) : List V → Hp → VK → Prop := fun vs H Q => ∃ (a : Addr) (ns : List Int), vs = [.ref a] ∧ SqL K H a (ns.map V.int) ∧ ns ≠ [] ∧ Q (.int (maxI ns)) H
theorem alike_intsA (ns : List Int) : PySem.W.AlikeAll (ns.map .int) := by
  refine ⟨fun x hx y hy => ?_, fun x hx => ?_⟩
  · obtain ⟨i, _, rfl⟩ := List.mem_map.mp hx
    obtain ⟨j, _, rfl⟩ := List.mem_map.mp hy
    rfl
  · obtain ⟨i, _, rfl⟩ := List.mem_map.mp hx
    exact fun h => by cases h
theorem reads_ints {h : Heap} : ∀ {ns : List Int} {us : List Value}, Vals (ns.map V.int) us → ∃ as, ReadsAll h us (ns.map .int) as
  | [], _, r => by
    cases r
    exact ⟨[], .nil⟩
  | n :: ns, _, r => by
    cases r with
    | cons p q =>
      obtain ⟨t, rfl⟩ := p
      obtain ⟨as, ra⟩ := reads_ints (h := h) q
      exact ⟨_, .cons (.int n t) ra⟩
theorem depth_dI (ns : List Int) : PyData.depthAll (ns.map .int) = 0 := depth_ints ns
theorem reads_int {h : Heap} {v : Value} {i : Int} {bs : List Addr} (r : Reads h v (.int i) bs) : RelV (.int i) v := by
  cases r with
  | int i t => exact ⟨t, rfl⟩
theorem call_maxI (hc : X.calm = true) (hu : X.A.units + 64 < cLine) : CallR X (.builtin "max") (rMaxI X.K) := by
  intro pins s σ H vs us Q I r h
  obtain ⟨a, ns, rfl, hs, hne, q⟩ := h
  obtain ⟨its, rv, hl, _⟩ := I.list hs
  rw [Vals.ref1 r]
  cases ns with
  | nil => exact absurd rfl hne
  | cons n ns =>
    obtain ⟨as, ra⟩ := reads_ints (h := s.heap) rv
    refine PySem.W.max_list_data (vs := its.toArray) (x := .int n) (xs := ns.map .int) (I.ok.hd hc) hl.isList ra (alike_intsA (n :: ns)) ?_ fun i v h' tk bs _ rd hk => ?_
    · have := depth_dI (n :: ns)
      rw [show PyData.depthAll (.int n :: ns.map .int) = 0 from this]
      omega
    · rw [PySem.W.maxD_ints] at rd
      exact ⟨.int _, H, I.kept hk, reads_int rd, q⟩
theorem e_maxI (hc : X.calm = true) (hu : X.A.units + 64 < cLine) {ns : List Int} (hne : ns ≠ []) (hg : Gl X "max") (hm : X.mg "max" = none) (ha : EvA1 X M R ρ [e] s [.dat (.list (dI ns))] s1)
    (he : starEach [e] X.env = (false, eval e X.env) :: starEach [] X.env := by rfl) (hpl : (backTo pos (starEach [] X.env)).any (·.1) = false := by rfl) : Ev1 X M R ρ (.Call (.Name "max" px) [e] [] pos) s (.dat (.int (maxI ns))) s1 :=
  e_callB (call_maxI hc hu) hg hm boot_max ha (fun vs H Q h hR q => by
    obtain ⟨v, rfl, h1⟩ := svall1 h
    obtain ⟨p, xs, rfl, hp, hd⟩ := sv_lst h1
    rw [dpa_ints hd] at hp
    exact ⟨p, ns, rfl, sq_of (ex_cut _ _ hp), hne, q _ H (exId _) hR (.int _)⟩) (by decide) (by decide) he hpl
/-- max(.., default=None) -/
def maxN : List Int → PyData
  | [] => .none
  | n :: ns => .int (maxI (n :: ns))
def vN : PyData → V
  | .int i => .int i
  | _ => .non
def rMaxN (K : PySem.W.Frag) : List V → List V → Hp → VK → Prop := fun vs zs H Q => ∃ (a : Addr) (ns : List Int), vs = [.ref a] ∧ zs = [.non] ∧ SqL K H a (ns.map V.int) ∧ Q (vN (maxN ns)) H
theorem call_maxN (hc : X.calm = true) (hu : X.A.units + 64 < cLine) : CallRK X (.builtin "max") [Str.ofString "default"] (rMaxN X.K) := by
  intro pins s σ H vs zs us ws Q I r rz h
  obtain ⟨a, ns, rfl, rfl, hs, q⟩ := h
  obtain ⟨its, rv, hl, _⟩ := I.list hs
  rw [Vals.ref1 r]
  cases rz with
  | cons p t =>
    cases t
    have p : _ = Value.none := p
    subst p
    obtain ⟨as, ra⟩ := reads_ints (h := s.heap) rv
    refine PySem.W.max_list_default (vs := its.toArray) (xs := ns.map .int) (I.ok.hd hc) hl.isList ra (alike_intsA ns) ?_ (fun h0 h' tk hk => ?_) fun y ys i v h' tk bs e _ rd hk => ?_
    · rw [depth_dI]
      omega
    · cases ns with
      | nil => exact ⟨.non, H, I.kept hk, rfl, q⟩
      | cons n ns => cases h0
    · cases ns with
      | nil => cases e
      | cons n ns =>
        cases e
        rw [PySem.W.maxD_ints] at rd
        exact ⟨.int _, H, I.kept hk, reads_int rd, q⟩
theorem dv_maxN {K : PySem.W.Frag} {H : Hp} (ns : List Int) : Dv K H (vN (maxN ns)) (maxN ns) := by
  cases ns with
  | nil => exact .non
  | cons n ns => exact .int _
end
end DV
namespace DV
open PySem PySem.Spec L2 Evl LamX NdefX
open PyProof.Rows hiding St cutD
/-! ### return (p[a], p[b]): the call leaves all that was -/
structure KeyTxt (mg : Str → Option Value) (st : Stmt) (p : Str) (i j : Int) : Prop where
  ex : ∃ (a b : Str) (q1 q2 q3 q4 q5 q6 tp rp : Pos) (tk : Nat), defBody st = [.Return (some (.Tuple [.Subscript (.Name p q1) (.Name a q2) q3, .Subscript (.Name p q4) (.Name b q5) q6] tk tp)) rp] ∧ (defScope st).names.lookup p = some .local ∧ (defScope st).names.lookup a = some .globalImplicit ∧
    (defScope st).names.lookup b = some .globalImplicit ∧ (p == ("__debug__" : Str)) = false ∧ (a == ("__debug__" : Str)) = false ∧ (b == ("__debug__" : Str)) = false ∧ (∃ t, mg a = some (.int i t)) ∧ ∃ t, mg b = some (.int j t)
/-- what such a call is: exact -/
def KeyRunX (P : Program) (w : World) (K : PySem.W.Frag) (mg : Str → Option Value) (f : Addr) (i j : Int) : Prop :=
  ∀ (A : Around) (s : Shared) (T : Addr) (its : Array Value) (ki kj : Nat) (u v : Value) (Q E : Value → Shared → Prop), K.In s.heap → s.heap.Ns mainGlobals mg → s.heap.NoLimit → A.depth < recursionLimit → IsTup s.heap T its → -(2 ^ 63) ≤ i → i < 2 ^ 63 → -(2 ^ 63) ≤ j → j < 2 ^ 63 →
    seqIndex? i its.size = some ki → its[ki]? = some u → seqIndex? j its.size = some kj → its[kj]? = some v →
    (∀ h' tk T', (∀ b o, s.heap.get? b = some o → h'.get? b = some o) → s.heap.get? T' = none → IsTup h' T' #[u, v] → Q (.ref T') { s with heap := h', toks := tk }) → wpAny (model P w) A (call (.ref f) [.ref T]) Q E s
theorem key_run {P : Program} {w : World} {K : PySem.W.Frag} {mg : Str → Option Value} {x : Str} {st : Stmt} {p : Str} {f : Addr} {fd : FuncData} {i j : Int} (Fn : L2.Fun K x x st f fd) (S : FnScope [p] [p] (defScope st)) (hb : ∀ (s : Shared) (u : Value), BindsTo s fd ⟨[u], []⟩ [(p, u)]) (t : KeyTxt mg st p i j) :
    KeyRunX P w K mg f i j := by
  intro A s T its ki kj u v Q E KX G lim hd hT i1 i2 j1 j2 hi hu hj hv q
  obtain ⟨a, b, q1, q2, q3, q4, q5, q6, tp, rp, tk, eb, lp, la, lb, dp, da, db, ⟨ta, ma⟩, ⟨tb, mb⟩⟩ := t
  obtain ⟨oc, od, kV, doc, pm, an, cdv, ct, osl, rfl, lk, hcd⟩ := Fn.ex
  refine wpAny_call ?_
  refine codeAny_call_function hd (KX _ _ lk) rfl S.co S.gen rfl (PySem.W.codeRec_of KX hcd) (hb _ _ _ _ _ _ ?_)
  refine wpAny_newFunctionEnv_cells S.kind (fun y hy => ?_) fun env he s1 xx => ?_
  · have : y = (p, .ref T) := by simpa using hy
    rw [this]
    exact .inl lp
  subst he
  refine ⟨lim.keeps xx.toInCall.keep, codeAny_func ?_⟩
  rw [eb]
  have k1 := xx.toInCall.keep
  obtain ⟨h1, tk1, e1⟩ := xx.toInCall.same
  have hput : (bindL (newEnv (defScope st) s.heap.objs.size mainGlobals (cellsFrom (s.heap.objs.size + 1) (defScope st).names []) (x ++ ".<locals>.") (some f) cdv none builtinsNs).kindOf [(p, Value.ref T)] fun _ => none) p = some (.ref T) := by
    unfold bindL bindL
    have : ((newEnv (defScope st) s.heap.objs.size mainGlobals (cellsFrom (s.heap.objs.size + 1) (defScope st).names []) (x ++ ".<locals>.") (some f) cdv none builtinsNs).kindOf p) = some .local := lp
    simp [this]
  have nm : ∀ {pos : Pos} {Q' E' : Value → Shared → Prop}, Q' (.ref T) s1 → wpAny (model P w) (A.deeper (newEnv (defScope st) s.heap.objs.size mainGlobals (cellsFrom (s.heap.objs.size + 1) (defScope st).names []) (x ++ ".<locals>.") (some f) cdv none builtinsNs)) (eval (.Name p pos) (newEnv (defScope st) s.heap.objs.size mainGlobals (cellsFrom (s.heap.objs.size + 1) (defScope st).names []) (x ++ ".<locals>.") (some f) cdv none builtinsNs)) Q' E' s1 := fun {pos Q' E'} h =>
    wpAny_Name (wpAny_loadName_local S.kind lp xx.toInCall.ns hput h) dp
  have gl : ∀ {y : Str} {t : Tok} {k : Int} {pos : Pos} {Q' E' : Value → Shared → Prop}, (defScope st).names.lookup y = some .globalImplicit → (y == ("__debug__" : Str)) = false → mg y = some (.int k t) → Q' (.int k t) s1 →
      wpAny (model P w) (A.deeper (newEnv (defScope st) s.heap.objs.size mainGlobals (cellsFrom (s.heap.objs.size + 1) (defScope st).names []) (x ++ ".<locals>.") (some f) cdv none builtinsNs)) (eval (.Name y pos) (newEnv (defScope st) s.heap.objs.size mainGlobals (cellsFrom (s.heap.objs.size + 1) (defScope st).names []) (x ++ ".<locals>.") (some f) cdv none builtinsNs)) Q' E' s1 :=
    fun {y t k pos Q' E'} hg hdb hm h => Calls.Name_function_global S.kind hg (Calls.loadGlobal_global (G.keeps k1) hm h) hdb
  have hT1 : IsTup s1.heap T its := hT.keeps k1
  refine wpAny_execs_cons (wpAny_Return_some (wpAny_Tuple_spliced ?_))
  show wpAny _ _ (spliced ((false, eval (.Subscript (.Name p q1) (.Name a q2) q3) _) :: (false, eval (.Subscript (.Name p q4) (.Name b q5) q6) _) :: [])) _ _ s1
  refine Calls.spliced_cons (Subscript_ (nm (gl la da ma ?_)))
  refine subscriptTail_builtinR (x := u) hT1.typeIs slot_tuple_getitem.lookup (getItem_tuple hT1 i1 i2 hi hu ⟨rfl, ?_⟩) rfl
  refine Calls.spliced_cons (Subscript_ (nm (gl lb db mb ?_)))
  refine subscriptTail_builtinR (x := v) hT1.typeIs slot_tuple_getitem.lookup (getItem_tuple hT1 j1 j2 hj hv ⟨rfl, ?_⟩) rfl
  refine Calls.spliced_nil ⟨(by decide : 2 ≤ sizeLine), ?_⟩
  subst e1
  have fr : s.heap.get? h1.objs.size = none := by
    cases z : s.heap.get? h1.objs.size with
    | none => rfl
    | some o => exact absurd (Heap.lt_size (k1 _ _ z)) (Nat.lt_irrefl _)
  exact q _ tk1 _ (fun b o e => Heap.get?_push_of_some _ (k1 b o e)) fr ⟨_, Heap.get?_push_size _ rfl, rfl, _, rfl⟩
end DV
namespace DV
open PySem PySem.Spec L2 Evl LamX NdefX
open PyProof.Rows hiding St cutD
/-! ### sorted, max by such a key -/
def KeyOk (i j : Nat) (d : PyData) : Prop := ∃ (xs : List PyData) (a b : Int), d = .tuple xs ∧ xs[i]? = some (.int a) ∧ xs[j]? = some (.int b)
def keyD (i j : Nat) : PyData → PyData
  | .tuple xs => .tuple [xs.getD i .none, xs.getD j .none]
  | _ => .none
theorem key_is {i j : Nat} {d : PyData} (h : KeyOk i j d) : ∃ a b : Int, keyD i j d = .tuple [.int a, .int b] := by
  obtain ⟨xs, a, b, rfl, h1, h2⟩ := h
  refine ⟨a, b, ?_⟩
  show PyData.tuple [xs.getD i .none, xs.getD j .none] = _
  rw [List.getD_eq_getElem?_getD, List.getD_eq_getElem?_getD, h1, h2]
  rfl
theorem keys_alike {i j : Nat} {ds : List PyData} (h : ∀ d ∈ ds, KeyOk i j d) : PySem.W.AllAlike (ds.map (keyD i j)) := by
  intro d hd d' hd'
  obtain ⟨x, hx, rfl⟩ := List.mem_map.mp hd
  obtain ⟨y, hy, rfl⟩ := List.mem_map.mp hd'
  obtain ⟨a, b, e⟩ := key_is (h x hx)
  obtain ⟨a', b', e'⟩ := key_is (h y hy)
  rw [e, e']
  rfl
theorem keys_sortable {i j : Nat} {ds : List PyData} (h : ∀ d ∈ ds, KeyOk i j d) : PySem.W.Sortable (ds.map (keyD i j)) := .inl fun d hd => by
  obtain ⟨x, hx, rfl⟩ := List.mem_map.mp hd
  obtain ⟨a, b, e⟩ := key_is (h x hx)
  exact ⟨_, _, e⟩
theorem seq_nat {n k : Nat} (h : k < n) : seqIndex? (k : Int) n = some k := by
  unfold seqIndex?
  have h1 : ¬ ((k : Int) < 0) := by omega
  simp only [h1, if_false]
  have h2 : (0 : Int) ≤ (k : Int) := by omega
  have h3 : (k : Int) < (n : Int) := by omega
  simp [h2, h3]
/-- what the call of the key makes of an item -/
theorem key_item {X : Cx} {pins : List (Addr × Obj)} {σ : L2.St} {H : Hp} {s : Shared} {M : List Addr} {i j : Nat} {d : PyData} {v : Value} (I : Inv X pins σ H s) (hk : KeyOk i j d) (hv : IsD X.K (cut M H) v d) :
    ∃ (T : Addr) (its : Array Value) (a b : Int) (ta tb : Tok), v = .ref T ∧ IsTup s.heap T its ∧ keyD i j d = .tuple [.int a, .int b] ∧ seqIndex? (i : Int) its.size = some i ∧ its[i]? = some (.int a ta) ∧ seqIndex? (j : Int) its.size = some j ∧ its[j]? = some (.int b tb) ∧ i < 2 ^ 62 ∧ j < 2 ^ 62 := by
  obtain ⟨x, rx, dx⟩ := hv
  obtain ⟨xs, a, b, rfl, h1, h2⟩ := hk
  obtain ⟨T, vs, rfl, hq, hd⟩ := sv_tup (show Sv X.K (cut M H) (.dat (.tuple xs)) x from dx)
  obtain ⟨its, rv, hT, hz⟩ := I.tuple (ex_t ex_cut hq)
  obtain ⟨x1, g1, dx1⟩ := dpa_get' hd h1
  obtain ⟨x2, g2, dx2⟩ := dpa_get' hd h2
  cases dx1
  cases dx2
  obtain ⟨w1, e1, r1⟩ := rv.get g1
  obtain ⟨w2, e2, r2⟩ := rv.get g2
  obtain ⟨ta, rfl⟩ := r1
  obtain ⟨tb, rfl⟩ := r2
  have l := rv.length
  have i1 : i < its.length := by
    by_cases z : i < its.length
    · exact z
    · rw [List.getElem?_eq_none (by omega)] at e1; cases e1
  have i2 : j < its.length := by
    by_cases z : j < its.length
    · exact z
    · rw [List.getElem?_eq_none (by omega)] at e2; cases e2
  have hb : sizeLine < 2 ^ 62 := by rw [sizeLine_eq]; decide
  refine ⟨T, its.toArray, a, b, ta, tb, rx, hT, ?_, ?_, by simpa using e1, ?_, by simpa using e2, by omega, by omega⟩
  · show PyData.tuple [xs.getD i .none, xs.getD j .none] = _
    rw [List.getD_eq_getElem?_getD, List.getD_eq_getElem?_getD, h1, h2]
    rfl
  · rw [List.size_toArray]; exact seq_nat i1
  · rw [List.size_toArray]; exact seq_nat i2
def rSortedK (K : PySem.W.Frag) (f : Addr) (i j : Nat) : List V → List V → Hp → VK → Prop := fun vs zs H Q => ∃ (M : List Addr) (a : Addr) (xs : List V) (ds : List PyData), vs = [.ref a] ∧ zs = [.ref f] ∧ SqL K H a xs ∧ DvAll K (cut M H) xs ds ∧ (∀ d ∈ ds, KeyOk i j d) ∧
  ∀ ys p, DvAll K (cut M H) ys (ds.mergeSort (PySem.W.dataLe false (keyD i j))) → H p = none → Q (.ref p) (upd H p (.lst ys))
theorem cr_sortedK {X : Cx} {f : Addr} {i j : Nat} (hr : Room 2 X.A) (F : KeyRunX X.prog X.w X.K X.mg f i j) : CallRK X (.builtin "sorted") [Str.ofString "key"] (rSortedK X.K f i j) := by
  intro pins s σ H vs zs us ws Q I r rz h
  obtain ⟨M, a, xs, ds, rfl, rfl, hs, hd, hko, q⟩ := h
  obtain ⟨its, rv, hl, hz⟩ := I.list hs
  rw [Vals.ref1 r, Vals.ref1 rz]
  show wpAny _ _ (call _ [.ref a] [(Str.ofString "key", .ref f)]) _ _ _
  have e := each_of rv hd
  have hlen : its.length = ds.length := e.length
  have hz' : ds.length ≤ sizeLine := by rw [← hlen, ← rv.length]; exact hz
  refine PySem.W.sorted_key_data (b := false) (keyD i j) hl.isList e (keys_alike hko) (keys_sortable hko) hz' (fun d hd => ?_) (PyProof.Rows.ksk_s1 _ _) (fun _ => PyProof.Rows.ksk_l1 _ _) (fun _ => PyProof.Rows.ksk_t1 _ _) (fun v d hvd hdm h tk kp => ?_) fun out c h' tk kp _ hD ho eo => ?_
  · obtain ⟨x, y, e⟩ := key_is (hko d hd)
    have := hr.units
    rw [e]
    show X.A.units + 2 + 1 < cLine
    omega
  · obtain ⟨T, it, x, y, tx, ty, rfl, hT, ek, s1, g1, s2, g2, b1, b2⟩ := key_item I (hko d hdm) hvd
    refine F _ _ T it i j (.int x tx) (.int y ty) _ _ (I.kIn.keeps kp) ((I.ok.mod.glob.keeps I.bk).keeps kp) (I.nolimit.keeps kp) (hr.in1.in1.depth) (hT.keeps kp) (by omega) (by omega) (by omega) (by omega) s1 g1 s2 g2 fun h'' tk' T' kp' _ hT' => ?_
    refine ⟨h'', tk', rfl, kp', ?_⟩
    obtain ⟨o, ho, hc, n, hdt⟩ := hT'
    rw [ek]
    exact Reads.tuple ho hc hdt (.cons (.int x tx) (.cons (.int y ty) .nil))
  · obtain ⟨ys, ry, dy⟩ := each_back eo
    have hly : ys.length ≤ sizeLine := by
      rw [dpa_length dy, List.length_mergeSort]
      exact hz'
    exact ⟨.ref _, upd H (s.heap.objs.size + 1) (.lst ys), I.laid (t' := tk) kp (Nat.le_succ _) ⟨hly, out, c, ry, hD⟩, rfl, q ys _ dy (I.hok.fresh (Nat.le_succ _))⟩
end DV
namespace DV
open PySem PySem.Spec L2 Evl LamX NdefX
open PyProof.Rows hiding St cutD
/-! ### max(xs, key=f) -/
def bestI (i j : Nat) (ds : List PyData) : Nat := argBest (fun m n => PySem.W.dataLt (keyD i j (ds.getD n .none)) (keyD i j (ds.getD m .none))) (ds.length - 1)
def bestD (i j : Nat) (ds : List PyData) : PyData := ds.getD (bestI i j ds) .none
def rMaxK (K : PySem.W.Frag) (f : Addr) (i j : Nat) : List V → List V → Hp → VK → Prop := fun vs zs H Q => ∃ (M : List Addr) (a : Addr) (xs : List V) (ds : List PyData), vs = [.ref a] ∧ zs = [.ref f] ∧ SqL K H a xs ∧ DvAll K (cut M H) xs ds ∧ (∀ d ∈ ds, KeyOk i j d) ∧ ds ≠ [] ∧
  ∀ x, Dv K (cut M H) x (bestD i j ds) → Q x H
theorem listIter_keeps {h h' : Heap} {a l : Addr} {i : Nat} (x : h.IsListIter a l i) (k : ∀ b o, h.get? b = some o → h'.get? b = some o) : h'.IsListIter a l i := by
  obtain ⟨o, ho, r⟩ := x
  exact ⟨o, k _ _ ho, r⟩
theorem isList_keeps {h h' : Heap} {l : Addr} {vs : Array Value} (x : h.IsList l vs) (k : ∀ b o, h.get? b = some o → h'.get? b = some o) : h'.IsList l vs := by
  obtain ⟨o, ho, r⟩ := x
  exact ⟨o, k _ _ ho, r⟩
theorem shared_eta {s s' : Shared} (h2 : s'.gens = s.gens) (h3 : s'.drawn = s.drawn) (h4 : s'.os = s.os) : s' = { s with heap := s'.heap, toks := s'.toks } := by
  obtain ⟨hp, g, d, tk, os⟩ := s'
  have h2 : g = s.gens := h2
  have h3 : d = s.drawn := h3
  have h4 : os = s.os := h4
  subst h2 h3 h4
  rfl
theorem call_maxK {X : Cx} {f : Addr} {i j : Nat} (hc : X.calm = true) (hr : Room 2 X.A) (F : KeyRunX X.prog X.w X.K X.mg f i j) : CallRK X (.builtin "max") [Str.ofString "key"] (rMaxK X.K f i j) := by
  intro pins s σ H vs zs us ws Q I r rz h
  obtain ⟨M, a, xs, ds, rfl, rfl, hs, hd, hko, hne, q⟩ := h
  obtain ⟨its, rv, hl, hz⟩ := I.list hs
  rw [Vals.ref1 r, Vals.ref1 rz]
  show wpAny _ _ (call _ [.ref a] [(Str.ofString "key", .ref f)]) _ _ _
  have lx := dpa_length hd
  have lv := rv.length
  have hlen : its.length = ds.length := by omega
  have item : ∀ (n : Nat) (v : Value), its.toArray[n]? = some v → ∃ x d, xs[n]? = some x ∧ ds[n]? = some d ∧ RelV x v ∧ Dv X.K (cut M H) x d := fun n v hv => by
    have hv : its[n]? = some v := by simpa using hv
    have hn : n < xs.length := by
      by_cases z : n < its.length
      · omega
      · rw [List.getElem?_eq_none (by omega)] at hv; cases hv
    obtain ⟨w, e1, e2⟩ := rv.get (List.getElem?_eq_getElem hn)
    rw [hv] at e1
    cases e1
    obtain ⟨d, g, dx⟩ := dpa_get hd (List.getElem?_eq_getElem hn)
    exact ⟨_, d, List.getElem?_eq_getElem hn, g, e2, dx⟩
  have getD_some : ∀ {n : Nat} {d : PyData}, ds[n]? = some d → ds.getD n .none = d := fun {n d} h => by rw [List.getD_eq_getElem?_getD, h]; rfl
  refine PySem.call_max_walkK (PySem.W.iter_listW (A := X.A.in1) (I.ok.hd hc) hl.isList fun s₂ e W st hfp hw hk => ?_)
  have oldI : ∀ b o, s.heap.get? b = some o → b ≠ s.heap.objs.size := fun b o e => Nat.ne_of_lt (Heap.lt_size e)
  have hS : s₂.heap.objs.size = s.heap.objs.size + 1 := by rw [e]; exact Heap.size_push ..
  have oldS : ∀ b o, s.heap.get? b = some o → b ≠ s₂.heap.objs.size := fun b o e => by rw [hS]; exact Nat.ne_of_lt (Nat.lt_succ_of_lt (Heap.lt_size e))
  refine ⟨_, _, _, _, _, _, _, (fun s' => ∃ h' tk, s' = { s with heap := h', toks := tk } ∧ ∀ b o, s.heap.get? b = some o → h'.get? b = some o),
    (fun n k s' => ∃ (d : PyData) (T : Addr) (x y : Int) (tx ty : Tok), ds[n]? = some d ∧ keyD i j d = .tuple [.int x, .int y] ∧ k = .ref T ∧ IsTup s'.heap T #[.int x tx, .int y ty] ∧ T ≠ s₂.heap.objs.size ∧ T ≠ s.heap.objs.size), (fun m n => PySem.W.dataLt (keyD i j (ds.getD n .none)) (keyD i j (ds.getD m .none))), rfl, W, st, hfp, ?_, ⟨?_, ?_, ?_, ?_⟩, ?_, ?_⟩
  · rw [List.size_toArray, hlen]
    cases ds with
    | nil => exact absurd rfl hne
    | cons _ _ => simp
  · rintro s1 s2 ⟨h', tk, rfl, kp⟩ mv
    refine ⟨s2.heap, s2.toks, shared_eta (s := s) mv.gens mv.drawn mv.os, fun b o hb => mv.heap b o (fun hm => ?_) (kp b o hb)⟩
    rcases List.mem_cons.mp hm with z | hm
    · exact oldS b o hb z
    · rcases List.mem_cons.mp hm with z | hm
      · exact oldI b o hb z
      · cases hm
  · rintro n k s1 s2 ⟨d, T, x, y, tx, ty, hd', ek, rfl, ⟨o, ho, r⟩, n1, n2⟩ mv
    refine ⟨d, T, x, y, tx, ty, hd', ek, rfl, ⟨o, mv.heap T o (fun hm => ?_) ho, r⟩, n1, n2⟩
    rcases List.mem_cons.mp hm with z | hm
    · exact n1 z
    · rcases List.mem_cons.mp hm with z | hm
      · exact n2 z
      · cases hm
  · rintro n v s1 o Q' E' hn hv ⟨h', tk, rfl, kp⟩ hst hSo hq
    obtain ⟨x, d, gx, gd, rx, dx⟩ := item n v hv
    obtain ⟨T, it, x1, y1, tx, ty, rfl, hT, ek, s1, g1, s2', g2, b1, b2⟩ := key_item I (hko d (List.mem_of_getElem? gd)) ⟨x, rx, dx⟩
    refine F _ _ T it i j (.int x1 tx) (.int y1 ty) _ _ (I.kIn.keeps kp) ((I.ok.mod.glob.keeps I.bk).keeps kp) (I.nolimit.keeps kp) (hr.in1.depth) (hT.keeps kp) (by omega) (by omega) (by omega) (by omega) s1 g1 s2' g2 fun h'' tk' T' kp' fr hT' => ?_
    obtain ⟨st1, st2⟩ := hst
    have hIo : ∃ o, h'.get? s.heap.objs.size = some o := by
      obtain ⟨o, ho, _⟩ := st1
      exact ⟨o, ho⟩
    refine hq _ _ ⟨h'', tk', rfl, fun b o hb => kp' b o (kp b o hb)⟩ ⟨listIter_keeps st1 kp', isList_keeps st2 kp'⟩ (kp' _ _ hSo) ⟨d, T', x1, y1, tx, ty, gd, ek, rfl, hT', fun z => ?_, fun z => ?_⟩ ?_
    · rw [z] at fr
      have hSo : h'.get? s₂.heap.objs.size = some o := hSo
      have fr : h'.get? s₂.heap.objs.size = none := fr
      rw [hSo] at fr
      cases fr
    · obtain ⟨o', ho'⟩ := hIo
      rw [z] at fr
      have fr : h'.get? s.heap.objs.size = none := fr
      rw [ho'] at fr
      cases fr
    · rintro m k' ⟨d2, T2, x2, y2, tx2, ty2, a1, a2, a3, a4, a5, a6⟩
      exact ⟨d2, T2, x2, y2, tx2, ty2, a1, a2, a3, a4.keeps kp', a5, a6⟩
  · rintro m n km kn s1 Q' E' _ ⟨d1, T1, x1, y1, tx1, ty1, g1, ek1, rfl, ⟨o1, ho1, c1, n1, hd1⟩, _, _⟩ ⟨d2, T2, x2, y2, tx2, ty2, g2, ek2, rfl, ⟨o2, ho2, c2, n2, hd2⟩, _, _⟩ hq
    have r1 : Reads s1.heap (.ref T1) (.tuple [.int x1, .int y1]) [] := Reads.tuple ho1 c1 hd1 (.cons (.int x1 tx1) (.cons (.int y1 ty1) .nil))
    have r2 : Reads s1.heap (.ref T2) (.tuple [.int x2, .int y2]) [] := Reads.tuple ho2 c2 hd2 (.cons (.int x2 tx2) (.cons (.int y2 ty2) .nil))
    refine PySem.W.rcGt_alike _ _ X.A.in1 s1 _ _ _ _ r1 r2 rfl (fun z => by cases z) ?_ X.prog X.w E' Q' ?_
    · have := hr.units
      show X.A.units + 1 + min 1 1 < cLine
      omega
    · rw [← ek1, ← ek2]
      have z1 := getD_some g1
      have z2 := getD_some g2
      rw [← z1, ← z2] at *
      exact hq
  · exact ⟨s₂.heap, s.toks, by rw [e], hk⟩
  · rintro v s' hP ⟨h', tk, rfl, kp⟩
    obtain ⟨x, d, gx, gd, rx, dx⟩ := item _ v hP
    refine ⟨x, H, I.kept kp, rx, q x ?_⟩
    have hb : bestD i j ds = d := by
      have := getD_some gd
      rw [← this]
      unfold bestD bestI
      rw [List.size_toArray, hlen]
    rw [hb]
    exact dx
end DV
namespace DV
open PySem PySem.Spec L2 Evl LamX NdefX
open PyProof.Rows hiding St cutD
section
variable {S : Type} {X : Cx} {M : List Addr} {R : S → Hp → Prop} {ρ : List Sl} {s s1 s2 : S} {a b e ke : Expr} {px pos kp : Pos}
/-! one keyword -/
theorem e_callKw {id : String} {r : List V → List V → Hp → VK → Prop} {x n : Str} {rs : List Sl} {rk rc : Sl} (hc : CallRK X (.builtin id) [n] r) (hg : Gl X x) (hm : X.mg x = none) (hv : bootBuiltins x = some (.builtin id)) (ha : EvA1 X M R ρ [e] s rs s1) (hk : Ev1 X M R ρ ke s1 rk s2)
    (hr : ∀ vs z H (Q : VK), SvAll X.K (cut M H) rs vs → Sv X.K (cut M H) rk z → R s2 H → (∀ v H2, Ex (cut M H) (cut M H2) → R s2 H2 → Sv X.K (cut M H2) rc v → Q v H2) → r vs [z] H Q) (hn : x ≠ "__name__" := by decide) (hdb : (x == ("__debug__" : Str)) = false := by decide)
    (he : backTo pos (starEach [e] X.env) = (false, eval e X.env) :: backTo pos (starEach [] X.env) := by rfl) (hpl : (backTo pos (starEach [e] X.env)).any (·.1) = false := by rfl)
    (hall : (backToKw pos (keywordEach [⟨some n, ke, kp⟩] X.env)).all (·.1.isSome) = true := by rfl) (hnone : (backToKw pos (keywordEach [⟨some n, ke, kp⟩] X.env)).any (·.1.isNone) = false := by rfl) (hks : (backToKw pos (keywordEach [⟨some n, ke, kp⟩] X.env)).filterMap (·.1) = [n] := by rfl) :
    Ev1 X M R ρ (.Call (.Name x px) [e] [⟨some n, ke, kp⟩] pos) s rc s2 := by
  intro σ H Q hσ hR q
  refine wE_of (pe_callBK hc hg hm hv pa_w (pk_cons pe_w pk_nil) hn hdb he hpl hall hnone hks) ?_
  refine ha σ H _ hσ hR fun vs H1 e1 R1 d1 => ?_
  refine hk σ H1 _ (hσ.ex e1) R1 fun z H2 e2 R2 d2 => ?_
  exact hr vs z H2 Q (d1.ex e2) d2 R2 fun v H3 e3 R3 d3 => q v H3 (e1.trans (e2.trans e3)) R3 d3
theorem e_sortedK (g : Rg M R) {f : Addr} {i j : Nat} {ds : List PyData} (hr : Room 2 X.A) (F : KeyRunX X.prog X.w X.K X.mg f i j) (hko : ∀ d ∈ ds, KeyOk i j d) (hg : Gl X "sorted") (hm : X.mg "sorted" = none) (ha : EvA1 X M R ρ [e] s [.dat (.list ds)] s1) (hk : Ev1 X M R ρ ke s1 (.raw (.ref f)) s2)
    (he : backTo pos (starEach [e] X.env) = (false, eval e X.env) :: backTo pos (starEach [] X.env) := by rfl) (hpl : (backTo pos (starEach [e] X.env)).any (·.1) = false := by rfl)
    (hall : (backToKw pos (keywordEach [⟨some "key", ke, kp⟩] X.env)).all (·.1.isSome) = true := by rfl) (hnone : (backToKw pos (keywordEach [⟨some "key", ke, kp⟩] X.env)).any (·.1.isNone) = false := by rfl) (hks : (backToKw pos (keywordEach [⟨some "key", ke, kp⟩] X.env)).filterMap (·.1) = [("key" : Str)] := by rfl) :
    Ev1 X M R ρ (.Call (.Name "sorted" px) [e] [⟨some "key", ke, kp⟩] pos) s (.dat (.list (ds.mergeSort (PySem.W.dataLe false (keyD i j))))) s2 :=
  e_callKw (cr_sortedK hr F) hg hm boot_sorted ha hk (fun vs z H Q h hz hR q => by
    obtain ⟨v, hv, h1⟩ := svall1 h
    subst hv
    obtain ⟨p, xs, rfl, hp, hd⟩ := sv_lst h1
    have hz : z = .ref f := hz
    subst hz
    exact ⟨M, p, xs, ds, rfl, rfl, sq_of (ex_cut _ _ hp), hd, hko, fun ys p' hy n => new_lst g hR n hy q⟩) (by decide) (by decide) he hpl hall hnone hks
theorem e_maxK {f : Addr} {i j : Nat} {ds : List PyData} (hc : X.calm = true) (hr : Room 2 X.A) (F : KeyRunX X.prog X.w X.K X.mg f i j) (hko : ∀ d ∈ ds, KeyOk i j d) (hne : ds ≠ []) (hg : Gl X "max") (hm : X.mg "max" = none) (ha : EvA1 X M R ρ [e] s [.dat (.list ds)] s1) (hk : Ev1 X M R ρ ke s1 (.raw (.ref f)) s2)
    (he : backTo pos (starEach [e] X.env) = (false, eval e X.env) :: backTo pos (starEach [] X.env) := by rfl) (hpl : (backTo pos (starEach [e] X.env)).any (·.1) = false := by rfl)
    (hall : (backToKw pos (keywordEach [⟨some "key", ke, kp⟩] X.env)).all (·.1.isSome) = true := by rfl) (hnone : (backToKw pos (keywordEach [⟨some "key", ke, kp⟩] X.env)).any (·.1.isNone) = false := by rfl) (hks : (backToKw pos (keywordEach [⟨some "key", ke, kp⟩] X.env)).filterMap (·.1) = [("key" : Str)] := by rfl) :
    Ev1 X M R ρ (.Call (.Name "max" px) [e] [⟨some "key", ke, kp⟩] pos) s (.dat (bestD i j ds)) s2 :=
  e_callKw (call_maxK hc hr F) hg hm boot_max ha hk (fun vs z H Q h hz hR q => by
    obtain ⟨v, hv, h1⟩ := svall1 h
    subst hv
    obtain ⟨p, xs, rfl, hp, hd⟩ := sv_lst h1
    have hz : z = .ref f := hz
    subst hz
    exact ⟨M, p, xs, ds, rfl, rfl, sq_of (ex_cut _ _ hp), hd, hko, hne, fun x hx => q x H (exId _) hR hx⟩) (by decide) (by decide) he hpl hall hnone hks
theorem e_maxN {ns : List Int} (hc : X.calm = true) (hu : X.A.units + 64 < cLine) (hg : Gl X "max") (hm : X.mg "max" = none) (ha : EvA1 X M R ρ [e] s [.dat (.list (dI ns))] s1) (hk : Ev1 X M R ρ ke s1 (.dat .none) s2)
    (he : backTo pos (starEach [e] X.env) = (false, eval e X.env) :: backTo pos (starEach [] X.env) := by rfl) (hpl : (backTo pos (starEach [e] X.env)).any (·.1) = false := by rfl)
    (hall : (backToKw pos (keywordEach [⟨some "default", ke, kp⟩] X.env)).all (·.1.isSome) = true := by rfl) (hnone : (backToKw pos (keywordEach [⟨some "default", ke, kp⟩] X.env)).any (·.1.isNone) = false := by rfl) (hks : (backToKw pos (keywordEach [⟨some "default", ke, kp⟩] X.env)).filterMap (·.1) = [("default" : Str)] := by rfl) :
    Ev1 X M R ρ (.Call (.Name "max" px) [e] [⟨some "default", ke, kp⟩] pos) s (.dat (maxN ns)) s2 :=
  e_callKw (call_maxN hc hu) hg hm boot_max ha hk (fun vs z H Q h hz hR q => by
    obtain ⟨v, hv, h1⟩ := svall1 h
    subst hv
    obtain ⟨p, xs, rfl, hp, hd⟩ := sv_lst h1
    rw [dpa_ints hd] at hp
    rw [sv_non hz]
    exact ⟨p, ns, rfl, rfl, sq_of (ex_cut _ _ hp), q _ H (exId _) hR (dv_maxN ns)⟩) (by decide) (by decide) he hpl hall hnone hks
/-! d[k], d a dict of the module -/
theorem e_ixKD {p : Addr} {z : Str} {v : V} (hd : KDct X.K X.w p z v) (ha : Ev1 X M R ρ a s (.raw (.ref p)) s1) (hb : Ev1 X M R ρ b s1 (.dat (.str z)) s2) (hs : PlainIx b := by exact fun _ _ => rfl) : Ev1 X M R ρ (.Subscript a b pos) s (.raw v) s2 := by
  intro σ H Q hσ hR q
  refine wE_of (pe_ix ix_kdict pe_w pe_w hs) ?_
  refine ha σ H _ hσ hR fun x H1 e1 R1 d1 => ?_
  refine hb σ H1 _ (hσ.ex e1) R1 fun y H2 e2 R2 d2 => ?_
  have d1 : x = .ref p := d1
  subst d1
  exact ⟨p, z, v, rfl, sv_str d2, hd, q v H2 (e1.trans e2) R2 rfl⟩
/-! not in a written tuple of flat data -/
theorem t_ninT {d : PyData} {ds : List PyData} (ha : Ev1 X M R ρ a s (.dat d) s1) (hb : Ev1 X M R ρ b s1 (.dat (.tuple ds)) s2) (f : flatD d = true) (fs : ds.all flatD = true) (hm : behindInMarks .NotIn b = false := by with_unfolding_all rfl) :
    EvT1 X M R ρ (.Compare a [.NotIn] [b] pos) s (!ds.any fun e => PyData.eqv e d) s2 :=
  t_cmp op_notIn_seq ha hb (fun x y H Q dx dy hR q => by
    obtain ⟨p, xs, rfl, hp, hd⟩ := sv_tup dy
    refine ⟨p, xs, rfl, .inr (ex_t ex_cut hp), flat_dv dx f, flat_all hd fs, ?_⟩
    rw [in_dv dx f hd fs]
    exact q H (exId _) hR) hm
end
end DV
namespace DV
open PySem PySem.Spec L2 Evl LamX NdefX
open PyProof.Rows hiding St cutD
section
variable {S : Type} {X : Cx} {M : List Addr} {R : S → Hp → Prop} {ρ : List Sl} {s s1 s2 : S} {a b e : Expr} {rest : List Stmt} {px py pt pos : Pos} {D : Ends}
/-- a, b = e -/
theorem st_unp {i j kt : Nat} {x y : Str} {d1 d2 : PyData} (g : PG X (.Tuple [.Name x px, .Name y py] kt pt) (gTup X.K 2 (gCons (gName i) (gCons (gName j) gNil)))) (he : Ev1 X M R ρ e s (.dat (.tuple [d1, d2])) s1) (k : St1 X M R ((ρ.set i (.dat d1)).set j (.dat d2)) rest s1 D)
    (hs : swapsWithSole [.Tuple [.Name x px, .Name y py] kt pt] e pos.line X.env = pure false := by rfl) (hw : swappedStores [.Tuple [.Name x px, .Name y py] kt pt] e X.env = pure none := by rfl)
    (h1 : (assignEach [.Tuple [.Name x px, .Name y py] kt pt] X.env).map (·.2) = [assign (.Tuple [.Name x px, .Name y py] kt pt) X.env] := by rfl) : St1 X M R ρ (.Assign [.Tuple [.Name x px, .Name y py] kt pt] e pos :: rest) s D := by
  intro σ H hσ hR
  refine wB_cons (wS_of (ps_asg pe_w g hs hw h1) ?_)
  refine he σ H _ hσ hR fun v H1 e1 R1 d1 => ?_
  exact tg0_pair M σ H1 v _ (hσ.ex e1) d1 fun σ2 hσ2 => k σ2 H1 hσ2 R1
/-- a list as a test -/
theorem t_list {ds : List PyData} (h : Ev1 X M R ρ e s (.dat (.list ds)) s1) (he : ∀ whole, isTrue e X.env whole = (do let v ← whole; standAt e.pos; holding [v] (truthy v)) := by intro _; rfl) : EvT1 X M R ρ e s (!ds.isEmpty) s1 := by
  intro σ H Q hσ hR q
  refine wT_of (pt_truth pe_w he) ?_
  refine h σ H _ hσ hR fun v H1 e1 R1 d1 => ?_
  obtain ⟨p, xs, rfl, hp, hd⟩ := sv_lst d1
  have hl : xs.isEmpty = ds.isEmpty := by cases hd <;> rfl
  exact ⟨!ds.isEmpty, .inl ⟨xs, sq_of (ex_cut _ _ hp), by rw [hl]⟩, q H1 e1 R1⟩
end
end DV
namespace DV
open PySem PySem.Spec L2 Evl LamX NdefX
open PyProof.Rows hiding St cutD
section
variable {S : Type} {X : Cx} {M : List Addr} {R : S → Hp → Prop} {ρ : List Sl} {s : S}
/-! a comprehension by its reading: the new list is told to be new -/
theorem lcT (g : Rg M R) {elt : Expr} {ifs : List Expr} {scope : Scope} {own : List (Str × Nat)} {gt : TG} {n : Nat} {it : Nat → Sl} {ss : Nat → S} {outs : Nat → List PyData} {wi : TI}
    (hwi : ∀ σ H (k : It → Hp → Prop), Slots X.K (cut M H) σ ρ → R s H → (∀ J H1, Ex (cut M H) (cut M H1) → R (ss 0) H1 → Src X.K M J n it H1 → k J H1) → wi σ H k) (h0 : outs 0 = []) (hz : ∀ i, i < n → (outs i).length < 100000)
    (hs : ∀ i, i < n → ∃ ρ', Tg1 X.K gt (own.map (·.2)) (wipeR ρ (own.map (·.2))) (it i) ρ' ∧ Lc1 X scope M R ρ' ifs elt (ss i) (outs i) (outs (i + 1)) (ss (i + 1))) (σ : St) (H : Hp) (Q : VK) (hσ : Slots X.K (cut M H) σ ρ) (hR : R s H)
    (q : ∀ D H2, Ex (cut M H) (cut M H2) → R (ss n) H2 → cut M H D = none → Sv X.K (cut M H2) (.dat (.list (outs n))) (.ref D) → Q (.ref D) H2) : tLc wi gt (wbT X scope ifs) (wbE X scope elt) (own.map (·.2)) σ H Q := by
  refine hwi σ H _ hσ hR fun J H1 e1 R1 hsrc D nD => ?_
  obtain ⟨G, hG, w⟩ := hsrc
  have hDM : D ∉ M := g.fresh R1 nD
  refine lc_it w (fun i H' => R (ss i) (rem D H') ∧ Ex (cut M H1) (cut M H') ∧ ∃ acc, H' D = some (.lst acc) ∧ DvAll X.K (cut (D :: M) H') acc (outs i)) ?_ (fun i H' _ ⟨_, e, _⟩ => hG H' e) ?_ ?_
  · refine ⟨by rw [rem_upd, rem_free nD]; exact R1, exCut (Ex.new nD), [], upd_same, ?_⟩
    rw [h0]
    exact .nil
  · intro i x H2 H' hi ⟨R2, e2, acc, hD, hacc⟩ hy
    obtain ⟨ρ', ht, hl⟩ := hs i hi
    have gD := RD.rg g D acc
    have RD2 : RD R D acc (ss i) H2 := ⟨R2, hD⟩
    obtain ⟨eH, sx⟩ := hy (D :: M) (cut_cons_none nD) (fun a m => gD.dom RD2 m) (ex_cut_back nD e2)
    have RD3 : RD R D acc (ss i) H' := gD.up RD2 eH
    have e12 : Ex (cut M H1) (cut M H') := e2.trans (exCut eH)
    have hσ' : Slots X.K (cut (D :: M) H') (wipe σ (own.map (·.2))) (wipeR ρ (own.map (·.2))) := by
      have := slots_wipe hσ (own.map (·.2))
      refine Slots.ex ?_ this
      have ee : Ex (cut M H) (cut (D :: M) H1) := by
        rw [cut_cons_none nD]
        exact e1
      exact ee.trans (ex_cut_back nD e12)
    refine ht (D :: M) _ H' x _ hσ' sx fun σ2 hσ2 hw2 => ?_
    refine ⟨hw2.trans wipe_wipe, ?_⟩
    have hacc' : DvAll X.K (cut (D :: M) H') acc (outs i) := dpa_ex (exCut eH) _ _ hacc
    obtain ⟨b, s1, hb, hb1, hb0⟩ := hl D acc gD
    have fin : ∀ H3, Ex (cut (D :: M) H') (cut (D :: M) H3) → RD R D acc s1 H3 → (if b = true then wbE X scope elt σ2 H3 fun y H4 => ∃ acc, H4 D = some (.lst acc) ∧ acc.length < sizeLine ∧
        (R (ss (i + 1)) (rem D (upd H4 D (.lst (acc ++ [y])))) ∧ Ex (cut M H1) (cut M (upd H4 D (.lst (acc ++ [y])))) ∧ ∃ acc', upd H4 D (.lst (acc ++ [y])) D = some (.lst acc') ∧ DvAll X.K (cut (D :: M) (upd H4 D (.lst (acc ++ [y])))) acc' (outs (i + 1)))
        else (R (ss (i + 1)) (rem D H3) ∧ Ex (cut M H1) (cut M H3) ∧ ∃ acc, H3 D = some (.lst acc) ∧ DvAll X.K (cut (D :: M) H3) acc (outs (i + 1)))) := by
      intro H3 e3 R3
      have back : ∀ {H5 : Hp}, Ex (cut (D :: M) H') (cut (D :: M) H5) → Ex (cut M H1) (cut M H5) := fun {H5} e a o ha => by
        have hne : a ≠ D := fun z => by
          rw [z] at ha
          rw [(cut_some ha).2] at nD
          cases nD
        have hM := (cut_some ha).1
        have q1 := e12 a o ha
        have n2 : a ∉ D :: M := fun z => (List.mem_cons.mp z).elim hne hM
        have q2 := e a o (by rw [cut_out n2]; rw [cut_out hM] at q1; exact q1)
        rw [cut_out hM]
        rw [cut_out n2] at q2
        exact q2
      cases b with
      | true =>
        rw [if_pos rfl]
        obtain ⟨d, eo, he⟩ := hb1 rfl
        intro sh Hh C cl fp
        refine he sh Hh C cl fp σ2 H3 _ (hσ2.ex e3) R3 fun y H4 e4 R4 d4 => ?_
        have la : acc.length = (outs i).length := dpa_length hacc
        refine ⟨acc, R4.2, by rw [la]; exact Nat.lt_of_lt_of_le (hz i hi) (by decide), ?_, ?_, acc ++ [y], upd_same, ?_⟩
        · rw [rem_upd]; exact R4.1
        · have := back (e3.trans e4)
          intro a o ha
          have hne : a ≠ D := fun z => by
            rw [z] at ha
            rw [(cut_some ha).2] at nD
            cases nD
          have q1 := this a o ha
          rw [cut_out (cut_some ha).1] at q1 ⊢
          rw [upd_ne hne]
          exact q1
        · rw [cut_upd_in List.mem_cons_self, eo]
          exact dpa_app (dpa_ex (e3.trans e4) _ _ hacc') (.cons d4 .nil)
      | false =>
        rw [if_neg Bool.false_ne_true]
        obtain ⟨eo, es⟩ := hb0 rfl
        refine ⟨by rw [es]; exact R3.1, back e3, acc, R3.2, ?_⟩
        rw [eo]
        exact dpa_ex e3 _ _ hacc'
    match ifs, hb with
    | [], hb =>
      obtain ⟨hbt, hs1⟩ := hb
      subst hbt
      exact fin H' (exId _) (by rw [hs1]; exact RD3)
    | [c], hb =>
      intro sh Hh C cl fp
      refine hb sh Hh C cl fp σ2 H' _ hσ2 RD3 fun H3 e3 R3 => ?_
      exact fin H3 e3 R3
    | _ :: _ :: _, hb => exact hb.elim
  · intro H' ⟨R', e', acc, hD, hacc⟩
    refine q D H' (e1.trans e') (g.up R' ex_rem) ?_ (.lst (by rw [cut_out hDM]; exact hD) (dpa_ex cut_cons _ _ hacc))
    cases z : cut M H D with
    | none => rfl
    | some o =>
      have := (cut_some (e1 _ _ z)).2
      rw [nD] at this
      cases this
theorem pts_w {X : Cx} {ifs : List Expr} {scope : Scope} : ∀ (sh : Shared) (Hh : Hp) (C : Addr) (cl : List (Str × Addr)) (fp : List Addr), PTs (Bk X scope sh Hh C cl fp) ifs (wbT X scope ifs) := by
  intro sh Hh C cl fp
  match ifs with
  | [] => exact pts_nil
  | [c] => exact pts_one ⟨fun pins s σ H Q I h => h sh Hh C cl fp pins s I⟩
  | _ :: _ :: _ => exact ⟨fun pins s σ H Q I h => h.elim⟩
/-- name = [..] -/
theorem st_lc (g : Rg M R) {i : Nat} {y : Str} {elt tg iter : Expr} {ifs : List Expr} {scope : Scope} {own : List (Str × Nat)} {pos spos py : Pos} {gt : TG} {n : Nat} {it : Nat → Sl} {ss : Nat → S} {outs : Nat → List PyData} {rest : List Stmt} {D : Ends} (hc : X.calm = true) (hN : X.N.Nodup) (hy : X.N[i]? = some y) (hyl : X.env.scope.names.lookup y = some .local)
    (hsw : swapsWith (.ListComp elt [⟨tg, iter, ifs, 0⟩] scope pos) (some (.Name y py)) spos.line X.env = pure true) (ok : BlkOk X.N X.env.scope scope own) (hg : ∀ sh Hh C cl fp, PG (Bk X scope sh Hh C cl fp) tg gt) (hi : EvI1 X M R ρ tg iter s n it (ss 0)) (h0 : outs 0 = []) (hz : ∀ i, i < n → (outs i).length < 100000)
    (hs : ∀ i, i < n → ∃ ρ', Tg1 X.K gt (own.map (·.2)) (wipeR ρ (own.map (·.2))) (it i) ρ' ∧ Lc1 X scope M R ρ' ifs elt (ss i) (outs i) (outs (i + 1)) (ss (i + 1))) (k : St1 X M R (ρ.set i (.dat (.list (outs n)))) rest (ss n) D)
    (hfs : ∀ x, foldedSetIterable iter X.env x = pure x := by intro _; rfl) : St1 X M R ρ (.Assign [.Name y py] (.ListComp elt [⟨tg, iter, ifs, 0⟩] scope pos) spos :: rest) s D := by
  intro σ H hσ hR
  obtain ⟨wi, pwi, hwi⟩ := hi
  refine wB_cons (wS_of (ps_setLc (i := i) (te := wbE X scope elt) (tt := wbT X scope ifs) (g := gt) (own := own) hc hN hy hyl hsw pwi ok hg pts_w (fun sh Hh C cl fp => ⟨fun pins s σ H Q I h => h sh Hh C cl fp pins s I⟩) hfs) ?_)
  refine lcT g hwi h0 hz hs σ H _ hσ hR fun L H2 e2 R2 _ d2 => ?_
  exact k _ H2 (Slots.set d2 i (hσ.ex e2)) R2
/-- return [..], the list is new -/
theorem st_retLc (g : Rg M R) {elt tg iter : Expr} {ifs : List Expr} {scope : Scope} {own : List (Str × Nat)} {pos spos : Pos} {gt : TG} {n : Nat} {it : Nat → Sl} {ss : Nat → S} {outs : Nat → List PyData} {rest : List Stmt} {D : Ends} (hc : X.calm = true) (hN : X.N.Nodup)
    (ok : BlkOk X.N X.env.scope scope own) (hg : ∀ sh Hh C cl fp, PG (Bk X scope sh Hh C cl fp) tg gt) (hi : EvI1 X M R ρ tg iter s n it (ss 0)) (h0 : outs 0 = []) (hz : ∀ i, i < n → (outs i).length < 100000)
    (hs : ∀ i, i < n → ∃ ρ', Tg1 X.K gt (own.map (·.2)) (wipeR ρ (own.map (·.2))) (it i) ρ' ∧ Lc1 X scope M R ρ' ifs elt (ss i) (outs i) (outs (i + 1)) (ss (i + 1))) (k : ∀ L H H', R s H → cut M H L = none → R (ss n) H' → Sv X.K (cut M H') (.dat (.list (outs n))) (.ref L) → D.rt (.ref L) H')
    (hfs : ∀ x, foldedSetIterable iter X.env x = pure x := by intro _; rfl) : St1 X M R ρ (.Return (some (.ListComp elt [⟨tg, iter, ifs, 0⟩] scope pos)) spos :: rest) s D := by
  intro σ H hσ hR
  obtain ⟨wi, pwi, hwi⟩ := hi
  refine wB_cons (wS_of (ps_ret pe_w) (wE_of (pe_lc (te := wbE X scope elt) (tt := wbT X scope ifs) (g := gt) (own := own) hc hN pwi ok hg pts_w (fun sh Hh C cl fp => ⟨fun pins s σ H Q I h => h sh Hh C cl fp pins s I⟩) hfs) ?_))
  exact lcT g hwi h0 hz hs σ H _ hσ hR fun L H2 e2 R2 n2 d2 => k L H H2 hR n2 R2 d2
/-! the steps of a filter, of a map -/
theorem steps_filter {i : Nat} {c elt : Expr} {scope : Scope} {own : List (Str × Nat)} {ds : List PyData} (p : PyData → Bool) (f : PyData → PyData) (hm : i ∈ own.map (·.2))
    (ht : ∀ d, d ∈ ds → ∀ sh Hh C cl fp D acc, Rg (D :: M) (RD R D acc) → EvT1 (Bk X scope sh Hh C cl fp) (D :: M) (RD R D acc) ((wipeR ρ (own.map (·.2))).set i (.dat d)) c s (p d) s)
    (he : ∀ d, d ∈ ds → p d = true → ∀ sh Hh C cl fp D acc, Rg (D :: M) (RD R D acc) → Ev1 (Bk X scope sh Hh C cl fp) (D :: M) (RD R D acc) ((wipeR ρ (own.map (·.2))).set i (.dat d)) elt s (.dat (f d)) s) :
    ∀ j, j < ds.length → ∃ ρ', Tg1 X.K (gName i) (own.map (·.2)) (wipeR ρ (own.map (·.2))) (itD ds j) ρ' ∧ Lc1 X scope M R ρ' [c] elt s (((ds.take j).filter p).map f) (((ds.take (j + 1)).filter p).map f) s := by
  intro j hj
  have hd : ds[j]? = some ds[j] := List.getElem?_eq_getElem hj
  refine ⟨_, tg_name hm, fun D acc gD => ⟨p ds[j], s, fun sh Hh C cl fp => ?_, fun hp => ⟨f ds[j], ?_, fun sh Hh C cl fp => ?_⟩, fun hp => ⟨?_, rfl⟩⟩⟩
  · rw [itD_lt hd]
    exact ht _ (List.getElem_mem hj) sh Hh C cl fp D acc gD
  · rw [take_succ' hd, List.filter_append, List.filter_cons, if_pos hp, List.map_append]
    rfl
  · rw [itD_lt hd]
    exact he _ (List.getElem_mem hj) hp sh Hh C cl fp D acc gD
  · rw [take_succ' hd, List.filter_append, List.filter_cons, if_neg (by rw [hp]; exact Bool.false_ne_true), List.filter_nil, List.append_nil]
theorem steps_map {i : Nat} {elt : Expr} {scope : Scope} {own : List (Str × Nat)} {ds : List PyData} (f : PyData → PyData) (hm : i ∈ own.map (·.2))
    (he : ∀ d, d ∈ ds → ∀ sh Hh C cl fp D acc, Rg (D :: M) (RD R D acc) → Ev1 (Bk X scope sh Hh C cl fp) (D :: M) (RD R D acc) ((wipeR ρ (own.map (·.2))).set i (.dat d)) elt s (.dat (f d)) s) :
    ∀ j, j < ds.length → ∃ ρ', Tg1 X.K (gName i) (own.map (·.2)) (wipeR ρ (own.map (·.2))) (itD ds j) ρ' ∧ Lc1 X scope M R ρ' [] elt s ((ds.take j).map f) ((ds.take (j + 1)).map f) s := by
  intro j hj
  have hd : ds[j]? = some ds[j] := List.getElem?_eq_getElem hj
  refine ⟨_, tg_name hm, fun D acc gD => ⟨true, s, ⟨rfl, rfl⟩, fun _ => ⟨f ds[j], ?_, fun sh Hh C cl fp => ?_⟩, fun h => by cases h⟩⟩
  · rw [take_succ' hd, List.map_append]
    rfl
  · rw [itD_lt hd]
    exact he _ (List.getElem_mem hj) sh Hh C cl fp D acc gD
theorem len_filter (p : PyData → Bool) (f : PyData → PyData) {ds : List PyData} (h : ds.length ≤ 100000) : ∀ i, i < ds.length → (((ds.take i).filter p).map f).length < 100000 := fun i hi => by
  rw [List.length_map]
  have := List.length_filter_le p (ds.take i)
  rw [List.length_take] at this
  omega
theorem len_map (f : PyData → PyData) {ds : List PyData} (h : ds.length ≤ 100000) : ∀ i, i < ds.length → ((ds.take i).map f).length < 100000 := fun i hi => by
  rw [List.length_map, List.length_take]
  omega
end
/-! ### what is handed back is new -/
def spF (K : PySem.W.Frag) (G : List Sl → Sl → Prop) : Sp := fun vs H Q _ => ∃ (M : List Addr) (rs : List Sl) (r : Sl), (∀ a ∈ M, ∃ o, H a = some o) ∧ SvAll K (cut M H) rs vs ∧ G rs r ∧ ∀ v H', Ex H H' → Sv K (cut M H') r v → (∀ p, v = .ref p → H p = none) → Q v H'
/-- a datum that is no object -/
def bareD : PyData → Bool
  | .none | .bool _ | .int _ | .str _ => true
  | _ => false
theorem bare_v {K : PySem.W.Frag} {H : Hp} {d : PyData} {v : V} (h : Sv K H (.dat d) v) (b : bareD d = true) (p : Addr) : v ≠ .ref p := by
  intro e
  subst e
  cases (show Dv K H (.ref p) d from h) <;> cases b
theorem spF_of {K : PySem.W.Frag} {G : List Sl → Out → Prop} {G' : List Sl → Sl → Prop} (h : ∀ rs r, G' rs r → G rs (.ok r) ∧ ∃ d, r = .dat d ∧ bareD d = true) : ∀ vs H Q E, spF K G' vs H Q E → DV.spS K G vs H Q E := by
  rintro vs H Q E ⟨M, rs, r, dom, sv, g, q⟩
  obtain ⟨g', d, rfl, hb⟩ := h rs r g
  exact ⟨M, rs, _, dom, sv, g', fun v H' e s => q v H' e s fun p z => absurd z (bare_v s hb p)⟩
section
variable {P : Program} {w : World} {K : PySem.W.Frag} {mg : Str → Option Value} {base : Heap}
/-- what such a body is to show -/
def BodyF (P : Program) (w : World) (K : PySem.W.Frag) (mg : Str → Option Value) (base : Heap) (N : List Str) (x : Str) (st : Stmt) (k : Nat) (rs : List Sl) (r : Sl) : Prop :=
  ∀ (f : Addr) (cdv : Value) (A : Around) (outer : List Env) (sh : Shared) (H : Hp) (E : XK) (M : List Addr) (R : Unit → Hp → Prop) (D : Ends), Room k (A.deeper (envOfC x (defScope st) sh.heap.objs.size f cdv)) → Rg M R → (∀ H1 p, R () H1 → H1 p = none → H p = none) → 
    (∀ v H', R () H' → Sv K (cut M H') r v → (∀ p, v = .ref p → H p = none) → D.rt v H') → St1 (dx P w K mg base N x st f cdv A outer sh H E) M R (ini N rs) (defBody st) () D
theorem Def.calF {x : Str} {st : Stmt} {ps N : List Str} {k : Nat} {G : List Sl → Sl → Prop} (d : Def K mg x st ps) (S : FnScope N ps (defScope st)) (len : ∀ rs r, G rs r → rs.length = ps.length) (hb : ∀ rs r, G rs r → BodyF P w K mg base N x st k rs r) : Cal P w K mg base x (k + 1) (spF K G) := by
  refine d.calW S (fun vs H Q E ⟨M, rs, r, _, sv, g, _⟩ => by rw [sv.len, len rs r g]) ?_
  rintro f cdv A outer sh H vs Q E hr ⟨M, rs, r, dom, sv, g, q⟩
  exact hb rs r g f cdv A outer sh H E M (fun _ H' => Ex H H') _ hr (rg_pure dom) (fun H1 p e n => by
    cases z : H p with
    | none => rfl
    | some o => rw [e _ _ z] at n; cases n) (fun v H' e s n => q v H' e s n) _ H (slots_ini sv) (exId _)
end
/-- in the cut heap: not there, so not there at all -/
theorem cut_fresh {K : PySem.W.Frag} {M : List Addr} {H H' : Hp} {p : Addr} {ds : List PyData} (n : cut M H p = none) (h : Sv K (cut M H') (.dat (.list ds)) (.ref p)) : H p = none := by
  obtain ⟨a, xs, e, ha, _⟩ := sv_lst h
  cases e
  have := (cut_some ha).1
  rw [cut_out this] at n
  exact n
end DV
namespace DV
open PySem PySem.Spec L2 Evl LamX NdefX
open PyProof.Rows hiding St cutD
/-! ### lists that change, within the state -/
structure ListIn {S : Type} (K : PySem.W.Frag) (M : List Addr) (R : S → Hp → Prop) (L : Addr) (get : S → List PyData) (put : S → List PyData → S) : Prop where
  mem : L ∈ M
  at_ : ∀ {s : S} {H : Hp}, R s H → ∃ xs, H L = some (.lst xs) ∧ DvAll K (cut M H) xs (get s)
  to : ∀ {s : S} {H : Hp} {ys : List V} {ds : List PyData}, R s H → DvAll K (cut M H) ys ds → R (put s ds) (upd H L (.lst ys))
theorem ListIn.rx {S : Type} {K : PySem.W.Frag} {M : List Addr} {R : S → Hp → Prop} {L : Addr} {get : S → List PyData} {put : S → List PyData → S} (h : ListIn K M R L get put) (H1 : Hp) : ListIn K M (RX R M H1) L get put :=
  ⟨h.mem, fun q => h.at_ q.1, fun q d => ⟨h.to q.1 d, by rw [cut_upd_in h.mem]; exact q.2⟩⟩
theorem cut_rem {M : List Addr} {H : Hp} {D : Addr} : cut M (rem D H) = cut (D :: M) H := by
  funext a
  by_cases m : a ∈ M
  · rw [cut_in m, cut_in (List.mem_cons_of_mem _ m)]
  · by_cases e : a = D
    · subst e
      rw [cut_out m, cut_in List.mem_cons_self, rem_self]
    · rw [cut_out m, cut_out (fun z => (List.mem_cons.mp z).elim e m), rem_ne e]
theorem ListIn.rd {S : Type} {K : PySem.W.Frag} {M : List Addr} {R : S → Hp → Prop} {L : Addr} {get : S → List PyData} {put : S → List PyData → S} (h : ListIn K M R L get put) (D : Addr) (acc : List V) : ListIn K (D :: M) (RD R D acc) L get put := by
  refine ⟨List.mem_cons_of_mem _ h.mem, fun {s H} ⟨q, d⟩ => ?_, fun {s H ys ds} ⟨q, d⟩ hd => ?_⟩
  · obtain ⟨xs, e, dx⟩ := h.at_ q
    rw [cut_rem] at dx
    exact ⟨xs, (rem_some e).2, dx⟩
  · obtain ⟨xs, e, _⟩ := h.at_ q
    have n : L ≠ D := (rem_some e).1
    refine ⟨?_, by rw [upd_ne n.symm]; exact d⟩
    have e2 : rem D (upd H L (.lst ys)) = upd (rem D H) L (.lst ys) := by
      funext a
      by_cases z : a = D
      · subst z
        rw [rem_self, upd_ne n.symm, rem_self]
      · by_cases y : a = L
        · subst y
          rw [rem_ne z, upd_same, upd_same]
        · rw [rem_ne z, upd_ne y, upd_ne y, rem_ne z]
    rw [e2]
    exact h.to q (by rw [cut_rem]; exact hd)
section
variable {S : Type} {X : Cx} {M : List Addr} {R : S → Hp → Prop} {ρ : List Sl} {s s1 s2 : S} {a b e o i : Expr} {rest : List Stmt} {px pos apos cpos ps : Pos} {D : Ends} {L : Addr} {get : S → List PyData} {put : S → List PyData → S}
theorem e_ixM {d : PyData} {k : Int} (I : ListIn X.K M R L get put) (ha : Ev1 X M R ρ a s (.raw (.ref L)) s1) (hb : Ev1 X M R ρ b s1 (.dat (.int k)) s2) (hi : atI (get s2) k = some d) (hs : PlainIx b := by exact fun _ _ => rfl) : Ev1 X M R ρ (.Subscript a b pos) s (.dat d) s2 := by
  intro σ H Q hσ hR q
  refine wE_of (pe_ix ix_list pe_w pe_w hs) ?_
  refine ha σ H _ hσ hR fun x H1 e1 R1 d1 => ?_
  refine hb σ H1 _ (hσ.ex e1) R1 fun y H2 e2 R2 d2 => ?_
  have d1 : x = .ref L := d1
  subst d1
  obtain ⟨xs, hL, hd⟩ := I.at_ R2
  obtain ⟨v, hv, dv⟩ := atI_dv hd hi
  exact ⟨L, xs, k, v, rfl, sv_int d2, sq_of hL, hv, q v H2 (e1.trans e2) R2 dv⟩
/-- o.append(e) -/
theorem st_app {d : PyData} (I : ListIn X.K M R L get put) (ho : Ev1 X M R ρ o s (.raw (.ref L)) s1) (he : Ev1 X M R ρ e s1 (.dat d) s2) (hz : (get s2).length < 100000) (k : St1 X M R ρ rest (put s2 (get s2 ++ [d])) D) (hsw : swapsWith (.Call (.Attribute o "append" apos) [e] [] cpos) none pos.line X.env = pure false := by rfl)
    (hbase : attributeBase o "append" X.env (eval o X.env) = eval o X.env := by rfl)
    (hfew : ((backTo cpos (starEach [e] X.env)).all (fun x => !x.1) && (backToKw cpos (keywordEach [] X.env)).all (fun x => x.1.isSome) && decide ([e].length + ([] : List Keyword).length + (if ([] : List Keyword).isEmpty then 0 else 1) < 30)) = true := by rfl)
    (hline : (apos.endLine == cpos.line) = true := by rfl) (hs : starEach [e] X.env = (false, eval e X.env) :: starEach [] X.env := by rfl) (hplain : (backTo cpos (starEach [] X.env)).any (·.1) = false := by rfl) :
    St1 X M R ρ (.Expr (.Call (.Attribute o "append" apos) [e] [] cpos) pos :: rest) s D := by
  intro σ H hσ hR
  refine b_expr (wE_of (pe_bm PySem.F.plainAttrs_list PySem.F.slot_list_append PySem.F.type_list_append (mt_append : MtM _ _ _) pe_w pa_w hbase hfew hline hs hplain) ?_) hsw
  refine ho σ H _ hσ hR fun x H1 e1 R1 d1 => ?_
  have d1 : x = .ref L := d1
  subst d1
  obtain ⟨xs, hL, _⟩ := I.at_ R1
  refine ⟨.inl ⟨rfl, _, sq_of hL⟩, ?_⟩
  refine wA_of (pa_cons pe_w pa_nil hs) (he σ H1 _ (hσ.ex e1) R1 fun y H2 e2 R2 d2 => ?_)
  obtain ⟨xs2, hL2, hd2⟩ := I.at_ R2
  refine ⟨L, xs2, y, rfl, rfl, hL2, by rw [dpa_length hd2]; exact Nat.lt_of_lt_of_le hz (by decide), ?_⟩
  refine k σ _ ?_ (I.to R2 (dpa_app hd2 (.cons d2 .nil)))
  rw [cut_upd_in I.mem]
  exact hσ.ex (e1.trans e2)
theorem dpa_set {K : PySem.W.Frag} {H : Hp} {v : V} {d : PyData} (h : Dv K H v d) : ∀ {xs : List V} {ds : List PyData} (j : Nat), DvAll K H xs ds → DvAll K H (xs.set j v) (ds.set j d)
  | _, _, _, .nil => .nil
  | _, _, 0, .cons _ t => .cons h t
  | _, _, j + 1, .cons a t => .cons a (dpa_set h j t)
/-- o[i] = e -/
theorem st_setM {d : PyData} {k : Int} {j : Nat} {s3 : S} (I : ListIn X.K M R L get put) (he : Ev1 X M R ρ e s (.dat d) s1) (ho : Ev1 X M R ρ o s1 (.raw (.ref L)) s2) (hi : Ev1 X M R ρ i s2 (.dat (.int k)) s3) (hj : ixN (get s3).length k = some j) (hk : St1 X M R ρ rest (put s3 ((get s3).set j d)) D)
    (hs : swapsWithSole [.Subscript o i ps] e pos.line X.env = pure false := by rfl) (hw : swappedStores [.Subscript o i ps] e X.env = pure none := by rfl) (h1 : (assignEach [.Subscript o i ps] X.env).map (·.2) = [assign (.Subscript o i ps) X.env] := by rfl)
    (ha : ∀ v, assign (.Subscript o i ps) X.env v = (do
      let ov ← holding [v] (eval o X.env)
      let iv ← holding [v, ov] (eval i X.env)
      standAt ps
      holding [v, ov, iv] (setItem ov iv v)
      release [v, ov, iv] []) := by intro _; rfl) : St1 X M R ρ (.Assign [.Subscript o i ps] e pos :: rest) s D := by
  intro σ H hσ hR
  refine b_put ?_ hs hw h1 ha
  refine he σ H _ hσ hR fun x H1 e1 R1 d1 => ?_
  refine ho σ H1 _ (hσ.ex e1) R1 fun ov H2 e2 R2 d2 => ?_
  refine hi σ H2 _ (hσ.ex (e1.trans e2)) R2 fun iv H3 e3 R3 d3 => ?_
  have d2 : ov = .ref L := d2
  subst d2
  obtain ⟨xs, hL, hd⟩ := I.at_ R3
  refine ⟨L, xs, k, j, rfl, sv_int d3, hL, by rw [dpa_length hd]; exact hj, ?_⟩
  refine hk σ _ ?_ (I.to R3 (dpa_set (d1.ex (e2.trans e3)) j hd))
  rw [cut_upd_in I.mem]
  exact hσ.ex (e1.trans (e2.trans e3))
end
end DV
namespace DV
open PySem PySem.Spec L2 Evl LamX NdefX
open PyProof.Rows hiding St cutD
/-! ### a new list within the state -/
def RL {S : Type} (K : PySem.W.Frag) (M : List Addr) (R : S → Hp → Prop) (L : Addr) : S × List PyData → Hp → Prop := fun s H => R s.1 (rem L H) ∧ ∃ xs, H L = some (.lst xs) ∧ DvAll K (cut (L :: M) H) xs s.2
section
variable {S : Type} {K : PySem.W.Frag} {M : List Addr} {R : S → Hp → Prop} {L : Addr}
theorem RL.rg (g : Rg M R) : Rg (L :: M) (RL K M R L) := ⟨fun ⟨h, xs, e, d⟩ x => ⟨g.up h (rem_ex x), xs, x _ _ e, dpa_ex (exCut x) _ _ d⟩, fun ⟨h, xs, e, d⟩ m => by
  rcases List.mem_cons.mp m with z | m
  · subst z; exact ⟨_, e⟩
  · obtain ⟨o, q⟩ := g.dom h m
    exact ⟨o, (rem_some q).2⟩⟩
theorem RL.list (g : Rg M R) : ListIn K (L :: M) (RL K M R L) L (fun s => s.2) (fun s d => (s.1, d)) :=
  ⟨List.mem_cons_self, fun ⟨_, xs, e, d⟩ => ⟨xs, e, d⟩, fun {s H ys ds} ⟨h, _⟩ d => ⟨by rw [rem_upd]; exact h, ys, upd_same, by rw [cut_upd_in List.mem_cons_self]; exact d⟩⟩
theorem BoxIn.rl {b l : Addr} {get : S → Bx} {put : S → Bx → S} (h : BoxIn M R b l get put) : BoxIn (L :: M) (RL K M R L) b l (fun s => get s.1) (fun s t => (put s.1 t, s.2)) := by
  refine ⟨List.mem_cons_of_mem _ h.mb, List.mem_cons_of_mem _ h.ml, fun ⟨q, _⟩ => (h.at_ q).ex ex_rem, fun {s H H' st} ⟨q, xs, d, dx⟩ e bx => ?_⟩
  have b0 := h.at_ q
  have nb : b ≠ L := (rem_some b0.1).1
  have nl : l ≠ L := (rem_some b0.2).1
  have nD : L ∉ [b, l] := fun m => by
    rcases List.mem_cons.mp m with z | m
    · exact nb z.symm
    · rcases List.mem_cons.mp m with z | m
      · exact nl z.symm
      · cases m
  refine ⟨h.to q (fun a o ha => ?_) ⟨by rw [rem_ne nb]; exact bx.1, by rw [rem_ne nl]; exact bx.2⟩, xs, ?_, dpa_ex (ex_of_cut2 (List.mem_cons_of_mem _ h.mb) (List.mem_cons_of_mem _ h.ml) e) _ _ dx⟩
  · obtain ⟨n, ha⟩ := cut_some ha
    obtain ⟨nD, ha⟩ := rem_some ha
    have := e a o (by rw [cut_out n]; exact ha)
    rw [cut_out n] at this ⊢
    rw [rem_ne nD]
    exact this
  · have := e L _ (by rw [cut_out nD]; exact d)
    rw [cut_out nD] at this
    exact this
theorem ListIn.rl {L2 : Addr} {get : S → List PyData} {put : S → List PyData → S} (h : ListIn K M R L2 get put) : ListIn K (L :: M) (RL K M R L) L2 (fun s => get s.1) (fun s d => (put s.1 d, s.2)) := by
  refine ⟨List.mem_cons_of_mem _ h.mem, fun {s H} ⟨q, _⟩ => ?_, fun {s H ys ds} ⟨q, xs, d, dx⟩ hd => ?_⟩
  · obtain ⟨xs, e, dx⟩ := h.at_ q
    rw [cut_rem] at dx
    exact ⟨xs, (rem_some e).2, dx⟩
  · obtain ⟨us, e, _⟩ := h.at_ q
    have n : L2 ≠ L := (rem_some e).1
    have e2 : rem L (upd H L2 (.lst ys)) = upd (rem L H) L2 (.lst ys) := by
      funext a
      by_cases z : a = L
      · subst z
        rw [rem_self, upd_ne n.symm, rem_self]
      · by_cases y : a = L2
        · subst y
          rw [rem_ne z, upd_same, upd_same]
        · rw [rem_ne z, upd_ne y, upd_ne y, rem_ne z]
    refine ⟨?_, xs, by rw [upd_ne n.symm]; exact d, by rw [cut_upd_in (List.mem_cons_of_mem _ h.mem)]; exact dx⟩
    show R (put s.1 ds) (rem L (upd H L2 (.lst ys)))
    rw [e2]
    exact h.to q (by rw [cut_rem]; exact hd)
/-- as a datum, when it changes no more -/
theorem RL.dat (g : Rg M R) {s : S} {ds : List PyData} {H : Hp} (h : RL K M R L (s, ds) H) : R s H ∧ Sv K (cut M H) (.dat (.list ds)) (.ref L) := by
  obtain ⟨q, xs, e, d⟩ := h
  have n : L ∉ M := fun m => by
    obtain ⟨o, z⟩ := g.dom q m
    rw [rem_self] at z
    cases z
  exact ⟨g.up q ex_rem, .lst (by rw [cut_out n]; exact e) (dpa_ex cut_cons _ _ d)⟩
end
/-- a new list -/
def EvF1 {S : Type} (X : Cx) (M : List Addr) (R : S → Hp → Prop) (ρ : List Sl) (e : Expr) (s : S) (ds : List PyData) (s' : S) : Prop :=
  ∀ σ H (Q : VK), Slots X.K (cut M H) σ ρ → R s H → (∀ L H2, Ex (cut M H) (cut (L :: M) H2) → RL X.K M R L (s', ds) H2 → Q (.ref L) H2) → wE X e σ H Q
section
variable {S : Type} {X : Cx} {M : List Addr} {R : S → Hp → Prop} {ρ : List Sl} {s s1 s2 : S} {e a b : Expr} {es : List Expr} {px pos : Pos} {rest : List Stmt} {D : Ends}
theorem new_RL {H : Hp} {p : Addr} {xs : List V} {ds : List PyData} (hR : R s H) (n : H p = none) (h : DvAll X.K (cut M H) xs ds) : Ex (cut M H) (cut (p :: M) (upd H p (.lst xs))) ∧ RL X.K M R p (s, ds) (upd H p (.lst xs)) := by
  have e : cut (p :: M) (upd H p (.lst xs)) = cut M H := by rw [cut_upd_in List.mem_cons_self, cut_cons_none n]
  refine ⟨by rw [e]; exact exId _, by rw [rem_upd, rem_free n]; exact hR, xs, upd_same, by rw [e]; exact h⟩
theorem f_lst {ds : List PyData} (h : EvA1 X M R ρ es s (dats ds) s1) (hz : ds.length ≤ 100000) : EvF1 X M R ρ (.List es pos) s ds s1 := by
  intro σ H Q hσ hR q
  refine wE_of (pe_lst pa_w) ?_
  refine h σ H _ hσ hR fun vs H1 e1 R1 d1 => ?_
  have d := svall_dats d1
  refine ⟨by rw [dpa_length d]; exact upd_sz hz, fun p n => ?_⟩
  obtain ⟨e2, r2⟩ := new_RL R1 n d
  exact q p _ (e1.trans e2) r2
theorem f_rep {ds : List PyData} {k : Int} (hk : k < 2 ^ 63) (h0 : -(2 ^ 63) ≤ k) (hz : ds.length * k.toNat ≤ 100000) (ha : Ev1 X M R ρ a s (.dat (.list ds)) s1) (hb : Ev1 X M R ρ b s1 (.dat (.int k)) s2) : EvF1 X M R ρ (.BinOp a .Mult b pos) s (List.replicate k.toNat ds).flatten s2 := by
  intro σ H Q hσ hR q
  refine wE_of (pe_op op_rep pe_w pe_w) ?_
  refine ha σ H _ hσ hR fun x H1 e1 R1 d1 => ?_
  refine hb σ H1 _ (hσ.ex e1) R1 fun y H2 e2 R2 d2 => ?_
  obtain ⟨p, xs, rfl, hp, hd⟩ := sv_lst (d1.ex e2)
  refine ⟨p, k, xs, rfl, sv_int d2, ex_cut _ _ hp, h0, hk, by rw [dpa_length hd]; exact upd_sz hz, fun p n => ?_⟩
  obtain ⟨e3, r3⟩ := new_RL R2 n (dpa_rep hd k.toNat)
  exact q p _ (e1.trans (e2.trans e3)) r3
theorem f_listL {ds : List PyData} (hg : Gl X "list") (hm : X.mg "list" = none) (ha : EvA1 X M R ρ [e] s [(.dat (.list ds))] s1) (he : starEach [e] X.env = (false, eval e X.env) :: starEach [] X.env := by rfl) (hpl : (backTo pos (starEach [] X.env)).any (·.1) = false := by rfl) : EvF1 X M R ρ (.Call (.Name "list" px) [e] [] pos) s ds s1 := by
  intro σ H Q hσ hR q
  refine wE_of (pe_callTy call_list_of hg hm (by decide +kernel) pa_w (by decide) (by decide) he hpl) ?_
  refine ha σ H _ hσ hR fun vs H1 e1 R1 d1 => ?_
  obtain ⟨v, hv, h1⟩ := svall1 d1
  subst hv
  obtain ⟨p, xs, rfl, hp, hd⟩ := sv_lst h1
  refine ⟨p, xs, rfl, .inl (sq_of (ex_cut _ _ hp)), fun l n => ?_⟩
  obtain ⟨e2, r2⟩ := new_RL R1 n hd
  exact q l _ (e1.trans e2) r2
/-- x = a new list, which goes into the state -/
theorem st_newL (i : Nat) {x : Str} {ds : List PyData} (hN : X.N.Nodup) (hi : X.N[i]? = some x) (hx : Loc X.env.scope x) (he : EvF1 X M R ρ e s ds s1) (k : ∀ L, St1 X (L :: M) (RL X.K M R L) (ρ.set i (.raw (.ref L))) rest (s1, ds) D)
    (hs : swapsWith e (some (.Name x px)) pos.line X.env = pure false := by rfl) (hf : X.fn x = true ∨ X.env.scope.names.lookup x = some .local := by first | exact .inl rfl | exact .inr rfl) : St1 X M R ρ (.Assign [.Name x px] e pos :: rest) s D := by
  intro σ H hσ hR
  refine wB_cons (wS_of (ps_set (i := i) hN hi hx pe_w hs hf) ?_)
  exact he σ H _ hσ hR fun L H2 e2 r2 => k L _ H2 (Slots.set (r := .raw (.ref L)) (v := .ref L) rfl i (hσ.ex e2)) r2
theorem lcF (g : Rg M R) {elt : Expr} {ifs : List Expr} {scope : Scope} {own : List (Str × Nat)} {gt : TG} {n : Nat} {it : Nat → Sl} {ss : Nat → S} {outs : Nat → List PyData} {wi : TI}
    (hwi : ∀ σ H (k : It → Hp → Prop), Slots X.K (cut M H) σ ρ → R s H → (∀ J H1, Ex (cut M H) (cut M H1) → R (ss 0) H1 → Src X.K M J n it H1 → k J H1) → wi σ H k) (h0 : outs 0 = []) (hz : ∀ i, i < n → (outs i).length < 100000)
    (hs : ∀ i, i < n → ∃ ρ', Tg1 X.K gt (own.map (·.2)) (wipeR ρ (own.map (·.2))) (it i) ρ' ∧ Lc1 X scope M R ρ' ifs elt (ss i) (outs i) (outs (i + 1)) (ss (i + 1))) (σ : St) (H : Hp) (Q : VK) (hσ : Slots X.K (cut M H) σ ρ) (hR : R s H)
    (q : ∀ D H2, Ex (cut M H) (cut (D :: M) H2) → RL X.K M R D (ss n, outs n) H2 → Q (.ref D) H2) : tLc wi gt (wbT X scope ifs) (wbE X scope elt) (own.map (·.2)) σ H Q := by
  refine hwi σ H _ hσ hR fun J H1 e1 R1 hsrc D nD => ?_
  obtain ⟨G, hG, w⟩ := hsrc
  have hDM : D ∉ M := g.fresh R1 nD
  refine lc_it w (fun i H' => R (ss i) (rem D H') ∧ Ex (cut M H1) (cut M H') ∧ ∃ acc, H' D = some (.lst acc) ∧ DvAll X.K (cut (D :: M) H') acc (outs i)) ?_ (fun i H' _ ⟨_, e, _⟩ => hG H' e) ?_ ?_
  · refine ⟨by rw [rem_upd, rem_free nD]; exact R1, exCut (Ex.new nD), [], upd_same, ?_⟩
    rw [h0]
    exact .nil
  · intro i x H2 H' hi ⟨R2, e2, acc, hD, hacc⟩ hy
    obtain ⟨ρ', ht, hl⟩ := hs i hi
    have gD := RD.rg g D acc
    have RD2 : RD R D acc (ss i) H2 := ⟨R2, hD⟩
    obtain ⟨eH, sx⟩ := hy (D :: M) (cut_cons_none nD) (fun a m => gD.dom RD2 m) (ex_cut_back nD e2)
    have RD3 : RD R D acc (ss i) H' := gD.up RD2 eH
    have e12 : Ex (cut M H1) (cut M H') := e2.trans (exCut eH)
    have hσ' : Slots X.K (cut (D :: M) H') (wipe σ (own.map (·.2))) (wipeR ρ (own.map (·.2))) := by
      have := slots_wipe hσ (own.map (·.2))
      refine Slots.ex ?_ this
      have ee : Ex (cut M H) (cut (D :: M) H1) := by
        rw [cut_cons_none nD]
        exact e1
      exact ee.trans (ex_cut_back nD e12)
    refine ht (D :: M) _ H' x _ hσ' sx fun σ2 hσ2 hw2 => ?_
    refine ⟨hw2.trans wipe_wipe, ?_⟩
    have hacc' : DvAll X.K (cut (D :: M) H') acc (outs i) := dpa_ex (exCut eH) _ _ hacc
    obtain ⟨b, s1, hb, hb1, hb0⟩ := hl D acc gD
    have fin : ∀ H3, Ex (cut (D :: M) H') (cut (D :: M) H3) → RD R D acc s1 H3 → (if b = true then wbE X scope elt σ2 H3 fun y H4 => ∃ acc, H4 D = some (.lst acc) ∧ acc.length < sizeLine ∧
        (R (ss (i + 1)) (rem D (upd H4 D (.lst (acc ++ [y])))) ∧ Ex (cut M H1) (cut M (upd H4 D (.lst (acc ++ [y])))) ∧ ∃ acc', upd H4 D (.lst (acc ++ [y])) D = some (.lst acc') ∧ DvAll X.K (cut (D :: M) (upd H4 D (.lst (acc ++ [y])))) acc' (outs (i + 1)))
        else (R (ss (i + 1)) (rem D H3) ∧ Ex (cut M H1) (cut M H3) ∧ ∃ acc, H3 D = some (.lst acc) ∧ DvAll X.K (cut (D :: M) H3) acc (outs (i + 1)))) := by
      intro H3 e3 R3
      have back : ∀ {H5 : Hp}, Ex (cut (D :: M) H') (cut (D :: M) H5) → Ex (cut M H1) (cut M H5) := fun {H5} e a o ha => by
        have hne : a ≠ D := fun z => by
          rw [z] at ha
          rw [(cut_some ha).2] at nD
          cases nD
        have hM := (cut_some ha).1
        have q1 := e12 a o ha
        have n2 : a ∉ D :: M := fun z => (List.mem_cons.mp z).elim hne hM
        have q2 := e a o (by rw [cut_out n2]; rw [cut_out hM] at q1; exact q1)
        rw [cut_out hM]
        rw [cut_out n2] at q2
        exact q2
      cases b with
      | true =>
        rw [if_pos rfl]
        obtain ⟨d, eo, he⟩ := hb1 rfl
        intro sh Hh C cl fp
        refine he sh Hh C cl fp σ2 H3 _ (hσ2.ex e3) R3 fun y H4 e4 R4 d4 => ?_
        have la : acc.length = (outs i).length := dpa_length hacc
        refine ⟨acc, R4.2, by rw [la]; exact Nat.lt_of_lt_of_le (hz i hi) (by decide), ?_, ?_, acc ++ [y], upd_same, ?_⟩
        · rw [rem_upd]; exact R4.1
        · have := back (e3.trans e4)
          intro a o ha
          have hne : a ≠ D := fun z => by
            rw [z] at ha
            rw [(cut_some ha).2] at nD
            cases nD
          have q1 := this a o ha
          rw [cut_out (cut_some ha).1] at q1 ⊢
          rw [upd_ne hne]
          exact q1
        · rw [cut_upd_in List.mem_cons_self, eo]
          exact dpa_app (dpa_ex (e3.trans e4) _ _ hacc') (.cons d4 .nil)
      | false =>
        rw [if_neg Bool.false_ne_true]
        obtain ⟨eo, es⟩ := hb0 rfl
        refine ⟨by rw [es]; exact R3.1, back e3, acc, R3.2, ?_⟩
        rw [eo]
        exact dpa_ex e3 _ _ hacc'
    match ifs, hb with
    | [], hb =>
      obtain ⟨hbt, hs1⟩ := hb
      subst hbt
      exact fin H' (exId _) (by rw [hs1]; exact RD3)
    | [c], hb =>
      intro sh Hh C cl fp
      refine hb sh Hh C cl fp σ2 H' _ hσ2 RD3 fun H3 e3 R3 => ?_
      exact fin H3 e3 R3
    | _ :: _ :: _, hb => exact hb.elim
  · intro H' ⟨R', e', acc, hD, hacc⟩
    refine q D H' (e1.trans ?_) ⟨R', acc, hD, hacc⟩
    have := ex_cut_back nD e'
    rw [cut_cons_none nD] at this
    exact this
theorem f_lc (g : Rg M R) {elt tg iter : Expr} {ifs : List Expr} {scope : Scope} {own : List (Str × Nat)} {gt : TG} {n : Nat} {it : Nat → Sl} {ss : Nat → S} {outs : Nat → List PyData} (hc : X.calm = true) (hN : X.N.Nodup) (ok : BlkOk X.N X.env.scope scope own) (hg : ∀ sh Hh C cl fp, PG (Bk X scope sh Hh C cl fp) tg gt) (hi : EvI1 X M R ρ tg iter s n it (ss 0)) (h0 : outs 0 = []) (hz : ∀ i, i < n → (outs i).length < 100000)
    (hs : ∀ i, i < n → ∃ ρ', Tg1 X.K gt (own.map (·.2)) (wipeR ρ (own.map (·.2))) (it i) ρ' ∧ Lc1 X scope M R ρ' ifs elt (ss i) (outs i) (outs (i + 1)) (ss (i + 1))) (hfs : ∀ x, foldedSetIterable iter X.env x = pure x := by intro _; rfl) : EvF1 X M R ρ (.ListComp elt [⟨tg, iter, ifs, 0⟩] scope pos) s (outs n) (ss n) := by
  intro σ H Q hσ hR q
  obtain ⟨wi, pwi, hwi⟩ := hi
  refine wE_of (pe_lc (te := wbE X scope elt) (tt := wbT X scope ifs) (g := gt) (own := own) hc hN pwi ok hg pts_w (fun sh Hh C cl fp => ⟨fun pins s σ H Q I h => h sh Hh C cl fp pins s I⟩) hfs) ?_
  exact lcF g hwi h0 hz hs σ H _ hσ hR q
end
end DV
namespace DV
open PySem PySem.Spec L2 Evl LamX NdefX
open PyProof.Rows hiding St cutD
section
variable {S : Type} {X : Cx} {M : List Addr} {R : S → Hp → Prop} {ρ : List Sl} {s s1 s2 s3 : S} {e o ix : Expr} {rest : List Stmt} {px pt ps pos : Pos} {D : Ends} {L : Addr} {get : S → List PyData} {put : S → List PyData → S}
/-- x, o[i] = e -/
theorem st_nmIx {i kt : Nat} {x : Str} {d1 d2 : PyData} {k : Int} {j : Nat} (I : ListIn X.K M R L get put) (hc : X.calm = true) (gn : PG X (.Name x px) (gName i)) (he : Ev1 X M R ρ e s (.dat (.tuple [d1, d2])) s1) (ho : Ev1 X M R (ρ.set i (.dat d1)) o s1 (.raw (.ref L)) s2) (hi : Ev1 X M R (ρ.set i (.dat d1)) ix s2 (.dat (.int k)) s3)
    (hj : ixN (get s3).length k = some j) (hk : St1 X M R (ρ.set i (.dat d1)) rest (put s3 ((get s3).set j d2)) D)
    (ha : ∀ v, assign (.Subscript o ix ps) X.env v = (do
      let ov ← holding [v] (eval o X.env)
      let iv ← holding [v, ov] (eval ix X.env)
      standAt ps
      holding [v, ov, iv] (setItem ov iv v)
      release [v, ov, iv] []) := by intro _; rfl)
    (hn : (assignEach [.Name x px, .Subscript o ix ps] X.env).length = 2 := by rfl) (hst : (assignEach [.Name x px, .Subscript o ix ps] X.env).findIdx? (·.1) = none := by rfl)
    (hs : swapsWithSole [.Tuple [.Name x px, .Subscript o ix ps] kt pt] e pos.line X.env = pure false := by rfl) (hw : swappedStores [.Tuple [.Name x px, .Subscript o ix ps] kt pt] e X.env = pure none := by rfl)
    (h1 : (assignEach [.Tuple [.Name x px, .Subscript o ix ps] kt pt] X.env).map (·.2) = [assign (.Tuple [.Name x px, .Subscript o ix ps] kt pt) X.env] := by rfl)
    (hp1 : ∀ {t u}, PG X (.Name x px) t → PGs X [.Subscript o ix ps] u → PGs X [.Name x px, .Subscript o ix ps] (gCons t u) := by exact fun a b => pgs_cons a b) (hp2 : ∀ {t u}, PG X (.Subscript o ix ps) t → PGs X [] u → PGs X [.Subscript o ix ps] (gCons t u) := by exact fun a b => pgs_cons a b) :
    St1 X M R ρ (.Assign [.Tuple [.Name x px, .Subscript o ix ps] kt pt] e pos :: rest) s D := by
  intro σ H hσ hR
  refine wB_cons (wS_of (ps_asg pe_w (pg_tup hc (hp1 gn (hp2 (pg_sub pe_w pe_w set_list ha) pgs_nil)) hn hst) hs hw h1) ?_)
  refine he σ H _ hσ hR fun v H1 e1 R1 dv => ?_
  obtain ⟨T, xs, rfl, hq, hd⟩ := sv_tup dv
  cases hd with
  | cons a b =>
    cases b with
    | cons b c =>
      cases c
      rename_i x1 x2
      refine ⟨T, [x1, x2], rfl, ex_t ex_cut hq, rfl, x1, [x2], rfl, ?_⟩
      show ∃ v r, _
      refine ⟨x2, [], rfl, ?_⟩
      have hσ1 := Slots.set (r := .dat d1) a i (hσ.ex e1)
      refine ho _ H1 _ hσ1 R1 fun ov H2 e2 R2 dd2 => ?_
      refine hi _ H2 _ (hσ1.ex e2) R2 fun iv H3 e3 R3 dd3 => ?_
      have dd2 : ov = .ref L := dd2
      subst dd2
      obtain ⟨ys, hL, hyd⟩ := I.at_ R3
      refine ⟨L, ys, k, j, rfl, sv_int dd3, hL, by rw [dpa_length hyd]; exact hj, rfl, ?_⟩
      refine hk _ _ ?_ (I.to R3 (dpa_set (dp_ex (e2.trans e3) _ _ b) j hyd))
      rw [cut_upd_in I.mem]
      exact hσ1.ex (e2.trans e3)
end
end DV
namespace DV
open PySem PySem.Spec L2 Evl LamX NdefX
open PyProof.Rows hiding St cutD
theorem Slots.reset {K : PySem.W.Frag} {H : Hp} {r : Sl} {o : Option V} (h : So K H r o) : ∀ {σ : St} {ρ : List Sl} (i : Nat), Slots K H σ ρ → σ[i]? = some o → Slots K H σ (ρ.set i r)
  | [], [], _, _, e => by simp at e
  | _ :: _, _ :: _, 0, ⟨_, b⟩, e => by
    have e : some _ = some o := e
    cases e
    exact ⟨h, b⟩
  | _ :: _, _ :: _, i + 1, ⟨a, b⟩, e => ⟨a, Slots.reset h i b (by simpa using e)⟩
  | [], _ :: _, _, q, _ => q.elim
  | _ :: _, [], _, q, _ => q.elim
section
variable {S : Type} {X : Cx} {M : List Addr} {R : S → Hp → Prop} {ρ : List Sl} {s s1 s2 : S} {c a b o e : Expr} {body rest : List Stmt} {px pos apos cpos : Pos} {D : Ends} {L : Addr} {get : S → List PyData} {put : S → List PyData → S}
theorem st_while (J : Nat → List Sl → S → Prop) (hp : PassesOwn (model X.prog X.w) X.A X.env X.xe) (h0 : ∃ m, J m ρ s)
    (hs : ∀ m ρi si, J m ρi si → ∃ k si', EvT1 X M R ρi c si k si' ∧ (k = true → ∀ (N : St → Hp → Prop), (∀ σ H m' ρ2 s2, m' < m → J m' ρ2 s2 → Slots X.K (cut M H) σ ρ2 → R s2 H → N σ H) → St1 X M R ρi body si' { D with nx := N, ct := N, bk := wB X rest D }) ∧ (k = false → St1 X M R ρi rest si' D)) :
    St1 X M R ρ (.While c body [] pos :: rest) s D := by
  intro σ H hσ hR
  refine wB_cons (wS_of (ps_while hp pt_w pss_w) ?_)
  obtain ⟨m0, j0⟩ := h0
  refine ⟨fun m σ H => ∃ ρi si, J m ρi si ∧ Slots X.K (cut M H) σ ρi ∧ R si H, ⟨m0, ρ, s, j0, hσ, hR⟩, ?_⟩
  rintro m σ1 H1 ⟨ρi, si, hJ, hσ1, hR1⟩
  obtain ⟨k, si', ht, h1, h2⟩ := hs m ρi si hJ
  refine ht σ1 H1 _ hσ1 hR1 fun H2 e2 R2 => ?_
  cases k with
  | true =>
    rw [if_pos rfl]
    refine ⟨fun σ' H' => ∃ m', m' < m ∧ ∃ ρ2 s2, J m' ρ2 s2 ∧ Slots X.K (cut M H') σ' ρ2 ∧ R s2 H', fun σ' H' ⟨m', l, x⟩ => ⟨m', l, x⟩, ?_⟩
    exact h1 rfl _ (fun σ H m' ρ2 s2 l j a b => ⟨m', l, ρ2, s2, j, a, b⟩) σ1 H2 (hσ1.ex e2) R2
  | false =>
    rw [if_neg Bool.false_ne_true]
    exact h2 rfl σ1 H2 (hσ1.ex e2) R2
theorem ListIn.dv {K : PySem.W.Frag} (I : ListIn K M R L get put) {H : Hp} (h : R s H) : Dv K H (.ref L) (.list (get s)) := by
  obtain ⟨xs, e, d⟩ := I.at_ h
  exact .lst e (dpa_ex ex_cut _ _ d)
/-- a list that changes, != a datum -/
theorem t_neM {d : PyData} (hu : X.A.units + 64 < cLine) (I : ListIn X.K M R L get put) (ha : Ev1 X M R ρ a s (.raw (.ref L)) s1) (hb : Ev1 X M R ρ b s1 (.dat d) s2) (z1 : SeqAt.shaped (.list (get s2)) = true) (z2 : SeqAt.shaped d = true) : EvT1 X M R ρ (.Compare a [.NotEq] [b] pos) s (!PyData.eqv (.list (get s2)) d) s2 :=
  t_cmp (op_neD hu) ha hb (fun x y H Q dx dy hR q => by
    have dx : x = .ref L := dx
    subst dx
    exact ⟨.list (get s2), d, dv_dp _ _ (I.dv hR), dv_dp _ _ (dp_ex ex_cut _ _ dy), z1, z2, q H (exId _) hR⟩) (nomark _)
theorem e_lenM (I : ListIn X.K M R L get put) (hg : Gl X "len") (hm : X.mg "len" = none) (ha : EvA1 X M R ρ [e] s [.raw (.ref L)] s1) (he : starEach [e] X.env = (false, eval e X.env) :: starEach [] X.env := by rfl)
    (hpl : (backTo pos (starEach [] X.env)).any (·.1) = false := by rfl) : Ev1 X M R ρ (.Call (.Name "len" px) [e] [] pos) s (.dat (.int (get s1).length)) s1 :=
  e_callB call_len_seq hg hm PySem.boot_len ha (fun vs H Q h hR q => by
    obtain ⟨v, hv, h1⟩ := svall1 h
    subst hv
    have h1 : v = .ref L := h1
    subst h1
    obtain ⟨xs, hL, hd⟩ := I.at_ hR
    refine ⟨L, xs, rfl, .inl (sq_of hL), ?_⟩
    rw [dpa_length hd]
    exact q _ H (exId _) hR (.int _)) (by decide) (by decide) he hpl
theorem dpa_erase {K : PySem.W.Frag} {H : Hp} : ∀ {xs : List V} {ds : List PyData} (j : Nat), DvAll K H xs ds → DvAll K H (xs.eraseIdx j) (ds.eraseIdx j)
  | _, _, _, .nil => .nil
  | _, _, 0, .cons _ t => t
  | _, _, j + 1, .cons a t => .cons a (dpa_erase j t)
/-- o.pop(e) -/
theorem e_popM {d : PyData} {k : Nat} (I : ListIn X.K M R L get put) (ho : Ev1 X M R ρ o s (.raw (.ref L)) s1) (he : Ev1 X M R ρ e s1 (.dat (.int (k : Nat))) s2) (hk : (get s2)[k]? = some d) (hb : k < 2 ^ 62)
    (hbase : attributeBase o "pop" X.env (eval o X.env) = eval o X.env := by rfl)
    (hfew : ((backTo cpos (starEach [e] X.env)).all (fun x => !x.1) && (backToKw cpos (keywordEach [] X.env)).all (fun x => x.1.isSome) && decide ([e].length + ([] : List Keyword).length + (if ([] : List Keyword).isEmpty then 0 else 1) < 30)) = true := by rfl)
    (hline : (apos.endLine == cpos.line) = true := by rfl) (hs : starEach [e] X.env = (false, eval e X.env) :: starEach [] X.env := by rfl) (hplain : (backTo cpos (starEach [] X.env)).any (·.1) = false := by rfl) :
    Ev1 X M R ρ (.Call (.Attribute o "pop" apos) [e] [] cpos) s (.dat d) (put s2 ((get s2).eraseIdx k)) := by
  intro σ H Q hσ hR q
  refine wE_of (pe_bm PySem.F.plainAttrs_list PySem.F.slot_list_pop PySem.F.type_list_pop (mt_popAt : MtM _ _ _) pe_w pa_w hbase hfew hline hs hplain) ?_
  refine ho σ H _ hσ hR fun x H1 e1 R1 d1 => ?_
  have d1 : x = .ref L := d1
  subst d1
  obtain ⟨xs, hL, _⟩ := I.at_ R1
  refine ⟨.inl ⟨rfl, _, sq_of hL⟩, ?_⟩
  refine wA_of (pa_cons pe_w pa_nil hs) (he σ H1 _ (hσ.ex e1) R1 fun y H2 e2 R2 d2 => ?_)
  rw [sv_int d2]
  obtain ⟨ys, hL2, hd2⟩ := I.at_ R2
  obtain ⟨v, hv, dv⟩ := dpa_get' hd2 hk
  have hlt : k < ys.length := by
    by_cases z : k < ys.length
    · exact z
    · rw [List.getElem?_eq_none (by omega)] at hv; cases hv
  refine ⟨L, ys, k, k, v, rfl, rfl, hL2, by omega, by omega, seq_nat hlt, hv, ?_⟩
  have ec := cut_upd_in (H := H2) (o := .lst (ys.eraseIdx k)) I.mem
  refine q v _ ?_ (I.to R2 (dpa_erase k hd2)) ?_
  · rw [ec]; exact e1.trans e2
  · rw [ec]; exact dv
/-- a list that changes no more -/
theorem st_unL (g : Rg M R) {ds : List PyData} (i : Nat) (hi : ρ[i]? = some (.raw (.ref L))) (k : St1 X M R (ρ.set i (.dat (.list ds))) rest s D) : St1 X (L :: M) (RL X.K M R L) ρ rest (s, ds) D := by
  intro σ H hσ hR
  obtain ⟨R0, sv⟩ := RL.dat g hR
  have hσ2 : Slots X.K (cut M H) σ ρ := hσ.ex cut_cons
  obtain ⟨o, ho, z⟩ := hσ2.get hi
  have z : o = some (.ref L) := z
  subst z
  exact k σ H (hσ2.reset (.of sv) i ho) R0
/-- forgotten -/
theorem st_weak {ρ' : List Sl} (h : ∀ K H σ, Slots K H σ ρ → Slots K H σ ρ') (k : St1 X M R ρ' rest s D) : St1 X M R ρ rest s D := fun σ H hσ hR => k σ H (h _ _ _ hσ) hR
end
end DV
namespace DV
open PySem PySem.Spec L2 Evl LamX NdefX
open PyProof.Rows hiding St cutD
section
variable {S : Type} {X : Cx} {M : List Addr} {R : S → Hp → Prop} {ρ : List Sl} {s s1 s2 : S} {x : Str} {e o : Expr} {es : List Expr} {px apos cpos pos : Pos} {rs : List Sl} {j k : Nat}
/-- a call that hands back something new, as a datum -/
theorem e_callF (g : Rg M R) {G : List Sl → Sl → Prop} {r : Sl} (c : Cal X.prog X.w X.K X.mg X.base x k (spF X.K G)) (hr : Room j X.A) (hk : k ≤ j) (hg : Gl X x) (hG : G rs r) (ha : EvA1 X M R ρ (e :: es) s rs s1) (hdb : (x == ("__debug__" : Str)) = false := by decide)
    (he : starEach (e :: es) X.env = (false, eval e X.env) :: starEach es X.env := by rfl) (hpl : (backTo pos (starEach es X.env)).any (·.1) = false := by rfl) : Ev1 X M R ρ (.Call (.Name x px) (e :: es) [] pos) s r s1 := by
  intro σ H Q hσ hR q
  refine w_call c hr hk hg passL ha hσ hR (fun vs H1 e1 d1 R1 => ?_) hdb he hpl
  exact ⟨M, rs, r, fun a m => g.dom R1 m, d1, hG, fun v H' e2 d2 _ => q v H' (e1.trans (exCut e2)) (g.up R1 e2) d2⟩
end
theorem b_ifE {S : Type} {X : Cx} {M : List Addr} {R : S → Hp → Prop} {ρ : List Sl} {s s1 : S} {c : Expr} {x y rest : List Stmt} {pos : Pos} {D : Ends} {σ : St} {H : Hp} {k : Bool} (h : EvT1 X M R ρ c s k s1) (hσ : Slots X.K (cut M H) σ ρ) (hR : R s H)
    (q : ∀ H2, Ex (cut M H) (cut M H2) → R s1 H2 → if k = true then wB X x { D with nx := wB X rest D } σ H2 else wB X y { D with nx := wB X rest D } σ H2) : wB X (.If c x y pos :: rest) D σ H := b_if (h σ H _ hσ hR q)
/-- what is new may change -/
def Frame {S : Type} (M : List Addr) (R : S → Hp → Prop) : Prop := ∀ (st : S) (H1 H : Hp) (p : Addr) (xs ys : List V), R st H1 → H1 p = none → R st H → Ex (cut M H1) (cut M H) → p ∉ M → H p = some (.lst xs) → R st (upd H p (.lst ys))
theorem ex_upd {M : List Addr} {H0 H1 H : Hp} {p : Addr} {o : HO} (e0 : Ex (cut M H0) (cut M H1)) (n : H1 p = none) (e : Ex (cut M H1) (cut M H)) : Ex (cut M H0) (cut M (upd H p o)) := fun a u h => by
  have h1 := e0 a u h
  have h2 := e a u h1
  obtain ⟨nm, _⟩ := cut_some h
  have na : a ≠ p := fun z => by
    rw [z] at h1
    have := (cut_some h1).2
    rw [n] at this
    cases this
  rw [cut_out nm] at h2 ⊢
  rw [upd_ne na]
  exact h2
theorem Frame.rx {S : Type} {M : List Addr} {R : S → Hp → Prop} (h : Frame M R) (H0 : Hp) : Frame M (RX R M H0) := fun st H1 H p xs ys r1 n r e nm hp => ⟨h st H1 H p xs ys r1.1 n r.1 e nm hp, ex_upd r1.2 n e⟩
theorem frame_law {b l T : Addr} {q : Str} : Frame [b, l, T] (RLaw b l T q) := fun st H1 H p xs ys r1 n r e nm hp => by
  simp only [List.mem_cons, List.not_mem_nil, or_false, not_or] at nm
  obtain ⟨nb, nl, nT⟩ := nm
  refine ⟨⟨by rw [upd_ne (Ne.symm nb)]; exact r.1.1, by rw [upd_ne (Ne.symm nl)]; exact r.1.2⟩, ?_⟩
  obtain ⟨ps, h1, h2, h3⟩ := r.2
  refine ⟨ps, by rw [upd_ne (Ne.symm nT)]; exact h1, h2, fun pos cv hc => ?_⟩
  obtain ⟨c, e1, e2⟩ := h3 pos cv hc
  refine ⟨c, e1, ?_⟩
  have na : c ≠ p := fun z => by
    rw [z, hp] at e2
    unfold CodeO at e2
    cases e2
  rw [upd_ne na]
  exact e2
end DV
namespace DV
open PySem PySem.Spec L2 Evl LamX NdefX
open PyProof.Rows hiding St cutD
/-! sorted(xs, key=def, reverse=b) -/
def rSortedKR (K : PySem.W.Frag) (f : Addr) (i j : Nat) (b : Bool) : List V → List V → Hp → VK → Prop := fun vs zs H Q => ∃ (M : List Addr) (a : Addr) (xs : List V) (ds : List PyData), vs = [.ref a] ∧ zs = [.ref f, .bl b] ∧ SqL K H a xs ∧ DvAll K (cut M H) xs ds ∧ (∀ d ∈ ds, KeyOk i j d) ∧
  ∀ ys p, DvAll K (cut M H) ys (ds.mergeSort (PySem.W.dataLe b (keyD i j))) → H p = none → Q (.ref p) (upd H p (.lst ys))
theorem cr_sortedKR {X : Cx} {f : Addr} {i j : Nat} {b : Bool} (hr : Room 2 X.A) (F : KeyRunX X.prog X.w X.K X.mg f i j) : CallRK X (.builtin "sorted") [Str.ofString "key", Str.ofString "reverse"] (rSortedKR X.K f i j b) := by
  intro pins s σ H vs zs us ws Q I r rz h
  obtain ⟨M, a, xs, ds, rfl, rfl, hs, hd, hko, q⟩ := h
  obtain ⟨its, rv, hl, hz⟩ := I.list hs
  rw [Vals.ref1 r]
  cases rz with
  | cons r1 rz =>
  cases rz with
  | cons r2 rz =>
  cases rz
  cases r1
  obtain rfl := r2
  show wpAny _ _ (call _ [.ref a] [(Str.ofString "key", .ref f), (Str.ofString "reverse", .bool b)]) _ _ _
  have e := each_of rv hd
  have hlen : its.length = ds.length := e.length
  have hz' : ds.length ≤ sizeLine := by rw [← hlen, ← rv.length]; exact hz
  refine PySem.W.sorted_key_data (b := b) (keyD i j) hl.isList e (keys_alike hko) (keys_sortable hko) hz' (fun d hd => ?_) (PyProof.Rows.ksk_s2 _ _ _) (fun _ => PyProof.Rows.ksk_l2 _ _ _) (fun _ => PyProof.Rows.ksk_t2 _ _ _) (fun v d hvd hdm h tk kp => ?_) fun out c h' tk kp _ hD ho eo => ?_
  · obtain ⟨x, y, e⟩ := key_is (hko d hd)
    have := hr.units
    rw [e]
    show X.A.units + 2 + 1 < cLine
    omega
  · obtain ⟨T, it, x, y, tx, ty, rfl, hT, ek, s1, g1, s2, g2, b1, b2⟩ := key_item I (hko d hdm) hvd
    refine F _ _ T it i j (.int x tx) (.int y ty) _ _ (I.kIn.keeps kp) ((I.ok.mod.glob.keeps I.bk).keeps kp) (I.nolimit.keeps kp) (hr.in1.in1.depth) (hT.keeps kp) (by omega) (by omega) (by omega) (by omega) s1 g1 s2 g2 fun h'' tk' T' kp' _ hT' => ?_
    refine ⟨h'', tk', rfl, kp', ?_⟩
    obtain ⟨o, ho, hc, n, hdt⟩ := hT'
    rw [ek]
    exact Reads.tuple ho hc hdt (.cons (.int x tx) (.cons (.int y ty) .nil))
  · obtain ⟨ys, ry, dy⟩ := each_back eo
    have hly : ys.length ≤ sizeLine := by
      rw [dpa_length dy, List.length_mergeSort]
      exact hz'
    exact ⟨.ref _, upd H (s.heap.objs.size + 1) (.lst ys), I.laid (t' := tk) kp (Nat.le_succ _) ⟨hly, out, c, ry, hD⟩, rfl, q ys _ dy (I.hok.fresh (Nat.le_succ _))⟩
section
variable {S : Type} {X : Cx} {M : List Addr} {R : S → Hp → Prop} {ρ : List Sl} {s s1 s2 s3 : S} {e ke re : Expr} {px pos kp rp : Pos}
theorem e_sortedKR (g : Rg M R) {f : Addr} {i j : Nat} {b : Bool} {ds : List PyData} (hr : Room 2 X.A) (F : KeyRunX X.prog X.w X.K X.mg f i j) (hko : ∀ d ∈ ds, KeyOk i j d) (hg : Gl X "sorted") (hm : X.mg "sorted" = none) (ha : EvA1 X M R ρ [e] s [.dat (.list ds)] s1) (hk : Ev1 X M R ρ ke s1 (.raw (.ref f)) s2)
    (hb : Ev1 X M R ρ re s2 (.dat (.bool b)) s3)
    (he : backTo pos (starEach [e] X.env) = (false, eval e X.env) :: backTo pos (starEach [] X.env) := by rfl) (hpl : (backTo pos (starEach [e] X.env)).any (·.1) = false := by rfl)
    (hall : (backToKw pos (keywordEach [⟨some "key", ke, kp⟩, ⟨some "reverse", re, rp⟩] X.env)).all (·.1.isSome) = true := by rfl) (hnone : (backToKw pos (keywordEach [⟨some "key", ke, kp⟩, ⟨some "reverse", re, rp⟩] X.env)).any (·.1.isNone) = false := by rfl)
    (hks : (backToKw pos (keywordEach [⟨some "key", ke, kp⟩, ⟨some "reverse", re, rp⟩] X.env)).filterMap (·.1) = [("key" : Str), ("reverse" : Str)] := by rfl) :
    Ev1 X M R ρ (.Call (.Name "sorted" px) [e] [⟨some "key", ke, kp⟩, ⟨some "reverse", re, rp⟩] pos) s (.dat (.list (ds.mergeSort (PySem.W.dataLe b (keyD i j))))) s3 := by
  intro σ H Q hσ hR q
  refine wE_of (pe_callBK (cr_sortedKR (b := b) hr F) hg hm boot_sorted pa_w (pk_cons pe_w (pk_cons pe_w pk_nil)) (by decide) (by decide) he hpl hall hnone hks) ?_
  refine ha σ H _ hσ hR fun vs H1 e1 R1 d1 => ?_
  refine hk σ H1 _ (hσ.ex e1) R1 fun z H2 e2 R2 d2 => ?_
  refine hb σ H2 _ (hσ.ex (e1.trans e2)) R2 fun z2 H3 e3 R3 d3 => ?_
  obtain ⟨v, hv, h1⟩ := svall1 d1
  subst hv
  obtain ⟨p, xs, rfl, hp, hd⟩ := sv_lst (h1.ex (e2.trans e3))
  have hz : z = .ref f := d2
  subst hz
  rw [sv_bl d3]
  exact ⟨M, p, xs, ds, rfl, rfl, sq_of (ex_cut _ _ hp), hd, hko, fun ys p' hy n => new_lst g R3 n hy fun v H4 e4 R4 d4 => q v H4 (e1.trans (e2.trans (e3.trans e4))) R4 d4⟩
end
end DV
namespace DV
open PySem PySem.Spec L2 Evl LamX NdefX
open PyProof.Rows hiding St cutD
/-! a, *b, c = a list -/
def gStarL (K : PySem.W.Frag) (n i : Nat) (t : TGs) : TG := fun v σ H Q => ∃ a xs, v = .ref a ∧ SqL K H a xs ∧ i < n ∧ n ≤ xs.length + 1 ∧ xs.length ≤ 16384 ∧
  ∀ p, H p = none → t (xs.take i ++ [V.ref p] ++ (xs.drop i).drop (xs.length + 1 - n)) σ (upd H p (.lst ((xs.drop i).take (xs.length + 1 - n)))) Q
theorem vals_take : ∀ (n : Nat) {xs : List V} {us : List Value}, Vals xs us → Vals (xs.take n) (us.take n)
  | 0, _, _, _ => .nil
  | _ + 1, [], _, .nil => .nil
  | n + 1, _ :: _, _, .cons r t => .cons r (vals_take n t)
theorem vals_drop : ∀ (n : Nat) {xs : List V} {us : List Value}, Vals xs us → Vals (xs.drop n) (us.drop n)
  | 0, _, _, h => h
  | _ + 1, [], _, .nil => .nil
  | n + 1, _ :: _, _, .cons _ t => vals_drop n t
section
variable {X : Cx} {pos : Pos}
theorem pgs_star {e : Expr} {es : List Expr} {sp : Pos} {t : TG} {u : TGs} (h1 : PG X e t) (h2 : PGs X es u)
    (hs : (assignEach (.Starred e sp :: es) X.env).map (·.2) = assign e X.env :: (assignEach es X.env).map (·.2) := by rfl) : PGs X (.Starred e sp :: es) (gCons t u) := by
  refine ⟨fun pins s σ H vs us Q I r h => ?_⟩
  obtain ⟨v, vr, e1, h⟩ := h
  subst e1
  cases r with
  | cons r rr =>
    rw [hs]
    refine assignInOrder_cons (thn (h1.run pins s σ H _ _ _ I r h) fun _ s1 ⟨σ1, H1, I1, q1⟩ => ?_)
    exact h2.run pins s1 σ1 H1 _ _ Q I1 rr q1
theorem pg_starL {es : List Expr} {k : Nat} {t : TGs} {n i : Nat} (hc : X.calm = true) (h : PGs X es t)
    (hn : (assignEach es X.env).length = n := by rfl) (hst : (assignEach es X.env).findIdx? (·.1) = some i := by rfl) : PG X (.Tuple es k pos) (gStarL X.K n i t) := by
  refine ⟨fun pins s σ H v u Q I r hw => ?_⟩
  obtain ⟨a, xs, e1, hq, hi, hle, hz, hw⟩ := hw
  subst e1
  cases r
  obtain ⟨its, rv, pl, hz'⟩ := I.list hq
  have hl : s.heap.IsList a its.toArray := pl.isList
  have hlen : xs.length = its.length := rv.length
  have hsz : its.toArray.size = xs.length := by simp [hlen]
  have hlt : a ≠ s.heap.objs.size := by obtain ⟨o, ho, _⟩ := hl; exact Nat.ne_of_lt (Heap.lt_size ho)
  have hh := I.ok.hd hc
  rw [PyProof.Rows.assign_Tuple]
  refine wpAny_bind (wpAny_standAt ?_)
  unfold unpack
  rw [hn, hst]
  refine wpAny_bind (wpAny_holding ?_)
  unfold unpackItems
  refine wpAny_bind ?_
  unfold notIterableAtAll
  refine wpAny_bind (wpAny_specialOf hl.typeIs slot_list_iter.lookup ?_)
  refine wpAny_pure ?_
  simp only [Bool.false_eq_true, if_false]
  refine wpAny_bind (wpAny_holding (wpAny_pyIter_list hl ?_))
  refine wpAny_bind (wpAny_holding (PySem.W.kun_draw hlt i 0 _ _ ⟨_, Heap.get?_push_size _ rfl, rfl, rfl⟩ (hl.push _) (by omega) fun h₁ hit₁ hs₁ => ?_))
  have hl₁ : h₁.IsList a its.toArray := (hl.push _).extBut hs₁.extBut hlt
  rw [Nat.zero_add] at hit₁
  have hit₁' := hit₁
  obtain ⟨oi, hoi, _⟩ := hit₁'
  have hl₁' := hl₁
  obtain ⟨ol, hol, _⟩ := hl₁'
  rw [List.drop_zero]
  have hfl : (its.toArray.toList.take i).length = i := by rw [List.length_take, Array.length_toList]; omega
  rw [if_neg (show ¬ ((its.toArray.toList.take i).length < i) by rw [hfl]; omega)]
  refine wpAny_bind (wpAny_holding (PySem.W.kun_collect (s := { s with heap := h₁ }) (T := "list_iterator") (.inr (.inr (.inl rfl))) (Walks.list (A := X.A.in1) hh s.heap.objs.size a hlt its.toArray) (fun j u st => st.1.typeIs) (k := i) (by omega) ⟨hit₁, hl₁⟩ (Heap.lt_size hoi) (Heap.lt_size hol) (fun h₂ tk hk => ?_) (by rw [sizeLine_eq]; omega)))
  have hrl : (its.toArray.toList.drop i).length = its.toArray.size - i := by rw [List.length_drop, Array.length_toList]
  have hmid : (its.toArray.toList.drop i).length - (n - 1 - i) = xs.length + 1 - n := by rw [hrl]; omega
  show wpAny _ _ (if (its.toArray.toList.drop i).length < n - 1 - i then _ else _) _ _ _
  rw [if_neg (by rw [hrl]; omega)]
  show wpAny _ _ (newList ((its.toArray.toList.drop i).take ((its.toArray.toList.drop i).length - (n - 1 - i))) >>= fun d => pure (its.toArray.toList.take i ++ [d] ++ (its.toArray.toList.drop i).drop ((its.toArray.toList.drop i).length - (n - 1 - i)))) _ _ _
  rw [hmid]
  have he : Heap.ExtBut s.heap.objs.size s.heap h₂ := fun b o hb e => hk b o hb (hs₁.extBut b o hb (Heap.get?_push_of_some _ e))
  have I1 : Inv X pins σ H { s with heap := h₂, toks := tk } := I.kept (t' := tk) fun b o e => he b o (Nat.ne_of_lt (Heap.lt_size e)) e
  refine wpAny_bind (wpAny_newList ?_ (by rw [List.length_take, hrl, sizeLine_eq]; omega))
  have rm : Vals ((xs.drop i).take (xs.length + 1 - n)) ((its.toArray.toList.drop i).take (xs.length + 1 - n)) := vals_take _ (vals_drop _ (by simpa using rv))
  have I2 := I1.lnew (t' := tk) rm (by rw [List.length_take, List.length_drop, sizeLine_eq]; omega)
  refine wpAny_pure ?_
  refine h.run pins _ σ _ _ _ Q I2 ?_ (hw _ I1.fresh)
  have r1 : Vals (xs.take i) (its.toArray.toList.take i) := vals_take _ (by simpa using rv)
  have r3 : Vals ((xs.drop i).drop (xs.length + 1 - n)) ((its.toArray.toList.drop i).drop (xs.length + 1 - n)) := vals_drop _ (vals_drop _ (by simpa using rv))
  exact (r1.append (.cons (show RelV (.ref _) (.ref _) from rfl) .nil)).append r3
end
/-! names told one after another -/
def gNames : List Nat → TGs
  | [] => gNil
  | i :: is => gCons (gName i) (gNames is)
def setAll : List Sl → List Nat → List PyData → List Sl
  | ρ, i :: is, d :: ds => setAll (ρ.set i (.dat d)) is ds
  | ρ, _, _ => ρ
theorem names_run {K : PySem.W.Frag} {M : List Addr} {H : Hp} {Q : St → Hp → Prop} : ∀ {is : List Nat} {ds : List PyData} {xs : List V} {σ : St} {ρ : List Sl}, is.length = ds.length → DvAll K (cut M H) xs ds → Slots K (cut M H) σ ρ →
    (∀ σ2, Slots K (cut M H) σ2 (setAll ρ is ds) → Q σ2 H) → gNames is xs σ H Q
  | [], [], _, σ, ρ, _, .nil, hσ, q => ⟨rfl, q σ hσ⟩
  | [], _ :: _, _, _, _, hl, _, _, _ => by cases hl
  | _ :: _, [], _, _, _, hl, _, _, _ => by cases hl
  | i :: is, d :: ds, _, σ, ρ, hl, .cons h t, hσ, q => ⟨_, _, rfl, names_run (is := is) (ρ := ρ.set i (.dat d)) (by simpa using hl) t (Slots.set (r := .dat d) h i hσ) q⟩
/-- a target that may lay new objects -/
def Tg2 (K : PySem.W.Frag) (g : TG) (ρ : List Sl) (r : Sl) (ρ' : List Sl) : Prop :=
  ∀ (M : List Addr) (σ : St) (H : Hp) (v : V) (Q : St → Hp → Prop), (∀ a ∈ M, ∃ o, H a = some o) → Slots K (cut M H) σ ρ → Sv K (cut M H) r v → (∀ σ2 H2, Ex H H2 → Slots K (cut M H2) σ2 ρ' → Q σ2 H2) → g v σ H Q
theorem tg2_tup {K : PySem.W.Frag} {n : Nat} {is : List Nat} {ρ : List Sl} {ds : List PyData} (h1 : is.length = ds.length) (h2 : ds.length = n) : Tg2 K (gTup K n (gNames is)) ρ (.dat (.tuple ds)) (setAll ρ is ds) := fun M σ H v Q _ hσ hv q => by
  obtain ⟨a, xs, rfl, ha, hd⟩ := sv_tup hv
  exact ⟨a, xs, rfl, ex_t ex_cut ha, (dpa_length hd).trans h2, names_run h1 hd hσ fun σ2 h => q σ2 H (exId _) h⟩
theorem tg2_star {K : PySem.W.Frag} {n i : Nat} {is : List Nat} {ρ : List Sl} {ds : List PyData} (hl : is.length = n) (hi : i < n) (hle : n ≤ ds.length + 1) (hz : ds.length ≤ 16384) :
    Tg2 K (gStarL K n i (gNames is)) ρ (.dat (.list ds)) (setAll ρ is (ds.take i ++ [.list ((ds.drop i).take (ds.length + 1 - n))] ++ (ds.drop i).drop (ds.length + 1 - n))) := fun M σ H v Q dom hσ hv q => by
  obtain ⟨a, xs, rfl, ha, hd⟩ := sv_lst hv
  have ll := dpa_length hd
  refine ⟨a, xs, rfl, sq_of (ex_cut _ _ ha), hi, by omega, by omega, fun p np => ?_⟩
  have hp : p ∉ M := fun m => by
    obtain ⟨o, e⟩ := dom p m
    rw [np] at e
    cases e
  have e : Ex (cut M H) (cut M (upd H p (.lst ((xs.drop i).take (xs.length + 1 - n))))) := exCut (Ex.new np)
  rw [ll] at e ⊢
  refine names_run ?_ (dpa_app (dpa_app (dpa_ex e _ _ (dpa_take i hd)) (.cons (.lst (cut_upd hp) (dpa_ex e _ _ (dpa_take _ (dpa_drop _ hd)))) .nil)) (dpa_ex e _ _ (dpa_drop _ (dpa_drop _ hd)))) (hσ.ex e) fun σ2 h => q σ2 _ (Ex.new np) h
  rw [List.length_append, List.length_append, List.length_take, List.length_drop, List.length_drop]
  simp only [List.length_cons, List.length_nil]
  omega
section
variable {S : Type} {X : Cx} {M : List Addr} {R : S → Hp → Prop} {ρ ρ' : List Sl} {s s1 : S} {tg e : Expr} {rest : List Stmt} {pos : Pos} {D : Ends}
/-- target = e -/
theorem st_asg (g : Rg M R) {gt : TG} {r : Sl} (hg : PG X tg gt) (ht : Tg2 X.K gt ρ r ρ') (he : Ev1 X M R ρ e s r s1) (k : St1 X M R ρ' rest s1 D)
    (hs : swapsWithSole [tg] e pos.line X.env = pure false := by rfl) (hw : swappedStores [tg] e X.env = pure none := by rfl)
    (h1 : (assignEach [tg] X.env).map (·.2) = [assign tg X.env] := by rfl) : St1 X M R ρ (.Assign [tg] e pos :: rest) s D := by
  intro σ H hσ hR
  refine wB_cons (wS_of (ps_asg pe_w hg hs hw h1) ?_)
  refine he σ H _ hσ hR fun v H1 e1 R1 d1 => ?_
  exact ht M σ H1 v _ (fun a m => g.dom R1 m) (hσ.ex e1) d1 fun σ2 H2 x2 hσ2 => k σ2 H2 hσ2 (g.up R1 x2)
end
/-! enumerate -/
section
variable {S : Type} {X : Cx} {M : List Addr} {R : S → Hp → Prop} {ρ : List Sl} {s s1 : S} {e : Expr} {px pos : Pos}
def cntD (n : Nat) : List PyData := (List.range n).map fun i : Nat => .int i
theorem i_enumL {elts : List Expr} {kk : Nat} {tpos : Pos} {ds : List PyData} (hg : Gl X "enumerate") (hm : X.mg "enumerate" = none) (h : EvA1 X M R ρ [e] s [.dat (.list ds)] s1) (hs : starEach [e] X.env = [(false, eval e X.env)] := by rfl) :
    EvI1 X M R ρ (.Tuple elts kk tpos) (.Call (.Name "enumerate" px) [e] [] pos) s (cntD ds.length).length (itZ (cntD ds.length) ds) s1 := by
  refine ⟨_, pi_enum hg hm pa_w hs, fun σ H k hσ hR q => ?_⟩
  refine h σ H _ hσ hR fun vs H1 e1 R1 d1 => ?_
  obtain ⟨v, rfl, dv⟩ := svall1 d1
  obtain ⟨a, xs, rfl, ha, hd⟩ := sv_lst dv
  have ll := dpa_length hd
  have lc : (cntD ds.length).length = xs.length := by unfold cntD; rw [List.length_map, List.length_range, ll]
  refine ⟨a, xs, rfl, sq_of (ex_cut _ _ ha), q _ H1 e1 R1 ⟨fun H => SqL X.K H a xs, fun H2 e2 => sq_of (ex_cut _ _ (e2 _ _ ha)), ?_⟩⟩
  rw [lc]
  refine Walk.mono (walk_enum (K := X.K) (a := a) (xs := xs)) (fun H h => h) fun i H2 x H' hi hG hy => ?_
  intro M' em dm e2
  obtain ⟨T, x', y', rfl, hT, rfl, f1, f2⟩ := hy
  have hTM : T ∉ M' := fun m => by
    obtain ⟨o, eo⟩ := dm T m
    rw [hT] at eo
    cases eo
  rw [← em] at hd
  obtain ⟨d2, g2, h2⟩ := dpa_get (dpa_ex e2 _ _ hd) f2
  have g1 : (cntD ds.length)[i]? = some (.int (i : Nat)) := by
    unfold cntD
    rw [List.getElem?_map, List.getElem?_range (by omega)]
    rfl
  have f1 : some (V.int (i : Nat)) = some x' := f1
  cases f1
  refine ⟨Ex.new hT, ?_⟩
  unfold itZ
  rw [g1, g2]
  have ee : Ex (cut M' H2) (cut M' (upd H2 T (.tup [V.int (i : Nat), y']))) := exCut (Ex.new hT)
  exact Dv.tup (st_of (cut_upd hTM)) (.cons (.int _) (.cons (dp_ex ee _ _ h2) .nil))
end
end DV
namespace DV
open PySem PySem.Spec L2 Evl LamX NdefX
open PyProof.Rows hiding St cutD
def dS (xs : List Str) : List PyData := xs.map .str
theorem dpa_strs {K : PySem.W.Frag} {H : Hp} : ∀ {vs : List V} {ns : List Str}, DvAll K H vs (dS ns) → vs = ns.map V.str
  | _, [], h => by cases h; rfl
  | _, n :: ns, h => by
    cases h with
    | cons r t =>
      cases r
      rw [dpa_strs t]
      rfl
theorem dpa_of_strs {K : PySem.W.Frag} {H : Hp} : ∀ (ns : List Str), DvAll K H (ns.map V.str) (dS ns)
  | [] => .nil
  | n :: ns => .cons (.str n) (dpa_of_strs ns)
section
variable {S : Type} {X : Cx} {M : List Addr} {R : S → Hp → Prop} {ρ : List Sl} {s s1 s2 s3 : S} {a b o e e' : Expr} {es : List Expr} {px pos apos cpos : Pos} {rs : List Sl}
theorem e_catS {x y : Str} (hz : x.length + y.length ≤ 100000) (ha : Ev1 X M R ρ a s (.dat (.str x)) s1) (hb : Ev1 X M R ρ b s1 (.dat (.str y)) s2) : Ev1 X M R ρ (.BinOp a .Add b pos) s (.dat (.str (x ++ y))) s2 :=
  e_op op_add_str ha hb fun u w H Q dx dy hR q => ⟨x, y, sv_str dx, sv_str dy, upd_sz hz, q _ H (exId _) hR (.str _)⟩
theorem boot_strT : bootBuiltins "str" = some (.type "str") := by decide +kernel
theorem e_strI {i : Int} (hz : i.natAbs.log2 < 1920) (hg : Gl X "str") (hm : X.mg "str" = none) (ha : EvA1 X M R ρ [e] s [(.dat (.int i))] s1) (he : starEach [e] X.env = (false, eval e X.env) :: starEach [] X.env := by rfl) (hpl : (backTo pos (starEach [] X.env)).any (·.1) = false := by rfl) :
    Ev1 X M R ρ (.Call (.Name "str" px) [e] [] pos) s (.dat (.str (toString i))) s1 :=
  e_callTy call_str_int hg hm boot_strT ha (fun vs H Q h hR q => by
    obtain ⟨v, rfl, h1⟩ := svall1 h
    exact ⟨i, by rw [sv_int h1], hz, q _ H (exId _) hR (.str _)⟩) (by decide) (by decide) he hpl
theorem e_intS {x : Str} {n : Int} (hn : PySem.intText? x = some n) (hz : x.length ≤ 640) (hg : Gl X "int") (hm : X.mg "int" = none) (ha : EvA1 X M R ρ [e] s [(.dat (.str x))] s1) (he : starEach [e] X.env = (false, eval e X.env) :: starEach [] X.env := by rfl) (hpl : (backTo pos (starEach [] X.env)).any (·.1) = false := by rfl) :
    Ev1 X M R ρ (.Call (.Name "int" px) [e] [] pos) s (.dat (.int n)) s1 :=
  e_callTy call_int_str hg hm (by decide +kernel) ha (fun vs H Q h hR q => by
    obtain ⟨v, rfl, h1⟩ := svall1 h
    exact ⟨x, n, by rw [sv_str h1], hn, hz, q _ H (exId _) hR (.int _)⟩) (by decide) (by decide) he hpl
theorem e_lenS {x : Str} (hz : x.length ≤ 100000) (hg : Gl X "len") (hm : X.mg "len" = none) (ha : EvA1 X M R ρ [e] s [(.dat (.str x))] s1) (he : starEach [e] X.env = (false, eval e X.env) :: starEach [] X.env := by rfl) (hpl : (backTo pos (starEach [] X.env)).any (·.1) = false := by rfl) : Ev1 X M R ρ (.Call (.Name "len" px) [e] [] pos) s (.dat (.int x.length)) s1 :=
  e_callB call_len hg hm PySem.boot_len ha (fun vs H Q h hR q => by
    obtain ⟨v, rfl, h1⟩ := svall1 h
    rw [sv_str h1]
    exact ⟨_, x.length, rfl, ⟨upd_sz hz, rfl⟩, q _ H (exId _) hR (.int _)⟩) (by decide) (by decide) he hpl
/-- text.m(e), of texts -/
theorem e_m1S {id : String} {name : Str} {r : V → List V → Hp → VK → Prop} {x : Str} {ra rc : Sl} (slot : Slot "str" name id) (ty : typeOf (.builtin id) = pure (.type "method_descriptor")) (rule : MtR X id r) (ho : Ev1 X M R ρ o s (.dat (.str x)) s1) (he : Ev1 X M R ρ e s1 ra s2)
    (hr : ∀ y H (Q : VK), Sv X.K (cut M H) ra y → R s2 H → (∀ v H2, Ex (cut M H) (cut M H2) → R s2 H2 → Sv X.K (cut M H2) rc v → Q v H2) → r (.str x) [y] H Q)
    (hs : starEach [e] X.env = [(false, eval e X.env)] := by rfl) (hbase : attributeBase o name X.env (eval o X.env) = eval o X.env := by rfl) (hline : (apos.endLine == pos.line) = true := by rfl) :
    Ev1 X M R ρ (.Call (.Attribute o name apos) [e] [] pos) s rc s2 := by
  intro σ H Q hσ hR q
  refine wE_of (pe_m1 slot ty rule pe_w pe_w hs hbase hline) ?_
  refine ho σ H _ hσ hR fun v H1 e1 R1 d1 => ?_
  rw [sv_str d1]
  refine ⟨⟨x, rfl⟩, ?_⟩
  refine he σ H1 _ (hσ.ex e1) R1 fun y H2 e2 R2 d2 => ?_
  exact hr y H2 Q d2 R2 fun v H3 e3 R3 d3 => q v H3 (e1.trans (e2.trans e3)) R3 d3
theorem e_m0S {id : String} {name : Str} {r : V → List V → Hp → VK → Prop} {x : Str} {rc : Sl} (slot : Slot "str" name id) (ty : typeOf (.builtin id) = pure (.type "method_descriptor")) (rule : MtR X id r) (ho : Ev1 X M R ρ o s (.dat (.str x)) s1)
    (hr : ∀ H (Q : VK), R s1 H → (∀ v H2, Ex (cut M H) (cut M H2) → R s1 H2 → Sv X.K (cut M H2) rc v → Q v H2) → r (.str x) [] H Q)
    (hbase : attributeBase o name X.env (eval o X.env) = eval o X.env := by rfl) (hline : (apos.endLine == pos.line) = true := by rfl) :
    Ev1 X M R ρ (.Call (.Attribute o name apos) [] [] pos) s rc s1 := by
  intro σ H Q hσ hR q
  refine wE_of (pe_m0 slot ty rule pe_w hbase hline) ?_
  refine ho σ H _ hσ hR fun v H1 e1 R1 d1 => ?_
  rw [sv_str d1]
  exact ⟨⟨x, rfl⟩, hr H1 Q R1 fun v H2 e2 R2 d2 => q v H2 (e1.trans e2) R2 d2⟩
theorem e_joinL {x : Str} {ys : List Str} (hz : (ys.map (·.length)).sum + ys.length * x.length ≤ 16777216) (ho : Ev1 X M R ρ o s (.dat (.str x)) s1) (he : Ev1 X M R ρ e s1 (.dat (.list (dS ys))) s2)
    (hs : starEach [e] X.env = [(false, eval e X.env)] := by rfl) (hbase : attributeBase o "join" X.env (eval o X.env) = eval o X.env := by rfl) (hline : (apos.endLine == pos.line) = true := by rfl) :
    Ev1 X M R ρ (.Call (.Attribute o "join" apos) [e] [] pos) s (.dat (.str (Txt.join x ys))) s2 :=
  e_m1S F.slot_str_join F.type_str_join mt_join ho he (fun y H Q hy hR q => by
    obtain ⟨p, xs, rfl, hp, hd⟩ := sv_lst hy
    rw [dpa_strs hd] at hp
    exact ⟨x, p, ys, rfl, rfl, .inl (sq_of (ex_cut _ _ hp)), hz, q _ H (exId _) hR (.str _)⟩) hs hbase hline
theorem e_splitS (g : Rg M R) {x y : Str} (hb : (y.length == 0) = false) (hz : x.length + 2 ≤ 100000) (ho : Ev1 X M R ρ o s (.dat (.str x)) s1) (he : Ev1 X M R ρ e s1 (.dat (.str y)) s2)
    (hs : starEach [e] X.env = [(false, eval e X.env)] := by rfl) (hbase : attributeBase o "split" X.env (eval o X.env) = eval o X.env := by rfl) (hline : (apos.endLine == pos.line) = true := by rfl) :
    Ev1 X M R ρ (.Call (.Attribute o "split" apos) [e] [] pos) s (.dat (.list (dS (Txt.split x y)))) s2 :=
  e_m1S F.slot_str_split F.type_str_split mt_split ho he (fun z H Q hy hR q => by
    rw [sv_str hy]
    exact ⟨x, y, rfl, rfl, hb, upd_sz hz, fun p n => new_lst g hR n (dpa_of_strs _) q⟩) hs hbase hline
theorem e_rmpre {x y : Str} (hz : x.length ≤ 100000) (ho : Ev1 X M R ρ o s (.dat (.str x)) s1) (he : Ev1 X M R ρ e s1 (.dat (.str y)) s2)
    (hs : starEach [e] X.env = [(false, eval e X.env)] := by rfl) (hbase : attributeBase o "removeprefix" X.env (eval o X.env) = eval o X.env := by rfl) (hline : (apos.endLine == pos.line) = true := by rfl) :
    Ev1 X M R ρ (.Call (.Attribute o "removeprefix" apos) [e] [] pos) s (.dat (.str (Txt.removeprefix x y))) s2 :=
  e_m1S F.slot_str_removeprefix F.type_str_removeprefix mt_removeprefix ho he (fun z H Q hy hR q => by
    rw [sv_str hy]
    exact ⟨x, y, rfl, rfl, upd_sz hz, q _ H (exId _) hR (.str _)⟩) hs hbase hline
theorem e_isdec {x : Str} (ho : Ev1 X M R ρ o s (.dat (.str x)) s1)
    (hbase : attributeBase o "isdecimal" X.env (eval o X.env) = eval o X.env := by rfl) (hline : (apos.endLine == pos.line) = true := by rfl) :
    Ev1 X M R ρ (.Call (.Attribute o "isdecimal" apos) [] [] pos) s (.dat (.bool (Txt.isdecimal x))) s1 :=
  e_m0S F.slot_str_isdecimal F.type_str_isdecimal mt_isdecimal ho (fun H Q hR q => ⟨x, rfl, rfl, trivial, q _ H (exId _) hR (.bl _)⟩) hbase hline
/-! a star in a display -/
theorem svall_append {K : PySem.W.Frag} {H : Hp} : ∀ {rs rs' : List Sl} {vs us : List V}, SvAll K H rs vs → SvAll K H rs' us → SvAll K H (rs ++ rs') (vs ++ us)
  | [], _, [], _, _, h => h
  | _ :: _, _, _ :: _, _, ⟨a, b⟩, h => ⟨a, svall_append b h⟩
  | [], _, _ :: _, _, h, _ => h.elim
  | _ :: _, _, [], _, h, _ => h.elim
theorem a_starT {ds : List PyData} {sp : Pos} (he : Ev1 X M R ρ e s (.dat (.tuple ds)) s1) (hr : EvA1 X M R ρ es s1 rs s2) (hs : starEach (.Starred e sp :: es) X.env = (true, eval e X.env) :: starEach es X.env := by rfl) :
    EvA1 X M R ρ (.Starred e sp :: es) s (dats ds ++ rs) s2 := by
  intro σ H Q hσ hR q
  refine wA_of (StX.pa_star pe_w pa_w hs) ?_
  refine he σ H _ hσ hR fun v H1 e1 R1 d1 => ?_
  obtain ⟨a, xs, rfl, ha, hd⟩ := sv_tup d1
  refine ⟨a, xs, rfl, .inl (ex_t ex_cut ha), ?_⟩
  refine hr σ H1 _ (hσ.ex e1) R1 fun vs H2 e2 R2 d2 => q _ H2 (e1.trans e2) R2 ?_
  exact svall_append (svall_of (dpa_ex e2 _ _ hd)) d2
end
end DV
/-! the texts of numbers -/
namespace NT
open PySem PySem.NumText TL
def nT (i : Int) : Str := Str.ofString (toString i)
def figs (i : Int) : List Nat := (Nat.toDigits 10 i.natAbs).map Char.toNat
theorem toS (i : Int) : (nT i).cps.toList = (if i < 0 then 45 :: figs i else figs i) := by
  cases i with
  | ofNat m =>
    rw [if_neg (show ¬ (Int.ofNat m < 0) from Int.not_lt.mpr (Int.natCast_nonneg m))]
    exact PySem.W.KIN.signs_num m
  | negSucc m =>
    rw [if_pos (by omega)]
    unfold nT figs
    rw [PyProof.Rows.signs_ofString]
    show (("-" : String) ++ Nat.repr (m + 1)).toList.map Char.toNat = _
    rw [String.toList_append, List.map_append, Nat.toList_repr]
    rfl
theorem figs_all (i : Int) : AllDigits (figs i) := by
  intro c hc
  obtain ⟨ch, hch, e⟩ := List.mem_map.mp hc
  have h := Nat.isDigit_of_mem_toDigits (b := 10) (by decide) (by decide) hch
  rw [← e]
  simp only [Char.isDigit, Bool.and_eq_true, decide_eq_true_eq] at h
  exact ⟨h.1, h.2⟩
theorem figs_ne (i : Int) : figs i ≠ [] := by
  intro e
  have e := List.map_eq_nil_iff.mp e
  have := PySem.W.KIN.val_back i.natAbs
  rw [e] at this
  have z : Nat.toDigits 10 i.natAbs = [] := e
  by_cases h : i.natAbs < 10
  · rw [Nat.toDigits_of_lt_base h] at z
    cases z
  · have t : Nat.toDigits 10 (i.natAbs / 10) ++ Nat.toDigits 10 (i.natAbs % 10) = Nat.toDigits 10 (10 * (i.natAbs / 10) + i.natAbs % 10) := Nat.toDigits_append_toDigits (by decide) (by omega) (Nat.mod_lt _ (by decide))
    rw [Nat.div_add_mod, z, Nat.toDigits_of_lt_base (Nat.mod_lt _ (by decide))] at t
    have := congrArg List.length t
    simp at this
theorem figs_len {i : Int} (h : i.natAbs < 10000) : (figs i).length ≤ 4 := by
  have e : (nT (i.natAbs : Int)).cps.toList = figs i := by
    rw [toS, if_neg (by omega)]
    unfold figs
    rfl
  have l := PyProof.Rows.toString_length_le (v := (i.natAbs : Int)) (by omega) (k := 4) (by decide) (by omega)
  have l : (nT (i.natAbs : Int)).length ≤ 4 := l
  rw [len_tl] at l
  have e' : tl (nT (i.natAbs : Int)) = figs i := e
  rw [e'] at l
  exact l
theorem val_figs (i : Int) : digitsVal (figs i) = i.natAbs := PySem.W.KIN.val_back _
theorem nT_len {i : Int} (h : i.natAbs < 10000) : (nT i).length ≤ 5 := by
  have l := figs_len h
  rw [len_tl]
  show (nT i).cps.toList.length ≤ 5
  rw [toS]
  split
  · rw [List.length_cons]; omega
  · omega
theorem nT_signs {i : Int} : ∀ c ∈ tl (nT i), c = 45 ∨ (48 ≤ c ∧ c ≤ 57) := by
  intro c hc
  have hc : c ∈ (nT i).cps.toList := hc
  rw [toS] at hc
  split at hc
  · rcases List.mem_cons.mp hc with h | h
    · exact .inl h
    · exact .inr (figs_all i c h)
  · exact .inr (figs_all i c hc)
theorem nT_no {i : Int} {k : Nat} (h : k < 45) : k ∉ tl (nT i) := fun hc => by
  rcases nT_signs k hc with e | e <;> omega
theorem nT_int {i : Int} (h : i.natAbs < 10000) : intText? (nT i) = some i := by
  have hl := nT_len h
  have e := toS i
  split at e
  · rename_i hi
    rw [intText_neg e (figs_all i) (figs_ne i) (by omega), val_figs]
    congr 1
    omega
  · rename_i hi
    have h1 : AllDigits (nT i).cps.toList := by rw [e]; exact figs_all i
    have h2 : (nT i).cps.toList ≠ [] := by rw [e]; exact figs_ne i
    rw [intText_digits h1 h2 (by omega), e, val_figs]
    congr 1
    omega
theorem dec_digit : ∀ c, 48 ≤ c → c ≤ 57 → Unicode.isDecimal c = true := by
  have key : ∀ c, c < 58 → 48 ≤ c → Unicode.isDecimal c = true := by decide +kernel
  exact fun c h1 h2 => key c (by omega) h1
theorem isdec_of {x : Str} (h : AllDigits (tl x)) (hne : tl x ≠ []) : Txt.isdecimal x = true := by
  show (decide (x.length > 0) && x.cps.all Unicode.isDecimal) = true
  rw [Bool.and_eq_true, decide_eq_true_eq]
  refine ⟨?_, ?_⟩
  · rw [len_tl]
    exact List.length_pos_iff.mpr hne
  · rw [← Array.all_toList, List.all_eq_true]
    exact fun c hc => dec_digit c (h c hc).1 (h c hc).2
theorem sub_pre {x : Str} : Builtin.Str.subAt x "-" 0 = match tl x with | c :: _ => c == 45 | [] => false := by
  have e : (("-" : Str).cps).toList = [45] := by decide +kernel
  have l : ("-" : Str).length = 1 := by decide +kernel
  show (x.cps.extract 0 (0 + ("-" : Str).length) == ("-" : Str).cps) = _
  rw [l]
  have h1 : (x.cps.extract 0 (0 + 1)).toList = (tl x).take 1 := by simp [tl]
  have h2 : (x.cps.extract 0 (0 + 1) == ("-" : Str).cps) = ((x.cps.extract 0 (0 + 1)).toList == (("-" : Str).cps).toList) := by
    rw [Bool.eq_iff_iff, beq_iff_eq, beq_iff_eq, Array.toList_inj]
  rw [h2, h1, e]
  cases h : tl x with
  | nil => rfl
  | cons c r =>
    show ((c :: List.take 0 r) == [45]) = (c == 45)
    rw [List.take_zero]
    rw [Bool.eq_iff_iff, beq_iff_eq, beq_iff_eq]
    simp
def cut45 : List Nat → List Nat
  | [] => []
  | c :: r => if c = 45 then r else c :: r
theorem rmp_tl (x : Str) : tl (Txt.removeprefix x "-") = cut45 (tl x) := by
  have l : ("-" : Str).length = 1 := by decide +kernel
  unfold Txt.removeprefix
  rw [sub_pre]
  cases h : tl x with
  | nil => exact h
  | cons c r =>
    show tl (Txt.affix x (if (c == 45) = true then some (("-" : Str).length, x.length) else none)) = if c = 45 then r else c :: r
    by_cases z : c = 45
    · subst z
      rw [if_pos (by decide), l, if_pos rfl]
      show tl (if (x.length - 1 == x.length) = true then x else Builtin.Str.strSub x 1 x.length) = r
      have hx : x.length = r.length + 1 := by rw [len_tl, h]; rfl
      rw [if_neg (by simp [hx]), tl_strSub_end, h]
      rfl
    · rw [if_neg (by simpa using z), if_neg z]
      exact h
theorem cut45_no {l : List Nat} (h : ∀ c ∈ l, c ≠ 45) : cut45 l = l := by
  cases l with
  | nil => rfl
  | cons c r => exact if_neg (h c (by simp))
theorem nT_rmp (i : Int) : tl (Txt.removeprefix (nT i) "-") = figs i := by
  rw [rmp_tl]
  have e : tl (nT i) = if i < 0 then 45 :: figs i else figs i := toS i
  rw [e]
  by_cases hi : i < 0
  · rw [if_pos hi]
    show (if (45 : Nat) = 45 then figs i else 45 :: figs i) = figs i
    exact if_pos rfl
  · rw [if_neg hi]
    exact cut45_no fun c hc z => by have := figs_all i c hc; omega
theorem nT_dec (i : Int) : Txt.isdecimal (Txt.removeprefix (nT i) "-") = true := isdec_of (by rw [nT_rmp]; exact figs_all i) (by rw [nT_rmp]; exact figs_ne i)
theorem nT_rlen {i : Int} (h : i.natAbs < 10000) : (Txt.removeprefix (nT i) "-").length ≤ 4 := by
  rw [len_tl, nT_rmp]
  exact figs_len h
/-! joined, split -/
theorem tl_blank : tl (" " : Str) = [32] := by decide +kernel
theorem tl_line : tl ("\n" : Str) = [10] := by decide +kernel
theorem k256 : (" " : Str).cps.all (· < 256) = true := by decide +kernel
theorem k256' : ("\n" : Str).cps.all (· < 256) = true := by decide +kernel
def wordsOf (l : List Str) : Str := Txt.join " " l
theorem words_back {l : List Str} (hne : l ≠ []) (h : ∀ p ∈ l, 32 ∉ tl p) : Txt.split (Txt.join " " l) " " = l := split_join tl_blank k256 hne h
theorem lines_back {l : List Str} (hne : l ≠ []) (h : ∀ p ∈ l, 10 ∉ tl p) : Txt.split (Txt.join "\n" l) "\n" = l := split_join tl_line k256' hne h
theorem mem_joinL {s : Nat} {sep : List Nat} : ∀ {l : List (List Nat)}, s ∉ sep → (∀ p ∈ l, s ∉ p) → s ∉ joinL sep l
  | [], _, _ => by simp [joinL]
  | [p], _, h => h p (by simp)
  | p :: q :: r, hs, h => fun hm => by
    have hm : s ∈ p ++ (sep ++ joinL sep (q :: r)) := hm
    rcases List.mem_append.mp hm with z | z
    · exact h p (by simp) z
    · rcases List.mem_append.mp z with z | z
      · exact hs z
      · exact mem_joinL hs (fun p hp => h p (List.mem_cons_of_mem _ hp)) z
theorem tl_joined (y : Str) (l : List Str) : tl (Txt.join y l) = joinL (tl y) (l.map tl) := by rw [join_eq, tl_join]
theorem joined_no {s : Nat} {y : Str} {l : List Str} (hs : s ∉ tl y) (h : ∀ p ∈ l, s ∉ tl p) : s ∉ tl (Txt.join y l) := by
  rw [tl_joined]
  refine mem_joinL hs fun p hp => ?_
  obtain ⟨q, hq, rfl⟩ := List.mem_map.mp hp
  exact h q hq
theorem len_joinL {sep : List Nat} {b : Nat} : ∀ {l : List (List Nat)}, (∀ p ∈ l, p.length ≤ b) → (joinL sep l).length ≤ l.length * (b + sep.length)
  | [], _ => by simp [joinL]
  | [p], h => by
    have := h p (by simp)
    show p.length ≤ 1 * _
    omega
  | p :: q :: r, h => by
    have h1 := h p (by simp)
    have h2 := len_joinL (sep := sep) (l := q :: r) fun p hp => h p (List.mem_cons_of_mem _ hp)
    show (p ++ (sep ++ joinL sep (q :: r))).length ≤ ((q :: r).length + 1) * _
    rw [List.length_append, List.length_append, Nat.succ_mul]
    omega
theorem joined_len {y : Str} {b : Nat} {l : List Str} (h : ∀ p ∈ l, p.length ≤ b) : (Txt.join y l).length ≤ l.length * (b + y.length) := by
  rw [len_tl, tl_joined, len_tl y]
  have := len_joinL (sep := tl y) (b := b) (l := l.map tl) fun p hp => by
    obtain ⟨q, hq, rfl⟩ := List.mem_map.mp hp
    rw [← len_tl]
    exact h q hq
  rw [List.length_map] at this
  exact this
theorem sum_len {b : Nat} : ∀ {l : List Str}, (∀ p ∈ l, p.length ≤ b) → (l.map (·.length)).sum ≤ l.length * b
  | [], _ => Nat.zero_le _
  | p :: l, h => by
    have h1 := h p (by simp)
    have h2 := sum_len (l := l) fun p hp => h p (List.mem_cons_of_mem _ hp)
    rw [List.map_cons, List.sum_cons, List.length_cons, Nat.succ_mul]
    omega
/-- 'put ' + ' '.join(..) is ' '.join(['put', ..]) -/
theorem put_join (x : Str) {l : List Str} (hne : l ≠ []) : (x ++ (" " : Str)) ++ Txt.join " " l = Txt.join " " (x :: l) := by
  apply ext_tl
  rw [tl_append, tl_append, tl_joined, tl_joined]
  cases l with
  | nil => exact absurd rfl hne
  | cons q r =>
    show (tl x ++ tl " ") ++ joinL _ (tl q :: r.map tl) = tl x ++ (tl " " ++ joinL _ (tl q :: r.map tl))
    rw [List.append_assoc]
end NT
namespace DV
open PySem PySem.Spec L2 Evl
open PyProof.Rows hiding St
section
variable {X : Cx} {M : List Addr} {R : Bx → Hp → Prop} {ρ : List Sl} {s s1 : Bx} {e e' : Expr} {es : List Expr} {px pos : Pos} {rs : List Sl} {b l : Addr} {j k : Nat} {x : Str}
/-- draws, the box alone the state -/
theorem e_tk {n : Int} (B : BoxIn M R b l id fun _ t => t) (c : Cal X.prog X.w X.K X.mg X.base x k spTake) (hr : Room j X.A) (hk : k ≤ j) (hg : Gl X x) (ha : EvA1 X M R ρ [e, e'] s [.raw (.ref b), .dat (.int n)] s1) (hn : 0 < n := by decide) (hn2 : n.natAbs.log2 < 9000 := by decide) (hdb : (x == ("__debug__" : Str)) = false := by decide)
    (he : starEach [e, e'] X.env = (false, eval e X.env) :: starEach [e'] X.env := by rfl) (hpl : (backTo pos (starEach [e'] X.env)).any (·.1) = false := by rfl) :
    Ev1 X M R ρ (.Call (.Name x px) [e, e'] [] pos) s (.dat (.int (takeV s1 n))) (takeS s1 n) := e_take B c hr hk hg hn hn2 ha hdb he hpl
theorem e_bx (g : Rg M R) {G : List Sl → Bx → Sl → Bx → Prop} {r : Sl} {st' : Bx} (B : BoxIn M R b l id fun _ t => t) (c : Cal X.prog X.w X.K X.mg X.base x k (spB X.K G)) (hr : Room j X.A) (hk : k ≤ j) (hg : Gl X x) (hG : G rs s1 r st') (ha : EvA1 X M R ρ (e :: es) s (.raw (.ref b) :: rs) s1)
    (hdb : (x == ("__debug__" : Str)) = false := by decide) (he : starEach (e :: es) X.env = (false, eval e X.env) :: starEach es X.env := by rfl) (hpl : (backTo pos (starEach es X.env)).any (·.1) = false := by rfl) :
    Ev1 X M R ρ (.Call (.Name x px) (e :: es) [] pos) s r st' := e_boxed g B c hr hk hg hG ha hdb he hpl
end
end DV
namespace K14
open PySem PySem.Spec L2 Evl DV LamX NdefX
open PyProof.Rows hiding St cutD
def topS (i : Nat) : Stmt := PySem.Challenge.pw_causalports_k14_tokens_and_logs_written.main.body.getD i (.Pass ⟨0, 0, 0, 0⟩)
abbrev sWhole : Stmt := topS 15
abbrev sIsToken : Stmt := topS 20
abbrev sIsNum : Stmt := topS 25
abbrev sNumsOf : Stmt := topS 26
abbrev sChkText : Stmt := topS 27
abbrev sWritten : Stmt := topS 28
abbrev sWPut : Stmt := topS 29
abbrev sWLog : Stmt := topS 30
abbrev sRead : Stmt := topS 31
abbrev sRPut : Stmt := topS 32
abbrev sRLog : Stmt := topS 33
abbrev sBegun : Stmt := topS 35
abbrev sTake : Stmt := topS 36
abbrev sAlike : Stmt := topS 37
abbrev sTold : Stmt := topS 38
abbrev sAll : Stmt := topS 39
abbrev sNumber : Stmt := topS 40
abbrev sPut : Stmt := topS 41
abbrev sLaw : Stmt := topS 42
section
variable {P : Program} {w : World} {K : PySem.W.Frag} {mg : Str → Option Value} {base : Heap}
theorem exU {M : List Addr} {H H' : Hp} {b : Addr} {o : HO} (e : Ex (cut M H) (cut M H')) (m : b ∈ M) : Ex (cut M H) (cut M (upd H' b o)) := by rw [cut_upd_in m]; exact e
theorem at0 {α : Type} {x : α} {xs : List α} : atI (x :: xs) 0 = some x := atI_nat (j := 0) rfl
theorem ix0 {n : Nat} : ixN (n + 1) 0 = some 0 := by
  unfold ixN
  rw [if_pos (by omega), if_pos (by omega)]
  rfl
theorem seq0 {n : Nat} : seqIndex? 0 (n + 1) = some 0 := by
  unfold seqIndex?
  simp
theorem mem_b {b l : Addr} : b ∈ [b, l] := List.mem_cons_self
theorem mem_l {b l : Addr} : l ∈ [b, l] := List.mem_cons_of_mem _ List.mem_cons_self
theorem scTake : FnScope ["_law_box", "_law_many", "_law_number_here"] ["_law_box", "_law_many"] (defScope sTake) := ⟨rfl, rfl, rfl, by decide +kernel, rfl, by decide +kernel, by decide +kernel⟩
theorem c_take (d : Def K mg "_law_take" sTake ["_law_box", "_law_many"]) : Cal P w K mg base "_law_take" 1 spTake := by
  refine d.calW scTake (fun vs H Q E ⟨_, _, _, _, e, _⟩ => by rw [e]; rfl) ?_
  rintro f cdv A outer sh H vs Q E hr ⟨b, l, ⟨xs, t⟩, n, rfl, hn, hn2, bx, q⟩
  have hb : b ≠ l := bx.ne
  cases xs with
  | nil =>
    have hσ : ∀ {t : Int} {H1 : Hp}, BoxAt b l ([], t) H1 → Slots K H1 (L2.start ["_law_box", "_law_many", "_law_number_here"] [.ref b, .int n]) [.dat (boxD ([], t)), .dat (.int n), .any] := fun bx => ⟨⟨_, rfl, bx.dv⟩, ⟨_, rfl, .int n⟩, trivial, trivial⟩
    have hρ : ∀ {H1 : Hp}, Slots K H1 (L2.start ["_law_box", "_law_many", "_law_number_here"] [.ref b, .int n]) [.raw (.ref b), .any, .any] := ⟨rfl, trivial, trivial, trivial⟩
    refine b_if (et0 (k := true) (t_eqD (d1 := .list []) (d2 := .list []) hr.units (e_ixL (v 0) e_int rfl) (e_lst rg0 (ds := []) a_nil (by simp)) rfl rfl) (hσ bx) fun H1 e1 => ?_)
    rw [if_pos rfl]
    have b1 := bx.ex e1
    refine b_put (ev0 (e_mod (by decide) (e_mulR (by decide) (by decide) (e_ixL (v 0) e_int rfl) e_int) e_int) (hσ b1) fun x H2 e2 d2 => ?_)
    rw [sv_int d2]
    refine ev0 (v 0) hρ fun ov H3 e3 d3 => ev0 e_int hρ fun iv H4 e4 d4 => ?_
    have b4 := ((b1.ex e2).ex e3).ex e4
    refine ⟨b, _, 1, 1, d3, sv_int d4, b4.1, rfl, ?_⟩
    have b5 : BoxAt b l ([], t * 48271 % 2147483647) (upd H4 b (.lst ([V.ref l, .int t].set 1 (.int (t * 48271 % 2147483647))))) := ⟨upd_same, by rw [upd_ne hb.symm]; exact b4.2⟩
    refine b_ret (ev0 (e_mod hn (e_fdivW (wide_div (b := 3) (by decide) (by decide) (by decide) (by decide)) (e_ixL (v 0) e_int rfl) e_int) (v 1)) (hσ b5) fun x H5 e5 d5 => ?_)
    rw [sv_int d5]
    have e14 : Ex H H4 := e1.trans (e2.trans (e3.trans e4))
    exact q H5 ((exU (exCut e14) mem_b).trans (exCut e5)) (b5.ex e5)
  | cons x xs =>
    have hσ : ∀ {st : Bx} {H1 : Hp} {o : Option V} {r : Sl}, So K H1 r o → BoxAt b l st H1 → Slots K H1 [some (.ref b), some (.int n), o] [.dat (boxD st), .dat (.int n), r] := fun h bx => ⟨⟨_, rfl, bx.dv⟩, ⟨_, rfl, .int n⟩, h, trivial⟩
    have hρ : ∀ {H1 : Hp} {o : Option V}, Slots K H1 [some (.ref b), some (.int n), o] [.raw (.ref b), .any, .any] := ⟨rfl, trivial, trivial, trivial⟩
    refine b_if (et0 (k := false) (t_eqD (d1 := .list (.int x :: dI xs)) (d2 := .list []) hr.units (e_ixL (v 0) e_int rfl) (e_lst rg0 (ds := []) a_nil (by simp)) (shaped_lI (x :: xs)) rfl) (hσ (r := .any) trivial bx) fun H1 e1 => ?_)
    rw [if_neg Bool.false_ne_true]
    have b1 := bx.ex e1
    refine b_nil (b_set 2 (ev0 (e_ixL (e_ixL (ds := [.list (.int x :: dI xs), .int t]) (v 0) e_int rfl) e_int at0) (hσ (r := .any) (st := (x :: xs, t)) trivial b1) fun y H2 e2 d2 => ?_) scTake.nd rfl (Or.inl rfl))
    rw [sv_int d2]
    have b2 := b1.ex e2
    have sx : ∀ {H : Hp}, So K H (.dat (.int x)) (some (.int x)) := ⟨_, rfl, .int x⟩
    refine b_put (ev0 (e_fdivW ⟨hn, hn2⟩ (v 2) (v 1)) (hσ sx b2) fun y H3 e3 d3 => ?_)
    rw [sv_int d3]
    refine wE_of (pe_ix ix_list pe_w pe_w fun _ _ => rfl) (ev0 (v 0) hρ fun ov H4 e4 d4 => ev0 e_int hρ fun iv H5 e5 d5 => ?_)
    have b5 := (b2.ex e3).ex (e4.trans e5)
    refine ⟨b, _, 0, .ref l, d4, sv_int d5, sq_of b5.1, rfl, ?_⟩
    refine ev0 e_int hρ fun iv H6 e6 d6 => ?_
    have b6 := b5.ex e6
    refine ⟨l, _, 0, 0, rfl, sv_int d6, b6.2, ix0, ?_⟩
    have e16 : Ex H H6 := e1.trans (e2.trans (e3.trans (e4.trans (e5.trans e6))))
    have b7 : BoxAt b l (x / n :: xs, t) (upd H6 l (.lst (((x :: xs).map V.int).set 0 (.int (x / n))))) := ⟨by rw [upd_ne hb]; exact b6.1, upd_same⟩
    have x7 : Ex (cut [b, l] H) (cut [b, l] (upd H6 l (.lst (((x :: xs).map V.int).set 0 (.int (x / n)))))) := exU (exCut e16) mem_l
    refine b_if (et0 (t_w (w_or (t_eqD (d1 := .int (x / n)) (d2 := .int 0) hr.units (e_ixL (e_ixL (ds := [.list (.int (x / n) :: dI xs), .int t]) (v 0) e_int rfl) e_int at0) e_int rfl rfl)
      fun _ => w_or1 (t_eqD (d1 := .int (x / n)) (d2 := .int (-1)) hr.units (e_ixL (e_ixL (ds := [.list (.int (x / n) :: dI xs), .int t]) (v 0) e_int rfl) e_int at0) (e_neg e_int) rfl rfl))) (hσ (st := (x / n :: xs, t)) sx b7) fun H8 e8 => ?_)
    have b8 := b7.ex e8
    have x8 := x7.trans (exCut e8)
    have fin : ∀ {H9 : Hp}, Ex (cut [b, l] H) (cut [b, l] H9) → BoxAt b l (takeS (x :: xs, t) n) H9 → wB (dx P w K mg base ["_law_box", "_law_many", "_law_number_here"] "_law_take" sTake f cdv A outer sh H E) [defBody sTake |>.getD 4 (.Pass ⟨0, 0, 0, 0⟩)] { nx := fun _ H' => Q .non H', rt := Q } [some (.ref b), some (.int n), some (.int x)] H9 := fun {H9} x9 b9 =>
      b_ret (ev0 (ρ := [.any, .dat (.int n), .dat (.int x)]) (e_mod hn (v 2) (v 1)) ⟨trivial, ⟨_, rfl, .int n⟩, sx, trivial⟩ fun y H10 e10 d10 => by
        rw [sv_int d10]
        exact q H10 (x9.trans (exCut e10)) (b9.ex e10))
    by_cases hq : x / n = 0 ∨ x / n = -1
    · have hk : (PyData.eqv (.int (x / n)) (.int 0) || PyData.eqv (.int (x / n)) (.int (-1))) = true := by
        show ((x / n == 0) || (x / n == -1)) = true
        simpa using hq
      rw [if_pos hk]
      have es : takeS (x :: xs, t) n = (xs, t) := if_pos hq
      refine b_expr (wE_of (pe_bm PySem.F.plainAttrs_list PySem.F.slot_list_pop PySem.F.type_list_pop (mt_popAt : MtM _ _ _) (pe_ix ix_list pe_w pe_w fun _ _ => rfl) pa_w) (ev0 (v 0) hρ fun ov H9 e9 d9 => ev0 e_int hρ fun iv H10 e10 d10 => ?_))
      have b10 := b8.ex (e9.trans e10)
      refine ⟨b, _, 0, .ref l, d9, sv_int d10, sq_of b10.1, rfl, .inl ⟨rfl, _, sq_of b10.2⟩, ?_⟩
      refine wA_of (pa_cons pe_w pa_nil) (ev0 e_int hρ fun iv H11 e11 d11 => ?_)
      rw [sv_int d11]
      have b11 := b10.ex e11
      refine ⟨l, _, 0, 0, .int (x / n), rfl, rfl, b11.2, by decide, by decide, seq0, rfl, ?_⟩
      · refine b_nil (fin (exU (x8.trans (exCut (e9.trans (e10.trans e11)))) mem_l) ?_)
        rw [es]
        exact ⟨by rw [upd_ne hb]; exact b11.1, upd_same⟩
    · have hk : (PyData.eqv (.int (x / n)) (.int 0) || PyData.eqv (.int (x / n)) (.int (-1))) = false := by
        show ((x / n == 0) || (x / n == -1)) = false
        simpa using hq
      rw [hk, if_neg Bool.false_ne_true]
      have es : takeS (x :: xs, t) n = (x / n :: xs, t) := if_neg hq
      exact b_nil (fin x8 (by rw [es]; exact b8))
end
section
variable {P : Program} {w : World} {K : PySem.W.Frag} {mg : Str → Option Value} {base : Heap}
/-! is_whole -/
def wholeD (d : PyData) (lo hi : Int) : Bool := match d with
  | .int i => decide (lo ≤ i) && decide (i ≤ hi)
  | _ => false
def gWhole (rs : List Sl) (o : Out) : Prop := ∃ d lo hi, rs = [.dat d, .dat (.int lo), .dat (.int hi)] ∧ o = .ok (.dat (.bool (wholeD d lo hi)))
theorem scWhole : FnScope ["thing", "least", "most"] ["thing", "least", "most"] (defScope sWhole) := ⟨rfl, rfl, rfl, by decide +kernel, rfl, by decide +kernel, by decide +kernel⟩
theorem c_whole (B : Bl mg) (d : Def K mg "is_whole" sWhole ["thing", "least", "most"]) : Cal P w K mg base "is_whole" 1 (spS K gWhole) := by
  refine d.cal scWhole (fun rs o ⟨d, lo, hi, e, _⟩ => by rw [e]; rfl) ?_
  rintro rs o ⟨d, lo, hi, rfl, rfl⟩ f cdv A outer sh H E M R D hr g qr qn qe
  refine st_if (k := isB d || !isI d) (t_w (w_or (t_val (isi boot_bool B.isi B.bool (kit_bool d) (v 0))) fun _ => w_or1 (t_not (t_val (isi boot_int B.isi B.int (kit_int d) (v 0)))))) (fun h => ?_) (fun h => ?_)
  · refine st_ret e_bl fun v H' R' sv => qr _ v H' rfl R' ?_
    have e : wholeD d lo hi = false := by
      cases d <;> first | rfl | simp [isB, isI] at h
    rw [e]
    exact sv
  · refine st_thru ?_
    cases d with
    | int i =>
      refine st_ret (e_chain op_le op_le (v 1) (v 0) (v 2)) fun v H' R' sv => qr _ v H' rfl R' sv
    | _ => simp [isB, isI] at h
/-! _law_begun -/
def stir (ns : List Int) : Int := ns.foldl (fun t z => (t * 48271 + z * 69621 + 11) % 2147483647) 0
def begunS (ns : List Int) : Bx := (ns, stir ns * (if decide (2 < (ns.length : Int)) = true then 1 else 0))
def spBegun (K : PySem.W.Frag) : Sp := fun vs H Q _ => ∃ (a : Addr) (ns : List Int), vs = [.ref a] ∧ SqL K H a (ns.map V.int) ∧ ns.length ≤ 63 ∧ (∀ z ∈ ns, Builtin.Int.intBits z ≤ 1048576) ∧
  ∀ H' b l, Ex H H' → H b = none → H l = none → BoxAt b l (begunS ns) H' → Q (.ref b) H'
theorem stir_take {ns : List Int} {i : Nat} {z : Int} (h : ns[i]? = some z) : stir (ns.take (i + 1)) = (stir (ns.take i) * 48271 + z * 69621 + 11) % 2147483647 := by
  unfold stir
  rw [take_succ' h, List.foldl_append]
  rfl
theorem stir_range (ns : List Int) : 0 ≤ stir ns ∧ stir ns < 2147483647 := by
  have key : ∀ (ns : List Int) (t : Int), 0 ≤ t → t < 2147483647 → 0 ≤ ns.foldl (fun t z => (t * 48271 + z * 69621 + 11) % 2147483647) t ∧ ns.foldl (fun t z => (t * 48271 + z * 69621 + 11) % 2147483647) t < 2147483647 := by
    intro ns
    induction ns with
    | nil => exact fun t a b => ⟨a, b⟩
    | cons z ns ih => exact fun t _ _ => ih _ (Int.emod_nonneg _ (by decide)) (Int.emod_lt_of_pos _ (by decide))
  exact key ns 0 (by decide) (by decide)
theorem scBegun : FnScope ["_law_script", "_law_stirred", "_law_cell"] ["_law_script"] (defScope sBegun) := ⟨rfl, rfl, rfl, by decide +kernel, rfl, by decide +kernel, by decide +kernel⟩
theorem c_begun (B : Bl mg) (d : Def K mg "_law_begun" sBegun ["_law_script"]) : Cal P w K mg base "_law_begun" 1 (spBegun K) := by
  refine d.calW scBegun (fun vs H Q E ⟨_, _, e, _⟩ => by rw [e]; rfl) ?_
  rintro f cdv A outer sh H vs Q E hr ⟨a, ns, rfl, hS, hl, hbits, q⟩
  have hS' : ∀ H', Ex H H' → SqL K H' a (ns.map V.int) := fun H' e => ex_l e hS
  have main : St1 (dx P w K mg base ["_law_script", "_law_stirred", "_law_cell"] "_law_begun" sBegun f cdv A outer sh H E) [] (fun (_ : Unit) H' => Ex H H') [.raw (.ref a), .any, .any] (defBody sBegun) () { nx := fun _ H' => Q .non H', rt := Q } := by
    refine st_set 1 scBegun.nd rfl (Or.inl rfl) e_int ?_
    refine st_for rg0 (fun i ρ' _ => ∃ r, ρ' = [.raw (.ref a), .dat (.int (stir (ns.take i))), r]) (passes_of rfl) rfl (pg_name (i := 2) scBegun.nd rfl (Or.inl rfl)) (i_raw (ns := ns) (fun H' e => hS' H' e) (v 0) fun H1 H2 e1 e2 => hS' H2 (e1.trans (by rw [cut_nil, cut_nil] at e2; exact e2))) ⟨_, rfl⟩
      (fun i ρi si H1 hi hJ g1 => ?_) (fun ρ' s' hJ => ?_)
    · obtain ⟨r, rfl⟩ := hJ
      have hd : ns[i]? = some ns[i] := List.getElem?_eq_getElem hi
      have hd2 : (dI ns)[i]? = some (.int ns[i]) := by rw [List.getElem?_map, hd]; rfl
      refine ⟨_, tg0_name, fun N hN => ?_⟩
      rw [itD_lt hd2]
      have hb := hbits ns[i] (List.getElem_mem hi)
      have h69 : Builtin.Int.intBits 69621 ≤ 64 := by decide +kernel
      refine st_set 1 scBegun.nd rfl (Or.inl rfl) (e_mod (by decide) (e_add (e_add (e_mulR (by decide) (by decide) (v 1) e_int) (e_mulX (i := ns[i]) (j := 69621) (by show (_ : Int) + _ ≤ _; omega) (v 2) e_int)) e_int) e_int) ?_
      refine st_nil fun σ H2 hσ hR => hN σ H2 _ _ ⟨.dat (.int ns[i]), ?_⟩ hσ hR
      rw [stir_take hd]
      rfl
    · obtain ⟨r, rfl⟩ := hJ
      rw [List.take_length]
      intro σ H1 hσ e1
      rw [cut_nil] at hσ
      refine b_ret (wE_of (pe_lst (pa_cons pe_w (pa_cons pe_w pa_nil))) ?_)
      refine wE_of (pe_callTy call_list_of (by rfl) B.list boot_list pa_w) ?_
      refine wA_of (pa_cons pe_w pa_nil) (ev0 (v 0) hσ fun v1 H2 e2 d2 => ?_)
      have d2 : v1 = .ref a := d2
      subst d2
      refine ⟨a, _, rfl, .inl (hS' H2 (e1.trans e2)), fun l nl => ?_⟩
      have e2' : Ex H2 (upd H2 l (.lst (ns.map V.int))) := Ex.new nl
      refine ev0 (r := .dat (.int (begunS ns).2)) (H := upd H2 l (.lst (ns.map V.int))) (ρ := [.raw (.ref a), .dat (.int (stir ns)), r]) ?_ (hσ.ex (e2.trans e2')) fun v2 H3 e3 d3 => ?_
      · have hx : ∀ H', Ex (upd H2 l (.lst (ns.map V.int))) H' → SqL K H' a (ns.map V.int) := fun H' e => hS' H' (e1.trans (e2.trans (e2'.trans e)))
        have h1 := stir_range ns
        refine e_mulL (by omega) (by omega) (v 1) (e_intB (by rfl) B.int (a1 (e_gtI (e_lenR (ns := ns) (fun H' e => hx H' e) (by rfl) B.len (a1 (v 0))) e_int)))
      · rw [sv_int d3]
        refine ⟨by show 2 ≤ sizeLine; decide, fun b nb => ?_⟩
        have hbl : l ≠ b := ne_of_none (e3 _ _ (upd_same)) nb
        refine q _ b l ?_ ?_ ?_ ⟨upd_same, ?_⟩
        · exact e1.trans (e2.trans (e2'.trans (e3.trans (Ex.new nb))))
        · exact fresh_back (e1.trans (e2.trans (e2'.trans e3))) nb
        · exact fresh_back (e1.trans e2) nl
        · rw [upd_ne hbl]
          exact e3 _ _ upd_same
  exact main _ H (slots0 ⟨rfl, trivial, trivial, trivial⟩) (exId _)
/-! _law_alike, of two that are alike -/
def gAlike (n : Nat) (rs : List Sl) (o : Out) : Prop := ∃ d : PyData, rs = [.dat d, .dat d] ∧ okD d = true ∧ d.depth ≤ n ∧ o = .ok (.dat (.bool true))
theorem scAlike : FnScope ["_law_found", "_law_due", "_law_k"] ["_law_found", "_law_due"] (defScope sAlike) := ⟨rfl, rfl, rfl, by decide +kernel, rfl, by decide +kernel, by decide +kernel⟩
theorem b_alike (B : Bl mg) (d : Def K mg "_law_alike" sAlike ["_law_found", "_law_due"]) (n : Nat) (ih : n ≠ 0 → Cal P w K mg base "_law_alike" n (spS K (gAlike (n - 1)))) : Cal P w K mg base "_law_alike" (n + 1) (spS K (gAlike n)) := by
  refine d.cal scAlike (fun rs o ⟨_, e, _⟩ => by rw [e]; rfl) ?_
  rintro rs o ⟨d, rfl, hok, hdp, rfl⟩ f cdv A outer sh H E M R D hr g qr qn qe
  have qt : ∀ {b : Bool}, b = true → ∀ v H', R () H' → Sv K (cut M H') (.dat (.bool b)) v → D.rt v H' := fun hb v H' R' sv => qr _ v H' rfl R' (by rw [← hb]; exact sv)
  refine st_if (t_isN (v 1)) (fun h => st_ret (e_isN (v 0)) (qt h)) (fun h1 => st_thru ?_)
  refine st_if (t_val (isi boot_bool B.isi B.bool (kit_bool d) (v 1))) (fun h => ?_) (fun h2 => st_thru ?_)
  · cases d with
    | bool b => exact st_ret (e_and (isi boot_bool B.isi B.bool (kit_bool (.bool b)) (v 0)) fun _ => e_one (e_eqD hr.units (v 0) (v 1) rfl rfl)) (qt (by cases b <;> rfl))
    | _ => cases h
  refine st_if (t_val (isi boot_int B.isi B.int (kit_int d) (v 1))) (fun h => ?_) (fun h3 => st_thru ?_)
  · cases d with
    | int i => exact st_ret (e_and (isi boot_int B.isi B.int (kit_int (.int i)) (v 0)) fun _ => e_and (e_not (isi boot_bool B.isi B.bool (kit_bool (.int i)) (v 0))) fun _ => e_one (e_eqD hr.units (v 0) (v 1) rfl rfl)) (qt (by show (true && (true && (i == i))) = true; simp))
    | bool b => cases h2
    | _ => cases h
  refine st_if (t_val (isi boot_str B.isi B.str (kit_str d) (v 1))) (fun h => ?_) (fun h4 => st_thru ?_)
  · cases d with
    | str x =>
      have hx : SeqAt.shaped (.str x) = true := by
        show (PyData.canLay0 (.str x) && decide (0 ≤ 64)) = true
        rw [show PyData.canLay0 (.str x) = true from hok]
        rfl
      exact st_ret (e_and (isi boot_str B.isi B.str (kit_str (.str x)) (v 0)) fun _ => e_one (e_eqD hr.units (v 0) (v 1) hx hx)) (qt (by show (true && (x == x)) = true; simp))
    | _ => cases h
  have e2 : ∀ b : Bool, (!PyData.eqv (.bool b) (.bool b)) = false := fun b => by cases b <;> rfl
  refine st_if (t_w (w_or (t_neD hr.units (isi boot_tuple B.isi B.tuple (kit_tuple d) (v 1)) (isi boot_tuple B.isi B.tuple (kit_tuple d) (v 0)) rfl rfl)
    fun _ => w_or1 (t_neD hr.units (isi boot_list B.isi B.list (kit_list d) (v 1)) (isi boot_list B.isi B.list (kit_list d) (v 0)) rfl rfl))) (fun h => ?_) (fun h5 => st_thru ?_)
  · rw [e2, e2] at h
    cases h
  have e3 : ∀ i : Int, (!PyData.eqv (.int i) (.int i)) = false := fun i => by
    show (!(i == i)) = false
    simp
  cases d with
  | tuple ds =>
    have hk := Bool.and_eq_true_iff.mp (show (decide (ds.length ≤ 1000) && okAll ds) = true from hok)
    have hz : ds.length ≤ 1000 := of_decide_eq_true hk.1
    have hd : PyData.depthAll ds + 1 ≤ n := hdp
    refine st_if (t_neD hr.units (e_lenT (by rfl) B.len (a1 (v 0))) (e_lenT (by rfl) B.len (a1 (v 1))) rfl rfl) (fun h => ?_) (fun h6 => st_thru ?_)
    · rw [e3] at h
      cases h
    refine st_for g (fun i ρ' _ => ∃ r, ρ' = [.dat (.tuple ds), .dat (.tuple ds), r]) (passes_of rfl) rfl (pg_name (i := 2) scAlike.nd rfl (Or.inl rfl)) (i_rngN (n := ds.length) (by rfl) B.range (by omega) (a1 (e_lenT (by rfl) B.len (a1 (v 1))))) ⟨_, rfl⟩ (fun i ρi si H1 hi hJ g1 => ?_) (fun ρ' s' hJ => ?_)
    · obtain ⟨r, rfl⟩ := hJ
      have hg : ds[i]? = some ds[i] := List.getElem?_eq_getElem hi
      refine ⟨_, tg0_name, fun N hN => ?_⟩
      refine st_if (t_not (t_val (e_call g1 (ih (by omega)) hr (Nat.le_refl _) (by rfl) (r := .dat (.bool true)) ⟨ds[i], rfl, okAll_get hk.2 hg, Nat.le_trans (depth_get hg) (by omega), rfl⟩ (a_cons (e_ixT (v 0) (v 2) (atI_nat hg)) (a_cons (e_ixT (v 1) (v 2) (atI_nat hg)) a_nil))))) (fun h => by cases h) (fun _ => st_thru ?_)
      exact st_nil fun σ H2 hσ hR => hN σ H2 _ _ ⟨_, rfl⟩ hσ hR
    · obtain ⟨r, rfl⟩ := hJ
      exact st_ret e_bl (qt rfl)
  | list ds =>
    have hk := Bool.and_eq_true_iff.mp (show (decide (ds.length ≤ 1000) && okAll ds) = true from hok)
    have hz : ds.length ≤ 1000 := of_decide_eq_true hk.1
    have hd : PyData.depthAll ds + 1 ≤ n := hdp
    refine st_if (t_neD hr.units (e_lenL (by rfl) B.len (a1 (v 0))) (e_lenL (by rfl) B.len (a1 (v 1))) rfl rfl) (fun h => ?_) (fun h6 => st_thru ?_)
    · rw [e3] at h
      cases h
    refine st_for g (fun i ρ' _ => ∃ r, ρ' = [.dat (.list ds), .dat (.list ds), r]) (passes_of rfl) rfl (pg_name (i := 2) scAlike.nd rfl (Or.inl rfl)) (i_rngN (n := ds.length) (by rfl) B.range (by omega) (a1 (e_lenL (by rfl) B.len (a1 (v 1))))) ⟨_, rfl⟩ (fun i ρi si H1 hi hJ g1 => ?_) (fun ρ' s' hJ => ?_)
    · obtain ⟨r, rfl⟩ := hJ
      have hg : ds[i]? = some ds[i] := List.getElem?_eq_getElem hi
      refine ⟨_, tg0_name, fun N hN => ?_⟩
      refine st_if (t_not (t_val (e_call g1 (ih (by omega)) hr (Nat.le_refl _) (by rfl) (r := .dat (.bool true)) ⟨ds[i], rfl, okAll_get hk.2 hg, Nat.le_trans (depth_get hg) (by omega), rfl⟩ (a_cons (e_ixL (v 0) (v 2) (atI_nat hg)) (a_cons (e_ixL (v 1) (v 2) (atI_nat hg)) a_nil))))) (fun h => by cases h) (fun _ => st_thru ?_)
      exact st_nil fun σ H2 hσ hR => hN σ H2 _ _ ⟨_, rfl⟩ hσ hR
    · obtain ⟨r, rfl⟩ := hJ
      exact st_ret e_bl (qt rfl)
  | none => cases h1
  | bool b => cases h2
  | int i => cases h3
  | str x => cases h4
  | dict kvs => cases hok
theorem c_alike (B : Bl mg) (d : Def K mg "_law_alike" sAlike ["_law_found", "_law_due"]) : ∀ n : Nat, Cal P w K mg base "_law_alike" (n + 1) (spS K (gAlike n))
  | 0 => b_alike B d 0 fun h => absurd rfl h
  | n + 1 => b_alike B d (n + 1) fun _ => c_alike B d n
end
end K14
namespace K14
open PySem PySem.Spec L2 Evl DV LamX NdefX
open PyProof.Rows hiding St cutD
section
variable {P : Program} {w : World} {K : PySem.W.Frag} {mg : Str → Option Value} {base : Heap}
/-! _law_told -/
abbrev nTold : List Str := ["_law_work", "e", "_law_kinds", "_law_words", "_law_word"]
theorem scTold : FnScope nTold ["_law_work"] (defScope sTold) := ⟨rfl, rfl, rfl, by decide +kernel, rfl, by decide +kernel, by decide +kernel⟩
def kB (i j : Nat) : PyData := .bool (decide (j = i))
def kBs (i : Nat) : List Bool := (List.range 12).map fun j => decide (j = i)
structure KFacts (i : Nat) : Prop where
  cnt : (kBs i).count true = 1
  at_ : (kBs i)[i]? = some true
  lt : ∀ m, m < i → (kBs i)[m]? = some false
  word : (kNames.map PyData.str)[i]? = some (.str (kWord i))
  logs : PyData.eqv (.str (kWord i)) (.str "BadLogs") = false
  two : ([PyData.str "NotYet", .str "Stale"].any fun e => PyData.eqv e (.str (kWord i))) = false
  text : PyData.eqv (.str (kWord i)) (.str "BadText") = false
  shp : SeqAt.shaped (.str (kWord i)) = true
theorem kfacts {i : Nat} (h : i = 0 ∨ i = 1 ∨ i = 3 ∨ i = 4 ∨ i = 5 ∨ i = 7 ∨ i = 8 ∨ i = 9) : KFacts i := by
  rcases h with rfl | rfl | rfl | rfl | rfl | rfl | rfl | rfl <;> exact ⟨by decide, by decide, by decide, by rfl, by decide +kernel, by decide +kernel, by decide +kernel, by decide +kernel⟩
theorem boot_VE : bootBuiltins "ValueError" = some (.type "ValueError") := by decide +kernel
section
variable {S : Type} {X : Cx} {M : List Addr} {R : S → Hp → Prop} {ρ : List Sl} {s : S} {ad D : Addr} {oe : Obj} {pn : List (Addr × Obj)} {i j : Nat} {x n : Str} {px p1 p2 pos : Pos}
/-- isinstance(e, C) -/
theorem isE (Kd : Kinds X.K X.mg D i) (hz : Zc (.ref D) none oe) (hf : ∃ vs, oe.data = .fields vs) (hm : X.mg "isinstance" = none) (hx : kNames[j]? = some x) (he : Ev1 (X.suite ad ((ad, oe) :: pn)) M R ρ (.Name n p1) s (.raw (.ref ad)) s)
    (hg : Gl (X.suite ad ((ad, oe) :: pn)) "isinstance" := by rfl) (hg2 : Gl (X.suite ad ((ad, oe) :: pn)) x := by rfl) (hd : (x == ("__debug__" : Str)) = false := by decide) :
    Ev1 (X.suite ad ((ad, oe) :: pn)) M R ρ (.Call (.Name "isinstance" px) [.Name n p1, .Name x p2] [] pos) s (.dat (kB i j)) s := by
  obtain ⟨C, hC, hk⟩ := Kd.kit j x hx
  exact e_isE (k := decide (j = i)) (c := .ref C) (r := .raw (.ref C)) Kd.exc hz hf hk (fun H _ u h => h) (fun H v h => h) hg hm (a_cons he (a_cons (e_glob (X := X.suite ad ((ad, oe) :: pn)) (v := .ref C) hg2 hC rfl (fun _ => rfl) hd) a_nil))
end
theorem c_told {Cp : Addr} {kc : Nat} (B : Bl mg) (hp : mg "PortError" = some (.ref Cp)) (d : Def K mg "_law_told" sTold ["_law_work"]) : Cal P w K mg base "_law_told" (kc + 1) (spTold P w K mg base kc) := by
  refine d.calW scTold (fun vs H Q E ⟨_, _, _, _, _, e, _⟩ => by rw [e]; rfl) ?_
  rintro f cdv A outer sh H vs Q E hr ⟨g, L, Q1, E1, M, rfl, hL, hc, hq, he⟩
  refine b_try_as (i := 1) (n := "e") (x := "PortError") (c := .ref Cp) rfl rfl scTold.nd rfl rfl ⟨rfl, by decide, .inl hp⟩ fun W pn xe eW tk => ?_
  refine b_ret (w_callV (i := 0) (E := WE W (L2.start nTold [.ref g])) hr (Nat.le_refl _) (passAt tk _) rfl (Or.inl rfl) rfl hL (hc.imp hq fun cls dd H1 hE => ?_))
  obtain ⟨D, i, rfl, rfl, Kd, dom, q⟩ := he cls dd H1 hE
  obtain ⟨C, hC, hx⟩ := Kd.port
  rw [hp] at hC
  cases hC
  show W _ _ _ _
  rw [eW]
  refine ⟨true, hx, fun _ a na oe pn2 hz hf => ?_, fun h => by cases h⟩
  have kf := kfacts Kd.plain
  have main : ∀ D' : Ends, D'.rt = Q → St1 ((dx P w K mg base nTold "_law_told" sTold f cdv A outer sh H E).suite a ((a, oe) :: pn2)) M (fun (_ : Unit) H' => Ex H1 H') [.any, .raw (.ref a), .any, .any, .any]
      (match defBody sTold with | [.Try _ [.ExceptHandler _ _ b _] _ _ _] => b | _ => []) () D' := by
    intro D' eD
    have gM := rg_pure dom
    refine st_set 2 (r := .dat (.list [kB i 0, kB i 1, kB i 2, kB i 3])) scTold.nd rfl (Or.inl rfl) (e_lst gM (ds := [kB i 0, kB i 1, kB i 2, kB i 3]) (a_cons (isE Kd hz hf B.isi rfl (v 1)) (a_cons (isE Kd hz hf B.isi rfl (v 1)) (a_cons (isE Kd hz hf B.isi rfl (v 1)) (a_cons (isE Kd hz hf B.isi rfl (v 1)) a_nil)))) (by simp)) ?_
    refine st_set 2 (r := .dat (.list [kB i 0, kB i 1, kB i 2, kB i 3, kB i 4, kB i 5, kB i 6])) scTold.nd rfl (Or.inl rfl) (e_catL gM (ds := [kB i 0, kB i 1, kB i 2, kB i 3]) (es := [kB i 4, kB i 5, kB i 6]) (by simp) (v 2) (e_lst gM (ds := [kB i 4, kB i 5, kB i 6]) (a_cons (isE Kd hz hf B.isi rfl (v 1)) (a_cons (isE Kd hz hf B.isi rfl (v 1)) (a_cons (isE Kd hz hf B.isi rfl (v 1)) a_nil))) (by simp))) ?_
    refine st_set 2 (r := .dat (.list [kB i 0, kB i 1, kB i 2, kB i 3, kB i 4, kB i 5, kB i 6, kB i 7, kB i 8, kB i 9])) scTold.nd rfl (Or.inl rfl) (e_catL gM (ds := [kB i 0, kB i 1, kB i 2, kB i 3, kB i 4, kB i 5, kB i 6]) (es := [kB i 7, kB i 8, kB i 9]) (by simp) (v 2) (e_lst gM (ds := [kB i 7, kB i 8, kB i 9]) (a_cons (isE Kd hz hf B.isi rfl (v 1)) (a_cons (isE Kd hz hf B.isi rfl (v 1)) (a_cons (isE Kd hz hf B.isi rfl (v 1)) a_nil))) (by simp))) ?_
    refine st_set 2 (r := .dat (.list ((kBs i).map .bool))) scTold.nd rfl (Or.inl rfl) (e_catL gM (ds := [kB i 0, kB i 1, kB i 2, kB i 3, kB i 4, kB i 5, kB i 6, kB i 7, kB i 8, kB i 9]) (es := [kB i 10, kB i 11]) (by simp) (v 2) (e_lst gM (ds := [kB i 10, kB i 11]) (a_cons (isE Kd hz hf B.isi rfl (v 1)) (a_cons (isE Kd hz hf B.isi rfl (v 1)) a_nil)) (by simp))) ?_
    have hk : ((!PyData.eqv (.int ((kBs i).count true : Nat)) (.int 1)) || (!true)) = false := by rw [kf.cnt]; rfl
    refine st_if (t_w (w_or (t_neD (d1 := .int ((kBs i).count true : Nat)) (d2 := .int 1) hr.units (e_countB (k := true) (bs := kBs i) (v 2) (a1 e_bl)) e_int rfl rfl)
      fun _ => w_or1 (t_not (t_val (k := true) (e_isE (c := .ty "ValueError") (r := .raw (.ty "ValueError")) Kd.exc hz hf Kd.val (fun H _ u h => h) (fun H v h => h) (by rfl) B.isi (a_cons (v 1) (a_cons (e_bltn (by rfl) Kd.nval boot_VE rfl) a_nil))))))) (fun h => by rw [hk] at h; cases h) (fun _ => st_thru ?_)
    refine st_set 3 (r := .dat (.list ((kNames.take 9).map .str))) scTold.nd rfl (Or.inl rfl) (e_lst gM (ds := (kNames.take 9).map .str) (a_cons e_str (a_cons e_str (a_cons e_str (a_cons e_str (a_cons e_str (a_cons e_str (a_cons e_str (a_cons e_str (a_cons e_str a_nil))))))))) (by decide)) ?_
    refine st_set 4 (r := .dat (.str (kWord i))) scTold.nd rfl (Or.inl rfl) (e_ixL (ds := kNames.map .str) (i := (i : Nat)) (e_catL gM (ds := (kNames.take 9).map .str) (es := (kNames.drop 9).map .str) (by decide) (v 3) (e_lst gM (ds := (kNames.drop 9).map .str) (a_cons e_str (a_cons e_str (a_cons e_str a_nil))) (by decide)))
      (e_indexB kf.at_ kf.lt (v 2) (a1 e_bl)) (atI_nat kf.word)) ?_
    refine st_if (t_eqD hr.units (v 4) e_str kf.shp (by decide +kernel)) (fun h => by rw [kf.logs] at h; cases h) (fun _ => st_thru ?_)
    refine st_if (t_inT (v 4) (e_tup gM (ds := [.str "NotYet", .str "Stale"]) (a_cons e_str (a_cons e_str a_nil)) (by decide)) rfl rfl) (fun h => by rw [kf.two] at h; cases h) (fun _ => st_thru ?_)
    refine st_ret (e_tup gM (ds := [.str (kWord i), .int 0]) (a_cons (v 4) (a_cons (e_ifF (by rw [← kf.text]; exact t_eqD hr.units (v 4) e_str kf.shp (by decide +kernel)) e_int) a_nil)) (by simp)) fun v H' e2 sv => by rw [eD]; exact q v H' e2 sv
  exact main _ rfl [some (.ref g), some (.ref a), none, none, none] H1 ⟨trivial, rfl, trivial, trivial, trivial, trivial⟩ (exId _)
/-! _law_all -/
abbrev nAll : List Str := ["_law_works", "_law_due", "_law_work"]
theorem scAll : FnScope nAll ["_law_works", "_law_due"] (defScope sAll) := ⟨rfl, rfl, rfl, by decide +kernel, rfl, by decide +kernel, by decide +kernel⟩
theorem due_ok {i : Nat} (h : i = 0 ∨ i = 1 ∨ i = 3 ∨ i = 4 ∨ i = 5 ∨ i = 7 ∨ i = 8 ∨ i = 9) : okD (.tuple [.str (kWord i), .int 0]) = true := by
  rcases h with rfl | rfl | rfl | rfl | rfl | rfl | rfl | rfl <;> decide +kernel
theorem c_all {kc : Nat} (h2 : 2 ≤ kc + 1) (B : Bl mg) (cT : Cal P w K mg base "_law_told" (kc + 1) (spTold P w K mg base kc)) (cA : Cal P w K mg base "_law_alike" 2 (spS K (gAlike 1))) (d : Def K mg "_law_all" sAll ["_law_works", "_law_due"]) : Cal P w K mg base "_law_all" (kc + 2) (spAll P w K mg base kc) := by
  refine d.calW scAll (fun vs H Q E ⟨_, _, _, _, _, _, e, _⟩ => by rw [e]; rfl) ?_
  rintro f cdv A outer sh H vs Q E hr ⟨M, pl, v0, fs, i, C, rfl, dom, hpl, Kd, hv0, hfs, q⟩
  have gM := rg_pure dom
  have main : St1 (dx P w K mg base nAll "_law_all" sAll f cdv A outer sh H E) M (fun (_ : Unit) H' => Ex H H') [.raw (.ref pl), .dat (.tuple [.str (kWord i), .int 0]), .any] (defBody sAll) () { nx := fun _ H' => Q .non H', rt := Q } := by
    refine st_ret (s1 := ()) (r := .dat (.bool true)) (e_eqD (s1 := ()) (s2 := ()) (d1 := .list []) (d2 := .list []) hr.units ?_ (e_lst gM (ds := []) a_nil (by simp)) rfl rfl) fun v H' e sv => by rw [sv_bl sv]; exact q H' e
    refine e_lc (own := [("_law_work", 2)]) (gt := gName 2) (n := fs.length) (it := itR fs) (ss := fun _ => ()) (outs := fun _ => []) gM rfl scAll.nd (blkOk_by (N := nAll) (sc := defScope sAll) (by decide +kernel)) (fun sh Hh C cl fp => pg_name (i := 2) scAll.nd rfl (Or.inl rfl)) (i_refs (fun H' e => exCut e _ _ hpl) (v 0)) rfl (fun j hj => by simp) (fun j hj => ?_)
    have hf : fs[j]? = some fs[j] := List.getElem?_eq_getElem hj
    refine ⟨_, tg_name (by simp), fun D acc gD => ⟨false, (), fun sh Hh C cl fp => ?_, fun h => (by cases h), fun _ => ⟨rfl, rfl⟩⟩⟩
    rw [show itR fs j = .raw (.ref fs[j]) by unfold itR; rw [hf]]
    refine t_not (k := true) (t_val (e_call gD cA hr h2 (by rfl) (r := .dat (.bool true)) ⟨.tuple [.str (kWord i), .int 0], rfl, due_ok Kd.plain, Nat.le_refl 1, rfl⟩ (a_cons (s1 := ()) ?_ (a_cons (v 1) a_nil))))
    intro σ H1 Q' hσ hR q'
    refine w_call (s1 := ()) cT hr (Nat.le_refl _) (by rfl) passL (a_cons (v 2) a_nil) hσ hR (fun vs H2 e1 d1 R1 => ?_)
    obtain ⟨u, hu, dz⟩ := svall1 d1
    subst hu
    have dz : u = .ref fs[j] := dz
    subst dz
    have eH : Ex H H2 := R1.1.trans ex_rem
    obtain ⟨⟨L, hL⟩, hc⟩ := hfs _ (List.getElem_mem hj)
    refine ⟨fs[j], L, _, _, D :: M, rfl, eH _ _ hL, hc H2 eH, fun _ _ h => h.elim, ?_⟩
    rintro cls dd H3 ⟨rfl, rfl, e3⟩
    exact ⟨_, i, rfl, rfl, Kd, fun a m => gD.dom (gD.up R1 e3) m, fun v H4 e4 dv => q' v H4 (e1.trans (exCut (e3.trans e4))) (gD.up R1 (e3.trans e4)) dv⟩
  exact main [some (.ref pl), some v0, none] H ⟨rfl, ⟨_, rfl, hv0⟩, trivial, trivial⟩ (exId _)
end
end K14
namespace K14
open PySem PySem.Spec L2 Evl DV LamX NdefX NT
open PyProof.Rows hiding St cutD
section
variable {P : Program} {w : World} {K : PySem.W.Frag} {mg : Str → Option Value} {base : Heap}
/-! is_token -/
def tokD : PyData → Bool
  | .tuple ds => (decide (2 ≤ (ds.length : Int)) && decide ((ds.length : Int) ≤ 5)) && ds.all fun d => wholeD d 0 999
  | _ => false
def gTok (rs : List Sl) (o : Out) : Prop := ∃ d, rs = [.dat d] ∧ o = .ok (.dat (.bool (tokD d)))
/-- the module's numbers -/
structure Nums (mg : Str → Option Value) : Prop where
  few : ∃ t, mg "FEWEST_SITES" = some (.int 2 t)
  most : ∃ t, mg "MOST_SITES" = some (.int 5 t)
  puts : ∃ t, mg "MOST_PUTS" = some (.int 999 t)
theorem scIsToken : FnScope ["thing", "count"] ["thing"] (defScope sIsToken) := ⟨rfl, rfl, rfl, by decide +kernel, rfl, by decide +kernel, by decide +kernel⟩
theorem c_isToken (B : Bl mg) (n : Nums mg) (cW : Cal P w K mg base "is_whole" 1 (spS K gWhole)) (d : Def K mg "is_token" sIsToken ["thing"]) : Cal P w K mg base "is_token" 2 (spS K gTok) := by
  refine d.cal scIsToken (fun rs o ⟨d, e, _⟩ => by rw [e]; rfl) ?_
  rintro rs o ⟨d, rfl, rfl⟩ f cdv A outer sh H E M R D hr g qr qn qe
  refine st_if (k := !isT d) (t_not (t_val (isi boot_tuple B.isi B.tuple (kit_tuple d) (v 0)))) (fun h => ?_) (fun h => ?_)
  · refine st_ret e_bl fun v H' R' sv => qr _ v H' rfl R' ?_
    have e : tokD d = false := by
      cases d <;> first | rfl | simp [isT] at h
    rw [e]
    exact sv
  · refine st_thru ?_
    cases d with
    | tuple ds =>
      refine st_if (k := !(decide (2 ≤ (ds.length : Int)) && decide ((ds.length : Int) ≤ 5))) (t_not (t_chain op_le op_le (gi n.few) (e_lenT (by rfl) B.len (a1 (v 0))) (gi n.most))) (fun h => ?_) (fun h => ?_)
      · refine st_ret e_bl fun v H' R' sv => qr _ v H' rfl R' ?_
        have e : tokD (.tuple ds) = false := by
          have h' : (decide (2 ≤ (ds.length : Int)) && decide ((ds.length : Int) ≤ 5)) = false := (Bool.not_eq_true' _).mp h
          show ((decide (2 ≤ (ds.length : Int)) && decide ((ds.length : Int) ≤ 5)) && ds.all fun d => wholeD d 0 999) = false
          rw [h']
          rfl
        rw [e]
        exact sv
      · refine st_thru ?_
        have h' : (decide (2 ≤ (ds.length : Int)) && decide ((ds.length : Int) ≤ 5)) = true := (Bool.not_eq_false' _).mp h
        have hz : ds.length ≤ 5 := by
          have := (Bool.and_eq_true_iff.mp h').2
          have := of_decide_eq_true this
          omega
        have e : (.dat (.bool (tokD (.tuple ds))) : Sl) = .dat (.bool ((ds.map fun d => wholeD d 0 999).all id)) := by
          show (.dat (.bool ((decide (2 ≤ (ds.length : Int)) && decide ((ds.length : Int) ≤ 5)) && ds.all fun d => wholeD d 0 999)) : Sl) = _
          rw [h', Bool.true_and, List.all_map]
          rfl
        rw [e] at qr
        refine st_ret (e_all rfl (by rfl) B.all (a1 ?_)) fun v H' R' sv => qr _ v H' rfl R' sv
        have em : (ds.map fun d => wholeD d 0 999).map PyData.bool = ds.map fun d => .bool (wholeD d 0 999) := by
          rw [List.map_map]
          rfl
        rw [em]
        refine lc_map (own := [("count", 1)]) g (i := 1) (fun d => .bool (wholeD d 0 999)) (i_tup (v 0)) (by omega) (fun d hd sh Hh C cl fp D acc gD => ?_) rfl scIsToken.nd (blkOk_by (N := ["thing", "count"]) (sc := defScope sIsToken) (by decide +kernel)) (fun sh Hh C cl fp => pg_name (i := 1) scIsToken.nd rfl (Or.inl rfl)) (by simp)
        exact e_call gD cW hr (Nat.le_refl _) (by rfl) ⟨d, 0, 999, rfl, rfl⟩ (a_cons (v 1) (a_cons e_int (a_cons (gi n.puts) a_nil)))
    | _ => simp [isT] at h
theorem tok_shape {d : PyData} (h : tokD d = true) : ∃ ds, d = .tuple ds ∧ 2 ≤ ds.length ∧ ds.length ≤ 5 ∧ ∀ x ∈ ds, ∃ i : Int, x = .int i ∧ 0 ≤ i ∧ i ≤ 999 := by
  cases d with
  | tuple ds =>
    have h : ((decide (2 ≤ (ds.length : Int)) && decide ((ds.length : Int) ≤ 5)) && ds.all fun d => wholeD d 0 999) = true := h
    simp only [Bool.and_eq_true, decide_eq_true_eq, List.all_eq_true] at h
    obtain ⟨⟨h1, h2⟩, h3⟩ := h
    refine ⟨ds, rfl, by omega, by omega, fun x hx => ?_⟩
    have := h3 x hx
    cases x with
    | int i =>
      have h : (decide (0 ≤ i) && decide (i ≤ 999)) = true := this
      simp only [Bool.and_eq_true, decide_eq_true_eq] at h
      exact ⟨i, rfl, h.1, h.2⟩
    | _ => cases this
  | _ => cases h

theorem mem_dI' {xs : List Int} {d : PyData} (h : d ∈ dI xs) : ∃ i, d = .int i ∧ i ∈ xs := by
  obtain ⟨i, hi, rfl⟩ := List.mem_map.mp h
  exact ⟨i, rfl, hi⟩
def inTok (xs : List Int) : Prop := ∀ x ∈ xs, 0 ≤ x ∧ x ≤ 999
/-! texts that can be laid -/
theorem str_low {x : Str} (h : ∀ c ∈ TL.tl x, c < 0x110000) : SeqAt.shaped (.str x) = true ∧ okD (.str x) = true := by
  have e : PyData.strOk x = true := by
    show x.cps.all (· < 0x110000) = true
    rw [← Array.all_toList, List.all_eq_true]
    exact fun c hc => by simpa using h c hc
  exact ⟨by show (PyData.strOk x && decide (0 ≤ 64)) = true; rw [e]; rfl, e⟩
theorem nT_low (i : Int) : ∀ c ∈ TL.tl (nT i), c < 128 := fun c hc => by rcases nT_signs c hc with e | e <;> omega
theorem joinL_all {p : Nat → Prop} {sep : List Nat} (hs : ∀ c ∈ sep, p c) : ∀ {l : List (List Nat)}, (∀ q ∈ l, ∀ c ∈ q, p c) → ∀ c ∈ TL.joinL sep l, p c
  | [], _, c, hc => by cases hc
  | [q], h, c, hc => h q (by simp) c hc
  | q :: q2 :: r, h, c, hc => by
    have hc : c ∈ q ++ (sep ++ TL.joinL sep (q2 :: r)) := hc
    rcases List.mem_append.mp hc with z | z
    · exact h q (by simp) c z
    · rcases List.mem_append.mp z with z | z
      · exact hs c z
      · exact joinL_all hs (fun q hq => h q (List.mem_cons_of_mem _ hq)) c z
theorem join_low {y : Str} {l : List Str} (hy : ∀ c ∈ TL.tl y, c < 128) (h : ∀ x ∈ l, ∀ c ∈ TL.tl x, c < 128) : ∀ c ∈ TL.tl (Txt.join y l), c < 128 := by
  rw [tl_joined]
  refine joinL_all hy fun q hq => ?_
  obtain ⟨x, hx, rfl⟩ := List.mem_map.mp hq
  exact h x hx
theorem low_ok {x : Str} (h : ∀ c ∈ TL.tl x, c < 128) : SeqAt.shaped (.str x) = true ∧ okD (.str x) = true := str_low fun c hc => by have := h c hc; omega
/-! the module's numbers and word -/
structure Nums2 (mg : Str → Option Value) : Prop where
  n : Nums mg
  put : ∃ t, mg "PUT_WORD" = some (.str "put" t)
  oth : ∃ t, mg "OTHER_WORDS" = some (.int 5 t)
  figs : ∃ t, mg "MOST_FIGURES" = some (.int 4 t)
  enum : mg "enumerate" = none
def okN (i : Int) : Prop := i.natAbs < 10000
theorem log_ok {i : Int} (h : okN i) : i.natAbs.log2 < 1920 := by
  by_cases z : i.natAbs = 0
  · rw [z]; decide
  · exact Nat.lt_of_lt_of_le ((Nat.log2_lt z).mpr (show i.natAbs < 2 ^ 20 by have : i.natAbs < 10000 := h; omega)) (by decide)
/-! is_number -/
def gIsNum (rs : List Sl) (o : Out) : Prop := ∃ i : Int, okN i ∧ rs = [.dat (.str (nT i))] ∧ o = .ok (.dat (.bool true))
theorem scIsNum : FnScope ["word", "figures"] ["word"] (defScope sIsNum) := ⟨rfl, rfl, rfl, by decide +kernel, rfl, by decide +kernel, by decide +kernel⟩
theorem c_isNum (B : Bl mg) (N : Nums2 mg) (d : Def K mg "is_number" sIsNum ["word"]) : Cal P w K mg base "is_number" 1 (DV.spS K gIsNum) := by
  refine d.cal scIsNum (fun rs o ⟨_, _, e, _⟩ => by rw [e]; rfl) ?_
  rintro rs o ⟨i, hi, rfl, rfl⟩ f cdv A outer sh H E M R D hr g qr qn qe
  have hl := nT_len hi
  have hrl := nT_rlen hi
  have hsh := (low_ok (nT_low i)).1
  refine st_set 1 (r := .dat (.str (Txt.removeprefix (nT i) "-"))) (s1 := ()) scIsNum.nd rfl (Or.inl rfl) (e_rmpre (by omega) (v 0) e_str) ?_
  refine st_if (k := !(Txt.isdecimal (Txt.removeprefix (nT i) "-")) || decide ((4 : Int) < (Txt.removeprefix (nT i) "-").length)) (s1 := ()) (t_w (w_or (t_not (t_val (e_isdec (v 1)))) fun _ => w_or1 (t_gtI (e_lenS (by omega) (by rfl) B.len (a1 (v 1))) (gi N.figs)))) (fun h => ?_) (fun _ => st_thru ?_)
  · rw [nT_dec, decide_eq_false (by omega)] at h
    cases h
  · refine st_ret (e_eqD (d1 := .str (nT i)) (d2 := .str (nT i)) hr.units (e_strI (log_ok hi) (by rfl) B.str (a1 (e_intS (nT_int hi) (by omega) (by rfl) B.int (a1 (v 0))))) (v 0) hsh hsh) fun v H' R' sv => qr _ v H' rfl R' ?_
    have e : PyData.eqv (.str (nT i)) (.str (nT i)) = true := by show (nT i == nT i) = true; simp
    rw [e] at sv
    exact sv
/-! numbers_of -/
theorem tf_nums (is : List Int) : dS (is.map nT) = is.map fun i => PyData.str (nT i) := by
  show List.map _ (List.map _ _) = _
  rw [List.map_map]
  rfl
def gNums (rs : List Sl) (o : Out) : Prop := ∃ (is : List Int) (r : Int), (∀ i ∈ is, okN i) ∧ is.length ≤ 1000 ∧ rs = [.dat (.list (dS (is.map nT))), .dat (.int r)] ∧ o = .ok (.dat (.list (dI is)))
theorem scNums : FnScope ["words", "row", "word"] ["words", "row"] (defScope sNumsOf) := ⟨rfl, rfl, rfl, by decide +kernel, rfl, by decide +kernel, by decide +kernel⟩
def valOf (d : PyData) : PyData := match d with
  | .str x => match intText? x with | some i => .int i | none => .none
  | _ => .none
theorem val_nT {i : Int} (h : okN i) : valOf (.str (nT i)) = .int i := by
  show (match intText? (nT i) with | some i => PyData.int i | none => .none) = _
  rw [nT_int h]
theorem c_nums (B : Bl mg) (cN : Cal P w K mg base "is_number" 1 (DV.spS K gIsNum)) (d : Def K mg "numbers_of" sNumsOf ["words", "row"]) : Cal P w K mg base "numbers_of" 2 (DV.spS K gNums) := by
  refine d.cal scNums (fun rs o ⟨_, _, _, _, e, _⟩ => by rw [e]; rfl) ?_
  rintro rs o ⟨is, row, hi, hl, rfl, rfl⟩ f cdv A outer sh H E M R D hr g qr qn qe
  have ll : (dS (is.map nT)).length = is.length := by rw [tf_nums, List.length_map]
  refine st_for g (fun i ρ' _ => ∃ r, ρ' = [.dat (.list (dS (is.map nT))), .dat (.int row), r]) (passes_of rfl) rfl (pg_name (i := 2) scNums.nd rfl (Or.inl rfl)) (i_list (v 0)) ⟨_, rfl⟩ (fun j ρi si H1 hj hJ g1 => ?_) (fun ρ' s' hJ => ?_)
  · obtain ⟨r, rfl⟩ := hJ
    have hj' : j < is.length := by omega
    have hd : (dS (is.map nT))[j]? = some (.str (nT is[j])) := by rw [tf_nums, List.getElem?_map, List.getElem?_eq_getElem hj']; rfl
    refine ⟨_, tg0_name, fun N hN => ?_⟩
    rw [itD_lt hd]
    refine st_if (k := !true) (s1 := si) (t_not (t_val (e_call g1 cN hr (Nat.le_refl _) (by rfl) ⟨is[j], hi _ (List.getElem_mem hj'), rfl, rfl⟩ (a_cons (v 2) a_nil)))) (fun h => by cases h) (fun _ => st_thru (st_nil fun σ H hσ hR => hN σ H _ _ ⟨_, rfl⟩ hσ hR))
  · obtain ⟨r, rfl⟩ := hJ
    have em : dI is = (dS (is.map nT)).map valOf := by
      rw [tf_nums, List.map_map]
      exact List.map_congr_left fun i h => (val_nT (hi i h)).symm
    refine st_ret (r := .dat (.list (dI is))) ?_ fun v H' R' sv => qr _ v H' rfl R' sv
    rw [em]
    refine lc_map (own := [("word", 2)]) g (i := 2) valOf (i_list (v 0)) (by omega) (fun d hd sh Hh C cl fp D acc gD => ?_) rfl scNums.nd (blkOk_by (N := ["words", "row", "word"]) (sc := defScope sNumsOf) (by decide +kernel)) (fun sh Hh C cl fp => pg_name (i := 2) scNums.nd rfl (Or.inl rfl)) (by simp)
    rw [tf_nums] at hd
    obtain ⟨i, him, rfl⟩ := List.mem_map.mp hd
    rw [val_nT (hi i him)]
    exact e_intS (nT_int (hi i him)) (by have := nT_len (hi i him); omega) (by rfl) B.int (a1 (v 2))
/-! check_text -/
def gChkT (rs : List Sl) (o : Out) : Prop := ∃ x : Str, rs = [.dat (.str x)] ∧ o = .ok (.dat .none)
theorem scChkT : FnScope ["text"] ["text"] (defScope sChkText) := ⟨rfl, rfl, rfl, by decide +kernel, rfl, by decide +kernel, by decide +kernel⟩
theorem c_chkT (B : Bl mg) (d : Def K mg "check_text" sChkText ["text"]) : Cal P w K mg base "check_text" 1 (DV.spS K gChkT) := by
  refine d.cal scChkT (fun rs o ⟨_, e, _⟩ => by rw [e]; rfl) ?_
  rintro rs o ⟨x, rfl, rfl⟩ f cdv A outer sh H E M R D hr g qr qn qe
  refine st_if (k := !isS (.str x)) (s1 := ()) (t_not (t_val (isi boot_str B.isi B.str (kit_str (.str x)) (v 0)))) (fun h => by cases h) (fun _ => st_thru (st_nil fun σ H _ R' => qn σ H rfl R'))
/-! written -/
def tokT (xs : List Int) : Str := Txt.join " " (xs.map nT)
theorem len_nums {xs : List Int} (h : ∀ i ∈ xs, okN i) : ∀ p ∈ xs.map nT, p.length ≤ 5 := fun p hp => by
  obtain ⟨i, hi, rfl⟩ := List.mem_map.mp hp
  exact nT_len (h i hi)
theorem blank1 : (" " : Str).length = 1 := by decide +kernel
theorem line1 : ("\n" : Str).length = 1 := by decide +kernel
theorem join_fit {xs : List Str} {b n : Nat} (h : ∀ p ∈ xs, p.length ≤ b) (hn : xs.length ≤ n) {y : Str} (hy : y.length = 1) : (xs.map (·.length)).sum + xs.length * y.length ≤ n * (b + 1) := by
  have := sum_len h
  have h2 : xs.length * b ≤ n * b := Nat.mul_le_mul_right _ hn
  rw [hy, Nat.mul_add]
  omega
def gWritten (C : Addr) (rs : List Sl) (o : Out) : Prop := ∃ d, rs = [.dat d] ∧ ((tokD d = false ∧ o = .er (.ref C)) ∨ ∃ xs : List Int, d = .tuple (dI xs) ∧ tokD d = true ∧ o = .ok (.dat (.str (tokT xs))))
theorem scWritten : FnScope ["token", "count"] ["token"] (defScope sWritten) := ⟨rfl, rfl, rfl, by decide +kernel, rfl, by decide +kernel, by decide +kernel⟩
def txtOf (d : PyData) : PyData := match d with
  | .int i => .str (nT i)
  | _ => .none
theorem tok_in {xs : List Int} (h : tokD (.tuple (dI xs)) = true) : 2 ≤ xs.length ∧ xs.length ≤ 5 ∧ inTok xs := by
  obtain ⟨ds, e, h2, h5, hm⟩ := tok_shape h
  injection e with e
  subst e
  rw [List.length_map] at h2 h5
  refine ⟨h2, h5, fun x hx => ?_⟩
  obtain ⟨i, ei, a, b⟩ := hm (.int x) (List.mem_map.mpr ⟨x, hx, rfl⟩)
  cases ei
  exact ⟨a, b⟩
theorem okN_tok {x : Int} (h : 0 ≤ x ∧ x ≤ 999) : okN x := by show x.natAbs < 10000; omega
theorem c_written {C : Addr} (B : Bl mg) (n : DV.Exn K mg "BadToken" C) (cT : Cal P w K mg base "is_token" 2 (DV.spS K gTok)) (d : Def K mg "written" sWritten ["token"]) : Cal P w K mg base "written" 3 (DV.spS K (gWritten C)) := by
  refine d.cal scWritten (fun rs o ⟨_, e, _⟩ => by rw [e]; rfl) ?_
  rintro rs o ⟨d, rfl, ho⟩ f cdv A outer sh H E M R D hr g qr qn qe
  refine st_if (k := !tokD d) (s1 := ()) (t_not (t_val (e_call g cT hr (Nat.le_refl _) (by rfl) ⟨d, rfl, rfl⟩ (a_cons (v 0) a_nil)))) (fun h => ?_) (fun h => st_thru ?_)
  · have ht : tokD d = false := (Bool.not_eq_true' _).mp h
    rcases ho with ⟨_, rfl⟩ | ⟨xs, _, h2, _⟩
    · exact st_raise rfl n (takes_of rfl rfl rfl rfl) (by rfl) (a_cons e_str a_nil) (by simp) fun σ H' _ R' => qe _ H' rfl R'
    · rw [ht] at h2; cases h2
  · have ht : tokD d = true := (Bool.not_eq_false' _).mp h
    rcases ho with ⟨h2, _⟩ | ⟨xs, rfl, _, rfl⟩
    · rw [ht] at h2; cases h2
    · obtain ⟨t2, t5, tin⟩ := tok_in ht
      have hn : ∀ i ∈ xs, okN i := fun i hi => okN_tok (tin i hi)
      have em : dS (xs.map nT) = (dI xs).map txtOf := by
        rw [tf_nums]
        show _ = List.map _ (List.map _ _)
        rw [List.map_map]
        rfl
      have hf := join_fit (len_nums hn) (show (xs.map nT).length ≤ 5 by rw [List.length_map]; exact t5) blank1
      refine st_ret (r := .dat (.str (tokT xs))) (e_joinL (by omega) e_str ?_) fun v H' R' sv => qr _ v H' rfl R' sv
      rw [em]
      refine lc_map (own := [("count", 1)]) g (i := 1) txtOf (i_tup (v 0)) (by rw [List.length_map]; omega) (fun d hd sh Hh C cl fp D acc gD => ?_) rfl scWritten.nd (blkOk_by (N := ["token", "count"]) (sc := defScope sWritten) (by decide +kernel)) (fun sh Hh C cl fp => pg_name (i := 1) scWritten.nd rfl (Or.inl rfl)) (by simp)
      obtain ⟨i, rfl, hi⟩ := mem_dI' hd
      exact e_strI (log_ok (hn i hi)) (by rfl) B.str (a1 (v 1))
end
end K14
namespace DV
open PySem PySem.Spec L2 Evl LamX NdefX
open PyProof.Rows hiding St cutD
theorem a_cast {S : Type} {X : Cx} {M : List Addr} {R : S → Hp → Prop} {ρ : List Sl} {s s' : S} {es : List Expr} {rs rs' : List Sl} (h : EvA1 X M R ρ es s rs s') (e : rs = rs') : EvA1 X M R ρ es s rs' s' := by
  subst e
  exact h
theorem gs {S : Type} {X : Cx} {M : List Addr} {R : S → Hp → Prop} {ρ : List Sl} {s : S} {pos : Pos} {x z : Str} (hm : ∃ t, X.mg x = some (.str z t)) (hg : Gl X x := by rfl) (hd : (x == ("__debug__" : Str)) = false := by decide) : Ev1 X M R ρ (.Name x pos) s (.dat (.str z)) s := by
  obtain ⟨t, hm⟩ := hm
  exact e_glob hg hm (v := .str z) ⟨t, rfl⟩ (fun H => Dv.str z) hd
theorem star_split {a m z : List PyData} {n i : Nat} (hi : a.length = i) (hn : n = i + 1 + z.length) :
    ((a ++ m ++ z).take i ++ [PyData.list (((a ++ m ++ z).drop i).take ((a ++ m ++ z).length + 1 - n))] ++ ((a ++ m ++ z).drop i).drop ((a ++ m ++ z).length + 1 - n)) = a ++ [.list m] ++ z := by
  subst hi
  have e1 : (a ++ m ++ z).take a.length = a := by rw [List.append_assoc, List.take_left]
  have e2 : (a ++ m ++ z).drop a.length = m ++ z := by rw [List.append_assoc, List.drop_left]
  have e3 : (a ++ m ++ z).length + 1 - n = m.length := by
    rw [List.length_append, List.length_append]
    omega
  rw [e1, e2, e3, List.take_left, List.drop_left]
theorem tg2_starS {K : PySem.W.Frag} {n i : Nat} {is : List Nat} {ρ : List Sl} {a m z : List PyData} (hl : is.length = n) (hi : a.length = i) (hn : n = i + 1 + z.length) (hz : (a ++ m ++ z).length ≤ 16384) :
    Tg2 K (gStarL K n i (gNames is)) ρ (.dat (.list (a ++ m ++ z))) (setAll ρ is (a ++ [.list m] ++ z)) := by
  have h := tg2_star (K := K) (n := n) (i := i) (is := is) (ρ := ρ) (ds := a ++ m ++ z) hl (by omega) (by rw [List.length_append, List.length_append]; omega) hz
  rw [star_split hi hn] at h
  exact h
end DV
namespace K14
open PySem PySem.Spec L2 Evl DV LamX NdefX NT
open PyProof.Rows hiding St cutD
structure Put where
  site : Int
  num : Int
  past : List Int
  turn : Int
  key : Int
  worth : Int
def nums (p : Put) : List Int := [p.site, p.num] ++ p.past ++ [p.turn, p.key, p.worth]
def putD (p : Put) : PyData := .tuple [.int p.site, .int p.num, .tuple (dI p.past), .int p.turn, .int p.key, .int p.worth]
structure OkPut (p : Put) : Prop where
  all : ∀ i ∈ nums p, okN i
  two : 2 ≤ p.past.length
  five : p.past.length ≤ 5
def rowL (p : Put) : List Str := ("put" : Str) :: (nums p).map nT
def rowT (p : Put) : Str := Txt.join " " (rowL p)
def logT (ps : List Put) : Str := Txt.join "\n" (ps.map rowT)
theorem nums_len (p : Put) : (nums p).length = p.past.length + 5 := by
  unfold nums
  rw [List.length_append, List.length_append]
  show 2 + _ + 3 = _
  omega
theorem dI_nums (p : Put) : dI (nums p) = [.int p.site, .int p.num] ++ dI p.past ++ [.int p.turn, .int p.key, .int p.worth] := by
  show List.map _ (_ ++ _ ++ _) = _
  rw [List.map_append, List.map_append]
  rfl
theorem put_low : ∀ c ∈ TL.tl ("put" : Str), c < 128 ∧ 45 ≤ c := by decide +kernel
theorem put_len : ("put" : Str).length = 3 := by decide +kernel
theorem blank_low : ∀ c ∈ TL.tl (" " : Str), c < 128 := by decide +kernel
theorem line_low : ∀ c ∈ TL.tl ("\n" : Str), c < 128 := by decide +kernel
theorem rowL_no {p : Put} {k : Nat} (hk : k < 45) : ∀ x ∈ rowL p, k ∉ TL.tl x := by
  intro x hx
  rcases List.mem_cons.mp hx with rfl | hx
  · intro h
    have := (put_low k h).2
    omega
  · obtain ⟨i, _, rfl⟩ := List.mem_map.mp hx
    exact nT_no hk
theorem rowL_len {p : Put} (h : OkPut p) : ∀ x ∈ rowL p, x.length ≤ 5 := by
  intro x hx
  rcases List.mem_cons.mp hx with rfl | hx
  · rw [put_len]; decide
  · obtain ⟨i, hi, rfl⟩ := List.mem_map.mp hx
    exact nT_len (h.all i hi)
theorem rowL_l {p : Put} (h : OkPut p) : (rowL p).length ≤ 11 := by
  unfold rowL
  rw [List.length_cons, List.length_map, nums_len]
  have := h.five
  omega
theorem row_len {p : Put} (h : OkPut p) : (rowT p).length ≤ 66 := by
  have := joined_len (y := " ") (rowL_len h)
  rw [blank1] at this
  have h2 := rowL_l h
  have h3 : (rowL p).length * (5 + 1) ≤ 11 * 6 := Nat.mul_le_mul_right _ h2
  show (Txt.join " " (rowL p)).length ≤ 66
  omega
theorem row_split (p : Put) : Txt.split (rowT p) " " = rowL p := words_back (by unfold rowL; simp) (rowL_no (by decide))
theorem row_noline (p : Put) : 10 ∉ TL.tl (rowT p) := joined_no (by decide +kernel) (rowL_no (by decide))
theorem row_low (p : Put) : ∀ c ∈ TL.tl (rowT p), c < 128 := join_low blank_low fun x hx => by
  rcases List.mem_cons.mp hx with rfl | hx
  · exact fun c hc => (put_low c hc).1
  · obtain ⟨i, _, rfl⟩ := List.mem_map.mp hx
    exact nT_low i
theorem log_low (ps : List Put) : ∀ c ∈ TL.tl (logT ps), c < 128 := join_low line_low fun x hx => by
  obtain ⟨p, _, rfl⟩ := List.mem_map.mp hx
  exact row_low p
theorem log_split {ps : List Put} (h : ps ≠ []) : Txt.split (logT ps) "\n" = ps.map rowT := lines_back (fun e => h (List.map_eq_nil_iff.mp e)) fun x hx => by
  obtain ⟨p, _, rfl⟩ := List.mem_map.mp hx
  exact row_noline p
theorem log_len {ps : List Put} (h : ∀ p ∈ ps, OkPut p) (hz : ps.length ≤ 100) : (logT ps).length ≤ 6700 := by
  have := joined_len (y := "\n") (b := 66) (l := ps.map rowT) fun x hx => by
    obtain ⟨p, hp, rfl⟩ := List.mem_map.mp hx
    exact row_len (h p hp)
  rw [line1, List.length_map] at this
  have h3 : ps.length * (66 + 1) ≤ 100 * 67 := Nat.mul_le_mul_right _ hz
  show (Txt.join "\n" (ps.map rowT)).length ≤ 6700
  omega
theorem row_ne (p : Put) : TL.tl (rowT p) ≠ [] := by
  show TL.tl (Txt.join " " (rowL p)) ≠ []
  rw [tl_joined]
  have : (rowL p).map TL.tl = TL.tl ("put" : Str) :: ((nums p).map nT).map TL.tl := rfl
  rw [this]
  have h2 : TL.tl ("put" : Str) ≠ [] := by decide +kernel
  have h3 : (nums p).map nT ≠ [] := by
    intro e
    have := congrArg List.length e
    rw [List.length_map, nums_len] at this
    simp at this
  cases h : ((nums p).map nT).map TL.tl with
  | nil => exact absurd (List.map_eq_nil_iff.mp h) h3
  | cons q r =>
    show TL.tl ("put" : Str) ++ _ ≠ []
    simp [h2]
theorem log_ne {ps : List Put} (h : ps ≠ []) : PyData.eqv (.str (logT ps)) (.str "") = false := by
  show (logT ps == ("" : Str)) = false
  rw [beq_eq_false_iff_ne]
  intro e
  have e := congrArg TL.tl e
  have e2 : TL.tl (logT ps) = TL.joinL (TL.tl "\n") ((ps.map rowT).map TL.tl) := tl_joined _ _
  rw [e2] at e
  have e0 : TL.tl ("" : Str) = [] := by decide +kernel
  rw [e0] at e
  cases ps with
  | nil => exact h rfl
  | cons p ps =>
    cases ps with
    | nil => exact row_ne p e
    | cons q r =>
      have e : TL.tl (rowT p) ++ (TL.tl "\n" ++ TL.joinL (TL.tl "\n") (((q :: r).map rowT).map TL.tl)) = [] := e
      exact row_ne p (List.append_eq_nil_iff.mp e).1
section
variable {P : Program} {w : World} {K : PySem.W.Frag} {mg : Str → Option Value} {base : Heap}
/-! written_put -/
def gWPut (rs : List Sl) (o : Out) : Prop := ∃ p : Put, OkPut p ∧ rs = [.dat (putD p)] ∧ o = .ok (.dat (.str (rowT p)))
abbrev nWPut : List Str := ["put", "site", "number", "past", "turn", "key", "worth", "part"]
theorem scWPut : FnScope nWPut ["put"] (defScope sWPut) := ⟨rfl, rfl, rfl, by decide +kernel, rfl, by decide +kernel, by decide +kernel⟩
theorem c_wput (B : Bl mg) (N : Nums2 mg) (d : Def K mg "written_put" sWPut ["put"]) : Cal P w K mg base "written_put" 1 (DV.spS K gWPut) := by
  refine d.cal scWPut (fun rs o ⟨_, _, e, _⟩ => by rw [e]; rfl) ?_
  rintro rs o ⟨p, hp, rfl, rfl⟩ f cdv A outer sh H E M R D hr g qr qn qe
  have nl := nums_len p
  have h5 := hp.five
  refine st_asg g (r := .dat (putD p)) (pg_tup (n := 6) rfl (pgs_cons (pg_name (i := 1) scWPut.nd rfl (Or.inl rfl)) (pgs_cons (pg_name (i := 2) scWPut.nd rfl (Or.inl rfl)) (pgs_cons (pg_name (i := 3) scWPut.nd rfl (Or.inl rfl)) (pgs_cons (pg_name (i := 4) scWPut.nd rfl (Or.inl rfl)) (pgs_cons (pg_name (i := 5) scWPut.nd rfl (Or.inl rfl)) (pgs_cons (pg_name (i := 6) scWPut.nd rfl (Or.inl rfl)) pgs_nil)))))))
    (tg2_tup (is := [1, 2, 3, 4, 5, 6]) rfl rfl) (s1 := ()) (v 0) ?_
  have hfit := join_fit (rowL_len hp) (rowL_l hp) blank1
  have em : dS ((nums p).map nT) = (dI (nums p)).map txtOf := by
    rw [tf_nums]
    show _ = List.map _ (List.map _ _)
    rw [List.map_map]
    rfl
  refine st_ret (r := .dat (.str (rowT p))) (e_joinL (x := " ") (ys := rowL p) (by omega) e_str (e_catL g (ds := [.str "put"]) (es := dS ((nums p).map nT)) (by rw [tf_nums, List.length_map]; simp; omega) (e_lst g (ds := [.str "put"]) (a_cons (gs N.put) a_nil) (by simp)) ?_)) fun v H' R' sv => qr _ v H' rfl R' sv
  rw [em]
  refine lc_map (own := [("part", 7)]) g (i := 7) txtOf (i_tup (e_tup g (ds := dI (nums p)) (a_cast (a_cons (v 1) (a_cons (v 2) (a_starT (ds := dI p.past) (v 3) (a_cons (v 4) (a_cons (v 5) (a_cons (v 6) a_nil)))))) ?_) (by rw [List.length_map]; omega))) (by rw [List.length_map]; omega) (fun d hd sh Hh C cl fp D acc gD => ?_) rfl scWPut.nd (blkOk_by (N := nWPut) (sc := defScope sWPut) (by decide +kernel)) (fun sh Hh C cl fp => pg_name (i := 7) scWPut.nd rfl (Or.inl rfl)) (by simp)
  · rw [dI_nums]
    unfold dats
    rw [List.map_append, List.map_append]
    rfl
  · obtain ⟨i, rfl, hi⟩ := mem_dI' hd
    exact e_strI (log_ok (hp.all i hi)) (by rfl) B.str (a1 (v 7))
/-! written_log -/
def unI : List PyData → List Int := List.map fun d => match d with | .int i => i | _ => 0
theorem unI_dI (xs : List Int) : unI (dI xs) = xs := by
  show List.map _ (List.map _ _) = _
  rw [List.map_map]
  exact List.map_id xs
def rowOf (d : PyData) : PyData := match d with
  | .tuple [.int a, .int b, .tuple ps, .int t, .int k, .int z] => .str (rowT ⟨a, b, unI ps, t, k, z⟩)
  | _ => .none
theorem rowOf_is (p : Put) : rowOf (putD p) = .str (rowT p) := by
  show PyData.str (rowT ⟨p.site, p.num, unI (dI p.past), p.turn, p.key, p.worth⟩) = _
  rw [unI_dI]
def gWLog (rs : List Sl) (o : Out) : Prop := ∃ ps : List Put, (∀ p ∈ ps, OkPut p) ∧ ps.length ≤ 100 ∧ rs = [.dat (.list (ps.map putD))] ∧ o = .ok (.dat (.str (logT ps)))
theorem scWLog : FnScope ["log", "put"] ["log"] (defScope sWLog) := ⟨rfl, rfl, rfl, by decide +kernel, rfl, by decide +kernel, by decide +kernel⟩
theorem c_wlog (cP : Cal P w K mg base "written_put" 1 (DV.spS K gWPut)) (d : Def K mg "written_log" sWLog ["log"]) : Cal P w K mg base "written_log" 2 (DV.spS K gWLog) := by
  refine d.cal scWLog (fun rs o ⟨_, _, _, e, _⟩ => by rw [e]; rfl) ?_
  rintro rs o ⟨ps, hp, hz, rfl, rfl⟩ f cdv A outer sh H E M R D hr g qr qn qe
  have em : dS (ps.map rowT) = (ps.map putD).map rowOf := by
    show List.map _ (List.map _ _) = _
    rw [List.map_map, List.map_map]
    exact List.map_congr_left fun p _ => (rowOf_is p).symm
  have hfit := join_fit (b := 66) (n := 100) (xs := ps.map rowT) (fun x hx => by
    obtain ⟨p, h, rfl⟩ := List.mem_map.mp hx
    exact row_len (hp p h)) (by rw [List.length_map]; exact hz) line1
  refine st_ret (r := .dat (.str (logT ps))) (e_joinL (x := "\n") (ys := ps.map rowT) (by omega) e_str ?_) fun v H' R' sv => qr _ v H' rfl R' sv
  rw [em]
  refine lc_map (own := [("put", 1)]) g (i := 1) rowOf (i_list (v 0)) (by rw [List.length_map]; omega) (fun d hd sh Hh C cl fp D acc gD => ?_) rfl scWLog.nd (blkOk_by (N := ["log", "put"]) (sc := defScope sWLog) (by decide +kernel)) (fun sh Hh C cl fp => pg_name (i := 1) scWLog.nd rfl (Or.inl rfl)) (by simp)
  obtain ⟨p, h, rfl⟩ := List.mem_map.mp hd
  rw [rowOf_is]
  exact e_call gD cP hr (Nat.le_refl _) (by rfl) ⟨p, hp p h, rfl, rfl⟩ (a_cons (v 1) a_nil)
/-! read -/
def gRead (rs : List Sl) (o : Out) : Prop := ∃ xs : List Int, tokD (.tuple (dI xs)) = true ∧ rs = [.dat (.str (tokT xs))] ∧ o = .ok (.dat (.tuple (dI xs)))
theorem scRead : FnScope ["text", "token"] ["text"] (defScope sRead) := ⟨rfl, rfl, rfl, by decide +kernel, rfl, by decide +kernel, by decide +kernel⟩
theorem tok_split {xs : List Int} (h : xs ≠ []) : Txt.split (tokT xs) " " = xs.map nT := words_back (fun e => h (List.map_eq_nil_iff.mp e)) fun x hx => by
  obtain ⟨i, _, rfl⟩ := List.mem_map.mp hx
  exact nT_no (by decide)
theorem tokT_len {xs : List Int} (h : ∀ i ∈ xs, okN i) (h5 : xs.length ≤ 5) : (tokT xs).length ≤ 30 := by
  have := joined_len (y := " ") (len_nums h)
  rw [blank1, List.length_map] at this
  have h3 : xs.length * (5 + 1) ≤ 5 * 6 := Nat.mul_le_mul_right _ h5
  show (Txt.join " " (xs.map nT)).length ≤ 30
  omega
theorem c_read (B : Bl mg) (cC : Cal P w K mg base "check_text" 1 (DV.spS K gChkT)) (cN : Cal P w K mg base "numbers_of" 2 (DV.spS K gNums)) (cT : Cal P w K mg base "is_token" 2 (DV.spS K gTok)) (d : Def K mg "read" sRead ["text"]) : Cal P w K mg base "read" 3 (DV.spS K gRead) := by
  refine d.cal scRead (fun rs o ⟨_, _, e, _⟩ => by rw [e]; rfl) ?_
  rintro rs o ⟨xs, ht, rfl, rfl⟩ f cdv A outer sh H E M R D hr g qr qn qe
  obtain ⟨t2, t5, tin⟩ := tok_in ht
  have hn : ∀ i ∈ xs, okN i := fun i hi => okN_tok (tin i hi)
  have hl := tokT_len hn t5
  refine st_expr (e_call g cC hr (by decide) (by rfl) (r := .dat .none) ⟨tokT xs, rfl, rfl⟩ (a_cons (v 0) a_nil)) ?_
  refine st_set 1 (r := .dat (.tuple (dI xs))) (s1 := ()) scRead.nd rfl (Or.inl rfl) (e_tupleL g (by rfl) B.tuple (a1 (e_call g cN hr (by decide) (by rfl) (r := .dat (.list (dI xs))) ⟨xs, 0, hn, by omega, rfl, rfl⟩ (a_cons (s1 := ()) ?_ (a_cons e_int a_nil))))) ?_
  · have e := tok_split (xs := xs) (fun z => by rw [z] at t2; cases t2)
    rw [← e]
    exact e_splitS g (by decide +kernel) (by omega) (v 0) e_str
  · refine st_if (k := !tokD (.tuple (dI xs))) (s1 := ()) (t_not (t_val (e_call g cT hr (Nat.le_refl _) (by rfl) ⟨_, rfl, rfl⟩ (a_cons (v 1) a_nil)))) (fun h => by rw [ht] at h; cases h) (fun _ => st_thru ?_)
    exact st_ret (v 1) fun v H' R' sv => qr _ v H' rfl R' sv
/-! read_put -/
def gRPut (rs : List Sl) (o : Out) : Prop := ∃ (p : Put) (r : Int), OkPut p ∧ rs = [.dat (.str (rowT p)), .dat (.int r)] ∧ o = .ok (.dat (putD p))
abbrev nRPut : List Str := ["line", "row", "first", "words", "site", "number", "past", "turn", "key", "worth"]
theorem scRPut : FnScope nRPut ["line", "row"] (defScope sRPut) := ⟨rfl, rfl, rfl, by decide +kernel, rfl, by decide +kernel, by decide +kernel⟩
theorem put_shp : SeqAt.shaped (.str "put") = true := by decide +kernel
theorem c_rput (B : Bl mg) (N : Nums2 mg) (cN : Cal P w K mg base "numbers_of" 2 (DV.spS K gNums)) (d : Def K mg "read_put" sRPut ["line", "row"]) : Cal P w K mg base "read_put" 3 (DV.spS K gRPut) := by
  refine d.cal scRPut (fun rs o ⟨_, _, _, e, _⟩ => by rw [e]; rfl) ?_
  rintro rs o ⟨p, row, hp, rfl, rfl⟩ f cdv A outer sh H E M R D hr g qr qn qe
  have nl := nums_len p
  have h5 := hp.five
  have h2 := hp.two
  have hrow := row_len hp
  have ll : (dS ((nums p).map nT)).length = p.past.length + 5 := by rw [tf_nums, List.length_map, nl]
  refine st_asg g (r := .dat (.list ([PyData.str "put"] ++ dS ((nums p).map nT) ++ []))) (ρ' := setAll (ini nRPut [.dat (.str (rowT p)), .dat (.int row)]) [2, 3] ([PyData.str "put"] ++ [.list (dS ((nums p).map nT))] ++ [])) (pg_starL (n := 2) (i := 1) rfl (pgs_cons (pg_name (i := 2) scRPut.nd rfl (Or.inl rfl)) (pgs_star (pg_name (i := 3) scRPut.nd rfl (Or.inl rfl)) pgs_nil)))
    (tg2_starS (is := [2, 3]) rfl rfl rfl (by rw [List.append_nil, List.length_append, ll]; simp; omega)) (s1 := ()) ?_ ?_
  · have e : [PyData.str "put"] ++ dS ((nums p).map nT) ++ [] = dS (Txt.split (rowT p) " ") := by
      rw [row_split, List.append_nil]
      rfl
    rw [e]
    exact e_splitS g (by decide +kernel) (by omega) (v 0) e_str
  · refine st_if (k := (!PyData.eqv (.str "put") (.str "put")) || !(decide ((2 : Int) ≤ (dS ((nums p).map nT)).length - 5) && decide (((dS ((nums p).map nT)).length : Int) - 5 ≤ 5))) (s1 := ())
      (t_w (w_or (t_neD hr.units (v 2) (gs N.put) put_shp put_shp) fun _ => w_or1 (t_not (t_chain op_le op_le (gi N.n.few) (e_sub (e_lenL (by rfl) B.len (a1 (v 3))) (gi N.oth)) (gi N.n.most))))) (fun h => ?_) (fun _ => st_thru ?_)
    · rw [ll, decide_eq_true (by omega), decide_eq_true (by omega)] at h
      cases h
    · refine st_asg g (r := .dat (.list ([PyData.int p.site, .int p.num] ++ dI p.past ++ [.int p.turn, .int p.key, .int p.worth])))
        (pg_starL (n := 6) (i := 2) rfl (pgs_cons (pg_name (i := 4) scRPut.nd rfl (Or.inl rfl)) (pgs_cons (pg_name (i := 5) scRPut.nd rfl (Or.inl rfl)) (pgs_star (pg_name (i := 6) scRPut.nd rfl (Or.inl rfl)) (pgs_cons (pg_name (i := 7) scRPut.nd rfl (Or.inl rfl)) (pgs_cons (pg_name (i := 8) scRPut.nd rfl (Or.inl rfl)) (pgs_cons (pg_name (i := 9) scRPut.nd rfl (Or.inl rfl)) pgs_nil)))))))
        (tg2_starS (is := [4, 5, 6, 7, 8, 9]) rfl rfl rfl (by rw [← dI_nums, List.length_map, nl]; omega)) (s1 := ()) ?_ ?_
      · rw [← dI_nums]
        exact e_call g cN hr (Nat.le_refl _) (by rfl) ⟨nums p, row, hp.all, by omega, rfl, rfl⟩ (a_cons (v 3) (a_cons (v 1) a_nil))
      · exact st_ret (e_tup g (ds := [.int p.site, .int p.num, .tuple (dI p.past), .int p.turn, .int p.key, .int p.worth]) (a_cons (v 4) (a_cons (v 5) (a_cons (e_tupleL g (by rfl) B.tuple (a1 (v 6))) (a_cons (v 7) (a_cons (v 8) (a_cons (v 9) a_nil)))))) (by simp)) fun v H' R' sv => qr _ v H' rfl R' sv
/-! read_log -/
def gRLog (rs : List Sl) (r : Sl) : Prop := ∃ ps : List Put, (∀ p ∈ ps, OkPut p) ∧ ps.length ≤ 100 ∧ rs = [.dat (.str (logT ps))] ∧ r = .dat (.list (ps.map putD))
abbrev nRLog : List Str := ["text", "row", "line"]
theorem scRLog : FnScope nRLog ["text"] (defScope sRLog) := ⟨rfl, rfl, rfl, by decide +kernel, rfl, by decide +kernel, by decide +kernel⟩
theorem empty_shp : SeqAt.shaped (.str "") = true := by decide +kernel
theorem logT_nil : logT [] = ("" : Str) := by decide +kernel
theorem c_rlog (B : Bl mg) (N : Nums2 mg) (cC : Cal P w K mg base "check_text" 1 (DV.spS K gChkT)) (cP : Cal P w K mg base "read_put" 3 (DV.spS K gRPut)) (d : Def K mg "read_log" sRLog ["text"]) : Cal P w K mg base "read_log" 4 (spF K gRLog) := by
  refine d.calF scRLog (fun rs r ⟨_, _, _, e, _⟩ => by rw [e]; rfl) ?_
  rintro rs r ⟨ps, hp, hz, rfl, rfl⟩ f cdv A outer sh H E M R D hr g fr qr
  have hl := log_len hp hz
  have hsh := (low_ok (log_low ps)).1
  refine st_expr (s1 := ()) (e_call g cC hr (by decide) (by rfl) (r := .dat .none) ⟨logT ps, rfl, rfl⟩ (a_cons (v 0) a_nil)) ?_
  refine st_if (k := PyData.eqv (.str (logT ps)) (.str "")) (s1 := ()) (t_eqD hr.units (v 0) e_str hsh empty_shp) (fun h => ?_) (fun h => st_thru ?_)
  · have hn : ps = [] := by
      by_cases z : ps = []
      · exact z
      · rw [log_ne z] at h; cases h
    subst hn
    intro σ H0 hσ hR
    refine b_ret (wE_of (pe_lst pa_nil) ⟨by decide, fun p np => ?_⟩)
    have hR' := g.up hR (Ex.new (o := .lst []) np)
    exact qr _ _ hR' (.lst (cut_upd (g.fresh hR np)) .nil) fun q e => by
      cases e
      exact fr H0 _ hR np
  · have hne : ps ≠ [] := fun z => by
      subst z
      rw [logT_nil] at h
      cases h
    have hlen : (dS (ps.map rowT)).length = ps.length := by
      show (List.map _ (List.map _ _)).length = _
      rw [List.length_map, List.length_map]
    have hlen2 : (cntD (dS (ps.map rowT)).length).length = ps.length := by
      unfold cntD
      rw [List.length_map, List.length_range, hlen]
    have eo : ((ps.take (cntD (dS (ps.map rowT)).length).length).map putD) = ps.map putD := by rw [hlen2, List.take_length]
    refine st_retLc g (own := [("row", 1), ("line", 2)]) (gt := gTup K 2 (gCons (gName 1) (gCons (gName 2) gNil))) (n := (cntD (dS (ps.map rowT)).length).length) (it := itZ (cntD (dS (ps.map rowT)).length) (dS (ps.map rowT))) (ss := fun _ => ()) (outs := fun i => (ps.take i).map putD) rfl scRLog.nd (blkOk_by (N := nRLog) (sc := defScope sRLog) (by decide +kernel))
      (fun sh Hh C cl fp => pg_tup rfl (pgs_cons (pg_name (i := 1) scRLog.nd rfl (Or.inl rfl)) (pgs_cons (pg_name (i := 2) scRLog.nd rfl (Or.inl rfl)) pgs_nil))) (i_enumL (by rfl) N.enum (a1 ?_)) rfl (fun i hi => by show ((ps.take i).map putD).length < 100000; rw [List.length_map, List.length_take]; omega) (fun i hi => ?_) (fun L H1 H' R1 n1 R' sv => ?_)
    · have e := log_split hne
      rw [← e]
      exact e_splitS g (by decide +kernel) (by omega) (v 0) e_str
    · have hi' : i < ps.length := by omega
      have h1 : (cntD (dS (ps.map rowT)).length)[i]? = some (.int (i : Nat)) := by
        unfold cntD
        rw [List.getElem?_map, List.getElem?_range (by omega)]
        rfl
      have hd : ps[i]? = some ps[i] := List.getElem?_eq_getElem hi'
      have h2 : (dS (ps.map rowT))[i]? = some (.str (rowT ps[i])) := by
        show (List.map _ (List.map _ _))[i]? = _
        rw [List.getElem?_map, List.getElem?_map, hd]
        rfl
      rw [itZ_lt h1 h2]
      refine ⟨_, tg_pair (by simp) (by simp), fun D acc gD => ⟨true, (), ⟨rfl, rfl⟩, fun _ => ⟨putD ps[i], ?_, fun sh Hh C cl fp => ?_⟩, fun h => by cases h⟩⟩
      · show (ps.take (i + 1)).map putD = (ps.take i).map putD ++ [putD ps[i]]
        rw [take_succ' hd, List.map_append]
        rfl
      · exact e_call gD cP hr (Nat.le_refl _) (by rfl) ⟨ps[i], i, hp _ (List.getElem_mem hi'), rfl, rfl⟩ (a_cons (v 2) (a_cons (v 1) a_nil))
    · rw [eo] at sv
      exact qr _ H' R' sv fun p e => by
        cases e
        exact fr H1 _ R1 (cut_fresh n1 sv)
end
end K14
namespace K14
open PySem PySem.Spec L2 Evl DV LamX NdefX NT
open PyProof.Rows hiding St cutD
def mx (i j : Int) : Int := if j > i then j else i
theorem ix_getD {ds : List PyData} {i : Int} (h0 : 0 ≤ i) (h1 : i < ds.length) : atI ds i = some (ds.getD i.toNat .none) := by
  obtain ⟨h, e⟩ := atI_lt h0 h1
  rw [e, List.getD_eq_getElem?_getD, List.getElem?_eq_getElem h]
  rfl
theorem getD_mem {α : Type} {l : List α} {i : Nat} {x : α} (h : i < l.length) : l.getD i x ∈ l := by
  rw [List.getD_eq_getElem?_getD, List.getElem?_eq_getElem h]
  exact List.getElem_mem h
/-! _law_number -/
def n1S (st : Bx) : Bx := takeS st 3
def n2S (st : Bx) : Bx := takeS (n1S st) 1000
def n3S (st : Bx) : Bx := takeS (n2S st) 1999
def numS (st : Bx) : Bx := takeS (n3S st) 3
def numL (st : Bx) : List Int := [takeV st 3, takeV (n1S st) 1000, takeV (n2S st) 1999 - 999]
def numI (st : Bx) : Int := (numL st).getD (takeV (n3S st) 3).toNat 0
def numV (l : Int) (st : Bx) : Int := mx l (numI st)
theorem ix_num (st : Bx) : atI (dI (numL st)) (takeV (n3S st) 3) = some (.int (numI st)) := by
  have h0 := takeV_nonneg (st := n3S st) (n := 3) (by decide)
  have h1 := takeV_lt (st := n3S st) (n := 3) (by decide)
  have h : takeV (n3S st) 3 = 0 ∨ takeV (n3S st) 3 = 1 ∨ takeV (n3S st) 3 = 2 := by omega
  unfold numI
  rcases h with h | h | h <;> rw [h] <;> rfl
theorem numI_range (st : Bx) : -999 ≤ numI st ∧ numI st ≤ 999 := by
  have h0 := takeV_nonneg (st := n3S st) (n := 3) (by decide)
  have h1 := takeV_lt (st := n3S st) (n := 3) (by decide)
  have a0 := takeV_nonneg (st := st) (n := 3) (by decide)
  have a1 := takeV_lt (st := st) (n := 3) (by decide)
  have b0 := takeV_nonneg (st := n1S st) (n := 1000) (by decide)
  have b1 := takeV_lt (st := n1S st) (n := 1000) (by decide)
  have c0 := takeV_nonneg (st := n2S st) (n := 1999) (by decide)
  have c1 := takeV_lt (st := n2S st) (n := 1999) (by decide)
  have hm : numI st ∈ numL st := getD_mem (by show _ < 3; omega)
  simp only [numL, List.mem_cons, List.not_mem_nil, or_false] at hm
  rcases hm with h | h | h <;> rw [h] <;> constructor <;> omega
theorem numV_range {l : Int} (st : Bx) (h1 : l ≤ 999) : l ≤ numV l st ∧ numV l st ≤ 999 := by
  have := numI_range st
  unfold numV mx
  split <;> omega
section
variable {P : Program} {w : World} {K : PySem.W.Frag} {mg : Str → Option Value} {base : Heap}
def gNumber (rs : List Sl) (st : Bx) (r : Sl) (st' : Bx) : Prop := ∃ l : Int, rs = [.dat (.int l)] ∧ r = .dat (.int (numV l st)) ∧ st' = numS st
theorem scNumber : FnScope ["_law_box", "_law_least"] ["_law_box", "_law_least"] (defScope sNumber) := ⟨rfl, rfl, rfl, by decide +kernel, rfl, by decide +kernel, by decide +kernel⟩
theorem c_number (B : Bl mg) (cT : Cal P w K mg base "_law_take" 1 spTake) (d : Def K mg "_law_number" sNumber ["_law_box", "_law_least"]) : Cal P w K mg base "_law_number" 2 (spB K gNumber) := by
  refine d.calB scNumber (fun rs bs r bs' ⟨_, e, _⟩ => by rw [e]; rfl) ?_
  rintro rs bs r bs' ⟨l, rfl, rfl, rfl⟩ f cdv A outer sh H E M R D b l' hr g BI q
  refine st_ret (e_max2 rfl (by rfl) B.max (a_cons (v 1) (a_cons (e_ixL (d := .int (numI bs)) (s1 := n3S bs) (s2 := numS bs) (e_lst g (ds := dI (numL bs))
    (a_cons (s1 := n1S bs) (e_tk BI cT hr (Nat.le_refl _) (by rfl) (a_cons (v 0) (a_cons e_int a_nil))) (a_cons (s1 := n2S bs) (e_tk BI cT hr (Nat.le_refl _) (by rfl) (a_cons (v 0) (a_cons e_int a_nil))) (a_cons (s1 := n3S bs) (e_sub (e_tk BI cT hr (Nat.le_refl _) (by rfl) (a_cons (v 0) (a_cons e_int a_nil))) e_int) a_nil)))
    (by show 3 ≤ 100000; decide)) (e_tk BI cT hr (Nat.le_refl _) (by rfl) (a_cons (v 0) (a_cons e_int a_nil))) (ix_num bs)) a_nil))) q
/-! a tuple of numbers -/
def tkS (l : Int) (st : Bx) : Nat → Bx
  | 0 => st
  | j + 1 => numS (tkS l st j)
def tkV (l : Int) (st : Bx) (m : Nat) : List Int := (List.range m).map fun j => numV l (tkS l st j)
theorem tkV_len (l : Int) (st : Bx) (m : Nat) : (tkV l st m).length = m := by
  unfold tkV
  rw [List.length_map, List.length_range]
theorem tkV_in (st : Bx) (m : Nat) : inTok (tkV 0 st m) := fun x hx => by
  obtain ⟨j, _, rfl⟩ := List.mem_map.mp hx
  exact numV_range _ (by decide)
theorem tkV_map (l : Int) (st : Bx) (m : Nat) : dI (tkV l st m) = (List.range m).map fun j => PyData.int (numV l (tkS l st j)) := by
  show List.map PyData.int (List.map _ _) = _
  rw [List.map_map]
  rfl
/-! _law_put -/
def p1S (m : Nat) (st : Bx) : Bx := tkS 0 st m
def p2S (m : Nat) (st : Bx) : Bx := takeS (p1S m st) 4995
def p3S (m : Nat) (st : Bx) : Bx := takeS (p2S m st) 6
def p4S (m : Nat) (st : Bx) : Bx := takeS (p3S m st) 5
def p5S (m : Nat) (st : Bx) : Bx := numS (p4S m st)
def putS (m : Nat) (st : Bx) : Bx := numS (p5S m st)
def putV (m : Nat) (st : Bx) : Put := ⟨takeV (p3S m st) 5, numV 1 (p4S m st), tkV 0 st m, takeV (p1S m st) 4995, takeV (p2S m st) 6, numV (-999) (p5S m st)⟩
theorem putV_ok {m : Nat} {st : Bx} (h2 : 2 ≤ m) (h5 : m ≤ 5) : OkPut (putV m st) := by
  refine ⟨fun i hi => ?_, by show 2 ≤ (tkV 0 st m).length; rw [tkV_len]; exact h2, by show (tkV 0 st m).length ≤ 5; rw [tkV_len]; exact h5⟩
  have a0 := takeV_nonneg (st := p3S m st) (n := 5) (by decide)
  have a1 := takeV_lt (st := p3S m st) (n := 5) (by decide)
  have b := numV_range (l := 1) (p4S m st) (by decide)
  have c0 := takeV_nonneg (st := p1S m st) (n := 4995) (by decide)
  have c1 := takeV_lt (st := p1S m st) (n := 4995) (by decide)
  have d0 := takeV_nonneg (st := p2S m st) (n := 6) (by decide)
  have d1 := takeV_lt (st := p2S m st) (n := 6) (by decide)
  have e := numV_range (l := -999) (p5S m st) (by decide)
  show i.natAbs < 10000
  rcases List.mem_append.mp hi with hi | hi
  · rcases List.mem_append.mp hi with hi | hi
    · simp only [List.mem_cons, List.not_mem_nil, or_false] at hi
      rcases hi with rfl | rfl
      · show (takeV (p3S m st) 5).natAbs < 10000; omega
      · show (numV 1 (p4S m st)).natAbs < 10000; omega
    · have := tkV_in st m i hi
      omega
  · simp only [List.mem_cons, List.not_mem_nil, or_false] at hi
    rcases hi with rfl | rfl | rfl
    · show (takeV (p1S m st) 4995).natAbs < 10000; omega
    · show (takeV (p2S m st) 6).natAbs < 10000; omega
    · show (numV (-999) (p5S m st)).natAbs < 10000; omega
def gPutB (rs : List Sl) (st : Bx) (r : Sl) (st' : Bx) : Prop := ∃ m : Nat, m ≤ 1000 ∧ rs = [.dat (.int m)] ∧ r = .dat (putD (putV m st)) ∧ st' = putS m st
abbrev nPut : List Str := ["_law_box", "_law_many", "_law_past", "_law_turn", "_law_key", "_law_k"]
theorem scPut : FnScope nPut ["_law_box", "_law_many"] (defScope sPut) := ⟨rfl, rfl, rfl, by decide +kernel, rfl, by decide +kernel, by decide +kernel⟩
theorem c_put (B : Bl mg) (cT : Cal P w K mg base "_law_take" 1 spTake) (cN : Cal P w K mg base "_law_number" 2 (spB K gNumber)) (d : Def K mg "_law_put" sPut ["_law_box", "_law_many"]) : Cal P w K mg base "_law_put" 3 (spB K gPutB) := by
  refine d.calB scPut (fun rs bs r bs' ⟨_, _, e, _⟩ => by rw [e]; rfl) ?_
  rintro rs bs r bs' ⟨m, hm, rfl, rfl, rfl⟩ f cdv A outer sh H E M R D b l hr g BI q
  refine st_set 2 (r := .dat (.tuple (dI (tkV 0 bs m)))) (s1 := p1S m bs) scPut.nd rfl (Or.inl rfl) (e_tupleL g (by rfl) B.tuple (a1 ?_)) ?_
  · rw [tkV_map]
    refine lc_rng (own := [("_law_k", 5)]) g (i := 5) (n := m) (ss := tkS 0 bs) _ (i_rngN (by rfl) B.range (by omega) (a1 (v 1))) (by omega)
      (fun j hj sh Hh C cl fp D acc gD => ?_) rfl scPut.nd (blkOk_by (N := nPut) (sc := defScope sPut) (by decide +kernel)) (fun sh Hh C cl fp => pg_name (i := 5) scPut.nd rfl (Or.inl rfl)) (by simp)
    exact e_bx gD (BI.rd D acc) cN hr (Nat.le_refl _) (by rfl) ⟨0, rfl, rfl, rfl⟩ (a_cons (v 0) (a_cons e_int a_nil))
  · refine st_par (i := 3) (j := 4) (s1 := p3S m bs) rfl scPut.nd rfl rfl (by decide) rfl rfl
      (a_cons (s1 := p2S m bs) (e_tk BI cT hr (by decide) (by rfl) (a_cons (v 0) (a_cons e_int a_nil))) (a_cons (s1 := p3S m bs) (e_tk BI cT hr (by decide) (by rfl) (a_cons (v 0) (a_cons e_int a_nil))) a_nil)) ?_ (fun ha => ps_par rfl scPut.nd rfl rfl (by decide) rfl rfl ha (by rfl))
    refine st_ret (e_tup g (ds := [.int (takeV (p3S m bs) 5), .int (numV 1 (p4S m bs)), .tuple (dI (tkV 0 bs m)), .int (takeV (p1S m bs) 4995), .int (takeV (p2S m bs) 6), .int (numV (-999) (p5S m bs))])
      (a_cons (s1 := p4S m bs) (e_tk BI cT hr (by decide) (by rfl) (a_cons (v 0) (a_cons e_int a_nil))) (a_cons (s1 := p5S m bs) (e_bx g BI cN hr (by decide) (by rfl) ⟨1, rfl, rfl, rfl⟩ (a_cons (v 0) (a_cons e_int a_nil))) (a_cons (v 2) (a_cons (v 3) (a_cons (v 4) (a_cons (s1 := putS m bs) (e_bx g BI cN hr (by decide) (by rfl) ⟨-999, rfl, rfl, rfl⟩ (a_cons (v 0) (a_cons (e_neg e_int) a_nil))) a_nil)))))) (by simp)) q
end
end K14
namespace K14
open PySem PySem.Spec L2 Evl DV LamX NdefX NT
open PyProof.Rows hiding St cutD
section
variable {S : Type} {X : Cx} {M : List Addr} {R : S → Hp → Prop} {ρ : List Sl} {s s1 s2 : S} {a b : Expr} {pos : Pos}
theorem e_repT (g : Rg M R) {ds : List PyData} {k : Int} (hne : ds ≠ []) (h2 : 2 ≤ k) (hk : k ≤ 1000) (hz : ds.length ≤ 1000) (ha : Ev1 X M R ρ a s (.dat (.tuple ds)) s1) (hb : Ev1 X M R ρ b s1 (.dat (.int k)) s2) : Ev1 X M R ρ (.BinOp a .Mult b pos) s (.dat (.tuple (List.replicate k.toNat ds).flatten)) s2 :=
  e_op op_repT ha hb fun x y H Q dx dy hR q => by
    obtain ⟨p, xs, rfl, hp, hd⟩ := sv_tup dx
    have hl := dpa_length hd
    exact ⟨p, k, xs, rfl, sv_int dy, ex_t ex_cut hp, fun z => hne (by rw [z] at hl; exact List.eq_nil_of_length_eq_zero hl.symm), h2, hk, by omega, fun p n => new_tup g hR n (dpa_rep hd k.toNat) q⟩
end
theorem tok_mem {ds : List PyData} {x : PyData} (h : x ∈ ds) (hx : wholeD x 0 999 = false) : tokD (.tuple ds) = false := by
  have e : (ds.all fun d => wholeD d 0 999) = false := by
    rw [List.all_eq_false]
    exact ⟨x, h, by rw [hx]; exact Bool.false_ne_true⟩
  show ((decide (2 ≤ (ds.length : Int)) && decide ((ds.length : Int) ≤ 5)) && ds.all fun d => wholeD d 0 999) = false
  rw [e, Bool.and_false]
theorem cutD_len (ds : List PyData) (lo hi : Option Int) : (cutD ds lo hi).length ≤ ds.length := by
  unfold cutD
  rw [List.length_take, List.length_drop]
  omega
theorem sIx_back (n d : Nat) (h : 1 ≤ n) : HT.sIx n d (some (-1)) = n - 1 := by
  have := HT.clip_eq (-1) n d
  rw [if_pos (by decide)] at this
  omega
theorem cutD_back (ds : List PyData) (h : 1 ≤ ds.length) : (cutD ds none (some (-1))).length = ds.length - 1 := by
  unfold cutD
  rw [List.length_take, List.length_drop, HT.sIx_none, sIx_back _ _ h]
  omega
/-! the draws of _law_odd -/
theorem free_by {sc sl : Scope} (h : (sc.names.all fun y => !decide (y.2 = .free) || decide (sl.names.lookup y.1 = some .cell)) = true) : ∀ y ∈ sc.names, y.2 = .free → sl.names.lookup y.1 = some .cell ∨ sl.names.lookup y.1 = some .free := fun y hy e => by
  have := List.all_eq_true.mp h y hy
  rw [e] at this
  exact .inl (by simpa using this)
theorem zip_has {js : List Nat} {fr : List Str} (hl : js.length = fr.length) (i : Nat) (y : Str) (h : fr[i]? = some y) : ∃ j, js[i]? = some j ∧ (j, y) ∈ js.zip fr := by
  have hi : i < fr.length := by
    by_cases z : i < fr.length
    · exact z
    · rw [List.getElem?_eq_none (by omega)] at h; cases h
  have hj : js[i]? = some (js[i]'(by omega)) := List.getElem?_eq_getElem _
  refine ⟨_, hj, List.mem_iff_getElem?.mpr ⟨i, ?_⟩⟩
  rw [List.getElem?_zip_eq_some]
  exact ⟨hj, h⟩

abbrev nLaw : List Str := ["_law_script", "_law_box", "_law_turn", "_law_many", "_law_ticket", "_law_text", "_law_bad", "_law_log", "_law_rows", "_law_handed", "_law_again", "_law_found", "_law_k", "_law_count", "_law_part", "_law_put_here"]
theorem scLaw : FnScope nLaw ["_law_script"] (defScope sLaw) := ⟨rfl, rfl, rfl, by decide +kernel, rfl, by decide +kernel, by decide +kernel⟩
structure Cals (P : Program) (w : World) (K : PySem.W.Frag) (mg : Str → Option Value) (base : Heap) (C : Addr) : Prop where
  begun : Cal P w K mg base "_law_begun" 1 (spBegun K)
  take : Cal P w K mg base "_law_take" 1 spTake
  number : Cal P w K mg base "_law_number" 2 (spB K gNumber)
  put : Cal P w K mg base "_law_put" 3 (spB K gPutB)
  alike : Cal P w K mg base "_law_alike" 4 (DV.spS K (gAlike 3))
  written : Cal P w K mg base "written" 3 (DV.spS K (gWritten C))
  read : Cal P w K mg base "read" 3 (DV.spS K gRead)
  wlog : Cal P w K mg base "written_log" 2 (DV.spS K gWLog)
  rlog : Cal P w K mg base "read_log" 4 (spF K gRLog)
  all : Cal P w K mg base "_law_all" 7 (spAll P w K mg base 5)
abbrev bodyL : List Stmt := match defBody sLaw with | [_, .For _ _ body _ _, _] => body | _ => []
theorem depth_log (ps : List Put) : PyData.depthAll (ps.map putD) ≤ 2 := by
  induction ps with
  | nil => exact Nat.zero_le _
  | cons p ps ih =>
    show max (PyData.depth (putD p)) (PyData.depthAll (ps.map putD)) ≤ 2
    have e : PyData.depth (putD p) = max 0 (max 0 (max (PyData.depthAll (dI p.past) + 1) (max 0 (max 0 (max 0 0))))) + 1 := rfl
    rw [e, depth_ints]
    omega
theorem okD_put {p : Put} (h : p.past.length ≤ 1000) : okD (putD p) = true := by
  have e := okD_tI h
  show (decide (6 ≤ 1000) && (true && (true && (okD (.tuple (dI p.past)) && (true && (true && (true && true))))))) = true
  rw [e]
  rfl
theorem okD_log {ps : List Put} (h : ∀ p ∈ ps, OkPut p) (hz : ps.length ≤ 100) : okD (.list (ps.map putD)) = true := by
  have key : ∀ ps : List Put, (∀ p ∈ ps, OkPut p) → okAll (ps.map putD) = true := by
    intro ps
    induction ps with
    | nil => exact fun _ => rfl
    | cons p ps ih =>
      intro h
      show (okD (putD p) && okAll (ps.map putD)) = true
      have h5 := (h p (by simp)).five
      rw [okD_put (by omega), ih fun q hq => h q (List.mem_cons_of_mem _ hq)]
      rfl
  show (decide ((ps.map putD).length ≤ 1000) && okAll (ps.map putD)) = true
  rw [key ps h, decide_eq_true (by rw [List.length_map]; omega)]
  rfl
/-- what is no token -/
def badL (xs : List Int) : List PyData := [.tuple (dI xs ++ (List.replicate (4 : Int).toNat [PyData.int 0]).flatten), .tuple (cutD (dI xs) none (some 1)), .list (dI xs), .tuple (cutD (dI xs) none (some (-1)) ++ [.int 1000]), .none]
theorem tok_few {ds : List PyData} (h : ¬ (2 ≤ ds.length ∧ ds.length ≤ 5)) : tokD (.tuple ds) = false := by
  show ((decide (2 ≤ (ds.length : Int)) && decide ((ds.length : Int) ≤ 5)) && _) = false
  by_cases z : 2 ≤ ds.length
  · rw [decide_eq_false (p := (ds.length : Int) ≤ 5) (by omega), Bool.and_false]
    rfl
  · rw [decide_eq_false (p := (2 : Int) ≤ (ds.length : Int)) (by omega)]
    rfl
theorem cutD_one (ds : List PyData) (h : 2 ≤ ds.length) : (cutD ds none (some 1)).length ≤ 1 := by
  unfold cutD
  rw [List.length_take]
  have : HT.sIx ds.length ds.length (some 1) ≤ 1 := by
    have := HT.clip_eq 1 ds.length ds.length
    rw [if_neg (by decide)] at this
    omega
  omega
theorem bad_bad {xs : List Int} (h2 : 2 ≤ xs.length) : ∀ d ∈ badL xs, tokD d = false := by
  intro d hd
  have lx : (dI xs).length = xs.length := List.length_map _
  simp only [badL, List.mem_cons, List.not_mem_nil, or_false] at hd
  rcases hd with rfl | rfl | rfl | rfl | rfl
  · refine tok_few ?_
    have e : ((List.replicate (4 : Int).toNat [PyData.int 0]).flatten).length = 4 := by decide
    rw [List.length_append, e, lx]
    omega
  · refine tok_few ?_
    have := cutD_one (dI xs) (by omega)
    omega
  · rfl
  · exact tok_mem (x := .int 1000) (by simp) (by decide)
  · rfl
def badD (xs : List Int) (st : Bx) : PyData := (badL xs).getD (takeV st 5).toNat .none
theorem badD_bad {xs : List Int} {st : Bx} (h2 : 2 ≤ xs.length) : tokD (badD xs st) = false := by
  have h0 := takeV_nonneg (st := st) (n := 5) (by decide)
  have h1 := takeV_lt (st := st) (n := 5) (by decide)
  exact bad_bad h2 _ (getD_mem (by show _ < 5; omega))
section
variable {P : Program} {w : World} {K : PySem.W.Frag} {mg : Str → Option Value} {base : Heap} {C c T : Addr}
/-- tokens written and read -/
theorem turnA (B : Bl mg) (G : Cals P w K mg base C) {f : Addr} {cdv : Value} {A : Around} {outer : List Env} {sh : Shared} {H : Hp} {E : XK} {M : List Addr} {R : Bx → Hp → Prop} {b l : Addr} {D : Ends} {si : Bx} {i : Int}
    (hr : Room 7 (A.deeper (envOfC "law" (defScope sLaw) sh.heap.objs.size f cdv))) (g : Rg M R) (BI : BoxIn M R b l id fun _ t => t)
    (k : ∀ (st : Bx) (xs : List Int), inTok xs → 2 ≤ xs.length → xs.length ≤ 5 → St1 (dx P w K mg base nLaw "law" sLaw f cdv A outer sh H E) M R
      [.any, .raw (.ref b), .dat (.int i), .dat (.int xs.length), .dat (.tuple (dI xs)), .dat (.str (tokT xs)), .any, .any, .any, .any, .any, .any, .any, .any, .any, .any] (bodyL.drop 4) st D) :
    St1 (dx P w K mg base nLaw "law" sLaw f cdv A outer sh H E) M R [.any, .raw (.ref b), .dat (.int i), .any, .any, .any, .any, .any, .any, .any, .any, .any, .any, .any, .any, .any] bodyL si D := by
  have t0 := takeV_nonneg (st := si) (n := 4) (by decide)
  have t1 := takeV_lt (st := si) (n := 4) (by decide)
  obtain ⟨m, hm, m2, m5⟩ : ∃ m : Nat, (2 + takeV si 4 : Int) = m ∧ 2 ≤ m ∧ m ≤ 5 := ⟨(2 + takeV si 4).toNat, by omega, by omega, by omega⟩
  refine st_set 3 (r := .dat (.int (m : Int))) (s1 := takeS si 4) scLaw.nd rfl (by first | exact Or.inl rfl | exact Or.inr rfl) (by rw [← hm]; exact e_add e_int (e_tk BI G.take hr (by decide) (by rfl) (a_cons (v 1) (a_cons e_int a_nil)))) ?_
  refine st_set 4 (r := .dat (.tuple (dI (tkV 0 (takeS si 4) m)))) (s1 := tkS 0 (takeS si 4) m) scLaw.nd rfl (by first | exact Or.inl rfl | exact Or.inr rfl) (e_tupleL g (by rfl) B.tuple (a1 ?_)) ?_
  · rw [tkV_map]
    refine lc_rng (own := [("_law_k", 12)]) g (i := 12) (n := m) (ss := tkS 0 (takeS si 4)) _ (i_rngN (by rfl) B.range (by omega) (a1 (v 3))) (by omega)
      (fun j hj sh Hh C cl fp D acc gD => ?_) rfl scLaw.nd (blkOk_by (N := nLaw) (sc := defScope sLaw) (by decide +kernel)) (fun sh Hh C cl fp => pg_name (i := 12) scLaw.nd rfl (Or.inl rfl)) (by simp)
    exact e_bx gD (BI.rd D acc) G.number hr (by decide) (by rfl) ⟨0, rfl, rfl, rfl⟩ (a_cons (v 1) (a_cons e_int a_nil))
  have hx := tkV_in (takeS si 4) m
  have lx := tkV_len 0 (takeS si 4) m
  generalize tkV 0 (takeS si 4) m = xs at hx lx ⊢
  subst lx
  generalize tkS 0 (takeS si 4) xs.length = s2
  have hn : ∀ i ∈ xs, okN i := fun i hi => okN_tok (hx i hi)
  have em : dS (xs.map nT) = (dI xs).map txtOf := by
    rw [tf_nums]
    show _ = List.map _ (List.map _ _)
    rw [List.map_map]
    rfl
  have hf := join_fit (len_nums hn) (show (xs.map nT).length ≤ 5 by rw [List.length_map]; exact m5) blank1
  refine st_set 5 (r := .dat (.str (tokT xs))) (s1 := s2) scLaw.nd rfl (by first | exact Or.inl rfl | exact Or.inr rfl) (e_joinL (by omega) e_str ?_) ?_
  · rw [em]
    refine lc_map (own := [("_law_count", 13)]) g (i := 13) txtOf (i_tup (v 4)) (by rw [List.length_map]; omega) (fun d hd sh Hh C cl fp D acc gD => ?_) rfl scLaw.nd (blkOk_by (N := nLaw) (sc := defScope sLaw) (by decide +kernel)) (fun sh Hh C cl fp => pg_name (i := 13) scLaw.nd rfl (Or.inl rfl)) (by simp)
    obtain ⟨i, rfl, hi⟩ := mem_dI' hd
    exact e_strI (log_ok (hn i hi)) (by rfl) B.str (a1 (v 13))
  have htok : tokD (.tuple (dI xs)) = true := by
    have e : ((dI xs).all fun d => wholeD d 0 999) = true := by
      rw [List.all_eq_true]
      intro d hd
      obtain ⟨i, rfl, hi⟩ := mem_dI' hd
      obtain ⟨a, b⟩ := hx i hi
      show (decide (0 ≤ i) && decide (i ≤ 999)) = true
      rw [decide_eq_true a, decide_eq_true b]
      rfl
    show ((decide (2 ≤ ((dI xs).length : Int)) && decide (((dI xs).length : Int) ≤ 5)) && (dI xs).all fun d => wholeD d 0 999) = true
    rw [e, List.length_map, decide_eq_true (by omega), decide_eq_true (by omega)]
    rfl
  have tlow : ∀ c ∈ TL.tl (tokT xs), c < 128 := join_low blank_low fun x hx => by
    obtain ⟨i, _, rfl⟩ := List.mem_map.mp hx
    exact nT_low i
  refine st_if (k := !true) (s1 := s2) (t_not (t_val (e_call g G.alike hr (by decide) (by rfl) (r := .dat (.bool true)) ⟨.list [.str (tokT xs), .tuple (dI xs)], rfl, ?_, ?_, rfl⟩
    (a_cons (e_lst g (ds := [.str (tokT xs), .tuple (dI xs)]) (a_cons (e_call g G.written hr (by decide) (by rfl) ⟨.tuple (dI xs), rfl, .inr ⟨xs, rfl, htok, rfl⟩⟩ (a_cons (v 4) a_nil)) (a_cons (e_call g G.read hr (by decide) (by rfl) ⟨xs, htok, rfl, rfl⟩ (a_cons (v 5) a_nil)) a_nil)) (by simp))
    (a_cons (e_lst g (ds := [.str (tokT xs), .tuple (dI xs)]) (a_cons (v 5) (a_cons (v 4) a_nil)) (by simp)) a_nil))))) (fun h => by cases h) (fun _ => st_thru ?_)
  · have e1 := (low_ok tlow).2
    have e2 := okD_tI (xs := xs) (by omega)
    show (decide (2 ≤ 1000) && (okD (.str (tokT xs)) && (okD (.tuple (dI xs)) && true))) = true
    rw [e1, e2]
    rfl
  · show max 0 (max (PyData.depthAll (dI xs) + 1) 0) + 1 ≤ 3
    rw [depth_ints]
    decide
  exact k s2 xs hx m2 m5
/-- what is no token is refused -/
theorem turnB (B : Bl mg) (G : Cals P w K mg base C) (TB : TabB base mg c T) (Kd : DV.Kinds K mg C 7) {f : Addr} {A : Around} {outer : List Env} {sh : Shared} {H : Hp} {E : XK} {M : List Addr} {R : Bx → Hp → Prop} {b l : Addr} {D : Ends} {st : Bx} {xs : List Int} {r0 r2 r3 r5 r6 r7 r8 r9 r10 r11 r12 r13 r14 r15 : Sl}
    (hr : Room 7 (A.deeper (envOfC "law" (defScope sLaw) sh.heap.objs.size f (.ref c)))) (L : LawR M R b l T ((dx P w K mg base nLaw "law" sLaw f (.ref c) A outer sh H E).env.qual ++ "<lambda>")) (x2 : 2 ≤ xs.length) (x5 : xs.length ≤ 5)
    (k : ∀ (s2 : Bx) (d : PyData), St1 (dx P w K mg base nLaw "law" sLaw f (.ref c) A outer sh H E) M R [r0, .raw (.ref b), r2, r3, .dat (.tuple (dI xs)), r5, .dat d, r7, r8, r9, r10, r11, r12, r13, r14, r15] (bodyL.drop 6) s2 D) :
    St1 (dx P w K mg base nLaw "law" sLaw f (.ref c) A outer sh H E) M R [r0, .raw (.ref b), r2, r3, .dat (.tuple (dI xs)), r5, r6, r7, r8, r9, r10, r11, r12, r13, r14, r15] (bodyL.drop 4) st D := by
  have g := L.g
  have BI := L.box
  have lx : (dI xs).length = xs.length := List.length_map _
  have h0 := takeV_nonneg (st := st) (n := 5) (by decide)
  have h1 := takeV_lt (st := st) (n := 5) (by decide)
  have c1 := cutD_len (dI xs) none (some (-1))
  have e4 : ((List.replicate (4 : Int).toNat [PyData.int 0]).flatten).length = 4 := by decide
  refine st_set 6 (r := .dat (badD xs st)) (s1 := takeS st 5) scLaw.nd rfl (by first | exact Or.inl rfl | exact Or.inr rfl) (e_ixL (d := badD xs st) (s1 := st) (e_lst g (ds := badL xs)
    (a_cons (e_catT g (by rw [e4]; omega) (v 4) (e_repT g (ds := [.int 0]) (by simp) (by decide) (by decide) (by simp) (e_tup g (ds := [.int 0]) (a_cons e_int a_nil) (by simp)) e_int))
    (a_cons (e_slT g (v 4) ⟨rfl, rfl⟩ ⟨_, rfl, e_int⟩)
    (a_cons (e_listT g (by rfl) B.list (a1 (v 4)))
    (a_cons (e_catT g (by rw [List.length_singleton]; omega) (e_slT g (v 4) ⟨rfl, rfl⟩ ⟨_, rfl, e_neg e_int⟩) (e_tup g (ds := [.int 1000]) (a_cons e_int a_nil) (by simp)))
    (a_cons e_non a_nil))))) (by show 5 ≤ 100000; decide)) (e_tk BI G.take hr (by decide) (by rfl) (a_cons (v 1) (a_cons e_int a_nil))) (ix_getD h0 (by show _ < (5 : Int); exact h1))) ?_
  have hbad := badD_bad (st := st) x2
  generalize badD xs st = d at hbad ⊢
  generalize takeS st 5 = s2
  intro σ H0 hσ hR
  obtain ⟨o, h6, v6, rfl, d6⟩ := hσ.get (i := 6) (r := .dat d) rfl
  have sl6 : slotAt σ 6 = some v6 := slotAt_of h6
  refine b_all L G.all hr (by decide) (by rfl) Kd (ys := [(6, "_law_bad")]) (fun q hq => ?_) (fun q hq => ?_) hσ hR (fun Q q => ?_) (fun H1 _ R1 => ?_) (fun H1 hσ1 R1 => k s2 d σ H1 hσ1 R1)
  · simp only [List.mem_cons, List.not_mem_nil, or_false] at hq
    subst hq
    exact ⟨rfl, rfl, rfl⟩
  · simp only [List.mem_cons, List.not_mem_nil, or_false] at hq
    subst hq
    exact ⟨_, h6⟩
  · refine wE_of (pe_lst (pa_cons pe_w pa_nil)) ?_
    refine L.lam0 ⟨TB, rfl, free_by (by rfl)⟩ rfl rfl hR fun f1 c1 H1 y1 R1 hf1 hc1 => ?_
    refine ⟨(by decide : 1 ≤ sizeLine), fun p np => ?_⟩
    have y2 : Ex (cut M H1) (cut M (upd H1 p (.lst [V.ref f1]))) := exCut (Ex.new np)
    refine q p [f1] _ (y1.trans y2) (g.up R1 (Ex.new np)) (cut_upd (g.fresh R1 np)) fun f' hf => ?_
    simp only [List.mem_cons, List.not_mem_nil, or_false] at hf
    subst hf
    refine (lam_er (ys := [(6, "_law_bad")]) hf1 hc1 rfl (free_by (by rfl)) (N := ["_law_bad"]) (ps := []) (fr := ["_law_bad"]) (js := [6]) (vs := []) (ρ := [.dat d]) (nscope_by (by rfl)) rfl rfl (zip_has rfl) (fun H' s _ _ => ⟨[], .nil, fun doc pm ctv => BindsTo.of_eq rfl⟩) rfl (G.written.mono (by decide)) (rs := [.dat d]) ⟨d, rfl, .inl ⟨hbad, rfl⟩⟩ (fun Hx e => ?_)
      (fun A outer s Hx E' => by rfl) (fun A outer s Hx E' => a_cons (v 0) a_nil) (by decide) (fun env => rfl) (fun env => rfl)).ex y2
    exact ⟨⟨v6, sl6, dp_ex (y1.trans e) _ _ d6⟩, trivial⟩
  · exact e_tup g (ds := [.str (kWord 7), .int 0]) (a_cons e_str (a_cons e_int a_nil)) (by simp)
end
end K14
namespace K14
open PySem PySem.Spec L2 Evl DV LamX NdefX NT
open PyProof.Rows hiding St cutD
/-! the log, its rows -/
def lgS (m : Nat) (st : Bx) : Nat → Bx
  | 0 => st
  | j + 1 => putS m (lgS m st j)
def lgV (m : Nat) (st : Bx) (n : Nat) : List Put := (List.range n).map fun j => putV m (lgS m st j)
theorem lgV_len (m : Nat) (st : Bx) (n : Nat) : (lgV m st n).length = n := by unfold lgV; rw [List.length_map, List.length_range]
theorem lgV_ok {m : Nat} (st : Bx) (n : Nat) (h2 : 2 ≤ m) (h5 : m ≤ 5) : ∀ p ∈ lgV m st n, OkPut p := fun p hp => by
  obtain ⟨j, _, rfl⟩ := List.mem_map.mp hp
  exact putV_ok h2 h5
theorem putsp : ("put " : Str) = ("put" : Str) ++ (" " : Str) := by decide +kernel
theorem row_is (p : Put) : rowT p = ("put " : Str) ++ Txt.join " " ((nums p).map nT) := by
  rw [putsp, put_join _ (fun e => by
    have := congrArg List.length e
    rw [List.length_map, nums_len] at this
    simp at this)]
  rfl
theorem cut2 (p : Put) : cutD [.int p.site, .int p.num, .tuple (dI p.past), .int p.turn, .int p.key, .int p.worth] none (some 2) = [.int p.site, .int p.num] := rfl
theorem cut3 (p : Put) : cutD [.int p.site, .int p.num, .tuple (dI p.past), .int p.turn, .int p.key, .int p.worth] (some 3) none = [.int p.turn, .int p.key, .int p.worth] := rfl
theorem putsp_len : ("put " : Str).length = 4 := by decide +kernel
theorem sh_log (ps : List Put) : SeqAt.shaped (.list (ps.map putD)) = true := by
  have key : ∀ ps : List Put, PyData.canLayAll0 (ps.map putD) = true := by
    intro ps
    induction ps with
    | nil => rfl
    | cons p ps ih =>
      show ((PyData.canLayAll0 [.int p.site, .int p.num, .tuple (dI p.past), .int p.turn, .int p.key, .int p.worth]) && PyData.canLayAll0 (ps.map putD)) = true
      have e : PyData.canLayAll0 (dI p.past) = true := lay_okAll _ (okAll_ints _)
      rw [ih]
      show (true && (true && (PyData.canLayAll0 (dI p.past) && (true && (true && (true && true)))))) && true = true
      rw [e]
      rfl
  show (PyData.canLayAll0 (ps.map putD) && decide (PyData.depthAll (ps.map putD) + 1 ≤ 64)) = true
  have := depth_log ps
  rw [key ps, decide_eq_true (by omega)]
  rfl
theorem eqv_put (p : Put) : PyData.eqv (putD p) (putD p) = true := by
  have e := eqv_tI p.past p.past
  show ((p.site == p.site) && ((p.num == p.num) && (PyData.eqv (.tuple (dI p.past)) (.tuple (dI p.past)) && ((p.turn == p.turn) && ((p.key == p.key) && ((p.worth == p.worth) && true)))))) = true
  rw [e]
  simp
theorem eqv_log (ps : List Put) : PyData.eqv (.list (ps.map putD)) (.list (ps.map putD)) = true := by
  show PyData.eqvAll (ps.map putD) (ps.map putD) = true
  induction ps with
  | nil => rfl
  | cons p ps ih =>
    show (PyData.eqv (putD p) (putD p) && PyData.eqvAll (ps.map putD) (ps.map putD)) = true
    rw [ih, eqv_put]
    rfl
section
variable {P : Program} {w : World} {K : PySem.W.Frag} {mg : Str → Option Value} {base : Heap} {C c T : Addr}
theorem turnC (B : Bl mg) (G : Cals P w K mg base C) {f : Addr} {cdv : Value} {A : Around} {outer : List Env} {sh : Shared} {H : Hp} {E : XK} {M : List Addr} {R : Bx → Hp → Prop} {b l : Addr} {D : Ends} {st : Bx} {m : Nat} {r0 r2 r4 r5 r6 r7 r8 r9 r10 r11 r12 r13 r14 r15 : Sl}
    (hr : Room 7 (A.deeper (envOfC "law" (defScope sLaw) sh.heap.objs.size f cdv))) (g : Rg M R) (BI : BoxIn M R b l id fun _ t => t) (m2 : 2 ≤ m) (m5 : m ≤ 5)
    (k : ∀ (s2 : Bx) (ps : List Put), (∀ p ∈ ps, OkPut p) → ps.length ≤ 100 → St1 (dx P w K mg base nLaw "law" sLaw f cdv A outer sh H E) M R
      [r0, .raw (.ref b), r2, .dat (.int m), r4, r5, r6, .dat (.list (ps.map putD)), .dat (.list (dS (ps.map rowT))), .dat (.list (ps.map putD)), r10, r11, r12, r13, r14, r15] (bodyL.drop 9) s2 D) :
    St1 (dx P w K mg base nLaw "law" sLaw f cdv A outer sh H E) M R [r0, .raw (.ref b), r2, .dat (.int m), r4, r5, r6, r7, r8, r9, r10, r11, r12, r13, r14, r15] (bodyL.drop 6) st D := by
  have t0 := takeV_nonneg (st := st) (n := 31) (by decide)
  have t1 := takeV_lt (st := st) (n := 31) (by decide)
  obtain ⟨n, hn, n31⟩ : ∃ n : Nat, takeV st 31 = n ∧ n < 31 := ⟨(takeV st 31).toNat, by omega, by omega⟩
  have hok := lgV_ok (takeS st 31) n m2 m5
  have hlen := lgV_len m (takeS st 31) n
  have eo : ∀ i, i ≤ n → ((lgV m (takeS st 31) n).take i) = lgV m (takeS st 31) i := fun i hi => by
    unfold lgV
    rw [← List.map_take, List.take_range, Nat.min_eq_left hi]
  refine st_lc g (i := 7) (own := [("_law_k", 12)]) (gt := gName 12) (n := n) (it := fun i => .dat (.int i)) (ss := lgS m (takeS st 31)) (outs := fun i => (lgV m (takeS st 31) i).map putD) rfl scLaw.nd rfl rfl (sw_true rfl rfl rfl (by decide)) (blkOk_by (N := nLaw) (sc := defScope sLaw) (by decide +kernel)) (fun sh Hh C cl fp => pg_name (i := 12) scLaw.nd rfl (Or.inl rfl))
    (i_rngN (by rfl) B.range (by omega) (a1 (by rw [← hn]; exact e_tk BI G.take hr (by decide) (by rfl) (a_cons (v 1) (a_cons e_int a_nil))))) rfl (fun i hi => by show ((lgV m (takeS st 31) i).map putD).length < 100000; rw [List.length_map, lgV_len]; omega) (fun j hj => ?_) ?_
  · refine ⟨_, tg_name (by simp), fun D acc gD => ⟨true, lgS m (takeS st 31) j, ⟨rfl, rfl⟩, fun _ => ⟨putD (putV m (lgS m (takeS st 31) j)), ?_, fun sh Hh C cl fp => ?_⟩, fun h => by cases h⟩⟩
    · show (lgV m (takeS st 31) (j + 1)).map putD = (lgV m (takeS st 31) j).map putD ++ _
      unfold lgV
      rw [List.range_succ, List.map_append, List.map_append]
      rfl
    · exact e_bx gD (BI.rd D acc) G.put hr (by decide) (by rfl) ⟨m, by omega, rfl, rfl, rfl⟩ (a_cons (v 1) (a_cons (v 3) a_nil))
  · show St1 _ M R [r0, .raw (.ref b), r2, .dat (.int m), r4, r5, r6, .dat (.list ((lgV m (takeS st 31) n).map putD)), r8, r9, r10, r11, r12, r13, r14, r15] _ _ D
    generalize lgV m (takeS st 31) n = ps at hok hlen ⊢
    generalize lgS m (takeS st 31) n = s2
    clear eo
    have hz : ps.length ≤ 100 := by omega
    have el : (dS (ps.map rowT)).length = ps.length := by show (List.map _ (List.map _ _)).length = _; rw [List.length_map, List.length_map]
    have lp : (ps.map putD).length = ps.length := List.length_map _
    refine st_lc g (i := 8) (own := [("_law_put_here", 15)]) (gt := gName 15) (n := (ps.map putD).length) (it := itD (ps.map putD)) (ss := fun _ => s2) (outs := fun i => ((ps.map putD).take i).map rowOf) rfl scLaw.nd rfl rfl (sw_true rfl rfl rfl (by decide)) (blkOk_by (N := nLaw) (sc := defScope sLaw) (by decide +kernel)) (fun sh Hh C cl fp => pg_name (i := 15) scLaw.nd rfl (Or.inl rfl))
      (i_list (v 7)) rfl (len_map rowOf (by omega)) (steps_map rowOf (by simp) (fun d hd sh Hh C cl fp D acc gD => ?_)) ?_
    · obtain ⟨p, hp, rfl⟩ := List.mem_map.mp hd
      have ho := hok p hp
      have nl := nums_len p
      have h5 := ho.five
      rw [rowOf_is, row_is]
      have hfit := join_fit (len_nums ho.all) (show ((nums p).map nT).length ≤ 10 by rw [List.length_map]; omega) blank1
      have hjl := joined_len (y := " ") (len_nums ho.all)
      rw [blank1, List.length_map] at hjl
      have hjl2 : (nums p).length * (5 + 1) ≤ 10 * 6 := Nat.mul_le_mul_right _ (by omega)
      refine e_catS (by rw [putsp_len]; omega) e_str (e_joinL (by omega) e_str ?_)
      have em : dS ((nums p).map nT) = (dI (nums p)).map txtOf := by
        rw [tf_nums]
        show _ = List.map _ (List.map _ _)
        rw [List.map_map]
        rfl
      rw [em]
      refine lc_map (own := [("_law_part", 14)]) gD (i := 14) txtOf (i_tup (ds := dI (nums p)) ?_) (by rw [List.length_map]; omega) (fun d hd sh Hh C cl fp D acc gD => ?_) rfl scLaw.nd (blkOk_by (N := nLaw) (by rfl)) (fun sh Hh C cl fp => pg_name (i := 14) scLaw.nd rfl (Or.inl rfl)) (by simp)
      · have lI : (dI p.past).length = p.past.length := List.length_map _
        have e : dI (nums p) = cutD [.int p.site, .int p.num, .tuple (dI p.past), .int p.turn, .int p.key, .int p.worth] none (some 2) ++ dI p.past ++ cutD [.int p.site, .int p.num, .tuple (dI p.past), .int p.turn, .int p.key, .int p.worth] (some 3) none := by
          rw [dI_nums]
          rfl
        rw [e]
        exact e_catT gD (by rw [cut2, cut3, List.length_append, lI]; simp; omega) (e_catT gD (by rw [cut2, lI]; simp; omega) (e_slT gD (v 15) ⟨rfl, rfl⟩ ⟨_, rfl, e_int⟩) (e_ixT (ds := [.int p.site, .int p.num, .tuple (dI p.past), .int p.turn, .int p.key, .int p.worth]) (v 15) e_int rfl)) (e_slT gD (v 15) ⟨_, rfl, e_int⟩ ⟨rfl, rfl⟩)
      · obtain ⟨i, rfl, hi⟩ := mem_dI' hd
        exact e_strI (log_ok (ho.all i hi)) (by rfl) B.str (a1 (v 14))
    · have er : (((ps.map putD).take (ps.map putD).length).map rowOf) = dS (ps.map rowT) := by
        rw [List.take_length]
        show _ = List.map _ (List.map _ _)
        rw [List.map_map, List.map_map]
        exact List.map_congr_left fun p _ => rowOf_is p
      rw [er]
      refine st_set 9 (r := .dat (.list (ps.map putD))) (s1 := s2) scLaw.nd rfl (by first | exact Or.inl rfl | exact Or.inr rfl) (e_listL g (by rfl) B.list (a1 (v 7))) ?_
      exact k s2 ps hok hz
end
end K14
namespace K14
open PySem PySem.Spec L2 Evl DV LamX NdefX NT
open PyProof.Rows hiding St cutD
section
variable {P : Program} {w : World} {K : PySem.W.Frag} {mg : Str → Option Value} {base : Heap} {C c T : Addr}
/-- the log written and read, twice -/
theorem turnD (B : Bl mg) (G : Cals P w K mg base C) {f : Addr} {cdv : Value} {A : Around} {outer : List Env} {sh : Shared} {H : Hp} {E : XK} {M : List Addr} {R : Bx → Hp → Prop} {D : Ends} {st : Bx} {ps : List Put} {r0 rb r2 r3 r4 r5 r6 r10 r11 r12 r13 r14 r15 : Sl}
    (hr : Room 7 (A.deeper (envOfC "law" (defScope sLaw) sh.heap.objs.size f cdv))) (g : Rg M R) (F : Frame M R) (hok : ∀ p ∈ ps, OkPut p) (hz : ps.length ≤ 100)
    (k : ∀ (r10 r11 : Sl), St1 (dx P w K mg base nLaw "law" sLaw f cdv A outer sh H E) M R
      [r0, rb, r2, r3, r4, r5, r6, .dat (.list (ps.map putD)), .dat (.list (dS (ps.map rowT))), .dat (.list (ps.map putD)), r10, r11, r12, r13, r14, r15] [] st D) :
    St1 (dx P w K mg base nLaw "law" sLaw f cdv A outer sh H E) M R [r0, rb, r2, r3, r4, r5, r6, .dat (.list (ps.map putD)), .dat (.list (dS (ps.map rowT))), .dat (.list (ps.map putD)), r10, r11, r12, r13, r14, r15] (bodyL.drop 9) st D := by
  have hfit := join_fit (b := 66) (n := 100) (xs := ps.map rowT) (fun x hx => by
    obtain ⟨p, h, rfl⟩ := List.mem_map.mp hx
    exact row_len (hok p h)) (by rw [List.length_map]; exact hz) line1
  have hod := okD_log hok hz
  have hdp : PyData.depth (.list (ps.map putD)) ≤ 3 := by
    have := depth_log ps
    show PyData.depthAll (ps.map putD) + 1 ≤ 3
    omega
  have hlog := (low_ok (log_low ps)).2
  refine st_for g (fun i ρ' s' => s' = st ∧ ∃ r10 r11, ρ' = [r0, rb, r2, r3, r4, r5, r6, .dat (.list (ps.map putD)), .dat (.list (dS (ps.map rowT))), .dat (.list (ps.map putD)), r10, r11, r12, r13, r14, r15]) (passes_of rfl) rfl (pg_name (i := 10) scLaw.nd rfl (Or.inl rfl))
    (i_rngN (n := 2) (by rfl) B.range (by decide) (a1 e_int)) ⟨rfl, _, _, rfl⟩ (fun again ρj sj H2 hj hJ2 g2 => ?_) (fun ρ' s' hJ => ?_)
  · obtain ⟨rfl, r10, r11, rfl⟩ := hJ2
    have F2 := F.rx H2
    refine ⟨_, tg0_name, fun N2 hN2 => ?_⟩
    intro σ H3 hσ hR
    refine b_set 11 (w_call (s1 := sj) G.rlog hr (by decide) (by rfl) passL (a_cons (r := .dat (.str (logT ps))) (s1 := sj) (e_joinL (x := "\n") (ys := ps.map rowT) (by omega) e_str (v 8)) a_nil) hσ hR (fun vs H4 e4 d4 R4 => ?_)) scLaw.nd rfl (by first | exact Or.inl rfl | exact Or.inr rfl)
    refine ⟨M, _, _, fun a m => g2.dom R4 m, d4, ⟨ps, hok, hz, rfl, rfl⟩, fun u H5 e5 sv fr => ?_⟩
    have σ5 := Slots.set (r := .dat (.list (ps.map putD))) (v := u) sv 11 (hσ.ex (e4.trans (exCut e5)))
    have R5 := g2.up R4 e5
    have hee := eqv_log ps
    refine b_ifE (s := sj) (s1 := sj) (k := (!true) || ((!PyData.eqv (.list (ps.map putD)) (.list (ps.map putD))) || (!true)))
      (ρ := [r0, rb, r2, r3, r4, r5, r6, .dat (.list (ps.map putD)), .dat (.list (dS (ps.map rowT))), .dat (.list (ps.map putD)), .dat (.int again), .dat (.list (ps.map putD)), r12, r13, r14, r15])
      (t_w (w_or (t_not (t_val (e_call g2 G.alike hr (by decide) (by rfl) (r := .dat (.bool true)) ⟨.str (logT ps), rfl, hlog, Nat.zero_le _, rfl⟩ (a_cons (e_call g2 G.wlog hr (by decide) (by rfl) ⟨ps, hok, hz, rfl, rfl⟩ (a_cons (v 9) a_nil)) (a_cons (e_joinL (x := "\n") (ys := ps.map rowT) (by omega) e_str (v 8)) a_nil)))))
      fun _ => w_or (t_neD (d1 := .list (ps.map putD)) (d2 := .list (ps.map putD)) hr.units (v 9) (v 7) (sh_log ps) (sh_log ps))
      fun _ => w_or1 (t_not (t_val (e_call g2 G.alike hr (by decide) (by rfl) (r := .dat (.bool true)) ⟨.list (ps.map putD), rfl, hod, hdp, rfl⟩ (a_cons (v 11) (a_cons (v 7) a_nil))))))) σ5 R5 fun H6 e6 R6 => ?_
    rw [hee, if_neg (by decide)]
    refine b_nil ?_
    have sv6 := sv.ex e6
    obtain ⟨p, xs, rfl, hp, hxs⟩ := sv_lst sv6
    obtain ⟨nm, hp6⟩ := cut_some hp
    have h11 : (σ.set 11 (some (V.ref p)))[11]? = some (some (.ref p)) := by
      obtain ⟨o, ho, z⟩ := Slots.get (Slots.set (K := K) (H := cut M H6) (r := .raw (.ref p)) (v := .ref p) rfl 11 (hσ.ex (e4.trans ((exCut e5).trans e6)))) (i := 11) (r := .raw (.ref p)) rfl
      have z : o = some (.ref p) := z
      rw [ho, z]
    have hlen : xs.length ≤ 1000 := by
      have := dpa_length hxs
      rw [List.length_map] at this
      omega
    refine b_expr (wE_of (pe_bm PySem.F.plainAttrs_list PySem.F.slot_list_append PySem.F.type_list_append (mt_append : MtM _ _ _) pe_w pa_w) (wE_of (pe_var (i := 11) rfl (Or.inl rfl) (by decide) (by decide)) ⟨.ref p, h11, .inl ⟨rfl, _, sq_of hp6⟩, wA_of (pa_cons pe_w pa_nil) ?_⟩))
    refine wE_of pe_int ?_
    refine ⟨p, xs, .int 0, rfl, rfl, hp6, Nat.lt_of_le_of_lt hlen (by decide), ?_⟩
    have x46 := (exCut e5 : Ex (cut M H4) (cut M H5)).trans e6
    refine b_nil (hN2 _ _ [r0, rb, r2, r3, r4, r5, r6, .dat (.list (ps.map putD)), .dat (.list (dS (ps.map rowT))), .dat (.list (ps.map putD)), .dat (.int again), .any, r12, r13, r14, r15] sj ⟨rfl, _, _, rfl⟩ ?_ (F2 sj H4 H6 p xs _ R4 (fr p rfl) R6 x46 nm hp6))
    exact Slots.unset 11 (hσ.ex (e4.trans (ex_upd (exId _) (fr p rfl) x46)))
  · obtain ⟨rfl, r10, r11, rfl⟩ := hJ
    exact k _ _
theorem rlog0 : gRLog [.dat (.str "")] (.dat (.list [])) := ⟨([] : List Put), (by intro p hp; simp at hp), by decide, by rw [logT_nil], rfl⟩
theorem wlog0 : gWLog [.dat (.list [])] (.ok (.dat (.str ""))) := ⟨([] : List Put), (by intro p hp; simp at hp), by decide, rfl, by rw [logT_nil]⟩
def spLaw (K : PySem.W.Frag) (T : Addr) : Sp := fun vs H Q _ => ∃ (a : Addr) (ns : List Int), vs = [.ref a] ∧ H T = some (.tbl #[]) ∧ SqL K H a (ns.map V.int) ∧ ns.length ≤ 63 ∧ (∀ z ∈ ns, Builtin.Int.intBits z ≤ 1048576) ∧ ∀ H', Q (.bl true) H'
abbrev ρ0 (b : Addr) : List Sl := [.any, .raw (.ref b), .any, .any, .any, .any, .any, .any, .any, .any, .any, .any, .any, .any, .any, .any]
theorem law_fn {fa : Addr} {dV kV doc pm ct oc : Value} {an od : Option Addr} {osl : Array (Option Value)} (lk : K.lookup fa = some ⟨oc, od, .func (PySem.W.fnOf "law" "law" (defArgs sLaw) (defBody sLaw) (defScope sLaw) dV kV doc pm an (.ref c) ct), osl⟩) (hcd : PySem.W.codeIn K (.ref c) "law" = true)
    (B : Bl mg) (G : Cals P w K mg base C) (TB : TabB base mg c T) (Kd : DV.Kinds K mg C 7) : FnOk P w K mg base (L2.CX P w) 8 fa (PySem.W.fnOf "law" "law" (defArgs sLaw) (defBody sLaw) (defScope sLaw) dV kV doc pm an (.ref c) ct) ["_law_script"] (spLaw K T) := by
  refine fn_of lk hcd scLaw (fun vs H Q E ⟨_, _, e, _⟩ => by rw [e]; rfl) fun A outer s H vs Q E hr hsp => ?_
  obtain ⟨a, ns, rfl, hT, hS, hl, hbits, q⟩ := hsp
  refine ⟨_, pss_w, ?_⟩
  show wB (dx P w K mg base nLaw "law" sLaw fa (.ref c) A outer s H E) (defBody sLaw) _ _ H
  refine b_set 1 (w_call (M := []) (R := fun (_ : Unit) H' => Ex H H') (s := ()) (s1 := ()) (rs := [.raw (.ref a)]) (ρ := [.raw (.ref a), .any, .any, .any, .any, .any, .any, .any, .any, .any, .any, .any, .any, .any, .any, .any]) G.begun hr (by decide) (by rfl) passL (a_cons (v 0) a_nil) ⟨rfl, trivial, trivial, trivial, trivial, trivial, trivial, trivial, trivial, trivial, trivial, trivial, trivial, trivial, trivial, trivial, trivial⟩ (exId _) (fun vs H1 e1 d1 R1 => ?_)) scLaw.nd rfl (by first | exact Or.inl rfl | exact Or.inr rfl)
  obtain ⟨u, hu, dz⟩ := svall1 d1
  subst hu
  have dz : u = .ref a := dz
  subst dz
  refine ⟨a, ns, rfl, ex_l R1 hS, hl, hbits, fun H' b l e2 nb nl bx => ?_⟩
  have hT1 := R1 _ _ hT
  have hT' := e2 _ _ hT1
  have hbT : b ≠ T := fun z => by rw [z, hT1] at nb; cases nb
  have hlT : l ≠ T := fun z => by rw [z, hT1] at nl; cases nl
  have L0 := lawR (q := (dx P w K mg base nLaw "law" sLaw fa (.ref c) A outer s H E).env.qual ++ "<lambda>") hbT hlT
  have F0 : DV.Frame [b, l, T] (RLaw b l T ((dx P w K mg base nLaw "law" sLaw fa (.ref c) A outer s H E).env.qual ++ "<lambda>")) := frame_law
  have tab : TabS H' T ((dx P w K mg base nLaw "law" sLaw fa (.ref c) A outer s H E).env.qual ++ "<lambda>") := ⟨#[], hT', trivial, fun pos cv h => by cases h⟩
  have main : St1 (dx P w K mg base nLaw "law" sLaw fa (.ref c) A outer s H E) [b, l, T] (RLaw b l T ((dx P w K mg base nLaw "law" sLaw fa (.ref c) A outer s H E).env.qual ++ "<lambda>")) (ρ0 b) ((defBody sLaw).drop 1) (begunS ns) { nx := fun _ H' => Q .non H', rt := Q } := by
    refine st_for L0.g (fun i ρ' _ => ρ' = ρ0 b) (passes_of rfl) rfl (pg_name (i := 2) scLaw.nd rfl (Or.inl rfl)) (i_rngN (n := 4) (by rfl) B.range (by decide) (a1 e_int)) rfl (fun i ρi si H1 hi hJ g1 => ?_) (fun ρ' s' hJ => ?_)
    · subst hJ
      refine ⟨_, tg0_name, fun N hN => ?_⟩
      have L1 := L0.rx H1
      refine turnA B G hr L1.g L1.box fun st xs hx x2 x5 => ?_
      refine turnB B G TB Kd hr L1 x2 x5 fun st2 d => ?_
      refine turnC B G hr L1.g L1.box x2 x5 fun st3 ps hok hz => ?_
      refine turnD B G hr L1.g (F0.rx H1) hok hz fun r10 r11 => ?_
      refine st_nil fun σ H2 hσ hR => hN σ H2 (ρ0 b) st3 rfl ?_ hR
      have h0 := slots_only 1 hσ
      exact h0
    · subst hJ
      refine st_ret (r := .dat (.bool true)) (s1 := s') (e_and (j := true) (k := true) (e_eqD (s1 := s') (s2 := s') (d1 := .list []) (d2 := .list []) hr.units (e_callF L0.g G.rlog hr (by decide) (by rfl) (r := .dat (.list [])) rlog0 (a_cons e_str a_nil)) (e_lst L0.g (ds := []) a_nil (by simp)) rfl rfl)
        fun _ => e_one (e_eqD (s1 := s') (s2 := s') (d1 := .str "") (d2 := .str "") hr.units (e_call L0.g G.wlog hr (by decide) (by rfl) (r := .dat (.str "")) wlog0 (a_cons (e_lst L0.g (ds := []) a_nil (by simp)) a_nil)) e_str empty_shp empty_shp)) fun v H' R' sv => by
        rw [sv_bl sv]
        exact q H'
  exact main _ H' ⟨trivial, rfl, trivial, trivial, trivial, trivial, trivial, trivial, trivial, trivial, trivial, trivial, trivial, trivial, trivial, trivial, trivial⟩ ⟨bx, tab⟩
end
end K14
namespace DV
open PySem PySem.Spec L2 Evl LamX NdefX
open PyProof.Rows hiding St cutD
/-! ### what the top has written -/
section
variable {K : PySem.W.Frag} {mg : Str → Option Value} {h : Heap}
theorem def_mk {x : Str} {st : Stmt} {ps : List Str} {f : Addr} {oc : Value} {od an : Option Addr} {osl : Array (Option Value)} {kV doc pm cdv ct : Value} (X : K.In h) (G : h.Ns mainGlobals mg) (a : PySem.W.nsIn K mainGlobals x = some (some (.ref f)))
    (l : K.lookup f = some ⟨oc, od, .func (PySem.W.fnOf x x (defArgs st) (defBody st) (defScope st) .none kV doc pm an cdv ct), osl⟩) (c : PySem.W.codeIn K cdv x = true) (k : PySem.W.keepIn K (.ref f) = true)
    (b : ∀ (kV doc pm : Value) (an : Option Addr) (cdv ct : Value) (us : List Value), us.length = ps.length → bindArgs (PySem.W.fnOf x x (defArgs st) (defBody st) (defScope st) .none kV doc pm an cdv ct) ⟨us, []⟩ = pure (ps.zip us)) : Def K mg x st ps :=
  ⟨f, _, fun_mk l c k, PySem.W.mg_of X G a, (fun_mk l c k).binds b⟩
theorem kit_ref {C D : Addr} {b : Bool} (h1 : PySem.W.isClsIn K D = true) (h2 : PySem.W.typeIn K (.ref D) = some (.type "type")) (h3 : PySem.W.subIn K (.ref C) (.ref D) = some b) (h4 : C ≠ D ∨ b = true) : PySem.W.kitOne K (.ref C) (.ref D) = some b := by
  have e2 : ((PySem.W.clsIn K D).isSome && PySem.W.typeIn K (.ref D) == some (.type "type")) = true := by
    have h1' : (PySem.W.clsIn K D).isSome = true := h1
    rw [h1', h2] <;> rfl
  show (if (Value.ref C == Value.ref D) = true then some true else if ((PySem.W.clsIn K D).isSome && PySem.W.typeIn K (.ref D) == some (.type "type")) = true then PySem.W.subIn K (.ref C) (.ref D) else none) = some b
  by_cases z : (Value.ref C == Value.ref D) = true
  · rw [if_pos z]
    rcases h4 with h4 | h4
    · refine absurd ?_ h4
      have := beq_iff_eq.mp z
      exact Value.ref.inj this
    · rw [h4]
  · rw [if_neg z, if_pos e2]
    exact h3
theorem kit_type {C : Addr} {T : String} {b : Bool} (h1 : PySem.W.kitMeta T = true) (h3 : PySem.W.subIn K (.ref C) (.type T) = some b) : PySem.W.kitOne K (.ref C) (.type T) = some b := by
  show (if (Value.ref C == Value.type T) = true then some true else if PySem.W.kitMeta T = true then PySem.W.subIn K (.ref C) (.type T) else none) = some b
  have z : (Value.ref C == Value.type T) = false := rfl
  rw [z, if_neg Bool.false_ne_true, if_pos h1]
  exact h3
/-- a class beside the class C -/
structure KC (K : PySem.W.Frag) (mg : Str → Option Value) (C : Addr) (x : Str) (b : Bool) : Prop where
  ex : ∃ D, mg x = some (.ref D) ∧ PySem.W.kitOne K (.ref C) (.ref D) = some b
theorem kc_mk {x : Str} {C D : Addr} {b : Bool} (X : K.In h) (G : h.Ns mainGlobals mg) (a : PySem.W.nsIn K mainGlobals x = some (some (.ref D))) (h1 : PySem.W.isClsIn K D = true) (h2 : PySem.W.typeIn K (.ref D) = some (.type "type")) (h3 : PySem.W.subIn K (.ref C) (.ref D) = some b) (h4 : C ≠ D ∨ b = true) :
    KC K mg C x b := ⟨D, PySem.W.mg_of X G a, kit_ref h1 h2 h3 h4⟩
theorem look_mem {α : Type} {l : List (Addr × α)} {a : Addr} {x : α} (h : l.lookup a = some x) : a ∈ l.map (·.1) := by
  induction l with
  | nil => cases h
  | cons p r ih =>
    obtain ⟨b, y⟩ := p
    rw [List.lookup_cons] at h
    cases e : a == b with
    | true => rw [beq_iff_eq.mp e]; exact List.mem_cons_self
    | false =>
      rw [e] at h
      exact List.mem_cons_of_mem _ (ih h)
theorem no_tab {K : Params → PySem.W.Frag} {as : List Addr} {e : ∀ P, as = (K P).map (·.1)} {ts : List Addr} {w : World} {h : Heap} {T : Addr} (Y : (PySem.W.kmHook K as e ts).says w h) (n : as.contains T = false) : (K w.params).lookup T = none := by
  cases q : (K w.params).lookup T with
  | none => rfl
  | some o =>
    have hm : T ∈ as := by
      rw [e w.params]
      exact look_mem q
    rw [List.contains_eq_mem, decide_eq_true hm] at n
    cases n
end
end DV
namespace K14
open PySem PySem.Spec L2 Evl DV LamX NdefX
open PyProof.Rows hiding St cutD
theorem all_mk {l : PySem.W.OpenLaw} {w : World} {K : PySem.W.Frag} {h : Heap} {mg : Str → Option Value} {fa : Addr}
    {f0 : Addr} {od0 an0 : Option Addr} {sl0 : Array (Option Value)} {oc0 kV0 dc0 pm0 cd0 ct0 : Value}
    {f1 : Addr} {od1 an1 : Option Addr} {sl1 : Array (Option Value)} {oc1 kV1 dc1 pm1 cd1 ct1 : Value}
    {f2 : Addr} {od2 an2 : Option Addr} {sl2 : Array (Option Value)} {oc2 kV2 dc2 pm2 cd2 ct2 : Value}
    {f3 : Addr} {od3 an3 : Option Addr} {sl3 : Array (Option Value)} {oc3 kV3 dc3 pm3 cd3 ct3 : Value}
    {f4 : Addr} {od4 an4 : Option Addr} {sl4 : Array (Option Value)} {oc4 kV4 dc4 pm4 cd4 ct4 : Value}
    {f5 : Addr} {od5 an5 : Option Addr} {sl5 : Array (Option Value)} {oc5 kV5 dc5 pm5 cd5 ct5 : Value}
    {f6 : Addr} {od6 an6 : Option Addr} {sl6 : Array (Option Value)} {oc6 kV6 dc6 pm6 cd6 ct6 : Value}
    {f7 : Addr} {od7 an7 : Option Addr} {sl7 : Array (Option Value)} {oc7 kV7 dc7 pm7 cd7 ct7 : Value}
    {f8 : Addr} {od8 an8 : Option Addr} {sl8 : Array (Option Value)} {oc8 kV8 dc8 pm8 cd8 ct8 : Value}
    {f9 : Addr} {od9 an9 : Option Addr} {sl9 : Array (Option Value)} {oc9 kV9 dc9 pm9 cd9 ct9 : Value}
    {f10 : Addr} {od10 an10 : Option Addr} {sl10 : Array (Option Value)} {oc10 kV10 dc10 pm10 cd10 ct10 : Value}
    {f11 : Addr} {od11 an11 : Option Addr} {sl11 : Array (Option Value)} {oc11 kV11 dc11 pm11 cd11 ct11 : Value}
    {f12 : Addr} {od12 an12 : Option Addr} {sl12 : Array (Option Value)} {oc12 kV12 dc12 pm12 cd12 ct12 : Value}
    {f13 : Addr} {od13 an13 : Option Addr} {sl13 : Array (Option Value)} {oc13 kV13 dc13 pm13 cd13 ct13 : Value}
    {f14 : Addr} {od14 an14 : Option Addr} {sl14 : Array (Option Value)} {oc14 kV14 dc14 pm14 cd14 ct14 : Value}
    {f15 : Addr} {od15 an15 : Option Addr} {sl15 : Array (Option Value)} {oc15 kV15 dc15 pm15 cd15 ct15 : Value}
    {f16 : Addr} {od16 an16 : Option Addr} {sl16 : Array (Option Value)} {oc16 kV16 dc16 pm16 cd16 ct16 : Value}
    {f17 : Addr} {od17 an17 : Option Addr} {sl17 : Array (Option Value)} {oc17 kV17 dc17 pm17 cd17 ct17 : Value}
    {fl c T : Addr} {odL anL : Option Addr} {slL : Array (Option Value)} {ocL kVL dcL pmL ctL : Value} {ddc : Option Addr} {vsc : Array Value} {slc : Array (Option Value)}
    {Cp K0 K1 K2 K3 K4 K5 K6 K7 K8 K9 K10 K11 : Addr} {t1 t2 t3 t4 t5 t6 : Tok}
    (X : K.In h) (G : h.Ns mainGlobals mg) (hfa : mg "law" = some (.ref fa)) (own : LamX.OwnTab K fa h)
    (a0 : PySem.W.nsIn K mainGlobals "is_whole" = some (some (.ref f0))) (l0 : K.lookup f0 = some ⟨oc0, od0, .func (PySem.W.fnOf "is_whole" "is_whole" (defArgs sWhole) (defBody sWhole) (defScope sWhole) .none kV0 dc0 pm0 an0 cd0 ct0), sl0⟩) (c0 : PySem.W.codeIn K cd0 "is_whole" = true) (k0 : PySem.W.keepIn K (.ref f0) = true)
    (a1 : PySem.W.nsIn K mainGlobals "is_token" = some (some (.ref f1))) (l1 : K.lookup f1 = some ⟨oc1, od1, .func (PySem.W.fnOf "is_token" "is_token" (defArgs sIsToken) (defBody sIsToken) (defScope sIsToken) .none kV1 dc1 pm1 an1 cd1 ct1), sl1⟩) (c1 : PySem.W.codeIn K cd1 "is_token" = true) (k1 : PySem.W.keepIn K (.ref f1) = true)
    (a2 : PySem.W.nsIn K mainGlobals "is_number" = some (some (.ref f2))) (l2 : K.lookup f2 = some ⟨oc2, od2, .func (PySem.W.fnOf "is_number" "is_number" (defArgs sIsNum) (defBody sIsNum) (defScope sIsNum) .none kV2 dc2 pm2 an2 cd2 ct2), sl2⟩) (c2 : PySem.W.codeIn K cd2 "is_number" = true) (k2 : PySem.W.keepIn K (.ref f2) = true)
    (a3 : PySem.W.nsIn K mainGlobals "numbers_of" = some (some (.ref f3))) (l3 : K.lookup f3 = some ⟨oc3, od3, .func (PySem.W.fnOf "numbers_of" "numbers_of" (defArgs sNumsOf) (defBody sNumsOf) (defScope sNumsOf) .none kV3 dc3 pm3 an3 cd3 ct3), sl3⟩) (c3 : PySem.W.codeIn K cd3 "numbers_of" = true) (k3 : PySem.W.keepIn K (.ref f3) = true)
    (a4 : PySem.W.nsIn K mainGlobals "check_text" = some (some (.ref f4))) (l4 : K.lookup f4 = some ⟨oc4, od4, .func (PySem.W.fnOf "check_text" "check_text" (defArgs sChkText) (defBody sChkText) (defScope sChkText) .none kV4 dc4 pm4 an4 cd4 ct4), sl4⟩) (c4 : PySem.W.codeIn K cd4 "check_text" = true) (k4 : PySem.W.keepIn K (.ref f4) = true)
    (a5 : PySem.W.nsIn K mainGlobals "written" = some (some (.ref f5))) (l5 : K.lookup f5 = some ⟨oc5, od5, .func (PySem.W.fnOf "written" "written" (defArgs sWritten) (defBody sWritten) (defScope sWritten) .none kV5 dc5 pm5 an5 cd5 ct5), sl5⟩) (c5 : PySem.W.codeIn K cd5 "written" = true) (k5 : PySem.W.keepIn K (.ref f5) = true)
    (a6 : PySem.W.nsIn K mainGlobals "written_put" = some (some (.ref f6))) (l6 : K.lookup f6 = some ⟨oc6, od6, .func (PySem.W.fnOf "written_put" "written_put" (defArgs sWPut) (defBody sWPut) (defScope sWPut) .none kV6 dc6 pm6 an6 cd6 ct6), sl6⟩) (c6 : PySem.W.codeIn K cd6 "written_put" = true) (k6 : PySem.W.keepIn K (.ref f6) = true)
    (a7 : PySem.W.nsIn K mainGlobals "written_log" = some (some (.ref f7))) (l7 : K.lookup f7 = some ⟨oc7, od7, .func (PySem.W.fnOf "written_log" "written_log" (defArgs sWLog) (defBody sWLog) (defScope sWLog) .none kV7 dc7 pm7 an7 cd7 ct7), sl7⟩) (c7 : PySem.W.codeIn K cd7 "written_log" = true) (k7 : PySem.W.keepIn K (.ref f7) = true)
    (a8 : PySem.W.nsIn K mainGlobals "read" = some (some (.ref f8))) (l8 : K.lookup f8 = some ⟨oc8, od8, .func (PySem.W.fnOf "read" "read" (defArgs sRead) (defBody sRead) (defScope sRead) .none kV8 dc8 pm8 an8 cd8 ct8), sl8⟩) (c8 : PySem.W.codeIn K cd8 "read" = true) (k8 : PySem.W.keepIn K (.ref f8) = true)
    (a9 : PySem.W.nsIn K mainGlobals "read_put" = some (some (.ref f9))) (l9 : K.lookup f9 = some ⟨oc9, od9, .func (PySem.W.fnOf "read_put" "read_put" (defArgs sRPut) (defBody sRPut) (defScope sRPut) .none kV9 dc9 pm9 an9 cd9 ct9), sl9⟩) (c9 : PySem.W.codeIn K cd9 "read_put" = true) (k9 : PySem.W.keepIn K (.ref f9) = true)
    (a10 : PySem.W.nsIn K mainGlobals "read_log" = some (some (.ref f10))) (l10 : K.lookup f10 = some ⟨oc10, od10, .func (PySem.W.fnOf "read_log" "read_log" (defArgs sRLog) (defBody sRLog) (defScope sRLog) .none kV10 dc10 pm10 an10 cd10 ct10), sl10⟩) (c10 : PySem.W.codeIn K cd10 "read_log" = true) (k10 : PySem.W.keepIn K (.ref f10) = true)
    (a11 : PySem.W.nsIn K mainGlobals "_law_begun" = some (some (.ref f11))) (l11 : K.lookup f11 = some ⟨oc11, od11, .func (PySem.W.fnOf "_law_begun" "_law_begun" (defArgs sBegun) (defBody sBegun) (defScope sBegun) .none kV11 dc11 pm11 an11 cd11 ct11), sl11⟩) (c11 : PySem.W.codeIn K cd11 "_law_begun" = true) (k11 : PySem.W.keepIn K (.ref f11) = true)
    (a12 : PySem.W.nsIn K mainGlobals "_law_take" = some (some (.ref f12))) (l12 : K.lookup f12 = some ⟨oc12, od12, .func (PySem.W.fnOf "_law_take" "_law_take" (defArgs sTake) (defBody sTake) (defScope sTake) .none kV12 dc12 pm12 an12 cd12 ct12), sl12⟩) (c12 : PySem.W.codeIn K cd12 "_law_take" = true) (k12 : PySem.W.keepIn K (.ref f12) = true)
    (a13 : PySem.W.nsIn K mainGlobals "_law_alike" = some (some (.ref f13))) (l13 : K.lookup f13 = some ⟨oc13, od13, .func (PySem.W.fnOf "_law_alike" "_law_alike" (defArgs sAlike) (defBody sAlike) (defScope sAlike) .none kV13 dc13 pm13 an13 cd13 ct13), sl13⟩) (c13 : PySem.W.codeIn K cd13 "_law_alike" = true) (k13 : PySem.W.keepIn K (.ref f13) = true)
    (a14 : PySem.W.nsIn K mainGlobals "_law_told" = some (some (.ref f14))) (l14 : K.lookup f14 = some ⟨oc14, od14, .func (PySem.W.fnOf "_law_told" "_law_told" (defArgs sTold) (defBody sTold) (defScope sTold) .none kV14 dc14 pm14 an14 cd14 ct14), sl14⟩) (c14 : PySem.W.codeIn K cd14 "_law_told" = true) (k14 : PySem.W.keepIn K (.ref f14) = true)
    (a15 : PySem.W.nsIn K mainGlobals "_law_all" = some (some (.ref f15))) (l15 : K.lookup f15 = some ⟨oc15, od15, .func (PySem.W.fnOf "_law_all" "_law_all" (defArgs sAll) (defBody sAll) (defScope sAll) .none kV15 dc15 pm15 an15 cd15 ct15), sl15⟩) (c15 : PySem.W.codeIn K cd15 "_law_all" = true) (k15 : PySem.W.keepIn K (.ref f15) = true)
    (a16 : PySem.W.nsIn K mainGlobals "_law_number" = some (some (.ref f16))) (l16 : K.lookup f16 = some ⟨oc16, od16, .func (PySem.W.fnOf "_law_number" "_law_number" (defArgs sNumber) (defBody sNumber) (defScope sNumber) .none kV16 dc16 pm16 an16 cd16 ct16), sl16⟩) (c16 : PySem.W.codeIn K cd16 "_law_number" = true) (k16 : PySem.W.keepIn K (.ref f16) = true)
    (a17 : PySem.W.nsIn K mainGlobals "_law_put" = some (some (.ref f17))) (l17 : K.lookup f17 = some ⟨oc17, od17, .func (PySem.W.fnOf "_law_put" "_law_put" (defArgs sPut) (defBody sPut) (defScope sPut) .none kV17 dc17 pm17 an17 cd17 ct17), sl17⟩) (c17 : PySem.W.codeIn K cd17 "_law_put" = true) (k17 : PySem.W.keepIn K (.ref f17) = true)
    (aL : PySem.W.nsIn K mainGlobals "law" = some (some (.ref fl))) (lL : K.lookup fl = some ⟨ocL, odL, .func (PySem.W.fnOf "law" "law" (defArgs sLaw) (defBody sLaw) (defScope sLaw) .none kVL dcL pmL anL (.ref c) ctL), slL⟩) (cL : PySem.W.codeIn K (.ref c) "law" = true) (lc : K.lookup c = some ⟨.type "code", ddc, .fields vsc, slc⟩)
    (h11 : vsc[11]? = some (.ref T)) (hvs : ∃ file tf flags tg inF text tt, vsc.getD 11 .none = .ref T ∧ vsc.getD 18 .none = .str file tf ∧ vsc.getD 7 .none = .int flags tg ∧ vsc.getD 9 .none = .bool inF ∧ vsc.getD 10 .none = .int text tt) (hcT : c ≠ T) (nT : K.lookup T = none)
    (aP : PySem.W.nsIn K mainGlobals "PortError" = some (some (.ref Cp))) (sP : PySem.W.subIn K (.ref Cp) (.type "BaseException") = some true) (hP : PySem.W.hasDictIn K Cp = true) (tP : PySem.W.typeIn K (.ref Cp) = some (.type "type"))
    (e0 : PySem.W.nsIn K mainGlobals "BadCount" = some (some (.ref K0))) (i0 : PySem.W.isClsIn K K0 = true) (t0' : PySem.W.typeIn K (.ref K0) = some (.type "type"))
    (e1 : PySem.W.nsIn K mainGlobals "BadKey" = some (some (.ref K1))) (i1 : PySem.W.isClsIn K K1 = true) (t1' : PySem.W.typeIn K (.ref K1) = some (.type "type"))
    (e2 : PySem.W.nsIn K mainGlobals "BadLogs" = some (some (.ref K2))) (i2 : PySem.W.isClsIn K K2 = true) (t2' : PySem.W.typeIn K (.ref K2) = some (.type "type"))
    (e3 : PySem.W.nsIn K mainGlobals "BadNow" = some (some (.ref K3))) (i3 : PySem.W.isClsIn K K3 = true) (t3' : PySem.W.typeIn K (.ref K3) = some (.type "type"))
    (e4 : PySem.W.nsIn K mainGlobals "BadRules" = some (some (.ref K4))) (i4 : PySem.W.isClsIn K K4 = true) (t4' : PySem.W.typeIn K (.ref K4) = some (.type "type"))
    (e5 : PySem.W.nsIn K mainGlobals "BadSite" = some (some (.ref K5))) (i5 : PySem.W.isClsIn K K5 = true) (t5' : PySem.W.typeIn K (.ref K5) = some (.type "type"))
    (e6 : PySem.W.nsIn K mainGlobals "BadText" = some (some (.ref K6))) (i6 : PySem.W.isClsIn K K6 = true) (t6' : PySem.W.typeIn K (.ref K6) = some (.type "type"))
    (e7 : PySem.W.nsIn K mainGlobals "BadToken" = some (some (.ref K7))) (i7 : PySem.W.isClsIn K K7 = true) (t7' : PySem.W.typeIn K (.ref K7) = some (.type "type"))
    (e8 : PySem.W.nsIn K mainGlobals "BadWants" = some (some (.ref K8))) (i8 : PySem.W.isClsIn K K8 = true) (t8' : PySem.W.typeIn K (.ref K8) = some (.type "type"))
    (e9 : PySem.W.nsIn K mainGlobals "BadWorth" = some (some (.ref K9))) (i9 : PySem.W.isClsIn K K9 = true) (t9' : PySem.W.typeIn K (.ref K9) = some (.type "type"))
    (e10 : PySem.W.nsIn K mainGlobals "NotYet" = some (some (.ref K10))) (i10 : PySem.W.isClsIn K K10 = true) (t10' : PySem.W.typeIn K (.ref K10) = some (.type "type"))
    (e11 : PySem.W.nsIn K mainGlobals "Stale" = some (some (.ref K11))) (i11 : PySem.W.isClsIn K K11 = true) (t11' : PySem.W.typeIn K (.ref K11) = some (.type "type"))
    (s0 : PySem.W.subIn K (.ref K7) (.ref K0) = some false) (n0 : K7 ≠ K0)
    (s1 : PySem.W.subIn K (.ref K7) (.ref K1) = some false) (n1 : K7 ≠ K1)
    (s2 : PySem.W.subIn K (.ref K7) (.ref K2) = some false) (n2 : K7 ≠ K2)
    (s3 : PySem.W.subIn K (.ref K7) (.ref K3) = some false) (n3 : K7 ≠ K3)
    (s4 : PySem.W.subIn K (.ref K7) (.ref K4) = some false) (n4 : K7 ≠ K4)
    (s5 : PySem.W.subIn K (.ref K7) (.ref K5) = some false) (n5 : K7 ≠ K5)
    (s6 : PySem.W.subIn K (.ref K7) (.ref K6) = some false) (n6 : K7 ≠ K6)
    (s7 : PySem.W.subIn K (.ref K7) (.ref K7) = some true)
    (s8 : PySem.W.subIn K (.ref K7) (.ref K8) = some false) (n8 : K7 ≠ K8)
    (s9 : PySem.W.subIn K (.ref K7) (.ref K9) = some false) (n9 : K7 ≠ K9)
    (s10 : PySem.W.subIn K (.ref K7) (.ref K10) = some false) (n10 : K7 ≠ K10)
    (s11 : PySem.W.subIn K (.ref K7) (.ref K11) = some false) (n11 : K7 ≠ K11)
    (uP : PySem.W.subIn K (.ref K7) (.ref Cp) = some true) (uV : PySem.W.subIn K (.ref K7) (.type "ValueError") = some true) (uB : PySem.W.subIn K (.ref K7) (.type "BaseException") = some true) (x7 : PySem.W.excIn K K7 [.type "ValueError", .type "Exception", .type "BaseException", .type "object"] "ValueError.__new__" = true) (kp7 : PySem.W.keepIn K (.ref K7) = true)
    (g7 : PySem.W.findIn K (.ref K7) "__getattribute__" = some (some (.builtin "BaseException.__getattribute__"))) (gk7 : PySem.W.findIn K (.ref K7) "__getattr__" = some none) (hd7 : PySem.W.hasDictIn K K7 = true) (ha7 : PySem.W.findIn K (.ref K7) "__class__" = some (some (.builtin "object.__class__")))
    (hn7 : PySem.W.specialIn K (.builtin "object.__class__") "__get__" = some (some (.builtin "getset_descriptor.__get__"))) (ht7 : PySem.W.takesIn K (.builtin "object.__class__") = some true) (hm7 : PySem.W.mroIn K K7 (.type "object") = some true)
    (m1 : PySem.W.nsIn K mainGlobals "FEWEST_SITES" = some (some (.int 2 t1))) (m2 : PySem.W.nsIn K mainGlobals "MOST_SITES" = some (some (.int 5 t2))) (m3 : PySem.W.nsIn K mainGlobals "MOST_PUTS" = some (some (.int 999 t3)))
    (m4 : PySem.W.nsIn K mainGlobals "PUT_WORD" = some (some (.str "put" t4)))
    (m5 : PySem.W.nsIn K mainGlobals "OTHER_WORDS" = some (some (.int 5 t5)))
    (m6 : PySem.W.nsIn K mainGlobals "MOST_FIGURES" = some (some (.int 4 t6)))
    (z12 : PySem.W.nsIn K mainGlobals "enumerate" = some none)
    (z0 : PySem.W.nsIn K mainGlobals "isinstance" = some none)
    (z1 : PySem.W.nsIn K mainGlobals "bool" = some none)
    (z2 : PySem.W.nsIn K mainGlobals "int" = some none)
    (z3 : PySem.W.nsIn K mainGlobals "str" = some none)
    (z4 : PySem.W.nsIn K mainGlobals "tuple" = some none)
    (z5 : PySem.W.nsIn K mainGlobals "list" = some none)
    (z6 : PySem.W.nsIn K mainGlobals "len" = some none)
    (z7 : PySem.W.nsIn K mainGlobals "all" = some none)
    (z8 : PySem.W.nsIn K mainGlobals "max" = some none)
    (z9 : PySem.W.nsIn K mainGlobals "zip" = some none)
    (z10 : PySem.W.nsIn K mainGlobals "range" = some none)
    (z11 : PySem.W.nsIn K mainGlobals "ValueError" = some none) :
    LamX.LawAtS l w K (L2.CX l.prog w) 8 63 "_law_script" mg fa h := by
  have e := hfa.symm.trans (PySem.W.mg_of X G aL)
  cases e
  have d0 : Def K mg "is_whole" sWhole ["thing", "least", "most"] := def_mk X G a0 l0 c0 k0 fun _ _ _ _ _ _ us hl => match us, hl with | [_, _, _], _ => rfl
  have d1 : Def K mg "is_token" sIsToken ["thing"] := def_mk X G a1 l1 c1 k1 fun _ _ _ _ _ _ us hl => match us, hl with | [_], _ => rfl
  have d2 : Def K mg "is_number" sIsNum ["word"] := def_mk X G a2 l2 c2 k2 fun _ _ _ _ _ _ us hl => match us, hl with | [_], _ => rfl
  have d3 : Def K mg "numbers_of" sNumsOf ["words", "row"] := def_mk X G a3 l3 c3 k3 fun _ _ _ _ _ _ us hl => match us, hl with | [_, _], _ => rfl
  have d4 : Def K mg "check_text" sChkText ["text"] := def_mk X G a4 l4 c4 k4 fun _ _ _ _ _ _ us hl => match us, hl with | [_], _ => rfl
  have d5 : Def K mg "written" sWritten ["token"] := def_mk X G a5 l5 c5 k5 fun _ _ _ _ _ _ us hl => match us, hl with | [_], _ => rfl
  have d6 : Def K mg "written_put" sWPut ["put"] := def_mk X G a6 l6 c6 k6 fun _ _ _ _ _ _ us hl => match us, hl with | [_], _ => rfl
  have d7 : Def K mg "written_log" sWLog ["log"] := def_mk X G a7 l7 c7 k7 fun _ _ _ _ _ _ us hl => match us, hl with | [_], _ => rfl
  have d8 : Def K mg "read" sRead ["text"] := def_mk X G a8 l8 c8 k8 fun _ _ _ _ _ _ us hl => match us, hl with | [_], _ => rfl
  have d9 : Def K mg "read_put" sRPut ["line", "row"] := def_mk X G a9 l9 c9 k9 fun _ _ _ _ _ _ us hl => match us, hl with | [_, _], _ => rfl
  have d10 : Def K mg "read_log" sRLog ["text"] := def_mk X G a10 l10 c10 k10 fun _ _ _ _ _ _ us hl => match us, hl with | [_], _ => rfl
  have d11 : Def K mg "_law_begun" sBegun ["_law_script"] := def_mk X G a11 l11 c11 k11 fun _ _ _ _ _ _ us hl => match us, hl with | [_], _ => rfl
  have d12 : Def K mg "_law_take" sTake ["_law_box", "_law_many"] := def_mk X G a12 l12 c12 k12 fun _ _ _ _ _ _ us hl => match us, hl with | [_, _], _ => rfl
  have d13 : Def K mg "_law_alike" sAlike ["_law_found", "_law_due"] := def_mk X G a13 l13 c13 k13 fun _ _ _ _ _ _ us hl => match us, hl with | [_, _], _ => rfl
  have d14 : Def K mg "_law_told" sTold ["_law_work"] := def_mk X G a14 l14 c14 k14 fun _ _ _ _ _ _ us hl => match us, hl with | [_], _ => rfl
  have d15 : Def K mg "_law_all" sAll ["_law_works", "_law_due"] := def_mk X G a15 l15 c15 k15 fun _ _ _ _ _ _ us hl => match us, hl with | [_, _], _ => rfl
  have d16 : Def K mg "_law_number" sNumber ["_law_box", "_law_least"] := def_mk X G a16 l16 c16 k16 fun _ _ _ _ _ _ us hl => match us, hl with | [_, _], _ => rfl
  have d17 : Def K mg "_law_put" sPut ["_law_box", "_law_many"] := def_mk X G a17 l17 c17 k17 fun _ _ _ _ _ _ us hl => match us, hl with | [_, _], _ => rfl
  have B : Bl mg := ⟨PySem.W.mg_none_of X G z0, PySem.W.mg_none_of X G z1, PySem.W.mg_none_of X G z2, PySem.W.mg_none_of X G z3, PySem.W.mg_none_of X G z4, PySem.W.mg_none_of X G z5, PySem.W.mg_none_of X G z6, PySem.W.mg_none_of X G z7, PySem.W.mg_none_of X G z8, PySem.W.mg_none_of X G z9, PySem.W.mg_none_of X G z10⟩
  have Nm : Nums mg := ⟨⟨_, PySem.W.mg_of X G m1⟩, ⟨_, PySem.W.mg_of X G m2⟩, ⟨_, PySem.W.mg_of X G m3⟩⟩
  have hp := PySem.W.mg_of X G aP
  have Ex7 : DV.Exn K mg "BadToken" K7 := ⟨PySem.W.mg_of X G e7, x7, kp7, uB, t7'⟩
  have Kd : DV.Kinds K mg K7 7 := by
    refine ⟨⟨g7, gk7, uB, hd7, ha7, hn7, ht7, hm7⟩, ⟨Cp, hp, PySem.W.exm_ref sP hP tP uP⟩, kit_type (by decide +kernel) uV, PySem.W.mg_none_of X G z11, fun j x hx => ?_, by decide⟩
    match j, hx with
    | 0, hx => cases hx; exact ⟨K0, PySem.W.mg_of X G e0, kit_ref i0 t0' s0 (.inl n0)⟩
    | 1, hx => cases hx; exact ⟨K1, PySem.W.mg_of X G e1, kit_ref i1 t1' s1 (.inl n1)⟩
    | 2, hx => cases hx; exact ⟨K2, PySem.W.mg_of X G e2, kit_ref i2 t2' s2 (.inl n2)⟩
    | 3, hx => cases hx; exact ⟨K3, PySem.W.mg_of X G e3, kit_ref i3 t3' s3 (.inl n3)⟩
    | 4, hx => cases hx; exact ⟨K4, PySem.W.mg_of X G e4, kit_ref i4 t4' s4 (.inl n4)⟩
    | 5, hx => cases hx; exact ⟨K5, PySem.W.mg_of X G e5, kit_ref i5 t5' s5 (.inl n5)⟩
    | 6, hx => cases hx; exact ⟨K6, PySem.W.mg_of X G e6, kit_ref i6 t6' s6 (.inl n6)⟩
    | 7, hx => cases hx; exact ⟨K7, PySem.W.mg_of X G e7, kit_ref i7 t7' s7 (.inr rfl)⟩
    | 8, hx => cases hx; exact ⟨K8, PySem.W.mg_of X G e8, kit_ref i8 t8' s8 (.inl n8)⟩
    | 9, hx => cases hx; exact ⟨K9, PySem.W.mg_of X G e9, kit_ref i9 t9' s9 (.inl n9)⟩
    | 10, hx => cases hx; exact ⟨K10, PySem.W.mg_of X G e10, kit_ref i10 t10' s10 (.inl n10)⟩
    | 11, hx => cases hx; exact ⟨K11, PySem.W.mg_of X G e11, kit_ref i11 t11' s11 (.inl n11)⟩
    | j + 12, hx => exact absurd hx (by simp [kNames])
  refine ⟨PySem.W.fnOf "law" "law" (defArgs sLaw) (defBody sLaw) (defScope sLaw) .none kVL dcL pmL anL (.ref c) ctL, [(c, T)], spLaw K T, ?_, ?_, ?_, fun s u => .of_eq rfl, fun H a ns hl hb hT hS => ⟨a, ns, rfl, hT (c, T) (List.mem_singleton.mpr rfl), hS, hl, hb, fun _ => rfl⟩, fun base XB GB hTB => ?_⟩
  · intro p hp'
    simp only [List.mem_cons, List.not_mem_nil, or_false] at hp'
    subst hp'
    exact own c T _ _ _ _ _ _ lL rfl rfl lc h11
  · intro p hp'
    simp only [List.mem_cons, List.not_mem_nil, or_false] at hp'
    subst hp'
    exact nT
  · intro p hp'
    simp only [List.mem_cons, List.not_mem_nil, or_false] at hp'
    subst hp'
    obtain ⟨file, tf, flags, tg, inF, text, tt, v1, v2, v3, v4, v5⟩ := hvs
    exact ⟨_, vsc, file, tf, flags, tg, inF, text, tt, X _ _ lc, rfl, rfl, h11, v1, v2, v3, v4, v5, hcT⟩
  · have N2 : Nums2 mg := ⟨Nm, ⟨_, PySem.W.mg_of X G m4⟩, ⟨_, PySem.W.mg_of X G m5⟩, ⟨_, PySem.W.mg_of X G m6⟩, PySem.W.mg_none_of X G z12⟩
    have cW := c_whole (P := l.prog) (w := w) (base := base) B d0
    have cT := c_isToken B Nm cW d1
    have cI := c_isNum (P := l.prog) (w := w) (base := base) B N2 d2
    have cN := c_nums B cI d3
    have cC := c_chkT (P := l.prog) (w := w) (base := base) B d4
    have cWr := c_written B Ex7 cT d5
    have cWP := c_wput (P := l.prog) (w := w) (base := base) B N2 d6
    have cWL := c_wlog cWP d7
    have cR := c_read B cC cN cT d8
    have cRP := c_rput B N2 cN d9
    have cRL := c_rlog B N2 cC cRP d10
    have cTk := c_take (P := l.prog) (w := w) (base := base) d12
    have cNu := c_number B cTk d16
    have cPu := c_put B cTk cNu d17
    exact law_fn lL cL B ⟨c_begun B d11, cTk, cNu, cPu, c_alike B d13 3, cWr, cR, cWL, cRL, c_all (kc := 5) (by decide) B (c_told (kc := 5) B hp d14) (c_alike B d13 1) d15⟩ (hTB (c, T) (by simp)) Kd
end K14
open PySem PySem.W PyProof.Rows
set_option maxRecDepth 100000 in
set_option maxHeartbeats 0 in
theorem PySem.Challenge.cw_causalports_k14_tokens_and_logs_written_holds : PySem.Challenge.rw_causalports_k14_tokens_and_logs_written.Holds := by
  w_on; o_law; k_head; (case hw => w_witness2)
  k_fill
  refine LamX.walk_ofOwn (l := PySem.Challenge.rw_causalports_k14_tokens_and_logs_written) (n := 63) (k := 8) (x := "_law_script") (CX := fun w => L2.CX PySem.Challenge.rw_causalports_k14_tokens_and_logs_written.prog w) rfl (by decide) rfl ⟨rfl, by decide, by decide⟩ (by decide +kernel) (fun w h Y => PySem.W.km_in_of Y) ?F (fun _ _ _ _ _ ⟨_, _, _, _, _, _, _, _, _, _, _, _, z⟩ => z)
  case F =>
    intro w mg fa h Y KX G hmg own
    refine' K14.all_mk KX G hmg own ?a0 ?l0 ?c0 ?k0 ?a1 ?l1 ?c1 ?k1 ?a2 ?l2 ?c2 ?k2 ?a3 ?l3 ?c3 ?k3 ?a4 ?l4 ?c4 ?k4 ?a5 ?l5 ?c5 ?k5 ?a6 ?l6 ?c6 ?k6 ?a7 ?l7 ?c7 ?k7 ?a8 ?l8 ?c8 ?k8 ?a9 ?l9 ?c9 ?k9 ?a10 ?l10 ?c10 ?k10 ?a11 ?l11 ?c11 ?k11 ?a12 ?l12 ?c12 ?k12 ?a13 ?l13 ?c13 ?k13 ?a14 ?l14 ?c14 ?k14 ?a15 ?l15 ?c15 ?k15 ?a16 ?l16 ?c16 ?k16 ?a17 ?l17 ?c17 ?k17 ?aL ?lL ?cL ?lc ?h11 ?hvs ?hcT ?nT ?aP ?sP ?hP ?tP ?e0 ?i0 ?t0' ?e1 ?i1 ?t1' ?e2 ?i2 ?t2' ?e3 ?i3 ?t3' ?e4 ?i4 ?t4' ?e5 ?i5 ?t5' ?e6 ?i6 ?t6' ?e7 ?i7 ?t7' ?e8 ?i8 ?t8' ?e9 ?i9 ?t9' ?e10 ?i10 ?t10' ?e11 ?i11 ?t11' ?s0 ?n0 ?s1 ?n1 ?s2 ?n2 ?s3 ?n3 ?s4 ?n4 ?s5 ?n5 ?s6 ?n6 ?s7 ?s8 ?n8 ?s9 ?n9 ?s10 ?n10 ?s11 ?n11 ?uP ?uV ?uB ?x7 ?kp7 ?g7 ?gk7 ?hd7 ?ha7 ?hn7 ?ht7 ?hm7 ?m1 ?m2 ?m3 ?m4 ?m5 ?m6 ?z12 ?z0 ?z1 ?z2 ?z3 ?z4 ?z5 ?z6 ?z7 ?z8 ?z9 ?z10 ?z11
    (case a0 => k_is); (case l0 => k_is); (case c0 => k_is); (case k0 => k_is); (case a1 => k_is); (case l1 => k_is); (case c1 => k_is); (case k1 => k_is)
    (case a2 => k_is); (case l2 => k_is); (case c2 => k_is); (case k2 => k_is); (case a3 => k_is); (case l3 => k_is); (case c3 => k_is); (case k3 => k_is)
    (case a4 => k_is); (case l4 => k_is); (case c4 => k_is); (case k4 => k_is); (case a5 => k_is); (case l5 => k_is); (case c5 => k_is); (case k5 => k_is)
    (case a6 => k_is); (case l6 => k_is); (case c6 => k_is); (case k6 => k_is); (case a7 => k_is); (case l7 => k_is); (case c7 => k_is); (case k7 => k_is)
    (case a8 => k_is); (case l8 => k_is); (case c8 => k_is); (case k8 => k_is); (case a9 => k_is); (case l9 => k_is); (case c9 => k_is); (case k9 => k_is)
    (case a10 => k_is); (case l10 => k_is); (case c10 => k_is); (case k10 => k_is); (case a11 => k_is); (case l11 => k_is); (case c11 => k_is); (case k11 => k_is)
    (case a12 => k_is); (case l12 => k_is); (case c12 => k_is); (case k12 => k_is); (case a13 => k_is); (case l13 => k_is); (case c13 => k_is); (case k13 => k_is)
    (case a14 => k_is); (case l14 => k_is); (case c14 => k_is); (case k14 => k_is); (case a15 => k_is); (case l15 => k_is); (case c15 => k_is); (case k15 => k_is)
    (case a16 => k_is); (case l16 => k_is); (case c16 => k_is); (case k16 => k_is); (case a17 => k_is); (case l17 => k_is); (case c17 => k_is); (case k17 => k_is)
    (case aL => k_is); (case lL => k_is); (case cL => k_is); (case lc => k_is); (case h11 => rfl); (case hvs => exact ⟨_, _, _, _, _, _, _, rfl, rfl, rfl, rfl, rfl⟩); (case hcT => decide); (case nT => exact DV.no_tab Y (by decide +kernel))
    (case aP => k_is); (case sP => k_is); (case hP => k_is); (case tP => k_is); (case e0 => k_is); (case i0 => k_is); (case t0' => k_is); (case e1 => k_is)
    (case i1 => k_is); (case t1' => k_is); (case e2 => k_is); (case i2 => k_is); (case t2' => k_is); (case e3 => k_is); (case i3 => k_is); (case t3' => k_is)
    (case e4 => k_is); (case i4 => k_is); (case t4' => k_is); (case e5 => k_is); (case i5 => k_is); (case t5' => k_is); (case e6 => k_is); (case i6 => k_is)
    (case t6' => k_is); (case e7 => k_is); (case i7 => k_is); (case t7' => k_is); (case e8 => k_is); (case i8 => k_is); (case t8' => k_is); (case e9 => k_is)
    (case i9 => k_is); (case t9' => k_is); (case e10 => k_is); (case i10 => k_is); (case t10' => k_is); (case e11 => k_is); (case i11 => k_is); (case t11' => k_is)
    (case s0 => k_is); (case n0 => decide); (case s1 => k_is); (case n1 => decide); (case s2 => k_is); (case n2 => decide); (case s3 => k_is); (case n3 => decide)
    (case s4 => k_is); (case n4 => decide); (case s5 => k_is); (case n5 => decide); (case s6 => k_is); (case n6 => decide); (case s7 => k_is); (case s8 => k_is)
    (case n8 => decide); (case s9 => k_is); (case n9 => decide); (case s10 => k_is); (case n10 => decide); (case s11 => k_is); (case n11 => decide); (case uP => k_is)
    (case uV => k_is); (case uB => k_is); (case x7 => k_exc); (case kp7 => k_is); (case g7 => k_is); (case gk7 => k_is); (case hd7 => k_is); (case ha7 => k_is)
    (case hn7 => k_is); (case ht7 => k_is); (case hm7 => k_is); (case m1 => k_is); (case m2 => k_is); (case m3 => k_is); (case m4 => k_is); (case m5 => k_is)
    (case m6 => k_is); (case z12 => k_is); (case z0 => k_is); (case z1 => k_is); (case z2 => k_is); (case z3 => k_is); (case z4 => k_is); (case z5 => k_is)
    (case z6 => k_is); (case z7 => k_is); (case z8 => k_is); (case z9 => k_is); (case z10 => k_is); (case z11 => k_is)
