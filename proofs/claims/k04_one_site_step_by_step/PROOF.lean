import PyProof.Rows.All
import Wide.All
import OpenK.AllK
import Wide.FinOn
import HandS.Evl
import HandS.Comp
import HandS.Iter
import HandS.Walk
import HandS.Lambda
import HandS.Nested
import HandS.ExcOwn
import HandS.ExcIs
import HandS.TryOnly
import HandS.TupAny
import HandS.IsInst
import HandS.Conv
import HandS.Zip
import HandS.Words
import HandS.WordsExc
import HandS.Small
import HandS.FStr
import PyProof.FitsInt
import HandS.Wide
import HandS.WideBits
import HandS.EndOwn
import HandS.SetFor
import HandS.Dict
import KE.DataMinMax
import KE.DataMinKey
import KE.SortData
import KE.SortKeyHeap
import HandS.SortKw
import HandS.More
import HandS.CallLocal
import HandS.Defaults
import HandS.MakeKw
import KE.GoesMore
import HandS.Star
import KE.KDictList
import PyProof.DictValues
import HandS.MakeKwOnly
import HandS.DictComp
import HandS.TupMul
import HandS.Text
import HandS.StrMore
import KE.KUnpackStar
import PySem.Challenge.RW_causalports_k04_one_site_step_by_step
set_option Elab.async false
set_option linter.all false
set_option maxRecDepth 100000
set_option maxHeartbeats 8000000
namespace DV
open PySem PySem.Spec L2 Evl
open PyProof.Rows hiding St
/-! ### readings that say just what the code does -/
def wE (X : Cx) (e : Expr) : TE := fun σ H Q => ∀ pins s, Inv X pins σ H s → wpAny (model X.prog X.w) X.A (eval e X.env) (EP X pins σ Q) X.xe s
def wT (X : Cx) (e : Expr) : TT := fun σ H Q => ∀ pins s, Inv X pins σ H s → wpAny (model X.prog X.w) X.A (isTrue e X.env (eval e X.env)) (TP X pins σ Q) X.xe s
def wA (X : Cx) (es : List Expr) : TA := fun σ H Q => ∀ pos pins s, Inv X pins σ H s → wpAny (model X.prog X.w) X.A (spliced (backTo pos (starEach es X.env))) (AP X pins σ Q) X.xe s
def wS (X : Cx) (st : Stmt) : TS := fun D σ H => ∀ pins s, Inv X pins σ H s → wpAny (model X.prog X.w) X.A (exec st X.env) (SP X pins D) X.xe s
def wB (X : Cx) (st : List Stmt) : TS := fun D σ H => ∀ pins s, Inv X pins σ H s → wpAny (model X.prog X.w) X.A (execs st X.env) (SP X pins D) X.xe s
section
variable {X : Cx} {e : Expr} {es : List Expr} {st : Stmt} {sts : List Stmt} {σ : St} {H : Hp} {Q : VK} {D : Ends}
theorem pe_w : PE X e (wE X e) := ⟨fun pins s _ _ _ I h => h pins s I⟩
theorem pt_w : PT X e (wT X e) := ⟨fun pins s _ _ _ I h => h pins s I⟩
theorem pa_w : PA X es (wA X es) := ⟨fun pos pins s _ _ _ I h => h pos pins s I⟩
theorem ps_w : PS X st (wS X st) := ⟨fun pins s _ _ _ I h => h pins s I⟩
theorem pss_w : PSs X sts (wB X sts) := ⟨fun pins s _ _ _ I h => h pins s I⟩
theorem wE_of {t : TE} (p : PE X e t) (h : t σ H Q) : wE X e σ H Q := fun pins s I => p.run pins s σ H Q I h
theorem wT_of {t : TT} {Q : Bool → Hp → Prop} (p : PT X e t) (h : t σ H Q) : wT X e σ H Q := fun pins s I => p.run pins s σ H Q I h
theorem wA_of {t : TA} {Q : List V → Hp → Prop} (p : PA X es t) (h : t σ H Q) : wA X es σ H Q := fun pos pins s I => p.run pos pins s σ H Q I h
theorem wS_of {t : TS} (p : PS X st t) (h : t D σ H) : wS X st D σ H := fun pins s I => p.run pins s σ H D I h
theorem wB_of {t : TS} (p : PSs X sts t) (h : t D σ H) : wB X sts D σ H := fun pins s I => p.run pins s σ H D I h
end
/-! ### the heap without what may change -/
def cut (M : List Addr) (H : Hp) : Hp := fun a => if a ∈ M then none else H a
theorem cut_in {M : List Addr} {H : Hp} {a : Addr} (h : a ∈ M) : cut M H a = none := if_pos h
theorem cut_out {M : List Addr} {H : Hp} {a : Addr} (h : a ∉ M) : cut M H a = H a := if_neg h
theorem cut_some {M : List Addr} {H : Hp} {a : Addr} {o : HO} (h : cut M H a = some o) : a ∉ M ∧ H a = some o := by
  by_cases q : a ∈ M
  · rw [cut_in q] at h; cases h
  · rw [cut_out q] at h; exact ⟨q, h⟩
theorem ex_cut {M : List Addr} {H : Hp} : Ex (cut M H) H := fun _ _ h => (cut_some h).2
theorem exCut {M : List Addr} {H H' : Hp} (e : Ex H H') : Ex (cut M H) (cut M H') := fun a o h => by
  obtain ⟨n, h'⟩ := cut_some h
  rw [cut_out n]
  exact e a o h'
theorem cut_nil {H : Hp} : cut [] H = H := by
  funext a
  exact cut_out (by simp)
theorem cut_upd {M : List Addr} {H : Hp} {p : Addr} {o : HO} (h : p ∉ M) : cut M (upd H p o) p = some o := by rw [cut_out h, upd_same]
/-! ### data: as the layer's, but a list is one of the call's own -/
mutual
inductive Dv (K : PySem.W.Frag) (H : Hp) : V → PyData → Prop
  | non : Dv K H .non .none
  | bl (b : Bool) : Dv K H (.bl b) (.bool b)
  | int (i : Int) : Dv K H (.int i) (.int i)
  | str (x : Str) : Dv K H (.str x) (.str x)
  | lst {a : Addr} {xs : List V} {ds : List PyData} : H a = some (.lst xs) → DvAll K H xs ds → Dv K H (.ref a) (.list ds)
  | tup {a : Addr} {xs : List V} {ds : List PyData} : SqT K H a xs → DvAll K H xs ds → Dv K H (.ref a) (.tuple ds)
inductive DvAll (K : PySem.W.Frag) (H : Hp) : List V → List PyData → Prop
  | nil : DvAll K H [] []
  | cons {v : V} {vs : List V} {d : PyData} {ds : List PyData} : Dv K H v d → DvAll K H vs ds → DvAll K H (v :: vs) (d :: ds)
end
mutual
theorem dv_dp {K : PySem.W.Frag} {H : Hp} : ∀ (d : PyData) (v : V), Dv K H v d → Dp K H v d
  | .none, _, h => by cases h; exact .non
  | .bool b, _, h => by cases h; exact .bl b
  | .int i, _, h => by cases h; exact .int i
  | .str x, _, h => by cases h; exact .str x
  | .list ds, _, h => by cases h with | lst hs ha => exact .lst (sq_of hs) (dva_dp ds _ ha)
  | .tuple ds, _, h => by cases h with | tup hs ha => exact .tup hs (dva_dp ds _ ha)
  | .dict _, _, h => by cases h
theorem dva_dp {K : PySem.W.Frag} {H : Hp} : ∀ (ds : List PyData) (vs : List V), DvAll K H vs ds → DpAll K H vs ds
  | [], _, h => by cases h; exact .nil
  | d :: ds, _, h => by cases h with | cons h1 h2 => exact .cons (dv_dp d _ h1) (dva_dp ds _ h2)
end
/-! ### data stays -/
mutual
theorem dp_ex {K : PySem.W.Frag} {H H' : Hp} (e : Ex H H') : ∀ (d : PyData) (v : V), Dv K H v d → Dv K H' v d
  | .none, _, h => by cases h; exact .non
  | .bool b, _, h => by cases h; exact .bl b
  | .int i, _, h => by cases h; exact .int i
  | .str x, _, h => by cases h; exact .str x
  | .list ds, _, h => by cases h with | lst hs ha => exact .lst (e _ _ hs) (dpa_ex e ds _ ha)
  | .tuple ds, _, h => by cases h with | tup hs ha => exact .tup (ex_t e hs) (dpa_ex e ds _ ha)
  | .dict _, _, h => by cases h
theorem dpa_ex {K : PySem.W.Frag} {H H' : Hp} (e : Ex H H') : ∀ (ds : List PyData) (vs : List V), DvAll K H vs ds → DvAll K H' vs ds
  | [], _, h => by cases h; exact .nil
  | d :: ds, _, h => by cases h with | cons h1 h2 => exact .cons (dp_ex e d _ h1) (dpa_ex e ds _ h2)
end
theorem dpa_length {K : PySem.W.Frag} {H : Hp} : ∀ {vs : List V} {ds : List PyData}, DvAll K H vs ds → vs.length = ds.length
  | _, [], .nil => rfl
  | _, _ :: _, .cons _ t => by rw [List.length_cons, List.length_cons, dpa_length t]
theorem dpa_get {K : PySem.W.Frag} {H : Hp} : ∀ {vs : List V} {ds : List PyData} {i : Nat} {v : V}, DvAll K H vs ds → vs[i]? = some v → ∃ d, ds[i]? = some d ∧ Dv K H v d
  | _, [], i, v, .nil, h => by simp at h
  | _, d :: _, 0, v, .cons r _, h => by
    have h : some _ = some v := h
    cases h
    exact ⟨d, rfl, r⟩
  | _, _ :: _, i + 1, v, .cons _ t, h => dpa_get (i := i) t (by simpa using h)
theorem dpa_get' {K : PySem.W.Frag} {H : Hp} : ∀ {vs : List V} {ds : List PyData} {i : Nat} {d : PyData}, DvAll K H vs ds → ds[i]? = some d → ∃ v, vs[i]? = some v ∧ Dv K H v d
  | _, [], i, d, .nil, h => by simp at h
  | v :: _, _ :: _, 0, d, .cons r _, h => by
    have h : some _ = some d := h
    cases h
    exact ⟨v, rfl, r⟩
  | _ :: _, _ :: _, i + 1, d, .cons _ t, h => dpa_get' (i := i) t (by simpa using h)
theorem dpa_app {K : PySem.W.Frag} {H : Hp} : ∀ {vs us : List V} {ds es : List PyData}, DvAll K H vs ds → DvAll K H us es → DvAll K H (vs ++ us) (ds ++ es)
  | _, _, [], _, .nil, h => h
  | _, _, _ :: _, _, .cons r t, h => .cons r (dpa_app t h)
theorem dpa_take {K : PySem.W.Frag} {H : Hp} : ∀ (n : Nat) {vs : List V} {ds : List PyData}, DvAll K H vs ds → DvAll K H (vs.take n) (ds.take n)
  | 0, _, _, _ => .nil
  | _ + 1, _, [], .nil => .nil
  | n + 1, _, _ :: _, .cons r t => .cons r (dpa_take n t)
theorem dpa_drop {K : PySem.W.Frag} {H : Hp} : ∀ (n : Nat) {vs : List V} {ds : List PyData}, DvAll K H vs ds → DvAll K H (vs.drop n) (ds.drop n)
  | 0, _, _, h => h
  | _ + 1, _, [], .nil => .nil
  | n + 1, _, _ :: _, .cons _ t => dpa_drop n t
theorem dpa_ints {K : PySem.W.Frag} {H : Hp} : ∀ {vs : List V} {ns : List Int}, DvAll K H vs (ns.map .int) → vs = ns.map V.int
  | _, [], h => by cases h; rfl
  | _, n :: ns, h => by
    cases h with
    | cons r t =>
      cases r
      rw [dpa_ints t]
      rfl
theorem dpa_of_ints {K : PySem.W.Frag} {H : Hp} : ∀ (ns : List Int), DvAll K H (ns.map V.int) (ns.map .int)
  | [] => .nil
  | n :: ns => .cons (.int n) (dpa_of_ints ns)
theorem dpa_bools {K : PySem.W.Frag} {H : Hp} : ∀ {vs : List V} {ns : List Bool}, DvAll K H vs (ns.map .bool) → vs = ns.map V.bl
  | _, [], h => by cases h; rfl
  | _, n :: ns, h => by
    cases h with
    | cons r t =>
      cases r
      rw [dpa_bools t]
      rfl
/-! ### what a slot holds -/
/-- nothing known; just this value; a datum -/
inductive Sl where
  | any | raw (v : V) | dat (d : PyData)
def Sv (K : PySem.W.Frag) (H : Hp) : Sl → V → Prop
  | .any, _ => True
  | .raw w, v => v = w
  | .dat d, v => Dv K H v d
def So (K : PySem.W.Frag) (H : Hp) : Sl → Option V → Prop
  | .any, _ => True
  | .raw w, o => o = some w
  | .dat d, o => ∃ v, o = some v ∧ Dv K H v d
theorem Sv.ex {K : PySem.W.Frag} {H H' : Hp} {r : Sl} {v : V} (h : Sv K H r v) (e : Ex H H') : Sv K H' r v := by
  cases r with
  | any => trivial
  | raw w => exact h
  | dat d => exact dp_ex e d v h
theorem So.ex {K : PySem.W.Frag} {H H' : Hp} {r : Sl} {o : Option V} (h : So K H r o) (e : Ex H H') : So K H' r o := by
  cases r with
  | any => trivial
  | raw w => exact h
  | dat d =>
    obtain ⟨v, a, b⟩ := h
    exact ⟨v, a, dp_ex e d v b⟩
theorem So.of {K : PySem.W.Frag} {H : Hp} {r : Sl} {v : V} (h : Sv K H r v) : So K H r (some v) := by
  cases r with
  | any => trivial
  | raw w => exact congrArg some h
  | dat d => exact ⟨v, rfl, h⟩
def Slots (K : PySem.W.Frag) (H : Hp) : St → List Sl → Prop
  | [], [] => True
  | o :: σ, r :: ρ => So K H r o ∧ Slots K H σ ρ
  | _, _ => False
theorem Slots.ex {K : PySem.W.Frag} {H H' : Hp} (e : Ex H H') : ∀ {σ : St} {ρ : List Sl}, Slots K H σ ρ → Slots K H' σ ρ
  | [], [], _ => trivial
  | _ :: _, _ :: _, ⟨a, b⟩ => ⟨a.ex e, Slots.ex e b⟩
  | [], _ :: _, h => h.elim
  | _ :: _, [], h => h.elim
theorem Slots.get {K : PySem.W.Frag} {H : Hp} : ∀ {σ : St} {ρ : List Sl} {i : Nat} {r : Sl}, Slots K H σ ρ → ρ[i]? = some r → ∃ o, σ[i]? = some o ∧ So K H r o
  | [], [], _, _, _, h => by simp at h
  | o :: _, r :: _, 0, _, ⟨a, _⟩, h => by
    have h : some _ = some _ := h
    cases h
    exact ⟨o, rfl, a⟩
  | _ :: _, _ :: _, i + 1, _, ⟨_, b⟩, h => Slots.get (i := i) b (by simpa using h)
  | [], _ :: _, _, _, h, _ => h.elim
  | _ :: _, [], _, _, h, _ => h.elim
theorem Slots.set {K : PySem.W.Frag} {H : Hp} {r : Sl} {v : V} (h : Sv K H r v) : ∀ {σ : St} {ρ : List Sl} (i : Nat), Slots K H σ ρ → Slots K H (σ.set i (some v)) (ρ.set i r)
  | [], [], _, _ => trivial
  | _ :: _, _ :: _, 0, ⟨_, b⟩ => ⟨.of h, b⟩
  | _ :: _, _ :: _, i + 1, ⟨a, b⟩ => ⟨a, Slots.set h i b⟩
  | [], _ :: _, _, q => q.elim
  | _ :: _, [], _, q => q.elim
theorem Slots.unset {K : PySem.W.Frag} {H : Hp} {o : Option V} : ∀ {σ : St} {ρ : List Sl} (i : Nat), Slots K H σ ρ → Slots K H (σ.set i o) (ρ.set i .any)
  | [], [], _, _ => trivial
  | _ :: _, _ :: _, 0, ⟨_, b⟩ => ⟨trivial, b⟩
  | _ :: _, _ :: _, i + 1, ⟨a, b⟩ => ⟨a, Slots.unset i b⟩
  | [], _ :: _, _, q => q.elim
  | _ :: _, [], _, q => q.elim
theorem Slots.len {K : PySem.W.Frag} {H : Hp} : ∀ {σ : St} {ρ : List Sl}, Slots K H σ ρ → σ.length = ρ.length
  | [], [], _ => rfl
  | _ :: _, _ :: _, ⟨_, b⟩ => by rw [List.length_cons, List.length_cons, Slots.len b]
  | [], _ :: _, h => h.elim
  | _ :: _, [], h => h.elim
/-- a def's slots at its start -/
def ini (N : List Str) (rs : List Sl) : List Sl := rs ++ List.replicate (N.length - rs.length) .any
def SvAll (K : PySem.W.Frag) (H : Hp) : List Sl → List V → Prop
  | [], [] => True
  | r :: rs, v :: vs => Sv K H r v ∧ SvAll K H rs vs
  | _, _ => False
theorem SvAll.ex {K : PySem.W.Frag} {H H' : Hp} (e : Ex H H') : ∀ {rs : List Sl} {vs : List V}, SvAll K H rs vs → SvAll K H' rs vs
  | [], [], _ => trivial
  | _ :: _, _ :: _, ⟨a, b⟩ => ⟨a.ex e, SvAll.ex e b⟩
  | [], _ :: _, h => h.elim
  | _ :: _, [], h => h.elim
theorem SvAll.len {K : PySem.W.Frag} {H : Hp} : ∀ {rs : List Sl} {vs : List V}, SvAll K H rs vs → vs.length = rs.length
  | [], [], _ => rfl
  | _ :: _, _ :: _, ⟨_, b⟩ => by rw [List.length_cons, List.length_cons, SvAll.len b]
  | [], _ :: _, h => h.elim
  | _ :: _, [], h => h.elim
theorem slots_rep {K : PySem.W.Frag} {H : Hp} : ∀ n : Nat, Slots K H (List.replicate n none) (List.replicate n .any)
  | 0 => trivial
  | n + 1 => ⟨trivial, slots_rep n⟩
theorem slots_app {K : PySem.W.Frag} {H : Hp} {σ2 : St} {ρ2 : List Sl} (h2 : Slots K H σ2 ρ2) : ∀ {vs : List V} {rs : List Sl}, SvAll K H rs vs → Slots K H (vs.map some ++ σ2) (rs ++ ρ2)
  | [], [], _ => h2
  | _ :: _, _ :: _, ⟨a, b⟩ => ⟨.of a, slots_app h2 b⟩
  | [], _ :: _, h => h.elim
  | _ :: _, [], h => h.elim
theorem slots_ini {K : PySem.W.Frag} {H : Hp} {N : List Str} {rs : List Sl} {vs : List V} (h : SvAll K H rs vs) : Slots K H (L2.start N vs) (ini N rs) := by
  unfold L2.start ini
  rw [h.len]
  exact slots_app (slots_rep _) h
/-! ### the state that goes through -/
/-- M: what may change -/
structure Rg {S : Type} (M : List Addr) (R : S → Hp → Prop) : Prop where
  up : ∀ {s : S} {H H' : Hp}, R s H → Ex H H' → R s H'
  dom : ∀ {s : S} {H : Hp} {a : Addr}, R s H → a ∈ M → ∃ o, H a = some o
theorem Rg.fresh {S : Type} {M : List Addr} {R : S → Hp → Prop} {s : S} {H : Hp} {p : Addr} (g : Rg M R) (h : R s H) (n : H p = none) : p ∉ M := fun m => by
  obtain ⟨o, e⟩ := g.dom h m
  rw [n] at e
  cases e
/-- an expression's worth and the state behind it -/
def Ev1 {S : Type} (X : Cx) (M : List Addr) (R : S → Hp → Prop) (ρ : List Sl) (e : Expr) (s : S) (r : Sl) (s' : S) : Prop :=
  ∀ σ H Q, Slots X.K (cut M H) σ ρ → R s H → (∀ v H2, Ex (cut M H) (cut M H2) → R s' H2 → Sv X.K (cut M H2) r v → Q v H2) → wE X e σ H Q
def EvT1 {S : Type} (X : Cx) (M : List Addr) (R : S → Hp → Prop) (ρ : List Sl) (e : Expr) (s : S) (b : Bool) (s' : S) : Prop :=
  ∀ σ H (Q : Bool → Hp → Prop), Slots X.K (cut M H) σ ρ → R s H → (∀ H2, Ex (cut M H) (cut M H2) → R s' H2 → Q b H2) → wT X e σ H Q
def EvA1 {S : Type} (X : Cx) (M : List Addr) (R : S → Hp → Prop) (ρ : List Sl) (es : List Expr) (s : S) (rs : List Sl) (s' : S) : Prop :=
  ∀ σ H (Q : List V → Hp → Prop), Slots X.K (cut M H) σ ρ → R s H → (∀ vs H2, Ex (cut M H) (cut M H2) → R s' H2 → SvAll X.K (cut M H2) rs vs → Q vs H2) → wA X es σ H Q
def St1 {S : Type} (X : Cx) (M : List Addr) (R : S → Hp → Prop) (ρ : List Sl) (sts : List Stmt) (s : S) (D : Ends) : Prop :=
  ∀ σ H, Slots X.K (cut M H) σ ρ → R s H → wB X sts D σ H
section
variable {S : Type} {X : Cx} {M : List Addr} {R : S → Hp → Prop} {ρ : List Sl} {s s1 s2 s3 : S} {a b c : Expr} {pos : Pos}
theorem exId (H : Hp) : Ex H H := fun _ _ h => h
/-! names and constants -/
theorem e_var (i : Nat) {x : Str} {r : Sl} (hr : ρ[i]? = some r) (hne : r ≠ .any) (hN : X.N[i]? = some x) (hv : Vis X.env.scope x) (hd : (x == ("__debug__" : Str)) = false := by decide)
    (hcd : (x == ("__classdict__" : Str)) = false := by decide) : Ev1 X M R ρ (.Name x pos) s r s := by
  intro σ H Q hσ hR q
  obtain ⟨o, h1, h2⟩ := hσ.get hr
  refine wE_of (pe_var (i := i) hN hv hd hcd) ?_
  cases r with
  | any => exact absurd rfl hne
  | raw w =>
    have h2 : o = some w := h2
    subst h2
    exact ⟨w, h1, q w H (exId _) hR rfl⟩
  | dat d =>
    obtain ⟨v, e, h⟩ := h2
    subst e
    exact ⟨v, h1, q v H (exId _) hR h⟩
theorem e_int {i : Int} {j} : Ev1 X M R ρ (.Constant (.int i) j pos) s (.dat (.int i)) s := fun σ H Q _ hR q => wE_of pe_int (q _ H (exId _) hR (.int i))
theorem e_bl {i : Bool} {j} : Ev1 X M R ρ (.Constant (.bool i) j pos) s (.dat (.bool i)) s := fun σ H Q _ hR q => wE_of pe_bl (q _ H (exId _) hR (.bl i))
theorem e_non {j} : Ev1 X M R ρ (.Constant .none j pos) s (.dat .none) s := fun σ H Q _ hR q => wE_of pe_non (q _ H (exId _) hR .non)
theorem e_str {z : Str} {j} : Ev1 X M R ρ (.Constant (.str z) j pos) s (.dat (.str z)) s := fun σ H Q _ hR q => wE_of pe_str (q _ H (exId _) hR (.str z))
theorem e_glob {x : Str} {v : V} {u : Value} {r : Sl} (hg : Gl X x) (hm : X.mg x = some u) (rv : RelV v u) (hr : ∀ H, Sv X.K H r v) (hd : (x == ("__debug__" : Str)) = false := by decide) : Ev1 X M R ρ (.Name x pos) s r s :=
  fun σ H Q _ hR q => wE_of (pe_glob hg hm rv hd) (q _ H (exId _) hR (hr _))
theorem e_bltn {x : Str} {v : V} {u : Value} (hg : Gl X x) (hm : X.mg x = none) (hv : bootBuiltins x = some u) (rv : RelV v u) (hn : x ≠ "__name__" := by decide) (hd : (x == ("__debug__" : Str)) = false := by decide) :
    Ev1 X M R ρ (.Name x pos) s (.raw v) s := fun σ H Q _ hR q => wE_of (pe_bltn hg hm hv rv hn hd) (q _ H (exId _) hR rfl)
/-! two-place operations -/
theorem e_op {op : Operator} {r : R2} {ra rb rc : Sl} (ho : OpR X (binaryOp op) r) (ha : Ev1 X M R ρ a s ra s1) (hb : Ev1 X M R ρ b s1 rb s2)
    (hr : ∀ x y H (Q : VK), Sv X.K (cut M H) ra x → Sv X.K (cut M H) rb y → R s2 H → (∀ v H2, Ex (cut M H) (cut M H2) → R s3 H2 → Sv X.K (cut M H2) rc v → Q v H2) → r x y H Q) : Ev1 X M R ρ (.BinOp a op b pos) s rc s3 := by
  intro σ H Q hσ hR q
  refine wE_of (pe_op ho pe_w pe_w) ?_
  refine ha σ H _ hσ hR fun x H1 e1 R1 d1 => ?_
  refine hb σ H1 _ (hσ.ex e1) R1 fun y H2 e2 R2 d2 => ?_
  exact hr x y H2 Q (d1.ex e2) d2 R2 fun v H3 e3 R3 d3 => q v H3 (e1.trans (e2.trans e3)) R3 d3
theorem e_opI {op : Operator} {C : Int → Int → Prop} {g : Int → Int → Int} {i j : Int} (ho : OpR X (binaryOp op) (rI C fun i j => .int (g i j))) (hc : C i j) (ha : Ev1 X M R ρ a s (.dat (.int i)) s1) (hb : Ev1 X M R ρ b s1 (.dat (.int j)) s2) :
    Ev1 X M R ρ (.BinOp a op b pos) s (.dat (.int (g i j))) s2 := e_op ho ha hb fun x y H Q dx dy hR q => by
  cases dx
  cases dy
  exact ⟨i, j, rfl, rfl, hc, q _ H (exId _) hR (.int _)⟩
theorem e_opI0 {op : Operator} {g : Int → Int → Int} {i j : Int} (ho : OpR X (binaryOp op) (rI0 fun i j => .int (g i j))) (ha : Ev1 X M R ρ a s (.dat (.int i)) s1) (hb : Ev1 X M R ρ b s1 (.dat (.int j)) s2) :
    Ev1 X M R ρ (.BinOp a op b pos) s (.dat (.int (g i j))) s2 := e_op ho ha hb fun x y H Q dx dy hR q => by
  cases dx
  cases dy
  exact ⟨i, j, rfl, rfl, q _ H (exId _) hR (.int _)⟩
theorem e_add {i j : Int} (ha : Ev1 X M R ρ a s (.dat (.int i)) s1) (hb : Ev1 X M R ρ b s1 (.dat (.int j)) s2) : Ev1 X M R ρ (.BinOp a .Add b pos) s (.dat (.int (i + j))) s2 := e_opI0 op_add ha hb
theorem e_sub {i j : Int} (ha : Ev1 X M R ρ a s (.dat (.int i)) s1) (hb : Ev1 X M R ρ b s1 (.dat (.int j)) s2) : Ev1 X M R ρ (.BinOp a .Sub b pos) s (.dat (.int (i - j))) s2 := e_opI0 op_sub ha hb
theorem e_mod {i j : Int} (hj : 0 < j) (ha : Ev1 X M R ρ a s (.dat (.int i)) s1) (hb : Ev1 X M R ρ b s1 (.dat (.int j)) s2) : Ev1 X M R ρ (.BinOp a .Mod b pos) s (.dat (.int (i % j))) s2 := e_opI op_mod hj ha hb
/-! comparisons -/
theorem t_cmp {op : CmpOp} {r : R2} {ra rb : Sl} {k : Bool} (ho : OpR X (compareOp op) r) (ha : Ev1 X M R ρ a s ra s1) (hb : Ev1 X M R ρ b s1 rb s2)
    (hr : ∀ x y H (Q : VK), Sv X.K (cut M H) ra x → Sv X.K (cut M H) rb y → R s2 H → (∀ H2, Ex (cut M H) (cut M H2) → R s3 H2 → Q (.bl k) H2) → r x y H Q) (hm : behindInMarks op b = false) : EvT1 X M R ρ (.Compare a [op] [b] pos) s k s3 := by
  intro σ H Q hσ hR q
  refine wT_of (pt_cmpR ho pe_w pe_w hm) ?_
  refine ha σ H _ hσ hR fun x H1 e1 R1 d1 => ?_
  refine hb σ H1 _ (hσ.ex e1) R1 fun y H2 e2 R2 d2 => ?_
  exact hr x y H2 _ (d1.ex e2) d2 R2 fun H3 e3 R3 => ⟨k, rfl, q H3 (e1.trans (e2.trans e3)) R3⟩
theorem e_cmp {op : CmpOp} {r : R2} {ra rb : Sl} {k : Bool} (ho : OpR X (compareOp op) r) (ha : Ev1 X M R ρ a s ra s1) (hb : Ev1 X M R ρ b s1 rb s2)
    (hr : ∀ x y H (Q : VK), Sv X.K (cut M H) ra x → Sv X.K (cut M H) rb y → R s2 H → (∀ H2, Ex (cut M H) (cut M H2) → R s3 H2 → Q (.bl k) H2) → r x y H Q) (hm : behindInMarks op b = false) : Ev1 X M R ρ (.Compare a [op] [b] pos) s (.dat (.bool k)) s3 := by
  intro σ H Q hσ hR q
  refine wE_of (pe_cmpR ho pe_w pe_w hm) ?_
  refine ha σ H _ hσ hR fun x H1 e1 R1 d1 => ?_
  refine hb σ H1 _ (hσ.ex e1) R1 fun y H2 e2 R2 d2 => ?_
  exact hr x y H2 _ (d1.ex e2) d2 R2 fun H3 e3 R3 => q _ H3 (e1.trans (e2.trans e3)) R3 (.bl k)
end
end DV
namespace DV
open PySem PySem.Spec L2 Evl
open PyProof.Rows hiding St
/-! ### small looks at data -/
theorem sv_int {K : PySem.W.Frag} {H : Hp} {i : Int} {v : V} (h : Sv K H (.dat (.int i)) v) : v = .int i := by
  cases (show Dv K H v (.int i) from h); rfl
theorem sv_bl {K : PySem.W.Frag} {H : Hp} {i : Bool} {v : V} (h : Sv K H (.dat (.bool i)) v) : v = .bl i := by
  cases (show Dv K H v (.bool i) from h); rfl
theorem sv_str {K : PySem.W.Frag} {H : Hp} {i : Str} {v : V} (h : Sv K H (.dat (.str i)) v) : v = .str i := by
  cases (show Dv K H v (.str i) from h); rfl
theorem sv_non {K : PySem.W.Frag} {H : Hp} {v : V} (h : Sv K H (.dat .none) v) : v = .non := by
  cases (show Dv K H v .none from h); rfl
theorem sv_lst {K : PySem.W.Frag} {H : Hp} {ds : List PyData} {v : V} (h : Sv K H (.dat (.list ds)) v) : ∃ a xs, v = .ref a ∧ H a = some (.lst xs) ∧ DvAll K H xs ds := by
  cases (show Dv K H v (.list ds) from h) with
  | lst a b => exact ⟨_, _, rfl, a, b⟩
theorem sv_tup {K : PySem.W.Frag} {H : Hp} {ds : List PyData} {v : V} (h : Sv K H (.dat (.tuple ds)) v) : ∃ a xs, v = .ref a ∧ SqT K H a xs ∧ DvAll K H xs ds := by
  cases (show Dv K H v (.tuple ds) from h) with
  | tup a b => exact ⟨_, _, rfl, a, b⟩
theorem svall1 {K : PySem.W.Frag} {H : Hp} {r : Sl} {vs : List V} (h : SvAll K H [r] vs) : ∃ v, vs = [v] ∧ Sv K H r v := by
  match vs, h with
  | [v], ⟨a, _⟩ => exact ⟨v, rfl, a⟩
theorem svall2 {K : PySem.W.Frag} {H : Hp} {r r' : Sl} {vs : List V} (h : SvAll K H [r, r'] vs) : ∃ v w, vs = [v, w] ∧ Sv K H r v ∧ Sv K H r' w := by
  match vs, h with
  | [v, w], ⟨a, b, _⟩ => exact ⟨v, w, rfl, a, b⟩
theorem svall3 {K : PySem.W.Frag} {H : Hp} {r r' r2 : Sl} {vs : List V} (h : SvAll K H [r, r', r2] vs) : ∃ v w u, vs = [v, w, u] ∧ Sv K H r v ∧ Sv K H r' w ∧ Sv K H r2 u := by
  match vs, h with
  | [v, w, u], ⟨a, b, c, _⟩ => exact ⟨v, w, u, rfl, a, b, c⟩
/-- a list of data as slots -/
def dats (ds : List PyData) : List Sl := ds.map Sl.dat
theorem svall_dats {K : PySem.W.Frag} {H : Hp} : ∀ {ds : List PyData} {vs : List V}, SvAll K H (dats ds) vs → DvAll K H vs ds
  | [], [], _ => .nil
  | _ :: _, _ :: _, ⟨a, b⟩ => .cons a (svall_dats b)
  | [], _ :: _, h => h.elim
  | _ :: _, [], h => h.elim
theorem svall_of {K : PySem.W.Frag} {H : Hp} : ∀ {ds : List PyData} {vs : List V}, DvAll K H vs ds → SvAll K H (dats ds) vs
  | [], _, h => by cases h; trivial
  | d :: ds, _, h => by cases h with | cons a b => exact ⟨a, svall_of b⟩
theorem upd_sz {n : Nat} (h : n ≤ 100000) : n ≤ sizeLine := Nat.le_trans h (by decide)
section
variable {S : Type} {X : Cx} {M : List Addr} {R : S → Hp → Prop} {ρ : List Sl} {s s1 s2 s3 : S} {a b c : Expr} {es : List Expr} {pos : Pos} {rs : List Sl}
/-- a new object laid -/
theorem new_at (g : Rg M R) {H : Hp} {p : Addr} {o : HO} (hR : R s H) (n : H p = none) : Ex (cut M H) (cut M (upd H p o)) ∧ R s (upd H p o) ∧ cut M (upd H p o) p = some o :=
  have hp : p ∉ M := g.fresh hR n
  ⟨exCut (Ex.new n), g.up hR (Ex.new n), cut_upd hp⟩
theorem new_lst (g : Rg M R) {H : Hp} {p : Addr} {xs : List V} {ds : List PyData} {Q : VK} (hR : R s H) (n : H p = none) (h : DvAll X.K (cut M H) xs ds) (q : ∀ v H2, Ex (cut M H) (cut M H2) → R s H2 → Sv X.K (cut M H2) (.dat (.list ds)) v → Q v H2) : Q (.ref p) (upd H p (.lst xs)) := by
  obtain ⟨e, r, a⟩ := new_at g (o := .lst xs) hR n
  exact q _ _ e r (.lst a (dpa_ex e ds _ h))
theorem new_tup (g : Rg M R) {H : Hp} {p : Addr} {xs : List V} {ds : List PyData} {Q : VK} (hR : R s H) (n : H p = none) (h : DvAll X.K (cut M H) xs ds) (q : ∀ v H2, Ex (cut M H) (cut M H2) → R s H2 → Sv X.K (cut M H2) (.dat (.tuple ds)) v → Q v H2) : Q (.ref p) (upd H p (.tup xs)) := by
  obtain ⟨e, r, a⟩ := new_at g (o := .tup xs) hR n
  exact q _ _ e r (.tup (st_of a) (dpa_ex e ds _ h))
/-! argument lists, displays -/
theorem a_nil : EvA1 X M R ρ [] s [] s := fun σ H Q _ hR q => wA_of pa_nil (q [] H (exId _) hR trivial)
theorem a_cons {r : Sl} {e : Expr} (he : Ev1 X M R ρ e s r s1) (hr : EvA1 X M R ρ es s1 rs s2) (hs : starEach (e :: es) X.env = (false, eval e X.env) :: starEach es X.env := by rfl) : EvA1 X M R ρ (e :: es) s (r :: rs) s2 := by
  intro σ H Q hσ hR q
  refine wA_of (pa_cons pe_w pa_w hs) ?_
  refine he σ H _ hσ hR fun v H1 e1 R1 d1 => ?_
  exact hr σ H1 _ (hσ.ex e1) R1 fun vs H2 e2 R2 d2 => q (v :: vs) H2 (e1.trans e2) R2 ⟨d1.ex e2, d2⟩
theorem e_tup (g : Rg M R) {ds : List PyData} {k : Nat} (h : EvA1 X M R ρ es s (dats ds) s1) (hz : ds.length ≤ 100000) : Ev1 X M R ρ (.Tuple es k pos) s (.dat (.tuple ds)) s1 := by
  intro σ H Q hσ hR q
  refine wE_of (pe_tup pa_w) ?_
  refine h σ H _ hσ hR fun vs H1 e1 R1 d1 => ?_
  have d := svall_dats d1
  exact ⟨by rw [dpa_length d]; exact upd_sz hz, fun p n => new_tup g R1 n d fun v H2 e2 R2 d2 => q v H2 (e1.trans e2) R2 d2⟩
theorem e_lst (g : Rg M R) {ds : List PyData} (h : EvA1 X M R ρ es s (dats ds) s1) (hz : ds.length ≤ 100000) : Ev1 X M R ρ (.List es pos) s (.dat (.list ds)) s1 := by
  intro σ H Q hσ hR q
  refine wE_of (pe_lst pa_w) ?_
  refine h σ H _ hσ hR fun vs H1 e1 R1 d1 => ?_
  have d := svall_dats d1
  exact ⟨by rw [dpa_length d]; exact upd_sz hz, fun p n => new_lst g R1 n d fun v H2 e2 R2 d2 => q v H2 (e1.trans e2) R2 d2⟩
/-! == of data -/
theorem t_eqD {d1 d2 : PyData} (hu : X.A.units + 64 < cLine) (ha : Ev1 X M R ρ a s (.dat d1) s1) (hb : Ev1 X M R ρ b s1 (.dat d2) s2) (z1 : SeqAt.shaped d1 = true) (z2 : SeqAt.shaped d2 = true) : EvT1 X M R ρ (.Compare a [.Eq] [b] pos) s (PyData.eqv d1 d2) s2 :=
  t_cmp (op_eqD hu) ha hb (fun x y H Q dx dy hR q => ⟨d1, d2, dv_dp _ _ (dp_ex ex_cut _ _ dx), dv_dp _ _ (dp_ex ex_cut _ _ dy), z1, z2, q H (exId _) hR⟩) (nomark _)
theorem e_eqD {d1 d2 : PyData} (hu : X.A.units + 64 < cLine) (ha : Ev1 X M R ρ a s (.dat d1) s1) (hb : Ev1 X M R ρ b s1 (.dat d2) s2) (z1 : SeqAt.shaped d1 = true) (z2 : SeqAt.shaped d2 = true) : Ev1 X M R ρ (.Compare a [.Eq] [b] pos) s (.dat (.bool (PyData.eqv d1 d2))) s2 :=
  e_cmp (op_eqD hu) ha hb (fun x y H Q dx dy hR q => ⟨d1, d2, dv_dp _ _ (dp_ex ex_cut _ _ dx), dv_dp _ _ (dp_ex ex_cut _ _ dy), z1, z2, q H (exId _) hR⟩) (nomark _)
theorem t_neD {d1 d2 : PyData} (hu : X.A.units + 64 < cLine) (ha : Ev1 X M R ρ a s (.dat d1) s1) (hb : Ev1 X M R ρ b s1 (.dat d2) s2) (z1 : SeqAt.shaped d1 = true) (z2 : SeqAt.shaped d2 = true) : EvT1 X M R ρ (.Compare a [.NotEq] [b] pos) s (!PyData.eqv d1 d2) s2 :=
  t_cmp (op_neD hu) ha hb (fun x y H Q dx dy hR q => ⟨d1, d2, dv_dp _ _ (dp_ex ex_cut _ _ dx), dv_dp _ _ (dp_ex ex_cut _ _ dy), z1, z2, q H (exId _) hR⟩) (nomark _)
theorem e_neD {d1 d2 : PyData} (hu : X.A.units + 64 < cLine) (ha : Ev1 X M R ρ a s (.dat d1) s1) (hb : Ev1 X M R ρ b s1 (.dat d2) s2) (z1 : SeqAt.shaped d1 = true) (z2 : SeqAt.shaped d2 = true) : Ev1 X M R ρ (.Compare a [.NotEq] [b] pos) s (.dat (.bool (!PyData.eqv d1 d2))) s2 :=
  e_cmp (op_neD hu) ha hb (fun x y H Q dx dy hR q => ⟨d1, d2, dv_dp _ _ (dp_ex ex_cut _ _ dx), dv_dp _ _ (dp_ex ex_cut _ _ dy), z1, z2, q H (exId _) hR⟩) (nomark _)
/-! order of ints -/
theorem t_ord {op : CmpOp} {f : Int → Int → Bool} {i j : Int} (ho : OpR X (compareOp op) (rI0 fun i j => .bl (f i j))) (ha : Ev1 X M R ρ a s (.dat (.int i)) s1) (hb : Ev1 X M R ρ b s1 (.dat (.int j)) s2) (hm : behindInMarks op b = false := by exact nomark _) :
    EvT1 X M R ρ (.Compare a [op] [b] pos) s (f i j) s2 := t_cmp ho ha hb (fun x y H Q dx dy hR q => ⟨i, j, sv_int dx, sv_int dy, q H (exId _) hR⟩) hm
theorem e_ord {op : CmpOp} {f : Int → Int → Bool} {i j : Int} (ho : OpR X (compareOp op) (rI0 fun i j => .bl (f i j))) (ha : Ev1 X M R ρ a s (.dat (.int i)) s1) (hb : Ev1 X M R ρ b s1 (.dat (.int j)) s2) (hm : behindInMarks op b = false := by exact nomark _) :
    Ev1 X M R ρ (.Compare a [op] [b] pos) s (.dat (.bool (f i j))) s2 := e_cmp ho ha hb (fun x y H Q dx dy hR q => ⟨i, j, sv_int dx, sv_int dy, q H (exId _) hR⟩) hm
theorem e_ltI {i j : Int} (ha : Ev1 X M R ρ a s (.dat (.int i)) s1) (hb : Ev1 X M R ρ b s1 (.dat (.int j)) s2) : Ev1 X M R ρ (.Compare a [.Lt] [b] pos) s (.dat (.bool (decide (i < j)))) s2 := e_ord op_lt ha hb
theorem e_leI {i j : Int} (ha : Ev1 X M R ρ a s (.dat (.int i)) s1) (hb : Ev1 X M R ρ b s1 (.dat (.int j)) s2) : Ev1 X M R ρ (.Compare a [.LtE] [b] pos) s (.dat (.bool (decide (i ≤ j)))) s2 := e_ord op_le ha hb
theorem e_gtI {i j : Int} (ha : Ev1 X M R ρ a s (.dat (.int i)) s1) (hb : Ev1 X M R ρ b s1 (.dat (.int j)) s2) : Ev1 X M R ρ (.Compare a [.Gt] [b] pos) s (.dat (.bool (decide (j < i)))) s2 := e_ord op_gt ha hb
theorem e_geI {i j : Int} (ha : Ev1 X M R ρ a s (.dat (.int i)) s1) (hb : Ev1 X M R ρ b s1 (.dat (.int j)) s2) : Ev1 X M R ρ (.Compare a [.GtE] [b] pos) s (.dat (.bool (decide (j ≤ i)))) s2 := e_ord op_ge ha hb
theorem t_ltI {i j : Int} (ha : Ev1 X M R ρ a s (.dat (.int i)) s1) (hb : Ev1 X M R ρ b s1 (.dat (.int j)) s2) : EvT1 X M R ρ (.Compare a [.Lt] [b] pos) s (decide (i < j)) s2 := t_ord op_lt ha hb
theorem t_leI {i j : Int} (ha : Ev1 X M R ρ a s (.dat (.int i)) s1) (hb : Ev1 X M R ρ b s1 (.dat (.int j)) s2) : EvT1 X M R ρ (.Compare a [.LtE] [b] pos) s (decide (i ≤ j)) s2 := t_ord op_le ha hb
theorem t_gtI {i j : Int} (ha : Ev1 X M R ρ a s (.dat (.int i)) s1) (hb : Ev1 X M R ρ b s1 (.dat (.int j)) s2) : EvT1 X M R ρ (.Compare a [.Gt] [b] pos) s (decide (j < i)) s2 := t_ord op_gt ha hb
theorem t_geI {i j : Int} (ha : Ev1 X M R ρ a s (.dat (.int i)) s1) (hb : Ev1 X M R ρ b s1 (.dat (.int j)) s2) : EvT1 X M R ρ (.Compare a [.GtE] [b] pos) s (decide (j ≤ i)) s2 := t_ord op_ge ha hb
/-! lo <= x <= hi -/
theorem e_chain {op op' : CmpOp} {f f' : Int → Int → Bool} {i j k : Int} (ho : OpR X (compareOp op) (rI0 fun i j => .bl (f i j))) (ho' : OpR X (compareOp op') (rI0 fun i j => .bl (f' i j)))
    (ha : Ev1 X M R ρ a s (.dat (.int i)) s) (hb : Ev1 X M R ρ b s (.dat (.int j)) s) (hc : Ev1 X M R ρ c s (.dat (.int k)) s) (hm : lastMarks [op, op'] [b, c] = false := by with_unfolding_all rfl) :
    Ev1 X M R ρ (.Compare a [op, op'] [b, c] pos) s (.dat (.bool (f i j && f' j k))) s := by
  intro σ H Q hσ hR q
  refine wE_of (pe_chain ho ho' pe_w pe_w pe_w hm) ?_
  refine ha σ H _ hσ hR fun x H1 e1 R1 d1 => ?_
  refine hb σ H1 _ (hσ.ex e1) R1 fun y H2 e2 R2 d2 => ?_
  refine ⟨i, j, sv_int d1, sv_int d2, f i j, rfl, ?_⟩
  cases e : f i j with
  | false =>
    rw [if_neg Bool.false_ne_true]
    rw [e] at q
    exact q _ H2 (e1.trans e2) R2 (.bl _)
  | true =>
    rw [if_pos rfl]
    rw [e] at q
    refine hc σ H2 _ (hσ.ex (e1.trans e2)) R2 fun z H3 e3 R3 d3 => ?_
    exact ⟨j, k, sv_int d2, sv_int d3, q _ H3 (e1.trans (e2.trans e3)) R3 (.bl _)⟩
theorem t_val {e : Expr} {k : Bool} (h : Ev1 X M R ρ e s (.dat (.bool k)) s1) (he : ∀ whole, isTrue e X.env whole = (do let v ← whole; standAt e.pos; holding [v] (truthy v)) := by intro _; rfl) : EvT1 X M R ρ e s k s1 := by
  intro σ H Q hσ hR q
  refine wT_of (pt_val pe_w he) ?_
  exact h σ H _ hσ hR fun v H1 e1 R1 d1 => ⟨k, sv_bl d1, q H1 e1 R1⟩
theorem t_chain {op op' : CmpOp} {f f' : Int → Int → Bool} {i j k : Int} (ho : OpR X (compareOp op) (rI0 fun i j => .bl (f i j))) (ho' : OpR X (compareOp op') (rI0 fun i j => .bl (f' i j)))
    (ha : Ev1 X M R ρ a s (.dat (.int i)) s) (hb : Ev1 X M R ρ b s (.dat (.int j)) s) (hc : Ev1 X M R ρ c s (.dat (.int k)) s) (hm : lastMarks [op, op'] [b, c] = false := by with_unfolding_all rfl) :
    EvT1 X M R ρ (.Compare a [op, op'] [b, c] pos) s (f i j && f' j k) s := by
  intro σ H Q hσ hR q
  refine wT_of (pt_chain ho ho' pe_w pe_w pe_w hm) ?_
  refine ha σ H _ hσ hR fun x H1 e1 R1 d1 => ?_
  refine hb σ H1 _ (hσ.ex e1) R1 fun y H2 e2 R2 d2 => ?_
  refine ⟨i, j, sv_int d1, sv_int d2, f i j, rfl, ?_⟩
  cases e : f i j with
  | false =>
    rw [if_neg Bool.false_ne_true]
    rw [e] at q
    exact ⟨_, rfl, q H2 (e1.trans e2) R2⟩
  | true =>
    rw [if_pos rfl]
    rw [e] at q
    refine hc σ H2 _ (hσ.ex (e1.trans e2)) R2 fun z H3 e3 R3 d3 => ?_
    exact ⟨j, k, sv_int d2, sv_int d3, _, rfl, q H3 (e1.trans (e2.trans e3)) R3⟩
/-! not, and, or, conditional expressions -/
theorem t_not {k : Bool} (h : EvT1 X M R ρ a s k s1) : EvT1 X M R ρ (.UnaryOp .Not a pos) s (!k) s1 := fun σ H Q hσ hR q => wT_of (pt_not pt_w) (h σ H _ hσ hR fun H1 e1 R1 => q H1 e1 R1)
theorem e_not {k : Bool} (h : Ev1 X M R ρ a s (.dat (.bool k)) s1) : Ev1 X M R ρ (.UnaryOp .Not a pos) s (.dat (.bool (!k))) s1 := fun σ H Q hσ hR q =>
  wE_of (pe_not pe_w) (h σ H _ hσ hR fun v H1 e1 R1 d1 => ⟨k, sv_bl d1, q _ H1 e1 R1 (.bl _)⟩)
def EvW1 {S : Type} (X : Cx) (M : List Addr) (R : S → Hp → Prop) (ρ : List Sl) (e : Expr) (s : S) (b : Bool) (s' : S) : Prop :=
  ∀ whole σ H (Q : Bool → Hp → Prop), Slots X.K (cut M H) σ ρ → R s H → (∀ H2, Ex (cut M H) (cut M H2) → R s' H2 → Q b H2) → ∀ pins sh, Inv X pins σ H sh → wpAny (model X.prog X.w) X.A (isTrue e X.env whole) (TP X pins σ Q) X.xe sh
def wW (X : Cx) (e : Expr) : TT := fun σ H Q => ∀ whole pins s, Inv X pins σ H s → wpAny (model X.prog X.w) X.A (isTrue e X.env whole) (TP X pins σ Q) X.xe s
theorem pw_w {e : Expr} : PW X e (wW X e) := ⟨fun whole pins s _ _ _ I h => h whole pins s I⟩
theorem w_and1 {k : Bool} (h : EvT1 X M R ρ a s k s1) : EvW1 X M R ρ (.BoolOp .And [a] pos) s k s1 := fun whole σ H Q hσ hR q pins sh I => (pw_and1 pt_w).run whole pins sh σ H Q I (h σ H _ hσ hR q)
theorem w_or1 {k : Bool} (h : EvT1 X M R ρ a s k s1) : EvW1 X M R ρ (.BoolOp .Or [a] pos) s k s1 := fun whole σ H Q hσ hR q pins sh I => (pw_or1 pt_w).run whole pins sh σ H Q I (h σ H _ hσ hR q)
theorem w_andT {k : Bool} {rest : List Expr} (ha : EvT1 X M R ρ a s true s1) (hb : EvW1 X M R ρ (.BoolOp .And (b :: rest) pos) s1 k s2) : EvW1 X M R ρ (.BoolOp .And (a :: b :: rest) pos) s k s2 := fun whole σ H Q hσ hR q pins sh I => by
  refine (pw_and pt_w pw_w).run whole pins sh σ H Q I (ha σ H _ hσ hR fun H1 e1 R1 => ?_)
  rw [if_pos rfl]
  exact fun whole pins sh I => hb whole σ H1 Q (hσ.ex e1) R1 (fun H2 e2 R2 => q H2 (e1.trans e2) R2) pins sh I
theorem w_andF {rest : List Expr} (ha : EvT1 X M R ρ a s false s1) : EvW1 X M R ρ (.BoolOp .And (a :: b :: rest) pos) s false s1 := fun whole σ H Q hσ hR q pins sh I => by
  refine (pw_and pt_w pw_w).run whole pins sh σ H Q I (ha σ H _ hσ hR fun H1 e1 R1 => ?_)
  rw [if_neg Bool.false_ne_true]
  exact q H1 e1 R1
theorem w_orF {k : Bool} {rest : List Expr} (ha : EvT1 X M R ρ a s false s1) (hb : EvW1 X M R ρ (.BoolOp .Or (b :: rest) pos) s1 k s2) : EvW1 X M R ρ (.BoolOp .Or (a :: b :: rest) pos) s k s2 := fun whole σ H Q hσ hR q pins sh I => by
  refine (pw_or pt_w pw_w).run whole pins sh σ H Q I (ha σ H _ hσ hR fun H1 e1 R1 => ?_)
  rw [if_neg Bool.false_ne_true]
  exact fun whole pins sh I => hb whole σ H1 Q (hσ.ex e1) R1 (fun H2 e2 R2 => q H2 (e1.trans e2) R2) pins sh I
theorem w_orT {rest : List Expr} (ha : EvT1 X M R ρ a s true s1) : EvW1 X M R ρ (.BoolOp .Or (a :: b :: rest) pos) s true s1 := fun whole σ H Q hσ hR q pins sh I => by
  refine (pw_or pt_w pw_w).run whole pins sh σ H Q I (ha σ H _ hσ hR fun H1 e1 R1 => ?_)
  rw [if_pos rfl]
  exact q H1 e1 R1
/-- pure tests: and, or by their worth -/
theorem w_and {j k : Bool} {rest : List Expr} (ha : EvT1 X M R ρ a s j s) (hb : j = true → EvW1 X M R ρ (.BoolOp .And (b :: rest) pos) s k s) : EvW1 X M R ρ (.BoolOp .And (a :: b :: rest) pos) s (j && k) s := by
  cases j with
  | true => exact w_andT ha (hb rfl)
  | false => exact w_andF ha
theorem w_or {j k : Bool} {rest : List Expr} (ha : EvT1 X M R ρ a s j s) (hb : j = false → EvW1 X M R ρ (.BoolOp .Or (b :: rest) pos) s k s) : EvW1 X M R ρ (.BoolOp .Or (a :: b :: rest) pos) s (j || k) s := by
  cases j with
  | true => exact w_orT ha
  | false => exact w_orF ha (hb rfl)
theorem t_w {e : Expr} {k : Bool} (h : EvW1 X M R ρ e s k s1) : EvT1 X M R ρ e s k s1 := fun σ H Q hσ hR q pins sh I => h _ σ H Q hσ hR q pins sh I
/-- .. as values, of bools -/
theorem e_one {op : BoolOp} {r : Sl} (h : Ev1 X M R ρ a s r s1) : Ev1 X M R ρ (.BoolOp op [a] pos) s r s1 := fun σ H Q hσ hR q => wE_of (pe_one pe_w) (h σ H Q hσ hR q)
theorem e_and {j k : Bool} {rest : List Expr} (ha : Ev1 X M R ρ a s (.dat (.bool j)) s) (hb : j = true → Ev1 X M R ρ (.BoolOp .And (b :: rest) pos) s (.dat (.bool k)) s) : Ev1 X M R ρ (.BoolOp .And (a :: b :: rest) pos) s (.dat (.bool (j && k))) s := by
  intro σ H Q hσ hR q
  refine wE_of (pe_and pe_w pe_w) (ha σ H _ hσ hR fun v H1 e1 R1 d1 => ⟨j, sv_bl d1, ?_⟩)
  cases j with
  | true =>
    rw [if_pos rfl]
    exact hb rfl σ H1 Q (hσ.ex e1) R1 fun v H2 e2 R2 d2 => q v H2 (e1.trans e2) R2 d2
  | false =>
    rw [if_neg Bool.false_ne_true]
    exact q _ H1 e1 R1 (.bl _)
theorem e_or {j k : Bool} {rest : List Expr} (ha : Ev1 X M R ρ a s (.dat (.bool j)) s) (hb : j = false → Ev1 X M R ρ (.BoolOp .Or (b :: rest) pos) s (.dat (.bool k)) s) : Ev1 X M R ρ (.BoolOp .Or (a :: b :: rest) pos) s (.dat (.bool (j || k))) s := by
  intro σ H Q hσ hR q
  refine wE_of (pe_or pe_w pe_w) (ha σ H _ hσ hR fun v H1 e1 R1 d1 => ⟨j, sv_bl d1, ?_⟩)
  cases j with
  | false =>
    rw [if_neg Bool.false_ne_true]
    exact hb rfl σ H1 Q (hσ.ex e1) R1 fun v H2 e2 R2 d2 => q v H2 (e1.trans e2) R2 d2
  | true =>
    rw [if_pos rfl]
    exact q _ H1 e1 R1 (.bl _)
theorem e_ifT {r : Sl} (hc : EvT1 X M R ρ c s true s1) (h : Ev1 X M R ρ a s1 r s2) : Ev1 X M R ρ (.IfExp c a b pos) s r s2 := fun σ H Q hσ hR q =>
  wE_of (pe_ifExp pt_w pe_w pe_w) (hc σ H _ hσ hR fun H1 e1 R1 => by
    rw [if_pos rfl]
    exact h σ H1 Q (hσ.ex e1) R1 fun v H2 e2 R2 d2 => q v H2 (e1.trans e2) R2 d2)
theorem e_ifF {r : Sl} (hc : EvT1 X M R ρ c s false s1) (h : Ev1 X M R ρ b s1 r s2) : Ev1 X M R ρ (.IfExp c a b pos) s r s2 := fun σ H Q hσ hR q =>
  wE_of (pe_ifExp pt_w pe_w pe_w) (hc σ H _ hσ hR fun H1 e1 R1 => by
    rw [if_neg Bool.false_ne_true]
    exact h σ H1 Q (hσ.ex e1) R1 fun v H2 e2 R2 d2 => q v H2 (e1.trans e2) R2 d2)
theorem e_if {r : Sl} {k : Bool} (hc : EvT1 X M R ρ c s k s1) (h1 : k = true → Ev1 X M R ρ a s1 r s2) (h2 : k = false → Ev1 X M R ρ b s1 r s2) : Ev1 X M R ρ (.IfExp c a b pos) s r s2 := by
  cases k with
  | true => exact e_ifT hc (h1 rfl)
  | false => exact e_ifF hc (h2 rfl)
/-! items, slices, sums of sequences -/
theorem atI_dv {K : PySem.W.Frag} {H : Hp} {xs : List V} {ds : List PyData} {i : Int} {d : PyData} (h : DvAll K H xs ds) (hi : atI ds i = some d) : ∃ v, atI xs i = some v ∧ Dv K H v d := by
  unfold atI at hi ⊢
  rw [dpa_length h]
  cases e : ixN ds.length i with
  | none => rw [e] at hi; cases hi
  | some j =>
    rw [e] at hi
    exact dpa_get' h hi
theorem e_ixT {ds : List PyData} {d : PyData} {i : Int} (ha : Ev1 X M R ρ a s (.dat (.tuple ds)) s1) (hb : Ev1 X M R ρ b s1 (.dat (.int i)) s2) (hi : atI ds i = some d) (hs : PlainIx b := by exact fun _ _ => rfl) :
    Ev1 X M R ρ (.Subscript a b pos) s (.dat d) s2 := by
  intro σ H Q hσ hR q
  refine wE_of (pe_ix ix_tup pe_w pe_w hs) ?_
  refine ha σ H _ hσ hR fun x H1 e1 R1 d1 => ?_
  refine hb σ H1 _ (hσ.ex e1) R1 fun y H2 e2 R2 d2 => ?_
  obtain ⟨p, xs, rfl, hq, hd⟩ := sv_tup (d1.ex e2)
  obtain ⟨v, hv, dv⟩ := atI_dv hd hi
  exact ⟨p, xs, i, v, rfl, sv_int d2, ex_t ex_cut hq, hv, q v H2 (e1.trans e2) R2 dv⟩
theorem e_ixL {ds : List PyData} {d : PyData} {i : Int} (ha : Ev1 X M R ρ a s (.dat (.list ds)) s1) (hb : Ev1 X M R ρ b s1 (.dat (.int i)) s2) (hi : atI ds i = some d) (hs : PlainIx b := by exact fun _ _ => rfl) :
    Ev1 X M R ρ (.Subscript a b pos) s (.dat d) s2 := by
  intro σ H Q hσ hR q
  refine wE_of (pe_ix ix_list pe_w pe_w hs) ?_
  refine ha σ H _ hσ hR fun x H1 e1 R1 d1 => ?_
  refine hb σ H1 _ (hσ.ex e1) R1 fun y H2 e2 R2 d2 => ?_
  obtain ⟨p, xs, rfl, hq, hd⟩ := sv_lst (d1.ex e2)
  obtain ⟨v, hv, dv⟩ := atI_dv hd hi
  exact ⟨p, xs, i, v, rfl, sv_int d2, sq_of (ex_cut _ _ hq), hv, q v H2 (e1.trans e2) R2 dv⟩
/-- parts of a slice -/
def EvO1 {S : Type} (X : Cx) (M : List Addr) (R : S → Hp → Prop) (ρ : List Sl) (o : Option Expr) (s : S) (r : Option Int) (s' : S) : Prop :=
  match o with
  | none => r = none ∧ s' = s
  | some e => ∃ i, r = some i ∧ Ev1 X M R ρ e s (.dat (.int i)) s'
def cutD (xs : List PyData) (lo hi : Option Int) : List PyData := (xs.drop (HT.sIx xs.length 0 lo)).take (HT.sIx xs.length xs.length hi - HT.sIx xs.length 0 lo)
theorem cut_dv {K : PySem.W.Frag} {H : Hp} {xs : List V} {ds : List PyData} {lo hi : Option Int} (h : DvAll K H xs ds) : DvAll K H (cutV xs lo hi) (cutD ds lo hi) := by
  unfold cutV cutD
  rw [dpa_length h]
  exact dpa_take _ (dpa_drop _ h)
def tO (X : Cx) (M : List Addr) (o : Option Expr) : TO := match o with
  | none => tNoPart
  | some e => tPart (wE X e)
theorem po_w {o : Option Expr} : PO X o (tO X M o) := by
  cases o with
  | none => exact po_none
  | some e => exact po_some pe_w
theorem eo_use {o : Option Expr} {r : Option Int} (h : EvO1 X M R ρ o s r s1) : ∀ σ H (Q : Option Int → Hp → Prop), Slots X.K (cut M H) σ ρ → R s H → (∀ H2, Ex (cut M H) (cut M H2) → R s1 H2 → Q r H2) → tO X M o σ H Q := by
  intro σ H Q hσ hR q
  cases o with
  | none =>
    obtain ⟨rfl, rfl⟩ := h
    exact q H (exId _) hR
  | some e =>
    obtain ⟨i, rfl, h⟩ := h
    exact h σ H _ hσ hR fun v H1 e1 R1 d1 => ⟨i, sv_int d1, q H1 e1 R1⟩
theorem e_slT (g : Rg M R) {ds : List PyData} {lo hi : Option Expr} {rl rh : Option Int} {p2 : Pos} (ha : Ev1 X M R ρ a s (.dat (.tuple ds)) s1) (hl : EvO1 X M R ρ lo s1 rl s2) (hh : EvO1 X M R ρ hi s2 rh s3) :
    Ev1 X M R ρ (.Subscript a (.Slice lo hi none p2) pos) s (.dat (.tuple (cutD ds rl rh))) s3 := by
  intro σ H Q hσ hR q
  refine wE_of (pe_slice sl_tupA pe_w (po_w (M := M)) (po_w (M := M))) ?_
  refine ha σ H _ hσ hR fun x H1 e1 R1 d1 => ?_
  refine eo_use hl σ H1 _ (hσ.ex e1) R1 fun H2 e2 R2 => ?_
  refine eo_use hh σ H2 _ (hσ.ex (e1.trans e2)) R2 fun H3 e3 R3 => ?_
  obtain ⟨p, xs, rfl, hq, hd⟩ := sv_tup (d1.ex (e2.trans e3))
  have e13 := e1.trans (e2.trans e3)
  refine ⟨p, xs, rfl, ex_t ex_cut hq, fun hw => ?_, fun _ p' n => new_tup g R3 n (cut_dv hd) fun v H2 e2 R2 d2 => q v H2 (e13.trans e2) R2 d2⟩
  have ew : cutD ds rl rh = ds := by
    rw [dpa_length hd] at hw
    unfold cutD
    rw [hw.1, hw.2, Nat.sub_zero, List.drop_zero, List.take_length]
  rw [ew] at q
  exact q _ H3 e13 R3 (.tup hq hd)
theorem e_catT (g : Rg M R) {ds es : List PyData} (hz : ds.length + es.length ≤ 100000) (ha : Ev1 X M R ρ a s (.dat (.tuple ds)) s1) (hb : Ev1 X M R ρ b s1 (.dat (.tuple es)) s2) : Ev1 X M R ρ (.BinOp a .Add b pos) s (.dat (.tuple (ds ++ es))) s2 :=
  e_op op_catA ha hb fun x y H Q dx dy hR q => by
    obtain ⟨p, xs, rfl, hp, hd⟩ := sv_tup dx
    obtain ⟨p', ys, rfl, hp', hd'⟩ := sv_tup dy
    have l1 := dpa_length hd
    have l2 := dpa_length hd'
    refine ⟨p, p', xs, ys, rfl, rfl, ex_t ex_cut hp, ex_t ex_cut hp', by rw [l1, l2]; exact upd_sz hz, fun z => ?_, fun _ z => ?_, fun _ _ p n => new_tup g hR n (dpa_app hd hd') q⟩
    · subst z
      have e0 : ds = [] := List.eq_nil_of_length_eq_zero l1.symm
      subst e0
      exact q _ H (exId _) hR (.tup hp' hd')
    · subst z
      have e0 : es = [] := List.eq_nil_of_length_eq_zero l2.symm
      subst e0
      rw [List.append_nil] at q
      exact q _ H (exId _) hR (.tup hp hd)
theorem e_catL (g : Rg M R) {ds es : List PyData} (hz : ds.length + es.length ≤ 100000) (ha : Ev1 X M R ρ a s (.dat (.list ds)) s1) (hb : Ev1 X M R ρ b s1 (.dat (.list es)) s2) : Ev1 X M R ρ (.BinOp a .Add b pos) s (.dat (.list (ds ++ es))) s2 :=
  e_op op_cat ha hb fun x y H Q dx dy hR q => by
    obtain ⟨p, xs, rfl, hp, hd⟩ := sv_lst dx
    obtain ⟨p', ys, rfl, hp', hd'⟩ := sv_lst dy
    exact ⟨p, p', xs, ys, rfl, rfl, ex_cut _ _ hp, ex_cut _ _ hp', by rw [dpa_length hd, dpa_length hd']; exact upd_sz hz, fun p n => new_lst g hR n (dpa_app hd hd') q⟩
theorem dpa_rep {K : PySem.W.Frag} {H : Hp} {xs : List V} {ds : List PyData} (h : DvAll K H xs ds) : ∀ n : Nat, DvAll K H (List.replicate n xs).flatten (List.replicate n ds).flatten
  | 0 => .nil
  | n + 1 => by
    rw [List.replicate_succ, List.replicate_succ, List.flatten_cons, List.flatten_cons]
    exact dpa_app h (dpa_rep h n)
theorem e_repL (g : Rg M R) {ds : List PyData} {k : Int} (hk : k < 2 ^ 63) (h0 : -(2 ^ 63) ≤ k) (hz : ds.length * k.toNat ≤ 100000) (ha : Ev1 X M R ρ a s (.dat (.list ds)) s1) (hb : Ev1 X M R ρ b s1 (.dat (.int k)) s2) :
    Ev1 X M R ρ (.BinOp a .Mult b pos) s (.dat (.list (List.replicate k.toNat ds).flatten)) s2 :=
  e_op op_rep ha hb fun x y H Q dx dy hR q => by
    obtain ⟨p, xs, rfl, hp, hd⟩ := sv_lst dx
    exact ⟨p, k, xs, rfl, sv_int dy, ex_cut _ _ hp, h0, hk, by rw [dpa_length hd]; exact upd_sz hz, fun p n => new_lst g hR n (dpa_rep hd k.toNat) q⟩
/-! calls of what is built in -/
theorem e_callB {id : String} {r : List V → Hp → VK → Prop} {e : Expr} {x : Str} {px : Pos} {rc : Sl} (hc : CallR X (.builtin id) r) (hg : Gl X x) (hm : X.mg x = none) (hv : bootBuiltins x = some (.builtin id)) (ha : EvA1 X M R ρ (e :: es) s rs s1)
    (hr : ∀ vs H (Q : VK), SvAll X.K (cut M H) rs vs → R s1 H → (∀ v H2, Ex (cut M H) (cut M H2) → R s2 H2 → Sv X.K (cut M H2) rc v → Q v H2) → r vs H Q)
    (hn : x ≠ "__name__" := by decide) (hdb : (x == ("__debug__" : Str)) = false := by decide) (he : starEach (e :: es) X.env = (false, eval e X.env) :: starEach es X.env := by rfl) (hpl : (backTo pos (starEach es X.env)).any (·.1) = false := by rfl) :
    Ev1 X M R ρ (.Call (.Name x px) (e :: es) [] pos) s rc s2 := by
  intro σ H Q hσ hR q
  refine wE_of (pe_callB hc hg hm hv pa_w hn hdb he hpl) ?_
  exact ha σ H _ hσ hR fun vs H1 e1 R1 d1 => hr vs H1 Q d1 R1 fun v H2 e2 R2 d2 => q v H2 (e1.trans e2) R2 d2
theorem e_callTy {T : String} {r : List V → Hp → VK → Prop} {e : Expr} {x : Str} {px : Pos} {rc : Sl} (hc : CallR X (.type T) r) (hg : Gl X x) (hm : X.mg x = none) (hv : bootBuiltins x = some (.type T)) (ha : EvA1 X M R ρ (e :: es) s rs s1)
    (hr : ∀ vs H (Q : VK), SvAll X.K (cut M H) rs vs → R s1 H → (∀ v H2, Ex (cut M H) (cut M H2) → R s2 H2 → Sv X.K (cut M H2) rc v → Q v H2) → r vs H Q)
    (hn : x ≠ "__name__" := by decide) (hdb : (x == ("__debug__" : Str)) = false := by decide) (he : starEach (e :: es) X.env = (false, eval e X.env) :: starEach es X.env := by rfl) (hpl : (backTo pos (starEach es X.env)).any (·.1) = false := by rfl) :
    Ev1 X M R ρ (.Call (.Name x px) (e :: es) [] pos) s rc s2 := by
  intro σ H Q hσ hR q
  refine wE_of (pe_callTy hc hg hm hv pa_w hn hdb he hpl) ?_
  exact ha σ H _ hσ hR fun vs H1 e1 R1 d1 => hr vs H1 Q d1 R1 fun v H2 e2 R2 d2 => q v H2 (e1.trans e2) R2 d2
variable {e : Expr} {px : Pos}
theorem a1 {r : Sl} (h : Ev1 X M R ρ e s r s1) (hs : starEach [e] X.env = (false, eval e X.env) :: starEach [] X.env := by rfl) : EvA1 X M R ρ [e] s [r] s1 := a_cons h a_nil hs
theorem e_lenT {ds : List PyData} (hg : Gl X "len") (hm : X.mg "len" = none) (ha : EvA1 X M R ρ [e] s [(.dat (.tuple ds))] s1) (he : starEach [e] X.env = (false, eval e X.env) :: starEach [] X.env := by rfl) (hpl : (backTo pos (starEach [] X.env)).any (·.1) = false := by rfl) : Ev1 X M R ρ (.Call (.Name "len" px) [e] [] pos) s (.dat (.int ds.length)) s1 :=
  e_callB call_len_seq hg hm PySem.boot_len ha (fun vs H Q h hR q => by
    obtain ⟨v, rfl, h1⟩ := svall1 h
    obtain ⟨p, xs, rfl, hp, hd⟩ := sv_tup h1
    refine ⟨p, xs, rfl, .inr (ex_t ex_cut hp), ?_⟩
    rw [dpa_length hd]
    exact q _ H (exId _) hR (.int _)) (by decide) (by decide) he hpl
theorem e_lenL {ds : List PyData} (hg : Gl X "len") (hm : X.mg "len" = none) (ha : EvA1 X M R ρ [e] s [(.dat (.list ds))] s1) (he : starEach [e] X.env = (false, eval e X.env) :: starEach [] X.env := by rfl) (hpl : (backTo pos (starEach [] X.env)).any (·.1) = false := by rfl) : Ev1 X M R ρ (.Call (.Name "len" px) [e] [] pos) s (.dat (.int ds.length)) s1 :=
  e_callB call_len_seq hg hm PySem.boot_len ha (fun vs H Q h hR q => by
    obtain ⟨v, rfl, h1⟩ := svall1 h
    obtain ⟨p, xs, rfl, hp, hd⟩ := sv_lst h1
    refine ⟨p, xs, rfl, .inl (sq_of (ex_cut _ _ hp)), ?_⟩
    rw [dpa_length hd]
    exact q _ H (exId _) hR (.int _)) (by decide) (by decide) he hpl
theorem e_max2 {e' : Expr} {i j : Int} (hc : X.calm = true) (hg : Gl X "max") (hm : X.mg "max" = none) (ha : EvA1 X M R ρ [e, e'] s [.dat (.int i), .dat (.int j)] s2) (he : starEach [e, e'] X.env = (false, eval e X.env) :: starEach [e'] X.env := by rfl) (hpl : (backTo pos (starEach [e'] X.env)).any (·.1) = false := by rfl) :
    Ev1 X M R ρ (.Call (.Name "max" px) [e, e'] [] pos) s (.dat (.int (if j > i then j else i))) s2 :=
  e_callB (call_max2 hc) hg hm boot_max ha (fun vs H Q h hR q => by
    obtain ⟨v, w, rfl, h1, h2⟩ := svall2 h
    exact ⟨i, j, by rw [sv_int h1, sv_int h2], q _ H (exId _) hR (.int _)⟩) (by decide) (by decide) he hpl
theorem e_all {bs : List Bool} (hc : X.calm = true) (hg : Gl X "all") (hm : X.mg "all" = none) (ha : EvA1 X M R ρ [e] s [(.dat (.list (bs.map .bool)))] s1) (he : starEach [e] X.env = (false, eval e X.env) :: starEach [] X.env := by rfl) (hpl : (backTo pos (starEach [] X.env)).any (·.1) = false := by rfl) : Ev1 X M R ρ (.Call (.Name "all" px) [e] [] pos) s (.dat (.bool (bs.all id))) s1 :=
  e_callB (cr_all hc) hg hm (by decide +kernel) ha (fun vs H Q h hR q => by
    obtain ⟨v, rfl, h1⟩ := svall1 h
    obtain ⟨p, xs, rfl, hp, hd⟩ := sv_lst h1
    rw [dpa_bools hd] at hp
    exact ⟨p, bs, rfl, sq_of (ex_cut _ _ hp), q _ H (exId _) hR (.bl _)⟩) (by decide) (by decide) he hpl
theorem e_any {bs : List Bool} (hc : X.calm = true) (hg : Gl X "any") (hm : X.mg "any" = none) (ha : EvA1 X M R ρ [e] s [(.dat (.list (bs.map .bool)))] s1) (he : starEach [e] X.env = (false, eval e X.env) :: starEach [] X.env := by rfl) (hpl : (backTo pos (starEach [] X.env)).any (·.1) = false := by rfl) : Ev1 X M R ρ (.Call (.Name "any" px) [e] [] pos) s (.dat (.bool (bs.any id))) s1 :=
  e_callB (cr_any hc) hg hm (by decide +kernel) ha (fun vs H Q h hR q => by
    obtain ⟨v, rfl, h1⟩ := svall1 h
    obtain ⟨p, xs, rfl, hp, hd⟩ := sv_lst h1
    rw [dpa_bools hd] at hp
    exact ⟨p, bs, rfl, sq_of (ex_cut _ _ hp), q _ H (exId _) hR (.bl _)⟩) (by decide) (by decide) he hpl
theorem e_sum {ns : List Int} (hc : X.calm = true) (hg : Gl X "sum") (hm : X.mg "sum" = none) (ha : EvA1 X M R ρ [e] s [(.dat (.list (ns.map .int)))] s1) (he : starEach [e] X.env = (false, eval e X.env) :: starEach [] X.env := by rfl) (hpl : (backTo pos (starEach [] X.env)).any (·.1) = false := by rfl) : Ev1 X M R ρ (.Call (.Name "sum" px) [e] [] pos) s (.dat (.int ns.sum)) s1 :=
  e_callB (cr_sum hc) hg hm (by decide +kernel) ha (fun vs H Q h hR q => by
    obtain ⟨v, rfl, h1⟩ := svall1 h
    obtain ⟨p, xs, rfl, hp, hd⟩ := sv_lst h1
    rw [dpa_ints hd] at hp
    exact ⟨p, ns, rfl, sq_of (ex_cut _ _ hp), q _ H (exId _) hR (.int _)⟩) (by decide) (by decide) he hpl
theorem e_tupleL (g : Rg M R) {ds : List PyData} (hg : Gl X "tuple") (hm : X.mg "tuple" = none) (ha : EvA1 X M R ρ [e] s [(.dat (.list ds))] s1) (he : starEach [e] X.env = (false, eval e X.env) :: starEach [] X.env := by rfl) (hpl : (backTo pos (starEach [] X.env)).any (·.1) = false := by rfl) : Ev1 X M R ρ (.Call (.Name "tuple" px) [e] [] pos) s (.dat (.tuple ds)) s1 :=
  e_callTy call_tuple_of hg hm (by decide +kernel) ha (fun vs H Q h hR q => by
    obtain ⟨v, rfl, h1⟩ := svall1 h
    obtain ⟨p, xs, rfl, hp, hd⟩ := sv_lst h1
    exact ⟨p, xs, rfl, .inl ⟨sq_of (ex_cut _ _ hp), fun l n => new_tup g hR n hd q⟩⟩) (by decide) (by decide) he hpl
theorem e_listL (g : Rg M R) {ds : List PyData} (hg : Gl X "list") (hm : X.mg "list" = none) (ha : EvA1 X M R ρ [e] s [(.dat (.list ds))] s1) (he : starEach [e] X.env = (false, eval e X.env) :: starEach [] X.env := by rfl) (hpl : (backTo pos (starEach [] X.env)).any (·.1) = false := by rfl) : Ev1 X M R ρ (.Call (.Name "list" px) [e] [] pos) s (.dat (.list ds)) s1 :=
  e_callTy call_list_of hg hm (by decide +kernel) ha (fun vs H Q h hR q => by
    obtain ⟨v, rfl, h1⟩ := svall1 h
    obtain ⟨p, xs, rfl, hp, hd⟩ := sv_lst h1
    exact ⟨p, xs, rfl, .inl (sq_of (ex_cut _ _ hp)), fun l n => new_lst g hR n hd q⟩) (by decide) (by decide) he hpl
theorem e_listT (g : Rg M R) {ds : List PyData} (hg : Gl X "list") (hm : X.mg "list" = none) (ha : EvA1 X M R ρ [e] s [(.dat (.tuple ds))] s1) (he : starEach [e] X.env = (false, eval e X.env) :: starEach [] X.env := by rfl) (hpl : (backTo pos (starEach [] X.env)).any (·.1) = false := by rfl) : Ev1 X M R ρ (.Call (.Name "list" px) [e] [] pos) s (.dat (.list ds)) s1 :=
  e_callTy call_list_of hg hm (by decide +kernel) ha (fun vs H Q h hR q => by
    obtain ⟨v, rfl, h1⟩ := svall1 h
    obtain ⟨p, xs, rfl, hp, hd⟩ := sv_tup h1
    exact ⟨p, xs, rfl, .inr (ex_t ex_cut hp), fun l n => new_lst g hR n hd q⟩) (by decide) (by decide) he hpl
theorem e_intB {k : Bool} (hg : Gl X "int") (hm : X.mg "int" = none) (ha : EvA1 X M R ρ [e] s [(.dat (.bool k))] s1) (he : starEach [e] X.env = (false, eval e X.env) :: starEach [] X.env := by rfl) (hpl : (backTo pos (starEach [] X.env)).any (·.1) = false := by rfl) : Ev1 X M R ρ (.Call (.Name "int" px) [e] [] pos) s (.dat (.int (if k then 1 else 0))) s1 :=
  e_callTy call_int1 hg hm (by decide +kernel) ha (fun vs H Q h hR q => by
    obtain ⟨v, rfl, h1⟩ := svall1 h
    exact .inr ⟨k, by rw [sv_bl h1], q _ H (exId _) hR (.int _)⟩) (by decide) (by decide) he hpl
end
end DV
namespace DV
open PySem PySem.Spec L2 Evl
open PyProof.Rows hiding St
/-! ### isinstance -/
def dTy : PyData → String
  | .none => "NoneType"
  | .bool _ => "bool"
  | .int _ => "int"
  | .str _ => "str"
  | .list _ => "list"
  | .tuple _ => "tuple"
  | .dict _ => "dict"
theorem ty_of {K : PySem.W.Frag} {H : Hp} {d : PyData} {v : V} (h : Dv K H v d) : TyX K H v (.type (dTy d)) := by
  cases h with
  | non => exact .base .non
  | bl b => exact .base (.bl b)
  | int i => exact .base (.int i)
  | str x => exact .base (.str x)
  | lst a b => exact .base (.lst a)
  | tup a b =>
    rcases a with (a | ⟨o, a⟩) | ⟨o, its, n, l, c, _⟩
    · exact .base (.tup a)
    · exact .fTuple a
    · exact .kTuple l c
theorem tyx_ex {K : PySem.W.Frag} {H H' : Hp} {v : V} {t : Value} (e : Ex H H') (h : TyX K H v t) : TyX K H' v t := by
  cases h with
  | base b =>
    cases b with
    | non => exact .base .non
    | bl b => exact .base (.bl b)
    | int i => exact .base (.int i)
    | str x => exact .base (.str x)
    | flt x => exact .base (.flt x)
    | lst a => exact .base (.lst (e _ _ a))
    | frz a => exact .base (.frz (e _ _ a))
    | tup a => exact .base (.tup (e _ _ a))
    | dK a => exact .base (.dK (e _ _ a))
    | dT a => exact .base (.dT (e _ _ a))
    | ins a b c d f g => exact .base (.ins (e _ _ a) b c d f g)
  | byt b => exact .byt b
  | set a => exact .set (e _ _ a)
  | kList a b => exact .kList a b
  | kTuple a b => exact .kTuple a b
  | kDict a b => exact .kDict a b
  | fTuple a => exact .fTuple (e _ _ a)
  | fDict a => exact .fDict (e _ _ a)
section
variable {S : Type} {X : Cx} {M : List Addr} {R : S → Hp → Prop} {ρ : List Sl} {s s1 s2 s3 : S} {a b c : Expr} {es : List Expr} {pos : Pos} {rs : List Sl} {e e' : Expr} {px : Pos}
theorem e_isi {d : PyData} {T : String} {k : Bool} (hg : Gl X "isinstance") (hm : X.mg "isinstance" = none) (hk : kitB (dTy d) T = some k) (ha : EvA1 X M R ρ [e, e'] s [.dat d, .raw (.ty T)] s1)
    (he : starEach [e, e'] X.env = (false, eval e X.env) :: starEach [e'] X.env := by rfl) (hpl : (backTo pos (starEach [e'] X.env)).any (·.1) = false := by rfl) :
    Ev1 X M R ρ (.Call (.Name "isinstance" px) [e, e'] [] pos) s (.dat (.bool k)) s1 :=
  e_callB call_isi hg hm boot_isinstance ha (fun vs H Q h hR q => by
    obtain ⟨v, w, rfl, h1, h2⟩ := svall2 h
    have h2 : w = .ty T := h2
    subst h2
    exact ⟨v, .ty T, .type (dTy d), .type T, k, rfl, .ty T, tyx_ex ex_cut (ty_of h1), kit_ty hk, q _ H (exId _) hR (.bl _)⟩) (by decide) (by decide) he hpl
end
/-! ### what is walked -/
def Src (K : PySem.W.Frag) (M : List Addr) (J : It) (n : Nat) (it : Nat → Sl) (H1 : Hp) : Prop :=
  ∃ G : Hp → Prop, (∀ H2, Ex (cut M H1) (cut M H2) → G H2) ∧ Walk J n G fun i H x H' => ∀ M', cut M' H1 = cut M H1 → (∀ a ∈ M', ∃ o, H a = some o) → Ex (cut M' H1) (cut M' H) → Ex H H' ∧ Sv K (cut M' H') (it i) x
def EvI1 {S : Type} (X : Cx) (M : List Addr) (R : S → Hp → Prop) (ρ : List Sl) (tg iter : Expr) (s : S) (n : Nat) (it : Nat → Sl) (s' : S) : Prop :=
  ∃ wi, PI X tg iter wi ∧ ∀ σ H (k : It → Hp → Prop), Slots X.K (cut M H) σ ρ → R s H → (∀ J H1, Ex (cut M H) (cut M H1) → R s' H1 → Src X.K M J n it H1 → k J H1) → wi σ H k
def itD (ds : List PyData) (i : Nat) : Sl := match ds[i]? with
  | some d => .dat d
  | none => .any
theorem sv_itD {K : PySem.W.Frag} {H : Hp} {xs : List V} {ds : List PyData} {i : Nat} {x : V} (h : DvAll K H xs ds) (hx : xs[i]? = some x) : Sv K H (itD ds i) x := by
  obtain ⟨d, e, h⟩ := dpa_get h hx
  unfold itD
  rw [e]
  exact h
section
variable {S : Type} {X : Cx} {M : List Addr} {R : S → Hp → Prop} {ρ : List Sl} {s s1 s2 : S} {tg e e' : Expr} {px pos : Pos}
theorem i_list {ds : List PyData} (h : Ev1 X M R ρ e s (.dat (.list ds)) s1) : EvI1 X M R ρ tg e s ds.length (itD ds) s1 := by
  refine ⟨_, pi_list pe_w, fun σ H k hσ hR q => ?_⟩
  refine h σ H _ hσ hR fun v H1 e1 R1 d1 => ?_
  obtain ⟨a, xs, rfl, ha, hd⟩ := sv_lst d1
  refine ⟨a, rfl, ⟨xs, sq_of (ex_cut _ _ ha)⟩, q _ H1 e1 R1 ⟨fun H => SqL X.K H a xs, fun H2 e2 => sq_of (ex_cut _ _ (e2 _ _ ha)), ?_⟩⟩
  rw [← dpa_length hd]
  refine walk_list.mono (fun _ h => h) fun i H2 x H' _ _ ⟨e, hx⟩ M' em dm e2 => ?_
  subst e
  rw [← em] at hd
  exact ⟨exId _, sv_itD (dpa_ex e2 ds xs hd) hx⟩
theorem i_tup {ds : List PyData} (h : Ev1 X M R ρ e s (.dat (.tuple ds)) s1) : EvI1 X M R ρ tg e s ds.length (itD ds) s1 := by
  refine ⟨_, pi_tup pe_w, fun σ H k hσ hR q => ?_⟩
  refine h σ H _ hσ hR fun v H1 e1 R1 d1 => ?_
  obtain ⟨a, xs, rfl, ha, hd⟩ := sv_tup d1
  refine ⟨a, rfl, ⟨xs, ex_t ex_cut ha⟩, q _ H1 e1 R1 ⟨fun H => SqT X.K H a xs, fun H2 e2 => ex_t ex_cut (ex_t e2 ha), ?_⟩⟩
  rw [← dpa_length hd]
  refine walk_tup.mono (fun _ h => h) fun i H2 x H' _ _ ⟨e, hx⟩ M' em dm e2 => ?_
  subst e
  rw [← em] at hd
  exact ⟨exId _, sv_itD (dpa_ex e2 ds xs hd) hx⟩
theorem i_rng {n : Int} (hg : Gl X "range") (hm : X.mg "range" = none) (hn : n < 2 ^ 62) (h0 : -(2 ^ 62) ≤ n) (h : EvA1 X M R ρ [e] s [.dat (.int n)] s1) (hs : starEach [e] X.env = [(false, eval e X.env)] := by rfl) :
    EvI1 X M R ρ tg (.Call (.Name "range" px) [e] [] pos) s n.toNat (fun i => .dat (.int i)) s1 := by
  refine ⟨_, pi_range1 hg hm pa_w hs, fun σ H k hσ hR q => ?_⟩
  refine h σ H _ hσ hR fun vs H1 e1 R1 d1 => ?_
  obtain ⟨v, rfl, d2⟩ := svall1 d1
  refine ⟨n, by rw [sv_int d2], h0, hn, q _ H1 e1 R1 ⟨fun _ => True, fun _ _ => trivial, ?_⟩⟩
  refine walk_range.mono (fun _ h => h) fun i H2 x H' _ _ ⟨e, hx⟩ M' em dm e2 => ?_
  subst e
  subst hx
  refine ⟨exId _, ?_⟩
  show Dv X.K _ (.int (0 + (i : Int))) (.int (i : Int))
  rw [Int.zero_add]
  exact Dv.int _
/-- the pairs of two sequences -/
def itZ (xs ys : List PyData) (i : Nat) : Sl := match xs[i]?, ys[i]? with
  | some x, some y => .dat (.tuple [x, y])
  | _, _ => .any
theorem i_zipT {elts : List Expr} {kk : Nat} {tpos : Pos} {xs ys : List PyData} (hg : Gl X "zip") (hm : X.mg "zip" = none) (hl : xs.length = ys.length) (h : EvA1 X M R ρ [e, e'] s [.dat (.tuple xs), .dat (.tuple ys)] s1)
    (hs : starEach [e, e'] X.env = (false, eval e X.env) :: starEach [e'] X.env := by rfl) (hpl : (backTo pos (starEach [e'] X.env)).any (·.1) = false := by rfl) :
    EvI1 X M R ρ (.Tuple elts kk tpos) (.Call (.Name "zip" px) [e, e'] [] pos) s xs.length (itZ xs ys) s1 := by
  refine ⟨_, RZ.pi_zipA hg hm pa_w hs hpl, fun σ H k hσ hR q => ?_⟩
  refine h σ H _ hσ hR fun vs H1 e1 R1 d1 => ?_
  obtain ⟨v, w, rfl, d1, d2⟩ := svall2 d1
  obtain ⟨a, us, rfl, ha, hd⟩ := sv_tup d1
  obtain ⟨b, ws, rfl, hb, hd'⟩ := sv_tup d2
  have l1 := dpa_length hd
  have l2 := dpa_length hd'
  refine ⟨a, b, us, ws, rfl, .inr ⟨ex_t ex_cut ha, ex_t ex_cut hb, q _ H1 e1 R1 ⟨fun H => SqT X.K H a us ∧ SqT X.K H b ws, fun H2 e2 => ⟨ex_t ex_cut (ex_t e2 ha), ex_t ex_cut (ex_t e2 hb)⟩, ?_⟩⟩⟩
  refine ⟨fun i H2 hi hG => ?_, fun H2 hG => ?_, fun i H2 x H' hi hG hy => ?_⟩
  · have hi1 : i < us.length := by omega
    have hi2 : i < ws.length := by omega
    exact ⟨us, ws, us[i], ws[i], hG.1, hG.2, List.getElem?_eq_getElem hi1, List.getElem?_eq_getElem hi2⟩
  · exact ⟨us, ws, hG.1, hG.2, .inl (by omega)⟩
  · intro M' em dm e2
    obtain ⟨T, x', y', rfl, hT, rfl, f1, f2⟩ := hy
    have hx := f1 us hG.1
    have hy := f2 ws hG.2
    have hTM : T ∉ M' := fun m => by
      obtain ⟨o, eo⟩ := dm T m
      rw [hT] at eo
      cases eo
    rw [← em] at hd hd'
    obtain ⟨d1, g1, h1⟩ := dpa_get (dpa_ex e2 _ _ hd) hx
    obtain ⟨d2, g2, h2⟩ := dpa_get (dpa_ex e2 _ _ hd') hy
    refine ⟨Ex.new hT, ?_⟩
    unfold itZ
    rw [g1, g2]
    have ee : Ex (cut M' H2) (cut M' (upd H2 T (.tup [x', y']))) := exCut (Ex.new hT)
    exact Dv.tup (st_of (cut_upd hTM)) (.cons (dp_ex ee _ _ h1) (.cons (dp_ex ee _ _ h2) .nil))
end
/-! ### list comprehensions -/
def wipeR (ρ : List Sl) : List Nat → List Sl
  | [] => ρ
  | v :: vs => (wipeR ρ vs).set v .any
theorem slots_wipe {K : PySem.W.Frag} {H : Hp} {σ : St} {ρ : List Sl} (h : Slots K H σ ρ) : ∀ vs : List Nat, Slots K H (wipe σ vs) (wipeR ρ vs)
  | [] => h
  | v :: vs => (slots_wipe h vs).unset v
theorem wipe_set {i : Nat} {o : Option V} : ∀ {vs : List Nat} {σ : St}, i ∈ vs → wipe (σ.set i o) vs = wipe σ vs
  | [], _, h => by simp at h
  | v :: vs, σ, h => by
    show (wipe (σ.set i o) vs).set v none = (wipe σ vs).set v none
    by_cases hv : i ∈ vs
    · rw [wipe_set hv]
    · have e : i = v := by
        rcases List.mem_cons.mp h with h | h
        · exact h
        · exact absurd h hv
      subst e
      have q : ∀ (ws : List Nat) (τ : St), i ∉ ws → wipe (τ.set i o) ws = (wipe τ ws).set i o := by
        intro ws
        induction ws with
        | nil => intro τ _; rfl
        | cons w ws ih =>
          intro τ hn
          have hw : i ≠ w := fun e => hn (by rw [e]; exact List.mem_cons_self)
          show (wipe (τ.set i o) ws).set w none = ((wipe τ ws).set w none).set i o
          rw [ih τ fun z => hn (List.mem_cons_of_mem _ z), List.set_comm _ _ hw]
      rw [q vs σ hv, List.set_set]
theorem wipe_wipe : ∀ {vs : List Nat} {σ : St}, wipe (wipe σ vs) vs = wipe σ vs := by
  intro vs
  have key : ∀ (ws vs : List Nat) (σ : St), (∀ w ∈ ws, w ∈ vs) → wipe (wipe σ ws) vs = wipe σ vs := by
    intro ws
    induction ws with
    | nil => intro vs σ _; rfl
    | cons w ws ih =>
      intro vs σ h
      show wipe ((wipe σ ws).set w none) vs = wipe σ vs
      rw [wipe_set (h w List.mem_cons_self), ih vs σ fun x hx => h x (List.mem_cons_of_mem _ hx)]
  intro σ
  exact key vs vs σ fun _ h => h
/-- the heap without D -/
def rem (D : Addr) (H : Hp) : Hp := fun a => if a = D then none else H a
theorem rem_ne {D a : Addr} {H : Hp} (h : a ≠ D) : rem D H a = H a := if_neg h
theorem rem_self {D : Addr} {H : Hp} : rem D H D = none := if_pos rfl
theorem rem_some {D a : Addr} {H : Hp} {o : HO} (h : rem D H a = some o) : a ≠ D ∧ H a = some o := by
  by_cases e : a = D
  · subst e; rw [rem_self] at h; cases h
  · rw [rem_ne e] at h; exact ⟨e, h⟩
theorem rem_ex {D : Addr} {H H' : Hp} (e : Ex H H') : Ex (rem D H) (rem D H') := fun a o h => by
  obtain ⟨n, q⟩ := rem_some h
  rw [rem_ne n]
  exact e a o q
theorem ex_rem {D : Addr} {H : Hp} : Ex (rem D H) H := fun a o h => (rem_some h).2
theorem rem_upd {D : Addr} {H : Hp} {o : HO} : rem D (upd H D o) = rem D H := by
  funext a
  by_cases e : a = D
  · subst e; rw [rem_self, rem_self]
  · rw [rem_ne e, rem_ne e, upd_ne e]
theorem rem_free {D : Addr} {H : Hp} (h : H D = none) : rem D H = H := by
  funext a
  by_cases e : a = D
  · subst e; rw [rem_self, h]
  · rw [rem_ne e]
/-- the state with the growing list at D beside -/
def RD {S : Type} (R : S → Hp → Prop) (D : Addr) (acc : List V) : S → Hp → Prop := fun s H => R s (rem D H) ∧ H D = some (.lst acc)
theorem RD.rg {S : Type} {M : List Addr} {R : S → Hp → Prop} (g : Rg M R) (D : Addr) (acc : List V) : Rg (D :: M) (RD R D acc) :=
  ⟨fun ⟨h, d⟩ e => ⟨g.up h (rem_ex e), e _ _ d⟩, fun ⟨h, d⟩ m => by
    rcases List.mem_cons.mp m with e | m
    · subst e; exact ⟨_, d⟩
    · obtain ⟨o, q⟩ := g.dom h m
      exact ⟨o, (rem_some q).2⟩⟩
theorem cut_cons {M : List Addr} {H : Hp} {D : Addr} : Ex (cut (D :: M) H) (cut M H) := fun a o h => by
  obtain ⟨n, e⟩ := cut_some h
  rw [cut_out fun z => n (List.mem_cons_of_mem _ z)]
  exact e
theorem cut_cons_none {M : List Addr} {H : Hp} {D : Addr} (h : H D = none) : cut (D :: M) H = cut M H := by
  funext a
  by_cases e : a = D
  · subst e
    rw [cut_in List.mem_cons_self]
    by_cases m : a ∈ M
    · rw [cut_in m]
    · rw [cut_out m, h]
  · by_cases m : a ∈ M
    · rw [cut_in m, cut_in (List.mem_cons_of_mem _ m)]
    · rw [cut_out m, cut_out fun z => (List.mem_cons.mp z).elim e m]
theorem ex_cut_back {M : List Addr} {H H' : Hp} {D : Addr} (h : H D = none) (e : Ex (cut M H) (cut M H')) : Ex (cut (D :: M) H) (cut (D :: M) H') := fun a o ha => by
  obtain ⟨n, q⟩ := cut_some ha
  have hM : a ∉ M := fun z => n (List.mem_cons_of_mem _ z)
  have := e a o (by rw [cut_out hM]; exact q)
  rw [cut_out n]
  rw [cut_out hM] at this
  exact this
theorem cut_upd_in {M : List Addr} {H : Hp} {D : Addr} {o : HO} (h : D ∈ M) : cut M (upd H D o) = cut M H := by
  funext a
  by_cases m : a ∈ M
  · rw [cut_in m, cut_in m]
  · rw [cut_out m, cut_out m, upd_ne fun e => m (by rw [e]; exact h)]
/-- what a target does of a value -/
def Tg1 (K : PySem.W.Frag) (g : TG) (vs : List Nat) (ρ : List Sl) (r : Sl) (ρ' : List Sl) : Prop :=
  ∀ (M : List Addr) (σ : St) (H : Hp) (v : V) (Q : St → Hp → Prop), Slots K (cut M H) σ ρ → Sv K (cut M H) r v → (∀ σ2, Slots K (cut M H) σ2 ρ' → wipe σ2 vs = wipe σ vs → Q σ2 H) → g v σ H Q
theorem tg_name {K : PySem.W.Frag} {i : Nat} {vs : List Nat} {ρ : List Sl} {r : Sl} (hi : i ∈ vs) : Tg1 K (gName i) vs ρ r (ρ.set i r) := fun M σ H v Q hσ hv q => q _ (Slots.set hv i hσ) (wipe_set hi)
/-- a, b = a pair -/
theorem tg_pair {K : PySem.W.Frag} {i j : Nat} {vs : List Nat} {ρ : List Sl} {d1 d2 : PyData} (hi : i ∈ vs) (hj : j ∈ vs) :
    Tg1 K (gTup K 2 (gCons (gName i) (gCons (gName j) gNil))) vs ρ (.dat (.tuple [d1, d2])) ((ρ.set i (.dat d1)).set j (.dat d2)) := fun M σ H v Q hσ hv q => by
  obtain ⟨a, xs, rfl, ha, hd⟩ := sv_tup hv
  cases hd with
  | cons h1 h2 =>
    cases h2 with
    | cons h2 h3 =>
      cases h3
      refine ⟨a, _, rfl, ex_t ex_cut ha, rfl, _, _, rfl, _, _, rfl, rfl, ?_⟩
      exact q _ (Slots.set (r := .dat d2) h2 j (Slots.set (r := .dat d1) h1 i hσ)) ((wipe_set hj).trans (wipe_set hi))
section
variable {S : Type} {X : Cx} {M : List Addr} {R : S → Hp → Prop} {ρ : List Sl} {s : S}
/-- the contexts of a comprehension's block -/
abbrev Bk (X : Cx) (scope : Scope) (sh : Shared) (Hh : Hp) (C : Addr) (cl : List (Str × Addr)) (fp : List Addr) : Cx := X.blk sh Hh scope (compEnvC scope cl C X.env) fp
def wbE (X : Cx) (scope : Scope) (e : Expr) : TE := fun σ H Q => ∀ sh Hh C cl fp, wE (Bk X scope sh Hh C cl fp) e σ H Q
def wbT (X : Cx) (scope : Scope) (ifs : List Expr) : TT := match ifs with
  | [] => tYes
  | [c] => fun σ H Q => ∀ sh Hh C cl fp, wT (Bk X scope sh Hh C cl fp) c σ H Q
  | _ => fun _ _ _ => False
/-- one turn: the test and the item -/
def Lc1 (X : Cx) (scope : Scope) (M : List Addr) (R : S → Hp → Prop) (ρ : List Sl) (ifs : List Expr) (elt : Expr) (s : S) (o o' : List PyData) (s' : S) : Prop :=
  ∀ D acc, Rg (D :: M) (RD R D acc) → ∃ (b : Bool) (s1 : S),
    (match ifs with
      | [] => b = true ∧ s1 = s
      | [c] => ∀ sh Hh C cl fp, EvT1 (Bk X scope sh Hh C cl fp) (D :: M) (RD R D acc) ρ c s b s1
      | _ => False) ∧
    (b = true → ∃ d, o' = o ++ [d] ∧ ∀ sh Hh C cl fp, Ev1 (Bk X scope sh Hh C cl fp) (D :: M) (RD R D acc) ρ elt s1 (.dat d) s') ∧ (b = false → o' = o ∧ s' = s1)
theorem e_lc (g : Rg M R) {elt tg iter : Expr} {ifs : List Expr} {scope : Scope} {own : List (Str × Nat)} {pos : Pos} {gt : TG} {n : Nat} {it : Nat → Sl} {ss : Nat → S} {outs : Nat → List PyData} (hc : X.calm = true) (hN : X.N.Nodup)
    (ok : BlkOk X.N X.env.scope scope own) (hg : ∀ sh Hh C cl fp, PG (Bk X scope sh Hh C cl fp) tg gt) (hi : EvI1 X M R ρ tg iter s n it (ss 0)) (h0 : outs 0 = []) (hz : ∀ i, i < n → (outs i).length < 100000)
    (hs : ∀ i, i < n → ∃ ρ', Tg1 X.K gt (own.map (·.2)) (wipeR ρ (own.map (·.2))) (it i) ρ' ∧ Lc1 X scope M R ρ' ifs elt (ss i) (outs i) (outs (i + 1)) (ss (i + 1)))
    (hfs : ∀ x, foldedSetIterable iter X.env x = pure x := by intro _; rfl) :
    Ev1 X M R ρ (.ListComp elt [⟨tg, iter, ifs, 0⟩] scope pos) s (.dat (.list (outs n))) (ss n) := by
  intro σ H Q hσ hR q
  obtain ⟨wi, pwi, hwi⟩ := hi
  have pts : ∀ (sh : Shared) (Hh : Hp) (C : Addr) (cl : List (Str × Addr)) (fp : List Addr), PTs (Bk X scope sh Hh C cl fp) ifs (wbT X scope ifs) := by
    intro sh Hh C cl fp
    match ifs with
    | [] => exact pts_nil
    | [c] => exact pts_one ⟨fun pins s σ H Q I h => h sh Hh C cl fp pins s I⟩
    | _ :: _ :: _ => exact ⟨fun pins s σ H Q I h => h.elim⟩
  refine wE_of (pe_lc (te := wbE X scope elt) (tt := wbT X scope ifs) (g := gt) (own := own) hc hN pwi ok hg pts (fun sh Hh C cl fp => ⟨fun pins s σ H Q I h => h sh Hh C cl fp pins s I⟩) hfs) ?_
  refine hwi σ H _ hσ hR fun J H1 e1 R1 hsrc D nD => ?_
  obtain ⟨G, hG, w⟩ := hsrc
  have hDM : D ∉ M := g.fresh R1 nD
  refine lc_it w (fun i H' => R (ss i) (rem D H') ∧ Ex (cut M H1) (cut M H') ∧ ∃ acc, H' D = some (.lst acc) ∧ DvAll X.K (cut (D :: M) H') acc (outs i)) ?_ (fun i H' _ ⟨_, e, _⟩ => hG H' e) ?_ ?_
  · refine ⟨by rw [rem_upd, rem_free nD]; exact R1, exCut (Ex.new nD), [], upd_same, ?_⟩
    rw [h0]
    exact .nil
  · intro i x H2 H' hi ⟨R2, e2, acc, hD, hacc⟩ hy
    obtain ⟨ρ', ht, hl⟩ := hs i hi
    have gD := RD.rg g D acc
    have RD2 : RD R D acc (ss i) H2 := ⟨R2, hD⟩
    obtain ⟨eH, sx⟩ := hy (D :: M) (cut_cons_none nD) (fun a m => gD.dom RD2 m) (ex_cut_back nD e2)
    have RD3 : RD R D acc (ss i) H' := gD.up RD2 eH
    have e12 : Ex (cut M H1) (cut M H') := e2.trans (exCut eH)
    have hσ' : Slots X.K (cut (D :: M) H') (wipe σ (own.map (·.2))) (wipeR ρ (own.map (·.2))) := by
      have := slots_wipe hσ (own.map (·.2))
      refine Slots.ex ?_ this
      have ee : Ex (cut M H) (cut (D :: M) H1) := by
        rw [cut_cons_none nD]
        exact e1
      exact ee.trans (ex_cut_back nD e12)
    refine ht (D :: M) _ H' x _ hσ' sx fun σ2 hσ2 hw2 => ?_
    refine ⟨hw2.trans wipe_wipe, ?_⟩
    have hacc' : DvAll X.K (cut (D :: M) H') acc (outs i) := dpa_ex (exCut eH) _ _ hacc
    obtain ⟨b, s1, hb, hb1, hb0⟩ := hl D acc gD
    have fin : ∀ H3, Ex (cut (D :: M) H') (cut (D :: M) H3) → RD R D acc s1 H3 → (if b = true then wbE X scope elt σ2 H3 fun y H4 => ∃ acc, H4 D = some (.lst acc) ∧ acc.length < sizeLine ∧
        (R (ss (i + 1)) (rem D (upd H4 D (.lst (acc ++ [y])))) ∧ Ex (cut M H1) (cut M (upd H4 D (.lst (acc ++ [y])))) ∧ ∃ acc', upd H4 D (.lst (acc ++ [y])) D = some (.lst acc') ∧ DvAll X.K (cut (D :: M) (upd H4 D (.lst (acc ++ [y])))) acc' (outs (i + 1)))
        else (R (ss (i + 1)) (rem D H3) ∧ Ex (cut M H1) (cut M H3) ∧ ∃ acc, H3 D = some (.lst acc) ∧ DvAll X.K (cut (D :: M) H3) acc (outs (i + 1)))) := by
      intro H3 e3 R3
      have back : ∀ {H5 : Hp}, Ex (cut (D :: M) H') (cut (D :: M) H5) → Ex (cut M H1) (cut M H5) := fun {H5} e a o ha => by
        have hne : a ≠ D := fun z => by
          rw [z] at ha
          rw [(cut_some ha).2] at nD
          cases nD
        have hM := (cut_some ha).1
        have q1 := e12 a o ha
        have n2 : a ∉ D :: M := fun z => (List.mem_cons.mp z).elim hne hM
        have q2 := e a o (by rw [cut_out n2]; rw [cut_out hM] at q1; exact q1)
        rw [cut_out hM]
        rw [cut_out n2] at q2
        exact q2
      cases b with
      | true =>
        rw [if_pos rfl]
        obtain ⟨d, eo, he⟩ := hb1 rfl
        intro sh Hh C cl fp
        refine he sh Hh C cl fp σ2 H3 _ (hσ2.ex e3) R3 fun y H4 e4 R4 d4 => ?_
        have la : acc.length = (outs i).length := dpa_length hacc
        refine ⟨acc, R4.2, by rw [la]; exact Nat.lt_of_lt_of_le (hz i hi) (by decide), ?_, ?_, acc ++ [y], upd_same, ?_⟩
        · rw [rem_upd]; exact R4.1
        · have := back (e3.trans e4)
          intro a o ha
          have hne : a ≠ D := fun z => by
            rw [z] at ha
            rw [(cut_some ha).2] at nD
            cases nD
          have q1 := this a o ha
          rw [cut_out (cut_some ha).1] at q1 ⊢
          rw [upd_ne hne]
          exact q1
        · rw [cut_upd_in List.mem_cons_self, eo]
          exact dpa_app (dpa_ex (e3.trans e4) _ _ hacc') (.cons d4 .nil)
      | false =>
        rw [if_neg Bool.false_ne_true]
        obtain ⟨eo, es⟩ := hb0 rfl
        refine ⟨by rw [es]; exact R3.1, back e3, acc, R3.2, ?_⟩
        rw [eo]
        exact dpa_ex e3 _ _ hacc'
    match ifs, hb with
    | [], hb =>
      obtain ⟨hbt, hs1⟩ := hb
      subst hbt
      exact fin H' (exId _) (by rw [hs1]; exact RD3)
    | [c], hb =>
      intro sh Hh C cl fp
      refine hb sh Hh C cl fp σ2 H' _ hσ2 RD3 fun H3 e3 R3 => ?_
      exact fin H3 e3 R3
    | _ :: _ :: _, hb => exact hb.elim
  · intro H' ⟨R', e', acc, hD, hacc⟩
    exact q (.ref D) H' (e1.trans e') (g.up R' ex_rem) (.lst (by rw [cut_out hDM]; exact hD) (dpa_ex cut_cons _ _ hacc))
end
end DV
namespace DV
open PySem PySem.Spec L2 Evl
open PyProof.Rows hiding St
/-! ### defs and what they promise -/
/-- a def by its name, called by places -/
structure Cal (P : Program) (w : World) (K : PySem.W.Frag) (mg : Str → Option Value) (base : Heap) (x : Str) (k : Nat) (sp : Sp) : Prop where
  ex : ∃ (f : Addr) (fd : FuncData) (ps : List Str), FnOk P w K mg base (L2.CX P w) k f fd ps sp ∧ mg x = some (.ref f) ∧ PySem.W.keepIn K (.ref f) = true ∧ Binds K fd ps []
theorem Cal.mono {P : Program} {w : World} {K : PySem.W.Frag} {mg : Str → Option Value} {base : Heap} {x : Str} {j k : Nat} {sp : Sp} (c : Cal P w K mg base x j sp) (h : j ≤ k) : Cal P w K mg base x k sp := by
  obtain ⟨f, fd, ps, F, r⟩ := c.ex
  exact ⟨f, fd, ps, F.mono h, r⟩
theorem Cal.imp {P : Program} {w : World} {K : PySem.W.Frag} {mg : Str → Option Value} {base : Heap} {x : Str} {k : Nat} {sp sp' : Sp} (c : Cal P w K mg base x k sp) (h : ∀ vs H Q E, sp' vs H Q E → sp vs H Q E) : Cal P w K mg base x k sp' := by
  obtain ⟨f, fd, ps, F, r⟩ := c.ex
  exact ⟨f, fd, ps, F.imp h, r⟩
/-- a def of the text as the top leaves it -/
structure Def (K : PySem.W.Frag) (mg : Str → Option Value) (x : Str) (st : Stmt) (ps : List Str) : Prop where
  ex : ∃ (f : Addr) (fd : FuncData), Fun K x x st f fd ∧ mg x = some (.ref f) ∧ Binds K fd ps []
/-- how a call ends: a value, or an error of a class -/
inductive Out where
  | ok (r : Sl) | er (c : Value)
def Fin (K : PySem.W.Frag) (M : List Addr) (H : Hp) (Q : VK) (E : XK) : Out → Prop
  | .ok r => ∀ v H', Ex H H' → Sv K (cut M H') r v → Q v H'
  | .er c => ∀ H', Ex H H' → E c none H'
/-- nothing that is there is changed; G: what goes in and what comes out -/
def spS (K : PySem.W.Frag) (G : List Sl → Out → Prop) : Sp := fun vs H Q E => ∃ (M : List Addr) (rs : List Sl) (o : Out), (∀ a ∈ M, ∃ o, H a = some o) ∧ SvAll K (cut M H) rs vs ∧ G rs o ∧ Fin K M H Q E o
/-- a def's context -/
abbrev dx (P : Program) (w : World) (K : PySem.W.Frag) (mg : Str → Option Value) (base : Heap) (N : List Str) (x : Str) (st : Stmt) (f : Addr) (cdv : Value) (A : Around) (outer : List Env) (sh : Shared) (H : Hp) (E : XK) : Cx :=
  cxOf (L2.CX P w) P w K mg base N x (defScope st) f cdv A outer sh H E
section
variable {P : Program} {w : World} {K : PySem.W.Frag} {mg : Str → Option Value} {base : Heap}
theorem rg_pure {M : List Addr} {H : Hp} (hM : ∀ a ∈ M, ∃ o, H a = some o) : Rg M (fun (_ : Unit) H' => Ex H H') :=
  ⟨fun a e => a.trans e, fun e m => by
    obtain ⟨o, q⟩ := hM _ m
    exact ⟨o, e _ o q⟩⟩
/-- what a body is to show: R opaque -/
def Body (P : Program) (w : World) (K : PySem.W.Frag) (mg : Str → Option Value) (base : Heap) (N : List Str) (x : Str) (st : Stmt) (k : Nat) (rs : List Sl) (o : Out) : Prop :=
  ∀ (f : Addr) (cdv : Value) (A : Around) (outer : List Env) (sh : Shared) (H : Hp) (E : XK) (M : List Addr) (R : Unit → Hp → Prop) (D : Ends), Room k (A.deeper (envOfC x (defScope st) sh.heap.objs.size f cdv)) → Rg M R →
    (∀ r v H', o = .ok r → R () H' → Sv K (cut M H') r v → D.rt v H') → (∀ σ H', o = .ok (.dat .none) → R () H' → D.nx σ H') → (∀ c H', o = .er c → R () H' → E c none H') →
    St1 (dx P w K mg base N x st f cdv A outer sh H E) M R (ini N rs) (defBody st) () D
theorem Def.cal {x : Str} {st : Stmt} {ps N : List Str} {k : Nat} {G : List Sl → Out → Prop} (d : Def K mg x st ps) (S : FnScope N ps (defScope st)) (len : ∀ rs o, G rs o → rs.length = ps.length)
    (hb : ∀ rs o, G rs o → Body P w K mg base N x st k rs o) : Cal P w K mg base x (k + 1) (spS K G) := by
  obtain ⟨f, fd, F, hm, b⟩ := d.ex
  refine ⟨f, fd, ps, ?_, hm, F.kp, b⟩
  refine F.okX S (fun vs H Q E ⟨M, rs, o, _, sv, g, _⟩ => by rw [sv.len, len rs o g]) fun cdv A outer s H vs Q E hr ⟨M, rs, o, hM, sv, g, q⟩ => ?_
  refine ⟨_, pss_w, ?_⟩
  refine hb rs o g f cdv A outer s H E M (fun _ H' => Ex H H') { nx := fun _ H' => Q .non H', rt := Q } hr (rg_pure hM) ?_ ?_ ?_ _ H (slots_ini sv) (exId _)
  · intro r v H' e h sv'
    subst e
    exact q v H' h sv'
  · intro σ H' e h
    subst e
    exact q .non H' h .non
  · intro c H' e h
    subst e
    exact q H' h
end
/-! ### calls of one's own defs -/
section
variable {S : Type} {X : Cx} {M : List Addr} {R : S → Hp → Prop} {ρ : List Sl} {s s1 s2 : S} {x : Str} {e : Expr} {es : List Expr} {px pos : Pos} {rs : List Sl} {j k : Nat} {sp : Sp} {E : XK}
theorem w_call {σ : St} {H : Hp} {Q : VK} (c : Cal X.prog X.w X.K X.mg X.base x k sp) (hr : Room j X.A) (hk : k ≤ j) (hg : Gl X x) (hx : Passes (L2.CX X.prog X.w) X E) (ha : EvA1 X M R ρ (e :: es) s rs s1) (hσ : Slots X.K (cut M H) σ ρ) (hR : R s H)
    (h : ∀ vs H1, Ex (cut M H) (cut M H1) → SvAll X.K (cut M H1) rs vs → R s1 H1 → sp vs H1 Q E) (hdb : (x == ("__debug__" : Str)) = false := by decide)
    (he : starEach (e :: es) X.env = (false, eval e X.env) :: starEach es X.env := by rfl) (hpl : (backTo pos (starEach es X.env)).any (·.1) = false := by rfl) : wE X (.Call (.Name x px) (e :: es) [] pos) σ H Q := by
  obtain ⟨f, fd, ps, F, hm, hkp, hb⟩ := c.ex
  refine wE_of (pe_call F (hr.mono hk) hg hm hkp hb .nil hx pa_w hdb he hpl) ?_
  refine ha σ H _ hσ hR fun vs H1 e1 R1 d1 => ?_
  rw [List.append_nil]
  exact h vs H1 e1 d1 R1
/-- a def that changes nothing, and raises nothing here -/
theorem e_call (g : Rg M R) {G : List Sl → Out → Prop} {r : Sl} (c : Cal X.prog X.w X.K X.mg X.base x k (spS X.K G)) (hr : Room j X.A) (hk : k ≤ j) (hg : Gl X x) (hG : G rs (.ok r)) (ha : EvA1 X M R ρ (e :: es) s rs s1) (hdb : (x == ("__debug__" : Str)) = false := by decide)
    (he : starEach (e :: es) X.env = (false, eval e X.env) :: starEach es X.env := by rfl) (hpl : (backTo pos (starEach es X.env)).any (·.1) = false := by rfl) : Ev1 X M R ρ (.Call (.Name x px) (e :: es) [] pos) s r s1 := by
  intro σ H Q hσ hR q
  refine w_call c hr hk hg passL ha hσ hR (fun vs H1 e1 d1 R1 => ?_) hdb he hpl
  exact ⟨M, rs, .ok r, fun a m => g.dom R1 m, d1, hG, fun v H' e2 d2 => q v H' (e1.trans (exCut e2)) (g.up R1 e2) d2⟩
/-- .. and raises an error of the class c -/
theorem x_call (g : Rg M R) {G : List Sl → Out → Prop} {cl : Value} {σ : St} {H : Hp} {Q : VK} (c : Cal X.prog X.w X.K X.mg X.base x k (spS X.K G)) (hr : Room j X.A) (hk : k ≤ j) (hg : Gl X x) (hx : Passes (L2.CX X.prog X.w) X E) (hG : G rs (.er cl)) (ha : EvA1 X M R ρ (e :: es) s rs s1)
    (hσ : Slots X.K (cut M H) σ ρ) (hR : R s H) (h : ∀ H1, Ex (cut M H) (cut M H1) → R s1 H1 → E cl none H1) (hdb : (x == ("__debug__" : Str)) = false := by decide)
    (he : starEach (e :: es) X.env = (false, eval e X.env) :: starEach es X.env := by rfl) (hpl : (backTo pos (starEach es X.env)).any (·.1) = false := by rfl) : wE X (.Call (.Name x px) (e :: es) [] pos) σ H Q :=
  w_call c hr hk hg hx ha hσ hR (fun vs H1 e1 d1 R1 => ⟨M, rs, .er cl, fun a m => g.dom R1 m, d1, hG, fun H' e2 => h H' (e1.trans (exCut e2)) (g.up R1 e2)⟩) hdb he hpl
/-- either way -/
theorem o_call (g : Rg M R) {G : List Sl → Out → Prop} {o : Out} {σ : St} {H : Hp} {Q : VK} (c : Cal X.prog X.w X.K X.mg X.base x k (spS X.K G)) (hr : Room j X.A) (hk : k ≤ j) (hg : Gl X x) (hx : Passes (L2.CX X.prog X.w) X E) (hG : G rs o) (ha : EvA1 X M R ρ (e :: es) s rs s1)
    (hσ : Slots X.K (cut M H) σ ρ) (hR : R s H) (h : ∀ r v H1, o = .ok r → Ex (cut M H) (cut M H1) → R s1 H1 → Sv X.K (cut M H1) r v → Q v H1) (hx2 : ∀ cl H1, o = .er cl → Ex (cut M H) (cut M H1) → R s1 H1 → E cl none H1) (hdb : (x == ("__debug__" : Str)) = false := by decide)
    (he : starEach (e :: es) X.env = (false, eval e X.env) :: starEach es X.env := by rfl) (hpl : (backTo pos (starEach es X.env)).any (·.1) = false := by rfl) : wE X (.Call (.Name x px) (e :: es) [] pos) σ H Q :=
  w_call c hr hk hg hx ha hσ hR (fun vs H1 e1 d1 R1 => ⟨M, rs, o, fun a m => g.dom R1 m, d1, hG, by
    cases o with
    | ok r => exact fun v H' e2 d2 => h r v H' rfl (e1.trans (exCut e2)) (g.up R1 e2) d2
    | er cl => exact fun H' e2 => hx2 cl H' rfl (e1.trans (exCut e2)) (g.up R1 e2)⟩) hdb he hpl
end
/-! ### statements -/
section
variable {S : Type} {X : Cx} {M : List Addr} {R : S → Hp → Prop} {ρ : List Sl} {s s1 s2 : S} {e : Expr} {rest : List Stmt} {pos : Pos} {D : Ends}
theorem wB_cons {st : Stmt} {σ : St} {H : Hp} (h : wS X st { D with nx := wB X rest D } σ H) : wB X (st :: rest) D σ H := wB_of (pss_cons ps_w pss_w) h
theorem st_nil (h : ∀ σ H, Slots X.K (cut M H) σ ρ → R s H → D.nx σ H) : St1 X M R ρ [] s D := fun σ H hσ hR => wB_of pss_nil (h σ H hσ hR)
theorem st_set (i : Nat) {x : Str} {px : Pos} {r : Sl} (hN : X.N.Nodup) (hi : X.N[i]? = some x) (hx : Loc X.env.scope x) (he : Ev1 X M R ρ e s r s1) (k : St1 X M R (ρ.set i r) rest s1 D)
    (hs : swapsWith e (some (.Name x px)) pos.line X.env = pure false := by rfl) (hf : X.fn x = true ∨ X.env.scope.names.lookup x = some .local := by first | exact .inl rfl | exact .inr rfl) : St1 X M R ρ (.Assign [.Name x px] e pos :: rest) s D := by
  intro σ H hσ hR
  refine wB_cons (wS_of (ps_set (i := i) hN hi hx pe_w hs hf) ?_)
  exact he σ H _ hσ hR fun v H1 e1 R1 d1 => k _ H1 (Slots.set d1 i (hσ.ex e1)) R1
theorem st_ret {r : Sl} (he : Ev1 X M R ρ e s r s1) (k : ∀ v H', R s1 H' → Sv X.K (cut M H') r v → D.rt v H') : St1 X M R ρ (.Return (some e) pos :: rest) s D := by
  intro σ H hσ hR
  refine wB_cons (wS_of (ps_ret pe_w) ?_)
  exact he σ H _ hσ hR fun v H1 e1 R1 d1 => k v H1 R1 d1
theorem st_retN (k : ∀ H', R s H' → D.rt .non H') : St1 X M R ρ (.Return none pos :: rest) s D := fun σ H hσ hR => wB_cons (wS_of ps_retN (k H hR))
theorem st_if {c : Expr} {a b : List Stmt} {k : Bool} (hc : EvT1 X M R ρ c s k s1) (h1 : k = true → St1 X M R ρ a s1 { D with nx := wB X rest D }) (h2 : k = false → St1 X M R ρ b s1 { D with nx := wB X rest D }) : St1 X M R ρ (.If c a b pos :: rest) s D := by
  intro σ H hσ hR
  refine wB_cons (wS_of (ps_if pt_w pss_w pss_w) ?_)
  refine hc σ H _ hσ hR fun H1 e1 R1 => ?_
  cases k with
  | true =>
    rw [if_pos rfl]
    exact h1 rfl σ H1 (hσ.ex e1) R1
  | false =>
    rw [if_neg Bool.false_ne_true]
    exact h2 rfl σ H1 (hσ.ex e1) R1
/-- the end of a branch: what follows -/
theorem st_thru (k : St1 X M R ρ rest s D) : St1 X M R ρ [] s { D with nx := wB X rest D } := st_nil k
theorem st_expr {r : Sl} (he : Ev1 X M R ρ e s r s1) (k : St1 X M R ρ rest s1 D) (hs : swapsWith e none pos.line X.env = pure false := by rfl) : St1 X M R ρ (.Expr e pos :: rest) s D := by
  intro σ H hσ hR
  refine wB_cons (wS_of (ps_expr pe_w hs) ?_)
  exact he σ H _ hσ hR fun v H1 e1 R1 d1 => k σ H1 (hσ.ex e1) R1
/-- .. that may leave by an error -/
theorem st_exprW (h : ∀ σ H, Slots X.K (cut M H) σ ρ → R s H → wE X e σ H fun _ H1 => wB X rest D σ H1) (hs : swapsWith e none pos.line X.env = pure false := by rfl) : St1 X M R ρ (.Expr e pos :: rest) s D :=
  fun σ H hσ hR => wB_cons (wS_of (ps_expr pe_w hs) (h σ H hσ hR))
theorem st_pass (k : St1 X M R ρ rest s D) : St1 X M R ρ (.Pass pos :: rest) s D := fun σ H hσ hR => wB_cons (wS_of ps_pass (k σ H hσ hR))
/-- raise C(..), C an own class without own __init__ -/
structure Exn (K : PySem.W.Frag) (mg : Str → Option Value) (x : Str) (C : Addr) : Prop where
  gC : mg x = some (.ref C)
  xC : PySem.W.excIn K C [.type "ValueError", .type "Exception", .type "BaseException", .type "object"] "ValueError.__new__" = true
  kC : PySem.W.keepIn K (.ref C) = true
  bC : PySem.W.subIn K (.ref C) (.type "BaseException") = some true
  tC : PySem.W.typeIn K (.ref C) = some (.type "type")
theorem st_raise {x : Str} {C : Addr} {es : List Expr} {px pos2 : Pos} {rs : List Sl} {W : WX} (hc : X.calm = true) (n : Exn X.K X.mg x C) (tk : Takes X W) (hg : Gl X x) (ha : EvA1 X M R ρ (e :: es) s rs s1) (hl : rs.length ≤ 1000) (k : ∀ σ H', Slots X.K (cut M H') σ ρ → R s1 H' → W (.ref C) none σ H')
    (hdb : (x == ("__debug__" : Str)) = false := by decide) (he : starEach (e :: es) X.env = (false, eval e X.env) :: starEach es X.env := by rfl) (hpl : (backTo pos (starEach es X.env)).any (·.1) = false := by rfl) :
    St1 X M R ρ (.Raise (some (.Call (.Name x px) (e :: es) [] pos)) none pos2 :: rest) s D := by
  intro σ H hσ hR
  refine wB_cons (wS_of (ps_raise hc tk (pmk_ownA PySem.F.excBase_ValueError n.xC n.gC n.kC (raises_own n.bC n.tC) hg pa_w hdb he hpl)) ?_)
  refine ha σ H _ hσ hR fun vs H1 e1 R1 d1 => ⟨?_, k σ H1 (hσ.ex e1) R1⟩
  rw [d1.len]
  exact Nat.le_of_lt (small1000 hl)
/-! for -/
def Tg0 (K : PySem.W.Frag) (g : TG) (ρ : List Sl) (r : Sl) (ρ' : List Sl) : Prop :=
  ∀ (M : List Addr) (σ : St) (H : Hp) (v : V) (Q : St → Hp → Prop), Slots K (cut M H) σ ρ → Sv K (cut M H) r v → (∀ σ2, Slots K (cut M H) σ2 ρ' → Q σ2 H) → g v σ H Q
theorem tg0_name {K : PySem.W.Frag} {i : Nat} {ρ : List Sl} {r : Sl} : Tg0 K (gName i) ρ r (ρ.set i r) := fun M σ H v Q hσ hv q => q _ (Slots.set hv i hσ)
theorem tg0_pair {K : PySem.W.Frag} {i j : Nat} {ρ : List Sl} {d1 d2 : PyData} :
    Tg0 K (gTup K 2 (gCons (gName i) (gCons (gName j) gNil))) ρ (.dat (.tuple [d1, d2])) ((ρ.set i (.dat d1)).set j (.dat d2)) := fun M σ H v Q hσ hv q => by
  obtain ⟨a, xs, rfl, ha, hd⟩ := sv_tup hv
  cases hd with
  | cons h1 h2 =>
    cases h2 with
    | cons h2 h3 =>
      cases h3
      refine ⟨a, _, rfl, ex_t ex_cut ha, rfl, _, _, rfl, _, _, rfl, rfl, ?_⟩
      exact q _ (Slots.set (r := .dat d2) h2 j (Slots.set (r := .dat d1) h1 i hσ))
/-- the state since the loop's start -/
def RX {S : Type} (R : S → Hp → Prop) (M : List Addr) (H1 : Hp) : S → Hp → Prop := fun s H => R s H ∧ Ex (cut M H1) (cut M H)
theorem RX.rg (g : Rg M R) (H1 : Hp) : Rg M (RX R M H1) := ⟨fun ⟨h, x⟩ e => ⟨g.up h e, x.trans (exCut e)⟩, fun ⟨h, _⟩ m => g.dom h m⟩
theorem st_for (g : Rg M R) {tg iter : Expr} {body : List Stmt} {gt : TG} {n : Nat} {it : Nat → Sl} (J : Nat → List Sl → S → Prop) (hp : PassesOwn (model X.prog X.w) X.A X.env X.xe) (hc : X.calm = true) (hg : PG X tg gt) (hi : EvI1 X M R ρ tg iter s n it s1) (h0 : J 0 ρ s1)
    (hs : ∀ i ρi si H1, i < n → J i ρi si → Rg M (RX R M H1) → ∃ ρ', Tg0 X.K gt ρi (it i) ρ' ∧ ∀ (N : St → Hp → Prop), (∀ σ H ρ2 s2, J (i + 1) ρ2 s2 → Slots X.K (cut M H) σ ρ2 → RX R M H1 s2 H → N σ H) → St1 X M (RX R M H1) ρ' body si { D with nx := N, ct := N, bk := wB X rest D })
    (hd : ∀ ρ' s', J n ρ' s' → St1 X M R ρ' rest s' D) (hfs : ∀ x, foldedSetIterable iter X.env x = pure x := by intro _; rfl) : St1 X M R ρ (.For tg iter body [] pos :: rest) s D := by
  intro σ H hσ hR
  obtain ⟨wi, pwi, hwi⟩ := hi
  refine wB_cons (wS_of (ps_for hp hc pwi hg pss_w hfs) ?_)
  refine hwi σ H _ hσ hR fun JJ H1 e1 R1 ⟨G, hG, wk⟩ => ?_
  have g1 := RX.rg g H1
  refine for_it wk (fun i σ H => ∃ ρ' s', J i ρ' s' ∧ Slots X.K (cut M H) σ ρ' ∧ RX R M H1 s' H) ⟨ρ, s1, h0, hσ.ex e1, R1, exId _⟩ (fun i σ H _ ⟨ρ', s', _, _, _, e⟩ => hG H e) ?_ ?_
  · intro i x σ2 H2 H' hi ⟨ρi, si, hJ, hσi, R2⟩ hy
    obtain ⟨ρ', ht, hb⟩ := hs i ρi si H1 hi hJ g1
    obtain ⟨eH, sx⟩ := hy M rfl (fun a m => g1.dom R2 m) R2.2
    refine ht M σ2 H' x _ (hσi.ex (exCut eH)) sx fun σ3 hσ3 => ?_
    exact hb _ (fun σ H ρ2 s2 a b c => ⟨ρ2, s2, a, b, c⟩) σ3 H' hσ3 (g1.up R2 eH)
  · intro σ2 H2 ⟨ρ', s', hJ, hσ', R2, _⟩
    exact hd ρ' s' hJ σ2 H2 hσ' R2
end
end DV
namespace DV
open PySem PySem.Spec L2 Evl
open PyProof.Rows hiding St
theorem itD_lt {ds : List PyData} {i : Nat} {d : PyData} (h : ds[i]? = some d) : itD ds i = .dat d := by
  unfold itD
  rw [h]
theorem itZ_lt {xs ys : List PyData} {i : Nat} {x y : PyData} (h : xs[i]? = some x) (h' : ys[i]? = some y) : itZ xs ys i = .dat (.tuple [x, y]) := by
  unfold itZ
  rw [h, h']
theorem take_succ' {α : Type} {l : List α} {i : Nat} {x : α} (h : l[i]? = some x) : l.take (i + 1) = l.take i ++ [x] := by
  rw [List.take_add_one, h]
  rfl
section
variable {S : Type} {X : Cx} {M : List Addr} {R : S → Hp → Prop} {ρ : List Sl} {s : S} {elt iter : Expr} {scope : Scope} {own : List (Str × Nat)} {pos px : Pos}
/-- [elt for x in a sequence] -/
theorem lc_map (g : Rg M R) {i : Nat} {x : Str} {ds : List PyData} (f : PyData → PyData) (hi : EvI1 X M R ρ (.Name x px) iter s ds.length (itD ds) s) (hz : ds.length ≤ 100000)
    (he : ∀ d, d ∈ ds → ∀ sh Hh C cl fp D acc, Rg (D :: M) (RD R D acc) → Ev1 (Bk X scope sh Hh C cl fp) (D :: M) (RD R D acc) ((wipeR ρ (own.map (·.2))).set i (.dat d)) elt s (.dat (f d)) s)
    (hc : X.calm = true) (hN : X.N.Nodup) (ok : BlkOk X.N X.env.scope scope own) (hg : ∀ sh Hh C cl fp, PG (Bk X scope sh Hh C cl fp) (.Name x px) (gName i)) (hm : i ∈ own.map (·.2))
    (hfs : ∀ x, foldedSetIterable iter X.env x = pure x := by intro _; rfl) : Ev1 X M R ρ (.ListComp elt [⟨.Name x px, iter, [], 0⟩] scope pos) s (.dat (.list (ds.map f))) s := by
  have key := e_lc (own := own) (scope := scope) (elt := elt) (ifs := []) (ss := fun _ => s) (outs := fun i => (ds.take i).map f) (n := ds.length) (pos := pos) g hc hN ok hg hi rfl
    (fun i hi => by
      show ((ds.take i).map f).length < 100000
      rw [List.length_map, List.length_take]
      omega) (fun j hj => ?_) hfs
  · have e : (ds.take ds.length).map f = ds.map f := by rw [List.take_length]
    show Ev1 X M R ρ _ s (.dat (.list (ds.map f))) s
    rw [← e]
    exact key
  · have hd : ds[j]? = some ds[j] := List.getElem?_eq_getElem hj
    refine ⟨_, tg_name hm, fun D acc gD => ⟨true, s, ⟨rfl, rfl⟩, fun _ => ⟨f ds[j], ?_, fun sh Hh C cl fp => ?_⟩, fun h => by cases h⟩⟩
    · show (ds.take (j + 1)).map f = (ds.take j).map f ++ [f ds[j]]
      rw [take_succ' hd, List.map_append]
      rfl
    · rw [itD_lt hd]
      exact he _ (List.getElem_mem hj) sh Hh C cl fp D acc gD
/-- [elt for x in a sequence if c] -/
theorem lc_filter (g : Rg M R) {i : Nat} {x : Str} {c : Expr} {ds : List PyData} (p : PyData → Bool) (f : PyData → PyData) (hi : EvI1 X M R ρ (.Name x px) iter s ds.length (itD ds) s) (hz : ds.length ≤ 100000)
    (ht : ∀ d, d ∈ ds → ∀ sh Hh C cl fp D acc, Rg (D :: M) (RD R D acc) → EvT1 (Bk X scope sh Hh C cl fp) (D :: M) (RD R D acc) ((wipeR ρ (own.map (·.2))).set i (.dat d)) c s (p d) s)
    (he : ∀ d, d ∈ ds → p d = true → ∀ sh Hh C cl fp D acc, Rg (D :: M) (RD R D acc) → Ev1 (Bk X scope sh Hh C cl fp) (D :: M) (RD R D acc) ((wipeR ρ (own.map (·.2))).set i (.dat d)) elt s (.dat (f d)) s)
    (hc : X.calm = true) (hN : X.N.Nodup) (ok : BlkOk X.N X.env.scope scope own) (hg : ∀ sh Hh C cl fp, PG (Bk X scope sh Hh C cl fp) (.Name x px) (gName i)) (hm : i ∈ own.map (·.2))
    (hfs : ∀ x, foldedSetIterable iter X.env x = pure x := by intro _; rfl) : Ev1 X M R ρ (.ListComp elt [⟨.Name x px, iter, [c], 0⟩] scope pos) s (.dat (.list ((ds.filter p).map f))) s := by
  have key := e_lc (own := own) (scope := scope) (elt := elt) (ifs := [c]) (ss := fun _ => s) (outs := fun i => ((ds.take i).filter p).map f) (n := ds.length) (pos := pos) g hc hN ok hg hi rfl
    (fun i hi => by
      show (((ds.take i).filter p).map f).length < 100000
      rw [List.length_map]
      have := List.length_filter_le p (ds.take i)
      rw [List.length_take] at this
      omega) (fun j hj => ?_) hfs
  · have e : ((ds.take ds.length).filter p).map f = (ds.filter p).map f := by rw [List.take_length]
    show Ev1 X M R ρ _ s (.dat (.list ((ds.filter p).map f))) s
    rw [← e]
    exact key
  · have hd : ds[j]? = some ds[j] := List.getElem?_eq_getElem hj
    refine ⟨_, tg_name hm, fun D acc gD => ⟨p ds[j], s, fun sh Hh C cl fp => ?_, fun hp => ⟨f ds[j], ?_, fun sh Hh C cl fp => ?_⟩, fun hp => ⟨?_, rfl⟩⟩⟩
    · rw [itD_lt hd]
      exact ht _ (List.getElem_mem hj) sh Hh C cl fp D acc gD
    · show ((ds.take (j + 1)).filter p).map f = ((ds.take j).filter p).map f ++ [f ds[j]]
      rw [take_succ' hd, List.filter_append, List.filter_cons, if_pos hp, List.map_append]
      rfl
    · rw [itD_lt hd]
      exact he _ (List.getElem_mem hj) hp sh Hh C cl fp D acc gD
    · show ((ds.take (j + 1)).filter p).map f = ((ds.take j).filter p).map f
      rw [take_succ' hd, List.filter_append, List.filter_cons, if_neg (by rw [hp]; exact Bool.false_ne_true), List.filter_nil, List.append_nil]
/-- [elt for a, b in zip(t, u)] -/
theorem lc_zip (g : Rg M R) {i i2 : Nat} {x x2 : Str} {px2 tpos : Pos} {kk : Nat} {xs ys : List PyData} (f : PyData → PyData → PyData) (hi : EvI1 X M R ρ (.Tuple [.Name x px, .Name x2 px2] kk tpos) iter s xs.length (itZ xs ys) s) (hl : xs.length = ys.length) (hz : xs.length ≤ 100000)
    (he : ∀ d e, d ∈ xs → e ∈ ys → ∀ sh Hh C cl fp D acc, Rg (D :: M) (RD R D acc) → Ev1 (Bk X scope sh Hh C cl fp) (D :: M) (RD R D acc) (((wipeR ρ (own.map (·.2))).set i (.dat d)).set i2 (.dat e)) elt s (.dat (f d e)) s)
    (hc : X.calm = true) (hN : X.N.Nodup) (ok : BlkOk X.N X.env.scope scope own)
    (hg : ∀ sh Hh C cl fp, PG (Bk X scope sh Hh C cl fp) (.Tuple [.Name x px, .Name x2 px2] kk tpos) (gTup X.K 2 (gCons (gName i) (gCons (gName i2) gNil)))) (hm : i ∈ own.map (·.2)) (hm2 : i2 ∈ own.map (·.2))
    (hfs : ∀ x, foldedSetIterable iter X.env x = pure x := by intro _; rfl) : Ev1 X M R ρ (.ListComp elt [⟨.Tuple [.Name x px, .Name x2 px2] kk tpos, iter, [], 0⟩] scope pos) s (.dat (.list (List.zipWith f xs ys))) s := by
  have key := e_lc (own := own) (scope := scope) (elt := elt) (ifs := []) (ss := fun _ => s) (outs := fun i => (List.zipWith f xs ys).take i) (n := xs.length) (pos := pos) g hc hN ok hg hi rfl
    (fun i hi => by
      show ((List.zipWith f xs ys).take i).length < 100000
      rw [List.length_take]
      omega) (fun j hj => ?_) hfs
  · have e : (List.zipWith f xs ys).take xs.length = List.zipWith f xs ys := List.take_of_length_le (by rw [List.length_zipWith]; omega)
    show Ev1 X M R ρ _ s (.dat (.list (List.zipWith f xs ys))) s
    rw [← e]
    exact key
  · have hj2 : j < ys.length := by omega
    have hd : xs[j]? = some xs[j] := List.getElem?_eq_getElem hj
    have hd2 : ys[j]? = some ys[j] := List.getElem?_eq_getElem hj2
    have hw : (List.zipWith f xs ys)[j]? = some (f xs[j] ys[j]) := by
      rw [List.getElem?_zipWith, hd, hd2]
    rw [itZ_lt hd hd2]
    refine ⟨_, tg_pair hm hm2, fun D acc gD => ⟨true, s, ⟨rfl, rfl⟩, fun _ => ⟨f xs[j] ys[j], ?_, fun sh Hh C cl fp => ?_⟩, fun h => by cases h⟩⟩
    · show (List.zipWith f xs ys).take (j + 1) = (List.zipWith f xs ys).take j ++ [f xs[j] ys[j]]
      rw [take_succ' hw]
    · exact he _ _ (List.getElem_mem hj) (List.getElem_mem hj2) sh Hh C cl fp D acc gD
/-- [elt for k in range(n)] -/
theorem lc_rng (g : Rg M R) {i : Nat} {x : Str} {n : Nat} {ss : Nat → S} (f : Nat → PyData) (hi : EvI1 X M R ρ (.Name x px) iter s n (fun i => .dat (.int i)) (ss 0)) (hz : n ≤ 100000)
    (he : ∀ j, j < n → ∀ sh Hh C cl fp D acc, Rg (D :: M) (RD R D acc) → Ev1 (Bk X scope sh Hh C cl fp) (D :: M) (RD R D acc) ((wipeR ρ (own.map (·.2))).set i (.dat (.int j))) elt (ss j) (.dat (f j)) (ss (j + 1)))
    (hc : X.calm = true) (hN : X.N.Nodup) (ok : BlkOk X.N X.env.scope scope own) (hg : ∀ sh Hh C cl fp, PG (Bk X scope sh Hh C cl fp) (.Name x px) (gName i)) (hm : i ∈ own.map (·.2))
    (hfs : ∀ x, foldedSetIterable iter X.env x = pure x := by intro _; rfl) : Ev1 X M R ρ (.ListComp elt [⟨.Name x px, iter, [], 0⟩] scope pos) s (.dat (.list ((List.range n).map f))) (ss n) := by
  refine e_lc (own := own) (scope := scope) (elt := elt) (ifs := []) (ss := ss) (outs := fun i => (List.range i).map f) (n := n) (pos := pos) g hc hN ok hg hi rfl
    (fun i hi => by
      show ((List.range i).map f).length < 100000
      rw [List.length_map, List.length_range]
      omega) (fun j hj => ?_) hfs
  refine ⟨_, tg_name hm, fun D acc gD => ⟨true, ss j, ⟨rfl, rfl⟩, fun _ => ⟨f j, ?_, fun sh Hh C cl fp => ?_⟩, fun h => by cases h⟩⟩
  · show (List.range (j + 1)).map f = (List.range j).map f ++ [f j]
    rw [List.range_succ, List.map_append]
    rfl
  · exact he j hj sh Hh C cl fp D acc gD
/-- [elt for k in range(n) if c] -/
theorem lc_rngF (g : Rg M R) {i : Nat} {x : Str} {c : Expr} {n : Nat} (p : Nat → Bool) (f : Nat → PyData) (hi : EvI1 X M R ρ (.Name x px) iter s n (fun i => .dat (.int i)) s) (hz : n ≤ 100000)
    (ht : ∀ j, j < n → ∀ sh Hh C cl fp D acc, Rg (D :: M) (RD R D acc) → EvT1 (Bk X scope sh Hh C cl fp) (D :: M) (RD R D acc) ((wipeR ρ (own.map (·.2))).set i (.dat (.int j))) c s (p j) s)
    (he : ∀ j, j < n → p j = true → ∀ sh Hh C cl fp D acc, Rg (D :: M) (RD R D acc) → Ev1 (Bk X scope sh Hh C cl fp) (D :: M) (RD R D acc) ((wipeR ρ (own.map (·.2))).set i (.dat (.int j))) elt s (.dat (f j)) s)
    (hc : X.calm = true) (hN : X.N.Nodup) (ok : BlkOk X.N X.env.scope scope own) (hg : ∀ sh Hh C cl fp, PG (Bk X scope sh Hh C cl fp) (.Name x px) (gName i)) (hm : i ∈ own.map (·.2))
    (hfs : ∀ x, foldedSetIterable iter X.env x = pure x := by intro _; rfl) : Ev1 X M R ρ (.ListComp elt [⟨.Name x px, iter, [c], 0⟩] scope pos) s (.dat (.list (((List.range n).filter p).map f))) s := by
  refine e_lc (own := own) (scope := scope) (elt := elt) (ifs := [c]) (ss := fun _ => s) (outs := fun i => ((List.range i).filter p).map f) (n := n) (pos := pos) g hc hN ok hg hi rfl
    (fun i hi => by
      show (((List.range i).filter p).map f).length < 100000
      rw [List.length_map]
      have := List.length_filter_le p (List.range i)
      rw [List.length_range] at this
      omega) (fun j hj => ?_) hfs
  refine ⟨_, tg_name hm, fun D acc gD => ⟨p j, s, fun sh Hh C cl fp => ht j hj sh Hh C cl fp D acc gD, fun hp => ⟨f j, ?_, fun sh Hh C cl fp => he j hj hp sh Hh C cl fp D acc gD⟩, fun hp => ⟨?_, rfl⟩⟩⟩
  · show ((List.range (j + 1)).filter p).map f = ((List.range j).filter p).map f ++ [f j]
    rw [List.range_succ, List.filter_append, List.filter_cons, if_pos hp, List.map_append]
    rfl
  · show ((List.range (j + 1)).filter p).map f = ((List.range j).filter p).map f
    rw [List.range_succ, List.filter_append, List.filter_cons, if_neg (by rw [hp]; exact Bool.false_ne_true), List.filter_nil, List.append_nil]
end
end DV
namespace DV
open PySem PySem.Spec L2 Evl
open PyProof.Rows hiding St
section
variable {S : Type} {X : Cx} {M : List Addr} {R : S → Hp → Prop} {ρ : List Sl} {s s1 s2 : S} {e e1 e2 : Expr} {es : List Expr} {pos : Pos}
theorem str_app_len (a b : Str) : (a ++ b).length = a.length + b.length := by
  show (a.cps ++ b.cps).size = a.cps.size + b.cps.size
  exact Array.size_append
/-- the parts of an f-string: their texts -/
def EvJ1 {S : Type} (X : Cx) (M : List Addr) (R : S → Hp → Prop) (ρ : List Sl) : List Expr → List Str → S → Prop
  | [], ys, _ => ys = []
  | e :: es, ys, s => ∃ y r, ys = y :: r ∧ Ev1 X M R ρ e s (.dat (.str y)) s ∧ EvJ1 X M R ρ es r s
theorem j_nil : EvJ1 X M R ρ [] [] s := rfl
theorem j_cons {y : Str} {ys : List Str} (h : Ev1 X M R ρ e s (.dat (.str y)) s) (r : EvJ1 X M R ρ es ys s) : EvJ1 X M R ρ (e :: es) (y :: ys) s := ⟨y, ys, rfl, h, r⟩
def glue : List Str → Str → Str
  | [], acc => acc
  | y :: ys, acc => glue ys (acc ++ y)
def lens : List Str → Nat
  | [] => 0
  | y :: ys => y.length + lens ys
theorem pj_w : ∀ es : List Expr, PJ X es (es.map (wE X))
  | [] => .nil
  | _ :: es => .cons pe_w (pj_w es)
theorem tjs_of : ∀ {es : List Expr} {ys : List Str} (h : EvJ1 X M R ρ es ys s) (acc : Str) (σ : St) (H : Hp) (Q : Str → Hp → Prop), acc.length + lens ys ≤ 100000 → Slots X.K (cut M H) σ ρ → R s H → (∀ H2, Ex (cut M H) (cut M H2) → R s H2 → Q (glue ys acc) H2) → tJs (es.map (wE X)) acc σ H Q
  | [], ys, h, acc, σ, H, Q, hz, hσ, hR, q => by
    have h : ys = [] := h
    subst h
    exact q H (exId _) hR
  | e :: es, ys, h, acc, σ, H, Q, hz, hσ, hR, q => by
    obtain ⟨y, r, rfl, he, hr⟩ := h
    refine he σ H _ hσ hR fun v H1 e1 R1 d1 => ⟨y, sv_str d1, ?_, ?_⟩
    · rw [str_app_len]
      have : lens (y :: r) = y.length + lens r := rfl
      exact upd_sz (by omega)
    · refine tjs_of hr (acc ++ y) σ H1 Q ?_ (hσ.ex e1) R1 fun H2 e2 R2 => q H2 (e1.trans e2) R2
      rw [str_app_len]
      have : lens (y :: r) = y.length + lens r := rfl
      omega
theorem e_fstr {ys : List Str} (h : EvJ1 X M R ρ (e1 :: e2 :: es) ys s) (hz : lens ys ≤ 100000) : Ev1 X M R ρ (.JoinedStr (e1 :: e2 :: es) pos) s (.dat (.str (glue ys Str.empty))) s := by
  intro σ H Q hσ hR q
  refine wE_of (pe_joined (pj_w (e1 :: e2 :: es))) ?_
  exact tjs_of h Str.empty σ H _ (by rw [show Str.empty.length = 0 from rfl, Nat.zero_add]; exact hz) hσ hR fun H2 e2 R2 => q _ H2 e2 R2 (.str _)
theorem e_fmtI {i : Int} (hi : i.natAbs.log2 < 1920) (h : Ev1 X M R ρ e s (.dat (.int i)) s1) : Ev1 X M R ρ (.FormattedValue e (-1) none pos) s (.dat (.str (toString i))) s1 := by
  intro σ H Q hσ hR q
  refine wE_of (pe_fmt pe_w) ?_
  exact h σ H _ hσ hR fun v H1 e1 R1 d1 => .inr ⟨i, sv_int d1, hi, q _ H1 e1 R1 (.str _)⟩
theorem fmt_len {i : Int} (hi : i.natAbs.log2 < 1920) : (Str.ofString (toString i)).length ≤ 10000 := by
  have e := int_text_length_le (k := 1920) (by decide) hi
  rw [PySem.ofString_length]
  omega
theorem log_small {i : Int} (h0 : 0 ≤ i) (h1 : i < 1000000) : i.natAbs.log2 < 1920 := by
  have : i.natAbs < 2 ^ 20 := by omega
  have h2 : i.natAbs.log2 < 20 := by
    by_cases z : i.natAbs = 0
    · rw [z]; decide
    · exact (Nat.log2_lt z).mpr this
  omega
end
end DV
namespace DV
open PySem PySem.Spec L2 Evl
open PyProof.Rows hiding St
/-! ### lists of ints as data -/
abbrev dI (xs : List Int) : List PyData := xs.map PyData.int
theorem lay_ints : ∀ xs : List Int, PyData.canLayAll0 (dI xs) = true
  | [] => rfl
  | _ :: xs => by
    show (true && PyData.canLayAll0 (dI xs)) = true
    rw [lay_ints xs]
    rfl
theorem depth_ints : ∀ xs : List Int, PyData.depthAll (dI xs) = 0
  | [] => rfl
  | _ :: xs => by
    show max 0 (PyData.depthAll (dI xs)) = 0
    rw [depth_ints xs]
    rfl
theorem shaped_tI (xs : List Int) : SeqAt.shaped (.tuple (dI xs)) = true := by
  show (PyData.canLayAll0 (dI xs) && decide (PyData.depthAll (dI xs) + 1 ≤ 64)) = true
  rw [lay_ints, depth_ints]
  rfl
theorem shaped_lI (xs : List Int) : SeqAt.shaped (.list (dI xs)) = true := by
  show (PyData.canLayAll0 (dI xs) && decide (PyData.depthAll (dI xs) + 1 ≤ 64)) = true
  rw [lay_ints, depth_ints]
  rfl
theorem eqv_all_ints : ∀ xs ys : List Int, PyData.eqvAll (dI xs) (dI ys) = decide (xs = ys)
  | [], [] => rfl
  | [], _ :: _ => by
    show false = _
    rw [decide_eq_false (by simp)]
  | _ :: _, [] => by
    show false = _
    rw [decide_eq_false (by simp)]
  | x :: xs, y :: ys => by
    show ((x == y) && PyData.eqvAll (dI xs) (dI ys)) = _
    rw [eqv_all_ints xs ys, Bool.eq_iff_iff]
    simp
theorem eqv_tI (xs ys : List Int) : PyData.eqv (.tuple (dI xs)) (.tuple (dI ys)) = decide (xs = ys) := eqv_all_ints xs ys
theorem eqv_lI (xs ys : List Int) : PyData.eqv (.list (dI xs)) (.list (dI ys)) = decide (xs = ys) := eqv_all_ints xs ys
theorem zip_dI (f : Int → Int → Int) (g : PyData → PyData → PyData) (h : ∀ i j, g (.int i) (.int j) = .int (f i j)) : ∀ xs ys : List Int, List.zipWith g (dI xs) (dI ys) = dI (List.zipWith f xs ys)
  | [], _ => rfl
  | _ :: _, [] => rfl
  | x :: xs, y :: ys => by
    show g (.int x) (.int y) :: List.zipWith g (dI xs) (dI ys) = .int (f x y) :: dI (List.zipWith f xs ys)
    rw [h, zip_dI f g h xs ys]
theorem zip_dB (f : Int → Int → Bool) (g : PyData → PyData → PyData) (h : ∀ i j, g (.int i) (.int j) = .bool (f i j)) : ∀ xs ys : List Int, List.zipWith g (dI xs) (dI ys) = (List.zipWith f xs ys).map .bool
  | [], _ => rfl
  | _ :: _, [] => rfl
  | x :: xs, y :: ys => by
    show g (.int x) (.int y) :: List.zipWith g (dI xs) (dI ys) = .bool (f x y) :: (List.zipWith f xs ys).map .bool
    rw [h, zip_dB f g h xs ys]
theorem mem_dI {xs : List Int} {d : PyData} (h : d ∈ dI xs) : ∃ i, d = .int i ∧ i ∈ xs := by
  obtain ⟨i, hi, rfl⟩ := List.mem_map.mp h
  exact ⟨i, rfl, hi⟩
end DV
namespace DV
open PySem PySem.Spec L2 Evl
open PyProof.Rows hiding St
section
variable {S : Type} {X : Cx} {M : List Addr} {R : S → Hp → Prop} {ρ : List Sl} {s s1 s2 : S} {a b e : Expr} {rest : List Stmt} {pos : Pos} {D : Ends} {σ : St} {H : Hp}
/-! more of ints -/
theorem e_neg {i : Int} (h : Ev1 X M R ρ a s (.dat (.int i)) s1) : Ev1 X M R ρ (.UnaryOp .USub a pos) s (.dat (.int (-i))) s1 := fun σ H Q hσ hR q => wE_of (pe_un un_neg pe_w) (h σ H _ hσ hR fun v H1 e1 R1 d1 => ⟨i, sv_int d1, q _ H1 e1 R1 (.int _)⟩)
theorem e_mulR {i j : Int} (h1 : -(2 ^ 64) < j) (h2 : j < 2 ^ 64) (ha : Ev1 X M R ρ a s (.dat (.int i)) s1) (hb : Ev1 X M R ρ b s1 (.dat (.int j)) s2) : Ev1 X M R ρ (.BinOp a .Mult b pos) s (.dat (.int (i * j))) s2 := e_opI op_mul (.inr ⟨h1, h2⟩) ha hb
theorem e_mulL {i j : Int} (h1 : -(2 ^ 64) < i) (h2 : i < 2 ^ 64) (ha : Ev1 X M R ρ a s (.dat (.int i)) s1) (hb : Ev1 X M R ρ b s1 (.dat (.int j)) s2) : Ev1 X M R ρ (.BinOp a .Mult b pos) s (.dat (.int (i * j))) s2 := e_opI op_mul (.inl ⟨h1, h2⟩) ha hb
theorem e_mulX {i j : Int} (h : CMulX i j) (ha : Ev1 X M R ρ a s (.dat (.int i)) s1) (hb : Ev1 X M R ρ b s1 (.dat (.int j)) s2) : Ev1 X M R ρ (.BinOp a .Mult b pos) s (.dat (.int (i * j))) s2 := e_opI op_mulX h ha hb
theorem e_fdivW {i j : Int} (h : CDivW i j) (ha : Ev1 X M R ρ a s (.dat (.int i)) s1) (hb : Ev1 X M R ρ b s1 (.dat (.int j)) s2) : Ev1 X M R ρ (.BinOp a .FloorDiv b pos) s (.dat (.int (i / j))) s2 := e_opI op_fdivW h ha hb
/-! == of numbers, texts, truth values -/
theorem e_pow {i j : Int} (h : CPow i j) (ha : Ev1 X M R ρ a s (.dat (.int i)) s1) (hb : Ev1 X M R ρ b s1 (.dat (.int j)) s2) : Ev1 X M R ρ (.BinOp a .Pow b pos) s (.dat (.int (i ^ j.toNat))) s2 := e_opI op_pow h ha hb
/-! ### by hand: the heap told -/
theorem slots0 (h : Slots X.K H σ ρ) : Slots X.K (cut [] H) σ ρ := by rw [cut_nil]; exact h
theorem ev0 {r : Sl} {Q : VK} (h : Ev1 X [] (fun (_ : Unit) H' => Ex H H') ρ e () r ()) (hσ : Slots X.K H σ ρ) (q : ∀ v H2, Ex H H2 → Sv X.K H2 r v → Q v H2) : wE X e σ H Q :=
  h σ H Q (slots0 hσ) (exId _) fun v H2 _ R2 d2 => q v H2 R2 (by rw [cut_nil] at d2; exact d2)
theorem et0 {k : Bool} {Q : Bool → Hp → Prop} (h : EvT1 X [] (fun (_ : Unit) H' => Ex H H') ρ e () k ()) (hσ : Slots X.K H σ ρ) (q : ∀ H2, Ex H H2 → Q k H2) : wT X e σ H Q :=
  h σ H Q (slots0 hσ) (exId _) fun H2 _ R2 => q H2 R2
theorem rg0 : Rg ([] : List Addr) (fun (_ : Unit) H' => Ex H H') := rg_pure fun a m => by cases m
theorem b_if {c : Expr} {x y : List Stmt} (h : wT X c σ H fun k H1 => if k = true then wB X x { D with nx := wB X rest D } σ H1 else wB X y { D with nx := wB X rest D } σ H1) : wB X (.If c x y pos :: rest) D σ H := wB_cons (wS_of (ps_if pt_w pss_w pss_w) h)
theorem b_nil (h : D.nx σ H) : wB X [] D σ H := wB_of pss_nil h
theorem b_ret (h : wE X e σ H D.rt) : wB X (.Return (some e) pos :: rest) D σ H := wB_cons (wS_of (ps_ret pe_w) h)
theorem b_set (i : Nat) {x : Str} {px : Pos} (h : wE X e σ H fun v H1 => wB X rest D (σ.set i (some v)) H1) (hN : X.N.Nodup) (hi : X.N[i]? = some x) (hx : Loc X.env.scope x) (hs : swapsWith e (some (.Name x px)) pos.line X.env = pure false := by rfl)
    (hf : X.fn x = true ∨ X.env.scope.names.lookup x = some .local := by first | exact .inl rfl | exact .inr rfl) : wB X (.Assign [.Name x px] e pos :: rest) D σ H := wB_cons (wS_of (ps_set (i := i) hN hi hx pe_w hs hf) h)
theorem b_expr (h : wE X e σ H fun _ H1 => wB X rest D σ H1) (hs : swapsWith e none pos.line X.env = pure false := by rfl) : wB X (.Expr e pos :: rest) D σ H := wB_cons (wS_of (ps_expr pe_w hs) h)
/-- o[i] = e, o a list -/
theorem b_put {o i : Expr} {ps : Pos} (h : wE X e σ H fun x H1 => wE X o σ H1 fun ov H2 => wE X i σ H2 fun iv H3 => rSetL ov iv x H3 fun H4 => wB X rest D σ H4)
    (hs : swapsWithSole [.Subscript o i ps] e pos.line X.env = pure false := by rfl) (hw : swappedStores [.Subscript o i ps] e X.env = pure none := by rfl) (h1 : (assignEach [.Subscript o i ps] X.env).map (·.2) = [assign (.Subscript o i ps) X.env] := by rfl)
    (ha : ∀ v, assign (.Subscript o i ps) X.env v = (do
      let ov ← holding [v] (eval o X.env)
      let iv ← holding [v, ov] (eval i X.env)
      standAt ps
      holding [v, ov, iv] (setItem ov iv v)
      release [v, ov, iv] []) := by intro _; rfl) : wB X (.Assign [.Subscript o i ps] e pos :: rest) D σ H :=
  wB_cons (wS_of (ps_asg pe_w (pg_sub pe_w pe_w set_list ha) hs hw h1) h)
end
/-! ### the box of draws -/
abbrev Bx := List Int × Int
def BoxAt (b l : Addr) (st : Bx) (H : Hp) : Prop := H b = some (.lst [.ref l, .int st.2]) ∧ H l = some (.lst (st.1.map V.int))
theorem BoxAt.ne {b l : Addr} {st : Bx} {H : Hp} (h : BoxAt b l st H) : b ≠ l := fun e => by
  obtain ⟨h1, h2⟩ := h
  rw [e, h2] at h1
  have : st.1.map V.int = [.ref l, .int st.2] := HO.lst.inj (Option.some.inj h1)
  cases q : st.1 with
  | nil => rw [q] at this; cases this
  | cons x r => rw [q] at this; cases this
def boxD (st : Bx) : PyData := .list [.list (dI st.1), .int st.2]
theorem BoxAt.dv {K : PySem.W.Frag} {b l : Addr} {st : Bx} {H : Hp} (h : BoxAt b l st H) : Dv K H (.ref b) (boxD st) := .lst h.1 (.cons (.lst h.2 (dpa_of_ints _)) (.cons (.int _) .nil))
theorem BoxAt.ex {b l : Addr} {st : Bx} {H H' : Hp} (h : BoxAt b l st H) (e : Ex H H') : BoxAt b l st H' := ⟨e _ _ h.1, e _ _ h.2⟩
def takeS : Bx → Int → Bx
  | ([], t), _ => ([], t * 48271 % 2147483647)
  | (x :: xs, t), n => if x / n = 0 ∨ x / n = -1 then (xs, t) else (x / n :: xs, t)
def takeV : Bx → Int → Int
  | ([], t), n => t * 48271 % 2147483647 / 7 % n
  | (x :: _, _), n => x % n
def spTake : Sp := fun vs H Q _ => ∃ (b l : Addr) (st : Bx) (n : Int), vs = [.ref b, .int n] ∧ 0 < n ∧ n.natAbs.log2 < 9000 ∧ BoxAt b l st H ∧ ∀ H', Ex (cut [b, l] H) (cut [b, l] H') → BoxAt b l (takeS st n) H' → Q (.int (takeV st n)) H'
theorem takeV_nonneg {st : Bx} {n : Int} (h : 0 < n) : 0 ≤ takeV st n := by
  obtain ⟨xs, t⟩ := st
  cases xs with
  | nil => exact Int.emod_nonneg _ (by omega)
  | cons x r => exact Int.emod_nonneg _ (by omega)
theorem takeV_lt {st : Bx} {n : Int} (h : 0 < n) : takeV st n < n := by
  obtain ⟨xs, t⟩ := st
  cases xs with
  | nil => exact Int.emod_lt_of_pos _ h
  | cons x r => exact Int.emod_lt_of_pos _ h
/-- the state holds a box -/
structure BoxIn {S : Type} (M : List Addr) (R : S → Hp → Prop) (b l : Addr) (get : S → Bx) (put : S → Bx → S) : Prop where
  mb : b ∈ M
  ml : l ∈ M
  at_ : ∀ {s : S} {H : Hp}, R s H → BoxAt b l (get s) H
  to : ∀ {s : S} {H H' : Hp} {st : Bx}, R s H → Ex (cut [b, l] H) (cut [b, l] H') → BoxAt b l st H' → R (put s st) H'
theorem BoxIn.rd {S : Type} {M : List Addr} {R : S → Hp → Prop} {b l : Addr} {get : S → Bx} {put : S → Bx → S} (h : BoxIn M R b l get put) (D : Addr) (acc : List V) : BoxIn (D :: M) (RD R D acc) b l get put := by
  refine ⟨List.mem_cons_of_mem _ h.mb, List.mem_cons_of_mem _ h.ml, fun ⟨q, _⟩ => (h.at_ q).ex ex_rem, fun {s H H' st} ⟨q, d⟩ e bx => ?_⟩
  have b0 := h.at_ q
  have nb : b ≠ D := (rem_some b0.1).1
  have nl : l ≠ D := (rem_some b0.2).1
  refine ⟨h.to q (fun a o ha => ?_) ⟨by rw [rem_ne nb]; exact bx.1, by rw [rem_ne nl]; exact bx.2⟩, ?_⟩
  · obtain ⟨n, ha⟩ := cut_some ha
    obtain ⟨nD, ha⟩ := rem_some ha
    have := e a o (by rw [cut_out n]; exact ha)
    rw [cut_out n] at this ⊢
    rw [rem_ne nD]
    exact this
  · have nD : D ∉ [b, l] := fun m => by
      rcases List.mem_cons.mp m with z | m
      · exact nb z.symm
      · rcases List.mem_cons.mp m with z | m
        · exact nl z.symm
        · cases m
    have := e D _ (by rw [cut_out nD]; exact d)
    rw [cut_out nD] at this
    exact this
theorem BoxIn.rx {S : Type} {M : List Addr} {R : S → Hp → Prop} {b l : Addr} {get : S → Bx} {put : S → Bx → S} (h : BoxIn M R b l get put) (H1 : Hp) : BoxIn M (RX R M H1) b l get put := by
  refine ⟨h.mb, h.ml, fun ⟨q, _⟩ => h.at_ q, fun {s H H' st} ⟨q, x⟩ e bx => ⟨h.to q e bx, fun a o ha => ?_⟩⟩
  have z := x a o ha
  have nM := (cut_some ha).1
  have n2 : a ∉ [b, l] := fun m => by
    rcases List.mem_cons.mp m with z | m
    · exact nM (by rw [z]; exact h.mb)
    · rcases List.mem_cons.mp m with z | m
      · exact nM (by rw [z]; exact h.ml)
      · cases m
  rw [cut_out nM] at z ⊢
  have := e a o (by rw [cut_out n2]; exact z)
  rw [cut_out n2] at this
  exact this
section
variable {S : Type} {X : Cx} {M : List Addr} {R : S → Hp → Prop} {ρ : List Sl} {s s1 s2 : S} {e e' : Expr} {px pos : Pos} {b l : Addr} {get : S → Bx} {put : S → Bx → S} {j k : Nat}
/-- _law_take(box, n) -/
theorem e_take {x : Str} {n : Int} (B : BoxIn M R b l get put) (c : Cal X.prog X.w X.K X.mg X.base x k spTake) (hr : Room j X.A) (hk : k ≤ j) (hg : Gl X x) (hn : 0 < n) (hn2 : n.natAbs.log2 < 9000) (ha : EvA1 X M R ρ [e, e'] s [.raw (.ref b), .dat (.int n)] s1) (hdb : (x == ("__debug__" : Str)) = false := by decide)
    (he : starEach [e, e'] X.env = (false, eval e X.env) :: starEach [e'] X.env := by rfl) (hpl : (backTo pos (starEach [e'] X.env)).any (·.1) = false := by rfl) :
    Ev1 X M R ρ (.Call (.Name x px) [e, e'] [] pos) s (.dat (.int (takeV (get s1) n))) (put s1 (takeS (get s1) n)) := by
  intro σ H Q hσ hR q
  refine w_call c hr hk hg passL ha hσ hR (fun vs H1 e1 d1 R1 => ?_) hdb he hpl
  obtain ⟨v, w, rfl, d1, d2⟩ := svall2 d1
  have d1 : v = .ref b := d1
  subst d1
  refine ⟨b, l, get s1, n, by rw [sv_int d2], hn, hn2, B.at_ R1, fun H' e2 bx => ?_⟩
  refine q _ H' (e1.trans fun a o ha => ?_) (B.to R1 e2 bx) (.int _)
  have nM := (cut_some ha).1
  have n2 : a ∉ [b, l] := fun m => by
    rcases List.mem_cons.mp m with z | m
    · exact nM (by rw [z]; exact B.mb)
    · rcases List.mem_cons.mp m with z | m
      · exact nM (by rw [z]; exact B.ml)
      · cases m
  rw [cut_out nM] at ha ⊢
  have := e2 a o (by rw [cut_out n2]; exact ha)
  rw [cut_out n2] at this
  exact this
end
section
variable {P : Program} {w : World} {K : PySem.W.Frag} {mg : Str → Option Value} {base : Heap}
/-- a def by any promise, its body's reading -/
theorem Def.calW {x : Str} {st : Stmt} {ps N : List Str} {k : Nat} {sp : Sp} (d : Def K mg x st ps) (S : FnScope N ps (defScope st)) (len : ∀ vs H Q E, sp vs H Q E → vs.length = ps.length)
    (hb : ∀ (f : Addr) (cdv : Value) (A : Around) (outer : List Env) (sh : Shared) (H : Hp) (vs : List V) (Q : VK) (E : XK), Room k (A.deeper (envOfC x (defScope st) sh.heap.objs.size f cdv)) → sp vs H Q E →
      wB (dx P w K mg base N x st f cdv A outer sh H E) (defBody st) { nx := fun _ H' => Q .non H', rt := Q } (L2.start N vs) H) : Cal P w K mg base x (k + 1) sp := by
  obtain ⟨f, fd, F, hm, b⟩ := d.ex
  refine ⟨f, fd, ps, ?_, hm, F.kp, b⟩
  exact F.okX S len fun cdv A outer s H vs Q E hr h => ⟨_, pss_w, hb f cdv A outer s H vs Q E hr h⟩
end
end DV
namespace DV
open PySem PySem.Spec L2 Evl
open PyProof.Rows hiding St
section
variable {S : Type} {X : Cx} {M : List Addr} {R : S → Hp → Prop} {ρ : List Sl} {s s1 s2 : S} {a b e e' tg : Expr} {es : List Expr} {rest : List Stmt} {px pos : Pos} {D : Ends} {σ : St} {H : Hp}
/-! a list that is only read, told by the state -/
theorem i_raw {p : Addr} {ns : List Int} (hS : ∀ H', R s1 H' → SqL X.K H' p (ns.map V.int)) (h : Ev1 X M R ρ e s (.raw (.ref p)) s1) (keep : ∀ H1 H2, R s1 H1 → Ex (cut M H1) (cut M H2) → SqL X.K H2 p (ns.map V.int)) :
    EvI1 X M R ρ tg e s ns.length (itD (dI ns)) s1 := by
  refine ⟨_, pi_list pe_w, fun σ H k hσ hR q => ?_⟩
  refine h σ H _ hσ hR fun v H1 e1 R1 d1 => ?_
  have d1 : v = .ref p := d1
  subst d1
  refine ⟨p, rfl, ⟨_, hS H1 R1⟩, q _ H1 e1 R1 ⟨fun H => SqL X.K H p (ns.map V.int), fun H2 e2 => keep H1 H2 R1 e2, ?_⟩⟩
  have l : (ns.map V.int).length = ns.length := List.length_map _
  rw [← l]
  refine walk_list.mono (fun _ h => h) fun i H2 x H' _ _ ⟨e, hx⟩ M' em dm e2 => ?_
  subst e
  exact ⟨exId _, sv_itD (dpa_of_ints ns) hx⟩
theorem e_lenR {p : Addr} {ns : List Int} (hS : ∀ H', R s1 H' → SqL X.K H' p (ns.map V.int)) (hg : Gl X "len") (hm : X.mg "len" = none) (ha : EvA1 X M R ρ [e] s [.raw (.ref p)] s1) (he : starEach [e] X.env = (false, eval e X.env) :: starEach [] X.env := by rfl)
    (hpl : (backTo pos (starEach [] X.env)).any (·.1) = false := by rfl) : Ev1 X M R ρ (.Call (.Name "len" px) [e] [] pos) s (.dat (.int ns.length)) s1 :=
  e_callB call_len_seq hg hm PySem.boot_len ha (fun vs H Q h hR q => by
    obtain ⟨v, rfl, h1⟩ := svall1 h
    have h1 : v = .ref p := h1
    subst h1
    refine ⟨p, _, rfl, .inl (hS H hR), ?_⟩
    rw [List.length_map]
    exact q _ H (exId _) hR (.int _)) (by decide) (by decide) he hpl
theorem e_listR (g : Rg M R) {p : Addr} {ns : List Int} (hS : ∀ H', R s1 H' → SqL X.K H' p (ns.map V.int)) (hg : Gl X "list") (hm : X.mg "list" = none) (ha : EvA1 X M R ρ [e] s [.raw (.ref p)] s1) (he : starEach [e] X.env = (false, eval e X.env) :: starEach [] X.env := by rfl)
    (hpl : (backTo pos (starEach [] X.env)).any (·.1) = false := by rfl) : Ev1 X M R ρ (.Call (.Name "list" px) [e] [] pos) s (.dat (.list (dI ns))) s1 :=
  e_callTy call_list_of hg hm boot_list ha (fun vs H Q h hR q => by
    obtain ⟨v, rfl, h1⟩ := svall1 h
    have h1 : v = .ref p := h1
    subst h1
    exact ⟨p, _, rfl, .inl (hS H hR), fun l n => new_lst g hR n (dpa_of_ints ns) q⟩) (by decide) (by decide) he hpl
theorem e_lenTI {xs : List Int} (hg : Gl X "len") (hm : X.mg "len" = none) (ha : EvA1 X M R ρ [e] s [.dat (.tuple (dI xs))] s1) (he : starEach [e] X.env = (false, eval e X.env) :: starEach [] X.env := by rfl)
    (hpl : (backTo pos (starEach [] X.env)).any (·.1) = false := by rfl) : Ev1 X M R ρ (.Call (.Name "len" px) [e] [] pos) s (.dat (.int xs.length)) s1 := by
  have h := e_lenT (px := px) (pos := pos) hg hm ha he hpl
  rw [List.length_map] at h
  exact h
theorem i_rngN {n : Nat} (hg : Gl X "range") (hm : X.mg "range" = none) (hn : n ≤ 1000000) (h : EvA1 X M R ρ [e] s [.dat (.int (n : Int))] s1) (hs : starEach [e] X.env = [(false, eval e X.env)] := by rfl) :
    EvI1 X M R ρ tg (.Call (.Name "range" px) [e] [] pos) s n (fun i => .dat (.int i)) s1 := by
  have k := i_rng (tg := tg) (px := px) (pos := pos) hg hm (by omega) (by omega) h hs
  rw [Int.toNat_natCast] at k
  exact k
/-! is None -/
def isN : PyData → Bool
  | .none => true
  | _ => false
theorem dv_non {K : PySem.W.Frag} {H : Hp} {d : PyData} {v : V} (h : Dv K H v d) : decide (v = .non) = isN d := by
  cases h <;> first | rfl | exact decide_eq_false (by intro z; cases z)
theorem e_isN {d : PyData} {j pos'} (h : Ev1 X M R ρ a s (.dat d) s1) : Ev1 X M R ρ (.Compare a [.Is] [.Constant .none j pos'] pos) s (.dat (.bool (isN d))) s1 := fun σ H Q hσ hR q =>
  wE_of (pe_cmp (pc_isN pe_w) rfl) (h σ H _ hσ hR fun v H1 e1 R1 d1 => by
    rw [dv_non (show Dv X.K (cut M H1) v d from d1)]
    exact q _ H1 e1 R1 (.bl _))
theorem t_isN {d : PyData} {j pos'} (h : Ev1 X M R ρ a s (.dat d) s1) : EvT1 X M R ρ (.Compare a [.Is] [.Constant .none j pos'] pos) s (isN d) s1 := fun σ H Q hσ hR q =>
  wT_of (pt_cmp (pc_isN pe_w) rfl) (h σ H _ hσ hR fun v H1 e1 R1 d1 => ⟨_, rfl, by
    rw [dv_non (show Dv X.K (cut M H1) v d from d1)]
    exact q H1 e1 R1⟩)
/-! a, b = x, y -/
theorem st_par {i j : Nat} {x y : Str} {ra rb : Sl} {pxx pyy pt : Pos} {kt k2 pt2} (hc : X.calm = true) (hN : X.N.Nodup) (hi : X.N[i]? = some x) (hj : X.N[j]? = some y) (hij : i ≠ j) (hx : X.env.scope.names.lookup x = some .local) (hy : X.env.scope.names.lookup y = some .local)
    (ha : EvA1 X M R ρ [a, b] s [ra, rb] s1) (k : St1 X M R ((ρ.set i ra).set j rb) rest s1 D) (P : ∀ {ta : TA}, PA X [a, b] ta → PS X (.Assign [.Tuple [.Name x pxx, .Name y pyy] kt pt] (.Tuple [a, b] k2 pt2) pos) (tPar i j ta)) :
    St1 X M R ρ (.Assign [.Tuple [.Name x pxx, .Name y pyy] kt pt] (.Tuple [a, b] k2 pt2) pos :: rest) s D := by
  intro σ H hσ hR
  refine wB_cons (wS_of (P pa_w) ?_)
  refine ha σ H _ hσ hR fun vs H1 e1 R1 d1 => ?_
  obtain ⟨v, w, rfl, d1, d2⟩ := svall2 d1
  exact ⟨v, w, rfl, k _ H1 (Slots.set d2 j (Slots.set d1 i (hσ.ex e1))) R1⟩
end
end DV
namespace DV
open PySem PySem.Spec L2 Evl
open PyProof.Rows hiding St
/-- a def that draws from the box, which is its first argument -/
def spB (K : PySem.W.Frag) (G : List Sl → Bx → Sl → Bx → Prop) : Sp := fun vs H Q _ => ∃ (M : List Addr) (b l : Addr) (st : Bx) (rs : List Sl) (r : Sl) (st' : Bx) (vs' : List V), vs = .ref b :: vs' ∧ b ∈ M ∧ l ∈ M ∧ (∀ a ∈ M, ∃ o, H a = some o) ∧ BoxAt b l st H ∧ SvAll K (cut M H) rs vs' ∧
  G rs st r st' ∧ ∀ v H', Ex (cut [b, l] H) (cut [b, l] H') → BoxAt b l st' H' → Sv K (cut M H') r v → Q v H'
theorem ex_of_cut2 {M : List Addr} {b l : Addr} {H H' : Hp} (hb : b ∈ M) (hl : l ∈ M) (e : Ex (cut [b, l] H) (cut [b, l] H')) : Ex (cut M H) (cut M H') := fun a o ha => by
  have nM := (cut_some ha).1
  have n2 : a ∉ [b, l] := fun m => by
    rcases List.mem_cons.mp m with z | m
    · exact nM (by rw [z]; exact hb)
    · rcases List.mem_cons.mp m with z | m
      · exact nM (by rw [z]; exact hl)
      · cases m
  rw [cut_out nM] at ha ⊢
  have := e a o (by rw [cut_out n2]; exact ha)
  rw [cut_out n2] at this
  exact this
section
variable {S : Type} {X : Cx} {M : List Addr} {R : S → Hp → Prop} {ρ : List Sl} {s s1 s2 : S} {e : Expr} {es : List Expr} {px pos : Pos} {rs : List Sl} {b l : Addr} {get : S → Bx} {put : S → Bx → S} {j k : Nat} {x : Str}
theorem e_boxed (g : Rg M R) {G : List Sl → Bx → Sl → Bx → Prop} {r : Sl} {st' : Bx} (B : BoxIn M R b l get put) (c : Cal X.prog X.w X.K X.mg X.base x k (spB X.K G)) (hr : Room j X.A) (hk : k ≤ j) (hg : Gl X x) (hG : G rs (get s1) r st') (ha : EvA1 X M R ρ (e :: es) s (.raw (.ref b) :: rs) s1)
    (hdb : (x == ("__debug__" : Str)) = false := by decide) (he : starEach (e :: es) X.env = (false, eval e X.env) :: starEach es X.env := by rfl) (hpl : (backTo pos (starEach es X.env)).any (·.1) = false := by rfl) :
    Ev1 X M R ρ (.Call (.Name x px) (e :: es) [] pos) s r (put s1 st') := by
  intro σ H Q hσ hR q
  refine w_call c hr hk hg passL ha hσ hR (fun vs H1 e1 d1 R1 => ?_) hdb he hpl
  match vs, d1 with
  | v :: vs, ⟨d1, d2⟩ =>
    have d1 : v = .ref b := d1
    subst d1
    exact ⟨M, b, l, get s1, rs, r, st', vs, rfl, B.mb, B.ml, fun a m => g.dom R1 m, B.at_ R1, d2, hG, fun v H' e2 bx sv => q v H' (e1.trans (ex_of_cut2 B.mb B.ml e2)) (B.to R1 e2 bx) sv⟩
end
section
variable {P : Program} {w : World} {K : PySem.W.Frag} {mg : Str → Option Value} {base : Heap}
/-- what such a body is to show -/
def BodyB (P : Program) (w : World) (K : PySem.W.Frag) (mg : Str → Option Value) (base : Heap) (N : List Str) (x : Str) (st : Stmt) (k : Nat) (rs : List Sl) (bs : Bx) (r : Sl) (bs' : Bx) : Prop :=
  ∀ (f : Addr) (cdv : Value) (A : Around) (outer : List Env) (sh : Shared) (H : Hp) (E : XK) (M : List Addr) (R : Bx → Hp → Prop) (D : Ends) (b l : Addr), Room k (A.deeper (envOfC x (defScope st) sh.heap.objs.size f cdv)) → Rg M R → BoxIn M R b l id (fun _ t => t) →
    (∀ v H', R bs' H' → Sv K (cut M H') r v → D.rt v H') → St1 (dx P w K mg base N x st f cdv A outer sh H E) M R (ini N (.raw (.ref b) :: rs)) (defBody st) bs D
theorem Def.calB {x : Str} {st : Stmt} {ps N : List Str} {k : Nat} {G : List Sl → Bx → Sl → Bx → Prop} (d : Def K mg x st ps) (S : FnScope N ps (defScope st)) (len : ∀ rs bs r bs', G rs bs r bs' → rs.length + 1 = ps.length)
    (hb : ∀ rs bs r bs', G rs bs r bs' → BodyB P w K mg base N x st k rs bs r bs') : Cal P w K mg base x (k + 1) (spB K G) := by
  refine d.calW S (fun vs H Q E ⟨M, b, l, st, rs, r, st', vs', e, _, _, _, _, sv, g, _⟩ => by rw [e, List.length_cons, sv.len, len rs _ _ _ g]) ?_
  rintro f cdv A outer sh H vs Q E hr ⟨M, b, l, bs, rs, r, bs', vs', rfl, mb, ml, dom, bx, sv, hG, q⟩
  have hin : ∀ {a : Addr}, a ∈ [b, l] → a = b ∨ a = l := fun m => by simpa using m
  refine hb rs bs r bs' hG f cdv A outer sh H E M (fun t H' => BoxAt b l t H' ∧ Ex (cut [b, l] H) (cut [b, l] H')) _ b l hr ⟨fun ⟨h1, h2⟩ e => ⟨h1.ex e, h2.trans (exCut e)⟩, fun {s H' a} ⟨h1, h2⟩ m => ?_⟩ ⟨mb, ml, fun h => h.1, fun ⟨h1, h2⟩ e bx => ⟨bx, h2.trans e⟩⟩ ?_ _ H (slots_ini (rs := .raw (.ref b) :: rs) ⟨rfl, sv⟩) ⟨bx, exId _⟩
  · by_cases z : a ∈ [b, l]
    · rcases hin z with e | e
      · rw [e]; exact ⟨_, h1.1⟩
      · rw [e]; exact ⟨_, h1.2⟩
    · obtain ⟨o, ho⟩ := dom a m
      have := h2 a o (by rw [cut_out z]; exact ho)
      exact ⟨o, (cut_some this).2⟩
  · exact fun v H' ⟨h1, h2⟩ s => q v H' h2 h1 s
end
theorem atI_lt {α : Type} {ds : List α} {i : Int} (h0 : 0 ≤ i) (h1 : i < ds.length) : ∃ h : i.toNat < ds.length, atI ds i = some ds[i.toNat] := by
  have h : i.toNat < ds.length := by omega
  refine ⟨h, ?_⟩
  have e : ((i.toNat : Nat) : Int) = i := by omega
  have q := atI_nat (xs := ds) (j := i.toNat) (List.getElem?_eq_getElem h)
  rw [e] at q
  exact q
end DV
namespace DV
open PySem PySem.Spec L2 Evl
open PyProof.Rows hiding St cutD
/-! ### data of bounded size -/
mutual
def okD : PyData → Bool
  | .none | .bool _ | .int _ => true
  | .str x => PyData.canLay0 (.str x)
  | .list xs | .tuple xs => decide (xs.length ≤ 1000) && okAll xs
  | .dict _ => false
def okAll : List PyData → Bool
  | [] => true
  | x :: xs => okD x && okAll xs
end
mutual
theorem lay_ok : ∀ d : PyData, okD d = true → d.canLay0 = true
  | .none, _ => rfl
  | .bool _, _ => rfl
  | .int _, _ => rfl
  | .str _, h => h
  | .list xs, h => lay_okAll xs (Bool.and_eq_true_iff.mp (show (decide (xs.length ≤ 1000) && okAll xs) = true from h)).2
  | .tuple xs, h => lay_okAll xs (Bool.and_eq_true_iff.mp (show (decide (xs.length ≤ 1000) && okAll xs) = true from h)).2
  | .dict _, h => by cases h
theorem lay_okAll : ∀ ds : List PyData, okAll ds = true → PyData.canLayAll0 ds = true
  | [], _ => rfl
  | d :: ds, h => by
    have h := Bool.and_eq_true_iff.mp (show (okD d && okAll ds) = true from h)
    show (d.canLay0 && PyData.canLayAll0 ds) = true
    rw [lay_ok d h.1, lay_okAll ds h.2]
    rfl
end
theorem okAll_get : ∀ {ds : List PyData} {i : Nat} {d : PyData}, okAll ds = true → ds[i]? = some d → okD d = true
  | [], _, _, _, h => by simp at h
  | x :: xs, 0, d, h, e => by
    have h := Bool.and_eq_true_iff.mp (show (okD x && okAll xs) = true from h)
    have e : some x = some d := e
    cases e
    exact h.1
  | x :: xs, i + 1, d, h, e => by
    have h := Bool.and_eq_true_iff.mp (show (okD x && okAll xs) = true from h)
    exact okAll_get (i := i) h.2 (by simpa using e)
theorem depth_get : ∀ {ds : List PyData} {i : Nat} {d : PyData}, ds[i]? = some d → d.depth ≤ PyData.depthAll ds
  | [], _, _, h => by simp at h
  | x :: xs, 0, d, e => by
    have e : some x = some d := e
    cases e
    exact Nat.le_max_left _ _
  | x :: xs, i + 1, d, e => Nat.le_trans (depth_get (i := i) (by simpa using e)) (Nat.le_max_right _ _)
theorem okAll_ints : ∀ xs : List Int, okAll (dI xs) = true
  | [] => rfl
  | _ :: xs => by
    show (true && okAll (dI xs)) = true
    rw [okAll_ints xs]
    rfl
theorem okD_tI {xs : List Int} (h : xs.length ≤ 1000) : okD (.tuple (dI xs)) = true := by
  show (decide ((dI xs).length ≤ 1000) && okAll (dI xs)) = true
  rw [okAll_ints, decide_eq_true (by rw [List.length_map]; exact h)]
  rfl
theorem okD_lI {xs : List Int} (h : xs.length ≤ 1000) : okD (.list (dI xs)) = true := by
  show (decide ((dI xs).length ≤ 1000) && okAll (dI xs)) = true
  rw [okAll_ints, decide_eq_true (by rw [List.length_map]; exact h)]
  rfl
end DV
namespace DV
open PySem PySem.Spec L2 Evl LamX NdefX
open PyProof.Rows hiding St cutD
/-! ### lambdas -/
structure Lam where
  qual : Str
  params : Arguments
  body : Expr
  scope : Scope
  cl : List (Str × Addr)
  c : Addr
  dV : Value
abbrev Lam.fd (L : Lam) (doc pm ctv : Value) : FuncData := PySem.W.kdv_fn "<lambda>" L.qual L.params (.expr L.body) L.scope L.cl L.dV doc pm (.ref L.c) ctv
def LamO (f : Addr) (L : Lam) : HO := .ext fun h => ∃ (od : Option Addr) (sl : Array (Option Value)) (doc pm ctv : Value), h.get? f = some (⟨.type "function", od, .func (L.fd doc pm ctv), sl⟩ : Obj)
theorem lamO_ne {f : Addr} {L : Lam} (ps : Array Value) : LamO f L ≠ .tbl ps := fun z => by unfold LamO at z; cases z
theorem lamO_at {P : Program} {w : World} {H : Hp} {h : Heap} {f : Addr} {L : Lam} (hok : HOk P w H h) (e : H f = some (LamO f L)) : ∃ (od : Option Addr) (sl : Array (Option Value)) (doc pm ctv : Value), h.get? f = some (⟨.type "function", od, .func (L.fd doc pm ctv), sl⟩ : Obj) := (hok f _ e).1
/-- all that was told but P's table is told still -/
def ExP (P : Addr) (H H' : Hp) : Prop := ∀ b o, b ≠ P → H b = some o → H' b = some o
section
variable {X : Cx} {pins : List (Addr × Obj)} {σ : L2.St} {H : Hp} {s : Shared} {E : Value → Shared → Prop} {Q : Value → Shared → Prop}
theorem lam_tail {c P : Addr} {params : Arguments} {body : Expr} {scope : Scope} {pos : Pos} {dV : Value} (I : Inv X pins σ H s) (TB : TabB X.base X.mg c P) (hcode : X.env.code = .ref c) (hT : TabS H P (X.env.qual ++ "<lambda>"))
    (hfree : ∀ y ∈ scope.names, y.2 = .free → ∃ c, X.env.cells.lookup y.1 = some c)
    (h : ∀ (f c' : Addr) (H1 : Hp) (s' : Shared), Inv X pins σ H1 s' → ExP P H H1 → TabS H1 P (X.env.qual ++ "<lambda>") → H f = none → H1 f = some (LamO f ⟨X.env.qual ++ "<lambda>", params, body, scope, cloFrom X.env.cells scope.names [], c', dV⟩) →
      H1 c' = some (CodeO c' (X.env.qual ++ "<lambda>")) → Q (.ref f) s') :
    wpAny (model X.prog X.w) X.A (makeTail "<lambda>" (X.env.qual ++ "<lambda>") params (.expr body) scope X.env dV .none none pos pos.line) Q E s := by
  obtain ⟨ps, hP, ht, ha⟩ := hT
  have bP : s.heap.BuiltinsAt X.mg P := TB.bm.keeps I.bk
  have hP' : s.heap.get? P = some { cls := .none, data := .fields ps } := I.hok P _ hP
  have push : ∀ {H' : Hp} {h' : Heap} {tk : Nat} {c' : Addr} {ctv doc pm : Value}, Inv X pins σ H' { s with heap := h', toks := tk } →
      Inv X pins σ (upd H' h'.objs.size (LamO h'.objs.size ⟨X.env.qual ++ "<lambda>", params, body, scope, cloFrom X.env.cells scope.names [], c', dV⟩))
        { s with heap := h'.push (PySem.W.kdv_obj "<lambda>" (X.env.qual ++ "<lambda>") params (.expr body) scope (cloFrom X.env.cells scope.names []) dV doc pm c' ctv), toks := tk } := fun {H' h' tk c' ctv doc pm} J => by
    refine Inv.laid (s := { s with heap := h', toks := tk }) (t' := tk) J (fun b o e => Heap.get?_push_of_some _ e) (Nat.le_refl _) ?_
    refine ⟨⟨_, _, _, _, _, Heap.get?_push_size _ rfl⟩, ⟨_, Heap.get?_push_size _ rfl⟩, fun h1 h2 ⟨od, sl, doc, pm, ctv, e⟩ st => ⟨od, sl, doc, pm, ctv, st _ e⟩⟩
  cases hc : codeAmong pos ps.toList with
  | none =>
    refine PySem.W.kdv_makeTail (mg := X.mg) (c := c) (P := P) (ps := ps) (closure_ok hfree) I.ok.glob (I.mod.glob.keeps I.bk) hcode (TB.code.keeps I.bk) hP' ht hc TB.gP bP fun c' ctv doc h' tk hx hge hlt hrec htb => ?_
    obtain ⟨c2, oc, vs, t, e2, hoc, hd, hv⟩ := hrec
    cases e2
    have hsz : s.heap.objs.size ≤ h'.objs.size := Nat.le_trans hge (Nat.le_of_lt hlt)
    have nC : H c' = none := I.hok.fresh hge
    have nF : H h'.objs.size = none := I.hok.fresh hsz
    have I1 := inv_table (t' := tk) (more := #[rawInt pos.line, rawInt pos.col, .ref c']) (h' := h') (q := X.env.qual ++ "<lambda>") I hP (fun b o hb e => hx b o hb e) htb hge ⟨oc, vs, t, hoc, hd, hv⟩
    have n1 : h'.objs.size ≠ c' := Nat.ne_of_gt hlt
    have n2 : h'.objs.size ≠ P := Nat.ne_of_gt (Nat.lt_of_lt_of_le (Heap.lt_size hP') hsz)
    have I2 := push (c' := c') (ctv := ctv) (doc := doc) (pm := (X.mg "__name__").getD .none) I1
    have eL : (ps ++ #[rawInt pos.line, rawInt pos.col, .ref c']).toList = ps.toList ++ [rawInt pos.line, rawInt pos.col, .ref c'] := by simp
    have eC : upd (upd (upd H P (.tbl (ps ++ #[rawInt pos.line, rawInt pos.col, .ref c']))) c' (CodeO c' (X.env.qual ++ "<lambda>"))) h'.objs.size
        (LamO h'.objs.size ⟨X.env.qual ++ "<lambda>", params, body, scope, cloFrom X.env.cells scope.names [], c', dV⟩) c' = some (CodeO c' (X.env.qual ++ "<lambda>")) := by rw [upd_ne n1.symm, upd_same]
    have eE : ExP P H (upd (upd (upd H P (.tbl (ps ++ #[rawInt pos.line, rawInt pos.col, .ref c']))) c' (CodeO c' (X.env.qual ++ "<lambda>"))) h'.objs.size
        (LamO h'.objs.size ⟨X.env.qual ++ "<lambda>", params, body, scope, cloFrom X.env.cells scope.names [], c', dV⟩)) := fun b o hb e => by
      rw [upd_ne (ne_of_none e nF), upd_ne (ne_of_none e nC), upd_ne hb]
      exact e
    refine h h'.objs.size c' _ _ I2 eE ⟨_, by rw [upd_ne n2.symm, upd_ne (ne_of_none hP nC), upd_same], by rw [eL]; exact PySem.TriplesOk_snoc _ _ _ _ ht, fun p' cv hcv => ?_⟩ nF upd_same eC
    rw [eL] at hcv
    rcases among_app _ ht hcv with z | z
    · obtain ⟨c0, e1, e2⟩ := ha p' cv z
      refine ⟨c0, e1, eE _ _ (fun z => ?_) e2⟩
      rw [z, hP] at e2
      exact codeO_ne ps (Option.some.inj e2).symm
    · exact ⟨c', z, eC⟩
  | some cv =>
    obtain ⟨c', e, hco⟩ := ha pos cv hc
    subst e
    refine PySem.W.kdv_makeTailHit (mg := X.mg) (c := c) (P := P) (ps := ps) (closure_ok hfree) I.ok.glob (I.mod.glob.keeps I.bk) hcode (TB.code.keeps I.bk) hP' ht hc bP fun ctv doc h' tk hx hsz => ?_
    have nF : H h'.objs.size = none := I.hok.fresh hsz
    have I1 : Inv X pins σ H { s with heap := h', toks := tk } := I.kept hx
    have I2 := push (c' := c') (ctv := ctv) (doc := doc) (pm := (X.mg "__name__").getD .none) I1
    have eE : Ex H (upd H h'.objs.size (LamO h'.objs.size ⟨X.env.qual ++ "<lambda>", params, body, scope, cloFrom X.env.cells scope.names [], c', dV⟩)) := Ex.new nF
    refine h h'.objs.size c' _ _ I2 (fun b o _ e => eE b o e) ?_ nF upd_same (eE _ _ hco)
    exact TabS.ext ⟨ps, hP, ht, ha⟩ eE
end
/-- what a lambda's making asks of its maker's text -/
structure LamB (X : Cx) (c P : Addr) (scope : Scope) : Prop where
  tb : TabB X.base X.mg c P
  code : X.env.code = .ref c
  free : ∀ y ∈ scope.names, y.2 = .free → X.env.scope.names.lookup y.1 = some .cell ∨ X.env.scope.names.lookup y.1 = some .free
section
variable {X : Cx} {σ : L2.St} {H : Hp} {Q : VK} {c P : Addr} {params : Arguments} {body : Expr} {scope : Scope} {pos : Pos}
theorem LamB.has (B : LamB X c P scope) (ok : X.Ok) : ∀ y ∈ scope.names, y.2 = .free → ∃ c, X.env.cells.lookup y.1 = some c := fun y hy e => (B.free y hy e).elim (fun k => ok.has _ (.inl k)) fun k => ok.has _ (.inr k)
/-- lambda: .. -/
theorem w_lam0 (B : LamB X c P scope) (hd : params.defaults = []) (hk : params.kw_defaults = []) (hT : TabS H P (X.env.qual ++ "<lambda>"))
    (h : ∀ (f c' : Addr) (H1 : Hp), ExP P H H1 → TabS H1 P (X.env.qual ++ "<lambda>") → H f = none → H1 f = some (LamO f ⟨X.env.qual ++ "<lambda>", params, body, scope, cloFrom X.env.cells scope.names [], c', .none⟩) → H1 c' = some (CodeO c' (X.env.qual ++ "<lambda>")) → Q (.ref f) H1) :
    wE X (.Lambda params body scope pos) σ H Q := by
  intro pins s I
  refine PySem.W.kla_eval (by rw [defaultsOf_eq, hd, hk]; rfl) ?_
  rw [makeFunction_eq]
  simp only [List.zip_nil_right, List.filterMap_nil, List.isEmpty_nil, if_true, pure_bind]
  refine lam_tail (dV := .none) I B.tb B.code hT (B.has I.ok) fun f c' H1 s' I1 eE T1 hf hl hc => ?_
  exact ⟨.ref f, H1, I1, rfl, h f c' H1 eE T1 hf hl hc⟩
/-- lambda x=0: .. -/
theorem w_lam1 {i : Int} {j : Nat} {p1 : Pos} (B : LamB X c P scope) (hd : params.defaults = [.Constant (.int i) j p1]) (hk : params.kw_defaults = []) (hT : TabS H P (X.env.qual ++ "<lambda>"))
    (h : ∀ (f c' T : Addr) (H1 : Hp), ExP P H H1 → TabS H1 P (X.env.qual ++ "<lambda>") → H f = none → H1 f = some (LamO f ⟨X.env.qual ++ "<lambda>", params, body, scope, cloFrom X.env.cells scope.names [], c', .ref T⟩) → H1 c' = some (CodeO c' (X.env.qual ++ "<lambda>")) →
      H1 T = some (.tup [.int i]) → Q (.ref f) H1) : wE X (.Lambda params body scope pos) σ H Q := by
  intro pins s I
  refine PySem.W.kdv_lam (by rw [hd]; rfl) hk ?_
  rw [hd]
  refine PySem.W.kdv_all1 (wpAny_Constant_int (PySem.W.kdv_all0 ?_))
  rw [makeFunction_eq]
  simp only [List.zip_nil_right, List.filterMap_nil, List.isEmpty_nil, if_true, pure_bind, List.isEmpty_cons, Bool.false_eq_true, if_false]
  refine wpAny_bind (wpAny_newTextTuple ?_)
  have I0 := I.tok (s.toks + 1)
  have nT : H s.heap.objs.size = none := I.hok.fresh (Nat.le_refl _)
  have I1 : Inv X pins σ (upd H s.heap.objs.size (.tup [.int i])) { s with heap := s.heap.push { cls := .type "tuple", data := .seq [Value.int i s.toks].toArray }, toks := s.toks + 1 } := by
    refine Inv.laid (t' := s.toks + 1) I (fun b o e => Heap.get?_push_of_some _ e) (Nat.le_refl _) ?_
    exact ⟨by show 1 ≤ sizeLine; decide, _, .cons ⟨_, rfl⟩ .nil, IsTup.new _ _⟩
  have hT1 : TabS (upd H s.heap.objs.size (.tup [.int i])) P (X.env.qual ++ "<lambda>") := hT.ext (Ex.new nT)
  have nP : s.heap.objs.size ≠ P := fun z => by
    obtain ⟨ps, hP, _⟩ := hT
    rw [← z, nT] at hP
    cases hP
  refine lam_tail (dV := .ref s.heap.objs.size) I1 B.tb B.code hT1 (B.has I.ok) fun f c' H1 s' I2 eE T1 hf hl hc => ?_
  refine ⟨.ref f, H1, I2, rfl, h f c' s.heap.objs.size H1 (fun b o hb e => eE b o hb (Ex.new nT b o e)) T1 ?_ hl hc (eE _ _ nP upd_same)⟩
  exact NdefX.upd_none hf
end
end DV
namespace DV
open PySem PySem.Spec L2 Evl LamX NdefX
open PyProof.Rows hiding St cutD
/-! ### cells, told for the while of a call -/
/-- the cell's object o, which holds v -/
def CellF (o : Obj) (v : V) : HO := .frz o (.ext fun _ => ∃ u, RelV v u ∧ o.data = .cell (some u))
/-- over a heap -/
def ov (G : Addr → Option HO) (H : Hp) : Hp := fun a => match G a with
  | some o => some o
  | none => H a
def un (G : Addr → Option HO) (H : Hp) : Hp := fun a => match G a with
  | some _ => none
  | none => H a
theorem ov_some {G : Addr → Option HO} {H : Hp} {a : Addr} {o : HO} (h : G a = some o) : ov G H a = some o := by unfold ov; rw [h]
theorem ov_none {G : Addr → Option HO} {H : Hp} {a : Addr} (h : G a = none) : ov G H a = H a := by unfold ov; rw [h]
theorem un_some {G : Addr → Option HO} {H : Hp} {a : Addr} {o : HO} (h : G a = some o) : un G H a = none := by unfold un; rw [h]
theorem un_none {G : Addr → Option HO} {H : Hp} {a : Addr} (h : G a = none) : un G H a = H a := by unfold un; rw [h]
/-- G tells cells of the heap h -/
def CellsG (G : Addr → Option HO) (h : Heap) : Prop := ∀ a ho, G a = some ho → ∃ o v, ho = CellF o v ∧ h.get? a = some o ∧ ∃ u, RelV v u ∧ o.data = .cell (some u)
section
variable {P : Program} {w : World} {G : Addr → Option HO} {H H' : Hp} {h h' : Heap} {fs ex : List Addr}
theorem CellsG.ok (c : CellsG G h) {H : Hp} {a : Addr} {ho : HO} (e : G a = some ho) (hx : ∀ o, h.get? a = some o → h'.get? a = some o) : ObjOk P w H h' a ho := by
  obtain ⟨o, v, rfl, ho, u, r, d⟩ := c a ho e
  exact ⟨hx o ho, ⟨u, r, d⟩, ⟨o, hx o ho⟩, fun _ _ q _ => q⟩
theorem CellsG.kind (c : CellsG G h) {a : Addr} {ho : HO} (e : G a = some ho) : ∃ o u, ho = .frz o u := by
  obtain ⟨o, v, rfl, _⟩ := c a ho e
  exact ⟨o, _, rfl⟩
/-- told: the heap with them holds -/
theorem hok_ov (ok : HOk P w H h) (c : CellsG G h) (n : ∀ a ho, G a = some ho → H a = none) : HOk P w (ov G H) h := fun a o e => by
  cases g : G a with
  | some ho =>
    rw [ov_some g] at e
    cases e
    exact c.ok g fun _ q => q
  | none =>
    rw [ov_none g] at e
    refine (ok a o e).stay (fun b u _ q => q) (fun b q => ?_) fun b xs q => ?_
    · cases gb : G b with
      | some ho => rw [n b ho gb] at q; cases q
      | none => rw [ov_none gb]; exact q
    · cases gb : G b with
      | some ho => rw [n b ho gb] at q; cases q
      | none => rw [ov_none gb]; exact q
/-- forgotten again -/
theorem hok_un (ok : HOk P w H h) (c : ∀ a ho, G a = some ho → H a = some ho ∧ ∃ o u, ho = .frz o u) : HOk P w (un G H) h := fun a o e => by
  cases g : G a with
  | some ho => rw [un_some g] at e; cases e
  | none =>
    rw [un_none g] at e
    refine (ok a o e).stay (fun b u _ q => q) (fun b q => ?_) fun b xs q => ?_
    · cases gb : G b with
      | some ho =>
        obtain ⟨e1, o1, u1, e2⟩ := c b ho gb
        rw [e1, e2] at q
        cases q
      | none => rw [un_none gb]; exact q
    · cases gb : G b with
      | some ho =>
        obtain ⟨e1, o1, u1, e2⟩ := c b ho gb
        rw [e1, e2] at q
        cases q
      | none => rw [un_none gb]; exact q
theorem CellsG.stay (c : CellsG G h) (u : Un fs ex (ov G H) H' h h') {a : Addr} {ho : HO} (e : G a = some ho) : H' a = some ho := by
  obtain ⟨o, x, rfl⟩ := c.kind e
  exact u.frzs a o x (ov_some e)
/-- what a call did, without the cells that were told -/
theorem un_out (c : CellsG G h) (n : ∀ a ho, G a = some ho → H a = none) (nf : ∀ a ho, G a = some ho → a ∉ fs) (u : Un fs ex (ov G H) H' h h') (ok : HOk P w H' h') : Un fs ex H (un G H') h h' where
  keep := fun b o q hn hb hx => by
    cases g : G b with
    | some ho =>
      obtain ⟨o', v, e1, e2, _⟩ := c b ho g
      rw [q] at e2
      cases e2
      subst e1
      exact (ok b _ (c.stay u g)).1
    | none => exact u.keep b o q (by rw [ov_none g]; exact hn) hb hx
  slot := fun b o q hn hb hx => by
    cases g : G b with
    | some ho => exact absurd hb (nf b ho g)
    | none => exact u.slot b o q (by rw [ov_none g]; exact hn) hb hx
  free := fun b o q hn hx => by
    cases g : G b with
    | some ho => exact un_some g
    | none =>
      rw [un_none g]
      exact u.free b o q (by rw [ov_none g]; exact hn) hx
  there := u.there
  tups := fun b xs q => by
    cases g : G b with
    | some ho => rw [n b ho g] at q; cases q
    | none =>
      rw [un_none g]
      exact u.tups b xs (by rw [ov_none g]; exact q)
  frzs := fun b o x q => by
    cases g : G b with
    | some ho => rw [n b ho g] at q; cases q
    | none =>
      rw [un_none g]
      exact u.frzs b o x (by rw [ov_none g]; exact q)
  tbls := fun b ps q => by
    cases g : G b with
    | some ho => rw [n b ho g] at q; cases q
    | none =>
      obtain ⟨m, e⟩ := u.tbls b ps (by rw [ov_none g]; exact q)
      exact ⟨m, by rw [un_none g]; exact e⟩
/-- what a call did, with the cells that were hidden -/
theorem un_in (c : CellsG G h) (t : ∀ a ho, G a = some ho → H a = some ho) (u : Un fs [] (un G H) H' h h') : Un fs [] H (ov G H') h h' := by
  have ng : ∀ {b}, H b = none → G b = none := fun {b} q => by
    cases g : G b with
    | some ho => rw [t b ho g] at q; cases q
    | none => rfl
  refine ⟨fun b o q hn hb hx => u.keep b o q (by rw [un_none (ng hn)]; exact hn) hb hx, fun b o q hn hb hx => u.slot b o q (by rw [un_none (ng hn)]; exact hn) hb hx, fun b o q hn hx => ?_, u.there, fun b xs q => ?_, fun b o x q => ?_, fun b ps q => ?_⟩
  · rw [ov_none (ng hn)]
    exact u.free b o q (by rw [un_none (ng hn)]; exact hn) hx
  · cases g : G b with
    | some ho =>
      obtain ⟨o, x, e⟩ := c.kind g
      rw [t b ho g, e] at q
      cases q
    | none =>
      rw [ov_none g]
      exact u.tups b xs (by rw [un_none g]; exact q)
  · cases g : G b with
    | some ho => rw [ov_some g, ← t b ho g]; exact q
    | none =>
      rw [ov_none g]
      exact u.frzs b o x (by rw [un_none g]; exact q)
  · cases g : G b with
    | some ho =>
      obtain ⟨o, x, e⟩ := c.kind g
      rw [t b ho g, e] at q
      cases q
    | none =>
      obtain ⟨m, e⟩ := u.tbls b ps (by rw [un_none g]; exact q)
      exact ⟨m, by rw [ov_none g]; exact e⟩
theorem ub_in {B : Heap} (c : CellsG G h) (t : ∀ a ho, G a = some ho → H a = some ho) (u : UB fs (un G H) H' h B h') : UB fs H (ov G H') h B h' := by
  have ng : ∀ {b}, H b = none → G b = none := fun {b} q => by
    cases g : G b with
    | some ho => rw [t b ho g] at q; cases q
    | none => rfl
  refine ⟨fun b o q hn hb => u.keep b o q (by rw [un_none (ng hn)]; exact hn) hb, u.slot, fun b o q hn => ?_, u.there, fun b xs q => ?_, fun b o x q => ?_, fun b ps q => ?_⟩
  · rw [ov_none (ng hn)]
    exact u.free b o q (by rw [un_none (ng hn)]; exact hn)
  · cases g : G b with
    | some ho =>
      obtain ⟨o, x, e⟩ := c.kind g
      rw [t b ho g, e] at q
      cases q
    | none =>
      rw [ov_none g]
      exact u.tups b xs (by rw [un_none g]; exact q)
  · cases g : G b with
    | some ho => rw [ov_some g, ← t b ho g]; exact q
    | none =>
      rw [ov_none g]
      exact u.frzs b o x (by rw [un_none g]; exact q)
  · cases g : G b with
    | some ho =>
      obtain ⟨o, x, e⟩ := c.kind g
      rw [t b ho g, e] at q
      cases q
    | none =>
      obtain ⟨m, e⟩ := u.tbls b ps (by rw [un_none g]; exact q)
      exact ⟨m, by rw [ov_none g]; exact e⟩
theorem un_ex (t : ∀ a ho, G a = some ho → H a = some ho) (e : Ex (un G H) H') : Ex H (ov G H') := fun a o q => by
  cases g : G a with
  | some ho => rw [ov_some g, ← t a ho g]; exact q
  | none =>
    rw [ov_none g]
    exact e a o (by rw [un_none g]; exact q)
theorem ov_ex (n : ∀ a ho, G a = some ho → H a = none) (e : Ex (ov G H) H') : Ex H (un G H') := fun a o q => by
  cases g : G a with
  | some ho => rw [n a ho g] at q; cases q
  | none =>
    rw [un_none g]
    exact e a o (by rw [ov_none g]; exact q)
theorem ex_ov (n : ∀ a ho, G a = some ho → H a = none) : Ex H (ov G H) := fun a o q => by
  cases g : G a with
  | some ho => rw [n a ho g] at q; cases q
  | none => rw [ov_none g]; exact q
end
/-! ### calls of what a name holds -/
/-- f(), in the heap H: what comes of it -/
def Calls (P : Program) (w : World) (K : PySem.W.Frag) (mg : Str → Option Value) (base : Heap) (k : Nat) (f : Addr) (H : Hp) (Q : VK) (E : XK) : Prop :=
  ∀ (A : Around) (outer : List Env) (s : Shared), Room k A → Env0 P w K mg base A outer s H → codeAny (model P w) A (.call (.ref f) ⟨[], []⟩) (CR (L2.CX P w) outer P w H s Q E) s
theorem Calls.imp {P : Program} {w : World} {K : PySem.W.Frag} {mg : Str → Option Value} {base : Heap} {k : Nat} {f : Addr} {H : Hp} {Q Q' : VK} {E E' : XK} (c : Calls P w K mg base k f H Q E) (hq : ∀ v H', Q v H' → Q' v H') (he : ∀ cls d H', E cls d H' → E' cls d H') : Calls P w K mg base k f H Q' E' := by
  intro A outer s hr e0
  refine codeAny_mono (c A outer s hr e0) fun r s' h => ?_
  cases r with
  | error e =>
    obtain ⟨a, B, H', cls, d, e1, fl, hk, ub, na, os, ab, we⟩ := h
    exact ⟨a, B, H', cls, d, e1, fl, hk, ub, na, os, ab, he _ _ _ we⟩
  | ok fl =>
    cases fl with
    | ret u =>
      obtain ⟨v, H', os, bare, un', hok, rv, qv⟩ := h
      exact ⟨v, H', os, bare, un', hok, rv, hq _ _ qv⟩
    | next => exact h
    | brk => exact h
    | cont => exact h
theorem Calls.mono {P : Program} {w : World} {K : PySem.W.Frag} {mg : Str → Option Value} {base : Heap} {j k : Nat} {f : Addr} {H : Hp} {Q : VK} {E : XK} (c : Calls P w K mg base j f H Q E) (h : j ≤ k) : Calls P w K mg base k f H Q E := fun A outer s hr e0 => c A outer s (hr.mono h) e0
section
variable {P : Program} {w : World} {K : PySem.W.Frag} {mg : Str → Option Value} {base : Heap}
/-- the lambda as a nested def's record (its body stands apart) -/
abbrev Lam.nf (L : Lam) : NF := ⟨"<lambda>", L.qual, L.params, [], L.scope, L.cl, L.c⟩
/-- the cells of L as H tells them -/
def capG (L : Lam) (H : Hp) : Addr → Option HO := fun a => if a ∈ L.cl.map (·.2) then H a else none
theorem lookup_mem {l : List (Str × Addr)} {y : Str} {c : Addr} (h : l.lookup y = some c) : c ∈ l.map (·.2) := List.mem_map.mpr ⟨(y, c), PySem.mem_of_lookup h, rfl⟩
theorem Calls.lam {N ps fr : List Str} {L : Lam} {f : Addr} {k : Nat} {H : Hp} {Q : VK} {E : XK} {vs : List V} {ws : List (Option V)} (S : NScope N ps fr L.scope) (hf : H f = some (LamO f L)) (hc : H L.c = some (CodeO L.c L.qual)) (hl : vs.length = ps.length) (hw : ws.length = fr.length)
    (hb : ∀ s : Shared, HOk P w H s.heap → ∃ us, Vals vs us ∧ ∀ doc pm ctv, BindsTo s (L.fd doc pm ctv) ⟨[], []⟩ (ps.zip us))
    (cells : ∀ (i : Nat) (y : Str), fr[i]? = some y → ∃ c o v, L.cl.lookup y = some c ∧ ws[i]? = some (some v) ∧ H c = some (CellF o v))
    (only : ∀ p ∈ L.cl, ∃ i : Nat, fr[i]? = some p.1 ∧ L.cl.lookup p.1 = some p.2) (inj : ∀ x y c, L.cl.lookup x = some c → L.cl.lookup y = some c → x = y)
    (body : ∀ (A : Around) (outer : List Env) (s : Shared) (E' : XK), (E' = fun cls d H' => E cls d (ov (capG L H) H')) → Room k (A.deeper (envF L.nf f s.heap.objs.size)) →
      wE (ncx (L2.CX P w) P w K mg base N L.nf f A outer s (un (capG L H) H) E') L.body (startF N vs ws) (un (capG L H) H) fun v H' => Q v (ov (capG L H) H')) :
    Calls P w K mg base (k + 1) f H Q E := by
  intro A outer s hr e0
  have tG : ∀ a ho, capG L H a = some ho → H a = some ho := fun a ho e => by
    unfold capG at e
    split at e
    · exact e
    · cases e
  have inG : ∀ {c : Addr} {o : Obj} {v : V}, c ∈ L.cl.map (·.2) → H c = some (CellF o v) → capG L H c = some (CellF o v) := fun hm e => by
    unfold capG
    rw [if_pos hm]
    exact e
  have memc : ∀ {c : Addr}, c ∈ L.cl.map (·.2) → ∃ o v, H c = some (CellF o v) := fun {c} hm => by
    obtain ⟨p, hp, rfl⟩ := List.mem_map.mp hm
    obtain ⟨i, hi, hlk⟩ := only p hp
    obtain ⟨c', o, v, e1, _, e3⟩ := cells i p.1 hi
    rw [hlk] at e1
    cases e1
    exact ⟨o, v, e3⟩
  have cG : CellsG (capG L H) s.heap := fun a ho e => by
    have hm : a ∈ L.cl.map (·.2) := by
      unfold capG at e
      split at e
      · assumption
      · cases e
    obtain ⟨o, v, e2⟩ := memc hm
    have e3 := tG a ho e
    rw [e2] at e3
    cases e3
    obtain ⟨q1, ⟨u, r, d⟩, _⟩ := (e0.hok a _ e2)
    exact ⟨o, v, rfl, q1, u, r, d⟩
  have hok' : HOk P w (un (capG L H) H) s.heap := hok_un e0.hok fun a ho e => ⟨tG a ho e, cG.kind e⟩
  have e0' : Env0 P w K mg base A outer s (un (capG L H) H) := by
    refine ⟨e0.frames, e0.mod, fun b o q => ⟨(e0.bs b o q).1, ?_⟩, e0.bsz, e0.funs, fun b hb => ?_, hok', e0.bare⟩
    · cases g : capG L H b with
      | some ho => exact un_some g
      | none => rw [un_none g]; exact (e0.bs b o q).2
    · cases g : capG L H b with
      | some ho => exact un_some g
      | none => rw [un_none g]; exact e0.frf b hb
  have ngf : capG L H f = none := by
    cases g : capG L H f with
    | none => rfl
    | some ho =>
      obtain ⟨o, u, e⟩ := cG.kind g
      have := tG f ho g
      rw [hf, e] at this
      unfold LamO at this
      cases this
  have C : CellsAt L.cl fr ws s.heap (un (capG L H) H) := by
    refine ⟨hw, fun y c e => ?_, inj, fun i y e => ?_⟩
    · obtain ⟨o, v, e2⟩ := memc (lookup_mem e)
      have g := inG (lookup_mem e) e2
      obtain ⟨o', v', _, q1, u, r, d⟩ := cG c _ g
      exact ⟨un_some g, some u, o', q1, d⟩
    · obtain ⟨c, o, v, e1, e2, e3⟩ := cells i y e
      refine ⟨c, e1, fun v' e4 => ?_⟩
      rw [e2] at e4
      cases e4
      obtain ⟨q1, ⟨u, r, d⟩, _⟩ := e0.hok c _ e3
      exact ⟨u, r, o, q1, d⟩
  have lim : s.heap.NoLimit := e0.mod.nolimit.keeps fun b o e => (e0.bs b o e).1
  obtain ⟨od, sl, doc, pm, ctv, ho⟩ := lamO_at e0.hok hf
  obtain ⟨us, rv, hbind⟩ := hb s e0.hok
  refine PySem.W.kla_callFunE hr.depth ho rfl S.co S.gen rfl (codeO_at e0.hok hc) ?_
  refine hbind doc pm ctv _ _ _ _ ?_
  refine wpAny_newFunctionEnv S.nocell (fun ⟨n, _⟩ hy => S.par n (List.of_mem_zip hy).1) (fun h₁ hns hsb => ⟨lim.fresh _ hsb, ?_⟩) S.kind
  show codeAny _ _ (.expr L.body (envF L.nf f s.heap.objs.size)) _ _
  have kp : ∀ b o, s.heap.get? b = some o → h₁.get? b = some o := fun b o e => hsb.extBut b o (Nat.ne_of_lt (Heap.lt_size e)) (Heap.get?_push_of_some _ e)
  have I : Inv (ncx (L2.CX P w) P w K mg base N L.nf f A outer s (un (capG L H) H) (fun cls d H' => E cls d (ov (capG L H) H'))) [] (startF N vs ws) (un (capG L H) H) { s with heap := h₁, toks := s.toks + (ps.zip us).length } := inv_startN S hr.hd e0' hl rv C hns kp
  have conv : ∀ e s'', L2.CX P w outer (un (capG L H) H) s (fun cls d H' => E cls d (ov (capG L H) H')) e s'' → L2.CX P w outer H s E e s'' := by
    intro e s'' hx
    obtain ⟨a, B, H', cls, d, e1, fl, hk, ub, na, os, ab, we⟩ := hx
    refine ⟨a, B, ov (capG L H) H', cls, d, e1, fl, ?_, ub_in cG tG ub, ?_, os, ab, we⟩
    · have cB : CellsG (capG L H) B := fun b ho g => by
        obtain ⟨o, v, e1, e2, e3⟩ := cG b ho g
        refine ⟨o, v, e1, ub.keep b o e2 (un_some g) ?_, e3⟩
        intro hm
        have := e0.frf b hm
        rw [tG b ho g] at this
        cases this
      exact hok_ov hk cB fun b ho g => by
        obtain ⟨o, v, e1, e2, e3⟩ := cG b ho g
        exact ub.free b o e2 (un_some g)
    · cases g : capG L H a with
      | none => rw [ov_none g]; exact na
      | some ho =>
        obtain ⟨o, v, e1, e2, _⟩ := cG a ho g
        have hB := ub.keep a o e2 (un_some g) (fun hm => by
          have := e0.frf a hm
          rw [tG a ho g] at this
          cases this)
        obtain ⟨_, hBn, _⟩ := fl
        rw [hB] at hBn
        cases hBn
  refine PySem.W.kla_codeExpr (wpAny_mono (body A outer s _ rfl (hr.deeper _) [] _ I) (fun v s' hq => ?_) fun e s' hq => ?_)
  · obtain ⟨w', H', J, r, q⟩ := hq
    have ub : Un (frs outer) [] (un (capG L H) H) H' s.heap s'.heap := J.base
    refine ⟨w', ov (capG L H) H', J.os, J.bare, un_in cG tG ub, ?_, r, q⟩
    have cB : CellsG (capG L H) s'.heap := fun b ho g => by
      obtain ⟨o, v, e1, e2, e3⟩ := cG b ho g
      refine ⟨o, v, e1, ub.keep b o e2 (un_some g) ?_ (by simp), e3⟩
      intro hm
      have := e0.frf b hm
      rw [tG b ho g] at this
      cases this
    exact hok_ov J.hok cB fun b ho g => by
      obtain ⟨o, v, e1, e2, e3⟩ := cG b ho g
      exact ub.free b o e2 (un_some g) (by simp)
  · exact wpAny_mono hq (fun _ s'' h => conv e s'' h) fun e' s'' h => conv e' s'' h
end
/-! x(), x a slot that holds such a function -/
theorem lam_fnAt {X : Cx} {pins : List (Addr × Obj)} {σ : L2.St} {H : Hp} {s : Shared} {f : Addr} {L : Lam} (I : Inv X pins σ H s) (e : H f = some (LamO f L)) : PySem.W.FnAt f s.heap := by
  obtain ⟨od, sl, doc, pm, ctv, ho⟩ := lamO_at I.hok e
  exact ⟨_, od, _, sl, ho⟩
theorem w_callV {X : Cx} {i j k : Nat} {x : Str} {f : Addr} {L : Lam} {σ : L2.St} {H : Hp} {Q : VK} {E : XK} {p pos : Pos} (hr : Room j X.A) (hk : k ≤ j) (hx : PassesAt (L2.CX X.prog X.w) X σ E) (hN : X.N[i]? = some x) (hv : Vis X.env.scope x) (hs : σ[i]? = some (some (.ref f))) (hf : H f = some (LamO f L))
    (h : Calls X.prog X.w X.K X.mg X.base k f H Q E) (hd : (x == ("__debug__" : Str)) = false := by decide) (hcd : (x == ("__classdict__" : Str)) = false := by decide) : wE X (.Call (.Name x p) [] [] pos) σ H Q := by
  intro pins s I
  refine wpAny_Call_Name_kw (thn ((pe_var (pos := p) hN hv hd hcd).run pins s σ H (fun v H1 => v = .ref f ∧ H1 = H) I ⟨.ref f, hs, rfl, rfl⟩) fun u s1 ⟨v, H1, I1, r1, q1⟩ => ?_)
  obtain ⟨ev, eH⟩ := q1
  subst ev
  rw [eH] at I1
  obtain rfl : u = Value.ref f := r1
  refine PySem.W.callWith_F0 (first := []) (lam_fnAt I1 hf) ?_
  show wpAny _ _ (call (.ref f) []) _ _ _
  refine wpAny_call (codeAny_mono (h X.A X.stack s1 (hr.mono hk) I1.env0) fun r s' hq => ?_)
  cases r with
  | error e => exact hx pins H s1 e s' I1 hq
  | ok fl =>
    cases fl with
    | ret u => exact I1.after hq
    | next => exact False.elim hq
    | brk => exact False.elim hq
    | cont => exact False.elim hq
end DV
namespace DV
open PySem PySem.Spec L2 Evl LamX NdefX
open PyProof.Rows hiding St cutD
/-- the names of ys, their cells told by G -/
structure Shown (X : Cx) (σ : L2.St) (H : Hp) (ys : List (Nat × Str)) (G : Addr → Option HO) : Prop where
  at_ : ∀ j y, (j, y) ∈ ys → ∃ c o v, X.env.cells.lookup y = some c ∧ σ[j]? = some (some v) ∧ G c = some (CellF o v)
  free : ∀ a ho, G a = some ho → H a = none
  ok : X.Ok
theorem absV_rel {u : Value} {v : V} (h : absV u = some v) : RelV v u := by
  cases u <;> simp only [absV, Option.some.injEq, reduceCtorEq] at h <;> subst h <;> first | rfl | exact ⟨_, rfl⟩
def cellOf (o : Obj) : Option V := match o.data with
  | .cell (some u) => absV u
  | _ => none
def gOf (cs : List Addr) (h : Heap) : Addr → Option HO := fun a => if a ∈ cs then (h.get? a).bind fun o => (cellOf o).map (CellF o) else none
theorem gOf_spec {cs : List Addr} {h : Heap} {a : Addr} {ho : HO} (e : gOf cs h a = some ho) : a ∈ cs ∧ ∃ o v, ho = CellF o v ∧ h.get? a = some o ∧ ∃ u, RelV v u ∧ o.data = .cell (some u) := by
  unfold gOf at e
  split at e
  · rename_i hm
    refine ⟨hm, ?_⟩
    cases ho' : h.get? a with
    | none => rw [ho'] at e; cases e
    | some o =>
      rw [ho'] at e
      have e : (cellOf o).map (CellF o) = some ho := e
      cases hv : cellOf o with
      | none => rw [hv] at e; cases e
      | some v =>
        rw [hv] at e
        have e : some (CellF o v) = some ho := e
        unfold cellOf at hv
        split at hv
        · rename_i u hu
          exact ⟨o, v, (Option.some.inj e).symm, rfl, u, absV_rel hv, hu⟩
        · cases hv
  · cases e
theorem gOf_at {cs : List Addr} {h : Heap} {a : Addr} {o : Obj} {u : Value} {v : V} (hm : a ∈ cs) (ho : h.get? a = some o) (hd : o.data = .cell (some u)) (r : RelV v u) : gOf cs h a = some (CellF o v) := by
  unfold gOf
  rw [if_pos hm, ho]
  show (cellOf o).map (CellF o) = _
  unfold cellOf
  rw [hd]
  show (absV u).map (CellF o) = _
  rw [r.abs]
  rfl
section
variable {X : Cx} {σ : L2.St} {H : Hp} {Q : VK} {x : Str} {e : Expr} {es : List Expr} {px pos : Pos} {j k : Nat} {sp : Sp}
/-- a def called by its maker, the cells of ys told for the while -/
theorem w_callG (c : Cal X.prog X.w X.K X.mg X.base x k sp) (hr : Room j X.A) (hk : k ≤ j) (hg : Gl X x) (ys : List (Nat × Str)) (hy : ∀ p ∈ ys, X.N[p.1]? = some p.2 ∧ X.env.scope.names.lookup p.2 = some .cell ∧ X.fn p.2 = true) (hσ : ∀ p ∈ ys, ∃ v, σ[p.1]? = some (some v))
    (ha : wA X (e :: es) σ H fun vs H1 => ∀ G, Shown X σ H1 ys G → sp vs (ov G H1) (fun v H' => Q v (un G H')) E0) (hdb : (x == ("__debug__" : Str)) = false := by decide)
    (he : starEach (e :: es) X.env = (false, eval e X.env) :: starEach es X.env := by rfl) (hpl : (backTo pos (starEach es X.env)).any (·.1) = false := by rfl) : wE X (.Call (.Name x px) (e :: es) [] pos) σ H Q := by
  intro pins s I
  obtain ⟨f, fd, ps, F, hm, hkp, hb⟩ := c.ex
  refine wpAny_Call_Name_kw (ld_glob I hg hm ?_ hdb)
  refine PySem.W.callWith_K (h₀ := X.base) I.ok.mod.kin hkp (thn (pa_w.run pos pins s σ H _ I ha) fun us s1 ⟨vs, H1, I1, r, q⟩ => ⟨I1.kIn, ?_⟩) he hpl
  show wpAny _ _ (call (.ref f) us) _ _ _
  let cs : List Addr := ys.filterMap fun p => X.env.cells.lookup p.2
  have csOf : ∀ {a : Addr}, a ∈ cs → ∃ p ∈ ys, X.env.cells.lookup p.2 = some a := fun {a} hm => List.mem_filterMap.mp hm
  let G := gOf cs s1.heap
  have cG : CellsG G s1.heap := fun a ho e => (gOf_spec e).2
  have nG : ∀ a ho, G a = some ho → H1 a = none := fun a ho e => by
    obtain ⟨p, hp, hl⟩ := csOf (gOf_spec e).1
    exact I1.freeC p.2 a hl
  have above : ∀ a ho, G a = some ho → X.s_0.heap.objs.size ≤ a := fun a ho e => by
    obtain ⟨p, hp, hl⟩ := csOf (gOf_spec e).1
    exact I1.ok.cab p.2 a (hy p hp).2.2 hl
  have nF : ∀ a ho, G a = some ho → a ∉ frs X.stack := fun a ho e hm => by
    obtain ⟨p, hp, hl⟩ := csOf (gOf_spec e).1
    rcases List.mem_cons.mp (I1.stkSub a hm) with z | z
    · exact I1.cne p.2 a hl z
    · obtain ⟨_, o, ho, _⟩ := I1.ok.funs.mem z
      exact absurd (Nat.lt_of_lt_of_le (Heap.lt_size ho) (above a _ e)) (Nat.lt_irrefl _)
  have sh : Shown X σ H1 ys G := by
    refine ⟨fun j y hm => ?_, nG, I1.ok⟩
    obtain ⟨hN, hc, _⟩ := hy (j, y) hm
    obtain ⟨v, hv⟩ := hσ (j, y) hm
    obtain ⟨m, hn, hl⟩ := I1.loc
    obtain ⟨u, rv, l⟩ := hl j y v hN hv (.inr (.inl hc))
    rcases l with ⟨z, _⟩ | ⟨_, c, hlk, o, ho, hd⟩
    · have z : X.env.scope.names.lookup y = some .local := z
      rw [hc] at z
      cases z
    · have hcm : c ∈ cs := List.mem_filterMap.mpr ⟨(j, y), hm, hlk⟩
      exact ⟨c, o, v, hlk, hv, gOf_at hcm ho hd rv⟩
  have e1 := I1.env0
  have e0 : Env0 X.prog X.w X.K X.mg X.base X.A X.stack s1 (ov G H1) := by
    refine ⟨e1.frames, e1.mod, fun b o q => ⟨(e1.bs b o q).1, ?_⟩, e1.bsz, e1.funs, fun b hb => ?_, hok_ov e1.hok cG nG, e1.bare⟩
    · cases g : G b with
      | none => rw [ov_none g]; exact (e1.bs b o q).2
      | some ho =>
        exact absurd (Nat.lt_of_lt_of_le (Heap.lt_size q) (Nat.le_trans I1.ok.bsz (above b ho g))) (Nat.lt_irrefl _)
    · cases g : G b with
      | none => rw [ov_none g]; exact e1.frf b hb
      | some ho => exact absurd hb (nF b ho g)
  have h := q G sh
  have hl : us.length = ps.length := by rw [← r.length]; exact F.len _ _ _ _ h
  have b := hb s1 us I1.kIn (by rw [List.append_nil]; exact hl)
  rw [List.append_nil] at b
  refine wpAny_call (codeAny_mono (F.run X.A X.stack s1 (ov G H1) ⟨us, []⟩ us vs _ E0 (hr.mono hk) e0 b r h) fun r s' hq => ?_)
  cases r with
  | error e =>
    obtain ⟨_, _, _, _, _, _, _, _, _, _, _, _, z⟩ := hq
    exact z.elim
  | ok fl =>
    cases fl with
    | ret u =>
      refine I1.after ?_
      obtain ⟨v, H', os, bare, un', hok, rv, qv⟩ := hq
      exact ⟨v, un G H', os, bare, un_out cG nG nF un' hok, hok_un hok fun a ho g => ⟨cG.stay un' g, cG.kind g⟩, rv, qv⟩
    | next => exact False.elim hq
    | brk => exact False.elim hq
    | cont => exact False.elim hq
end
end DV
namespace DV
open PySem PySem.Spec L2 Evl LamX NdefX
open PyProof.Rows hiding St cutD
/-! ### list.count of flat items -/
def rCntF (K : PySem.W.Frag) : V → List V → Hp → VK → Prop := fun x xs H Q => ∃ (p : Addr) (ys : List V) (y : V), x = .ref p ∧ xs = [y] ∧ SqL K H p ys ∧ flatV y = true ∧ ys.all flatV = true ∧ Q (.int (ys.countP (fun z => eqV z y) : Nat)) H
theorem countP_eqU {x : V} : ∀ {xs : List V} {us : List Value}, Vals xs us → xs.all flatV = true → us.countP (eqU x) = xs.countP fun y => eqV y x
  | _, _, .nil, _ => rfl
  | _, _, .cons r t, f => by
    rw [List.all_cons, Bool.and_eq_true] at f
    rw [List.countP_cons, List.countP_cons, eqU_of r f.1, countP_eqU t f.2]
theorem mt_countF {X : Cx} : MtR X "list.count" (rCntF X.K) := by
  intro pins s σ H x xs v us Q I rx rxs h
  obtain ⟨p, ys, y, rfl, rfl, hs, fy, fys, q⟩ := h
  cases rx
  obtain ⟨u, rfl, ru⟩ := rxs.one
  obtain ⟨its, rv, ⟨⟨cls, dd, data, sl⟩, n, ho, hc, hdn, hd⟩, hlen⟩ := I.list hs
  simp only at hc hd
  subst hc hd
  refine call_meets PySem.F.slot_list_count ⟨_, ho, rfl⟩ PySem.F.entry_list_count (PySem.F.args_list_count_2 _ _)
    (SeqAt.list_countAt p its.toArray n dd sl u (eqU y)) ⟨ho, fun w hw => mem_eqAt ru fy rv fys w (by simpa using hw), ?_⟩
  have ec : its.toArray.toList.countP (eqU y) = ys.countP fun z => eqV z y := countP_eqU rv fys
  refine ⟨.int (ys.countP (fun z => eqV z y) : Nat), H, I.tok _, ⟨s.toks, ?_⟩, q⟩
  show Value.int ((its.toArray.toList.countP (eqU y) : Nat) : Int) s.toks = Value.int ((ys.countP (fun z => eqV z y) : Nat) : Int) s.toks
  rw [ec]
theorem flat_bools : ∀ bs : List Bool, (bs.map V.bl).all flatV = true
  | [] => rfl
  | _ :: bs => by rw [List.map_cons, List.all_cons, flat_bools bs]; rfl
theorem count_bools (b : Bool) : ∀ bs : List Bool, (bs.map V.bl).countP (fun z => eqV z (.bl b)) = bs.count b
  | [] => rfl
  | c :: bs => by
    rw [List.map_cons, List.countP_cons, List.count_cons, count_bools b bs]
    rfl
section
variable {S : Type} {X : Cx} {M : List Addr} {R : S → Hp → Prop} {ρ : List Sl} {s s1 s2 : S} {a b o e e' : Expr} {px pos apos cpos : Pos}
theorem e_countB {bs : List Bool} {k : Bool} (ho : Ev1 X M R ρ o s (.dat (.list (bs.map .bool))) s1) (ha : EvA1 X M R ρ [e] s1 [.dat (.bool k)] s2)
    (hbase : attributeBase o "count" X.env (eval o X.env) = eval o X.env := by rfl)
    (hfew : ((backTo cpos (starEach [e] X.env)).all (fun x => !x.1) && (backToKw cpos (keywordEach [] X.env)).all (fun x => x.1.isSome) && decide ([e].length + ([] : List Keyword).length + (if ([] : List Keyword).isEmpty then 0 else 1) < 30)) = true := by rfl)
    (hline : (apos.endLine == cpos.line) = true := by rfl) (hs : starEach [e] X.env = (false, eval e X.env) :: starEach [] X.env := by rfl) (hplain : (backTo cpos (starEach [] X.env)).any (·.1) = false := by rfl) :
    Ev1 X M R ρ (.Call (.Attribute o "count" apos) [e] [] cpos) s (.dat (.int (bs.count k : Nat))) s2 := by
  intro σ H Q hσ hR q
  refine wE_of (pe_bm PySem.F.plainAttrs_list PySem.F.slot_list_count PySem.F.type_list_count (mt_countF : MtR X _ _) pe_w pa_w hbase hfew hline hs hplain) ?_
  refine ho σ H _ hσ hR fun v H1 e1 R1 d1 => ?_
  obtain ⟨p, xs, rfl, hp, hd⟩ := sv_lst d1
  rw [dpa_bools hd] at hp
  refine ⟨.inl ⟨rfl, _, sq_of (ex_cut _ _ hp)⟩, ?_⟩
  refine ha σ H1 _ (hσ.ex e1) R1 fun vs H2 e2 R2 d2 => ?_
  obtain ⟨w, rfl, h2⟩ := svall1 d2
  rw [sv_bl h2]
  refine ⟨p, _, _, rfl, rfl, sq_of (ex_cut _ _ (e2 _ _ hp)), rfl, flat_bools bs, ?_⟩
  rw [count_bools]
  exact q _ H2 (e1.trans e2) R2 (.int _)
/-- the first True -/
theorem e_indexB {bs : List Bool} {j : Nat} (hj : bs[j]? = some true) (hlt : ∀ m, m < j → bs[m]? = some false) (ho : Ev1 X M R ρ o s (.dat (.list (bs.map .bool))) s1) (ha : EvA1 X M R ρ [e] s1 [.dat (.bool true)] s2)
    (hbase : attributeBase o "index" X.env (eval o X.env) = eval o X.env := by rfl)
    (hfew : ((backTo cpos (starEach [e] X.env)).all (fun x => !x.1) && (backToKw cpos (keywordEach [] X.env)).all (fun x => x.1.isSome) && decide ([e].length + ([] : List Keyword).length + (if ([] : List Keyword).isEmpty then 0 else 1) < 30)) = true := by rfl)
    (hline : (apos.endLine == cpos.line) = true := by rfl) (hs : starEach [e] X.env = (false, eval e X.env) :: starEach [] X.env := by rfl) (hplain : (backTo cpos (starEach [] X.env)).any (·.1) = false := by rfl) :
    Ev1 X M R ρ (.Call (.Attribute o "index" apos) [e] [] cpos) s (.dat (.int (j : Nat))) s2 := by
  intro σ H Q hσ hR q
  refine wE_of (pe_bm PySem.F.plainAttrs_list PySem.F.slot_list_index PySem.F.type_list_index (mt_index : MtR X _ _) pe_w pa_w hbase hfew hline hs hplain) ?_
  refine ho σ H _ hσ hR fun v H1 e1 R1 d1 => ?_
  obtain ⟨p, xs, rfl, hp, hd⟩ := sv_lst d1
  rw [dpa_bools hd] at hp
  refine ⟨.inl ⟨rfl, _, sq_of (ex_cut _ _ hp)⟩, ?_⟩
  refine ha σ H1 _ (hσ.ex e1) R1 fun vs H2 e2 R2 d2 => ?_
  obtain ⟨w, rfl, h2⟩ := svall1 d2
  rw [sv_bl h2]
  refine ⟨p, _, _, j, .bl true, rfl, rfl, sq_of (ex_cut _ _ (e2 _ _ hp)), rfl, flat_bools bs, by rw [List.getElem?_map, hj]; rfl, rfl, fun m z hm hz => ?_, q _ H2 (e1.trans e2) R2 (.int _)⟩
  rw [List.getElem?_map, hlt m hm] at hz
  cases hz
  rfl
/-! in a written tuple of flat data -/
def flatD : PyData → Bool
  | .none | .bool _ | .int _ | .str _ => true
  | _ => false
theorem flat_dv {K : PySem.W.Frag} {H : Hp} {d : PyData} {v : V} (h : Dv K H v d) (f : flatD d = true) : flatV v = true := by
  cases h <;> first | rfl | cases f
theorem eqv_flat {K : PySem.W.Frag} {H : Hp} {d e : PyData} {v w : V} (h : Dv K H v d) (h' : Dv K H w e) (f : flatD d = true) (f' : flatD e = true) : eqV v w = PyData.eqv d e := by
  cases h <;> first | (cases f; done) | (cases h' <;> first | rfl | (cases f'; done))
theorem flat_all {K : PySem.W.Frag} {H : Hp} : ∀ {ds : List PyData} {vs : List V}, DvAll K H vs ds → ds.all flatD = true → vs.all flatV = true
  | [], _, h, _ => by cases h; rfl
  | d :: ds, _, h, f => by
    cases h with
    | cons a b =>
      rw [List.all_cons, Bool.and_eq_true] at f
      rw [List.all_cons, flat_dv a f.1, flat_all b f.2]
      rfl
theorem in_dv {K : PySem.W.Frag} {H : Hp} {d : PyData} {v : V} (h : Dv K H v d) (f : flatD d = true) : ∀ {ds : List PyData} {vs : List V}, DvAll K H vs ds → ds.all flatD = true → inV v vs = ds.any fun e => PyData.eqv e d
  | [], _, g, _ => by cases g; rfl
  | e :: ds, _, g, fs => by
    cases g with
    | cons a b =>
      rw [List.all_cons, Bool.and_eq_true] at fs
      have ih := in_dv h f b fs.2
      unfold inV at ih ⊢
      rw [List.any_cons, List.any_cons, eqv_flat a h fs.1 f, ih]
theorem t_inT {d : PyData} {ds : List PyData} (ha : Ev1 X M R ρ a s (.dat d) s1) (hb : Ev1 X M R ρ b s1 (.dat (.tuple ds)) s2) (f : flatD d = true) (fs : ds.all flatD = true) (hm : behindInMarks .In b = false := by with_unfolding_all rfl) :
    EvT1 X M R ρ (.Compare a [.In] [b] pos) s (ds.any fun e => PyData.eqv e d) s2 :=
  t_cmp op_in_seq ha hb (fun x y H Q dx dy hR q => by
    obtain ⟨p, xs, rfl, hp, hd⟩ := sv_tup dy
    refine ⟨p, xs, rfl, .inr (ex_t ex_cut hp), flat_dv dx f, flat_all hd fs, ?_⟩
    rw [in_dv dx f hd fs]
    exact q H (exId _) hR) hm
/-! isinstance of the error that the suite holds -/
theorem e_isE {X : Cx} {ad D : Addr} {oe : Obj} {pn : List (Addr × Obj)} {k : Bool} {c : V} {cv : Value} {r : Sl} (C : ExcC X.K D) (hz : Zc (.ref D) none oe) (hf : ∃ vs, oe.data = .fields vs) (hk : PySem.W.kitOne X.K (.ref D) cv = some k) (hc : ∀ H, Sv X.K H r c → ∀ u, RelV c u → u = cv) (hr : ∀ H v, Sv X.K H r v → v = c)
    (hg : Gl (X.suite ad ((ad, oe) :: pn)) "isinstance") (hm : X.mg "isinstance" = none) (ha : EvA1 (X.suite ad ((ad, oe) :: pn)) M R ρ [e, e'] s [.raw (.ref ad), r] s1)
    (he : starEach [e, e'] X.env = (false, eval e X.env) :: starEach [e'] X.env := by rfl) (hpl : (backTo pos (starEach [e'] X.env)).any (·.1) = false := by rfl) :
    Ev1 (X.suite ad ((ad, oe) :: pn)) M R ρ (.Call (.Name "isinstance" px) [e, e'] [] pos) s (.dat (.bool k)) s1 :=
  e_callB (call_isE C hz hf) hg hm boot_isinstance ha (fun vs H Q h hR q => by
    obtain ⟨v, w, rfl, h1, h2⟩ := svall2 h
    have h1 : v = .ref ad := h1
    subst h1
    have ew := hr _ w h2
    subst ew
    exact ⟨w, cv, k, rfl, hc _ h2, hk, q _ H (exId _) hR (.bl _)⟩) (by decide) (by decide) he hpl
end
end DV
namespace DV
open PySem PySem.Spec L2 Evl LamX NdefX
open PyProof.Rows hiding St cutD
/-! ### try: body, except x as n: suite -/
def tSuite (X : Cx) (suite : List Stmt) : Addr → Value → Option Addr → TS := fun a cls d D σ H => ∀ (oe : Obj) (pn : List (Addr × Obj)), Zc cls d oe → (∃ vs, oe.data = .fields vs) → wB (X.suite a ((a, oe) :: pn)) suite D σ H
theorem b_try_as {X : Cx} {i : Nat} {n x : Str} {c : Value} {body suite rest : List Stmt} {b₀ : Stmt} {np pos pos' : Pos} {D : Ends} {σ : L2.St} {H : Hp} (hs : X.stack = X.env :: X.outer) (hf : X.env.frame = some X.env.locals) (hN : X.N.Nodup) (hi : X.N[i]? = some n) (hln : X.env.kindOf n = some .local) (hc : Names X x c)
    (h : ∀ (W : WX) (pn : List (Addr × Obj)) (xe : Value → Shared → Prop), W = wAs X.K c i (tSuite X (b₀ :: suite)) (fun _ _ _ _ => False) { D with nx := wB X rest D } → Takes (X.tr pn xe) W → wB (X.tr pn xe) body { D with nx := wB X rest D } σ H) :
    wB X (.Try body [.ExceptHandler (some (.Name x np)) (some n) (b₀ :: suite) pos'] [] [] pos :: rest) D σ H := by
  refine wB_cons (wS_of (ps_try_as (i := i) (tb := fun W D' σ H => ∀ (pn : List (Addr × Obj)) (xe : Value → Shared → Prop), Takes (X.tr pn xe) W → wB (X.tr pn xe) body D' σ H) (ts := tSuite X (b₀ :: suite)) (Wout := fun _ _ _ _ => False) hs hf hN hi hln hc L2.takes0
    (fun W pn xe tk _ => ⟨fun pins s σ H D' I h' => h' pn xe tk pins s I⟩) (fun a oe cls d pn hz hd => ⟨fun pins s σ H D' I h' => h' oe pn hz hd pins s I⟩)) ?_)
  exact fun pn xe tk => h _ pn xe rfl tk
/-! ### the law's own words for errors -/
def kNames : List Str := ["BadCount", "BadKey", "BadLogs", "BadNow", "BadRules", "BadSite", "BadText", "BadToken", "BadWants", "BadWorth", "NotYet", "Stale"]
def kWord (i : Nat) : Str := kNames.getD i Str.empty
/-- the class at D is the i-th of them -/
structure Kinds (K : PySem.W.Frag) (mg : Str → Option Value) (D : Addr) (i : Nat) : Prop where
  exc : ExcC K D
  port : ∃ C, mg "PortError" = some (.ref C) ∧ PySem.W.exmOne K (.ref D) (.ref C) = some true
  val : PySem.W.kitOne K (.ref D) (.type "ValueError") = some true
  nval : mg "ValueError" = none
  kit : ∀ (j : Nat) (x : Str), kNames[j]? = some x → ∃ C, mg x = some (.ref C) ∧ PySem.W.kitOne K (.ref D) (.ref C) = some (decide (j = i))
  plain : i = 0 ∨ i = 1 ∨ i = 3 ∨ i = 4 ∨ i = 5 ∨ i = 7 ∨ i = 8 ∨ i = 9
/-- told of a function that raises such an error, or hands back a value -/
def spTold (P : Program) (w : World) (K : PySem.W.Frag) (mg : Str → Option Value) (base : Heap) (kc : Nat) : Sp := fun vs H Q _ => ∃ (f : Addr) (L : Lam) (Q1 : VK) (E1 : XK) (M : List Addr), vs = [.ref f] ∧ H f = some (LamO f L) ∧ Calls P w K mg base kc f H Q1 E1 ∧ (∀ v H', Q1 v H' → Q v H') ∧
  ∀ cls d H', E1 cls d H' → ∃ D i, cls = .ref D ∧ d = none ∧ Kinds K mg D i ∧ (∀ a ∈ M, ∃ o, H' a = some o) ∧ ∀ v H2, Ex H' H2 → Dv K (cut M H2) v (.tuple [.str (kWord i), .int 0]) → Q v H2
end DV
namespace DV
open PySem PySem.Spec L2 Evl LamX NdefX
open PyProof.Rows hiding St cutD
/-! a list of functions that is walked -/
def itR (fs : List Addr) (i : Nat) : Sl := match fs[i]? with
  | some f => .raw (.ref f)
  | none => .any
section
variable {S : Type} {X : Cx} {M : List Addr} {R : S → Hp → Prop} {ρ : List Sl} {s s1 : S} {e tg : Expr}
theorem i_refs {p : Addr} {fs : List Addr} (hS : ∀ H', R s1 H' → cut M H' p = some (.lst (fs.map V.ref))) (h : Ev1 X M R ρ e s (.raw (.ref p)) s1) : EvI1 X M R ρ tg e s fs.length (itR fs) s1 := by
  refine ⟨_, pi_list pe_w, fun σ H k hσ hR q => ?_⟩
  refine h σ H _ hσ hR fun v H1 e1 R1 d1 => ?_
  have d1 : v = .ref p := d1
  subst d1
  refine ⟨p, rfl, ⟨_, sq_of (ex_cut _ _ (hS H1 R1))⟩, q _ H1 e1 R1 ⟨fun H => SqL X.K H p (fs.map V.ref), fun H2 e2 => sq_of (ex_cut _ _ (e2 _ _ (hS H1 R1))), ?_⟩⟩
  have l : (fs.map V.ref).length = fs.length := List.length_map _
  rw [← l]
  refine walk_list.mono (fun _ h => h) fun i H2 x H' _ _ ⟨e, hx⟩ M' em dm e2 => ?_
  subst e
  refine ⟨exId _, ?_⟩
  rw [List.getElem?_map] at hx
  unfold itR
  cases hf : fs[i]? with
  | none => rw [hf] at hx; cases hx
  | some f =>
    rw [hf] at hx
    exact (Option.some.inj hx).symm
end
/-- told of functions that all raise an error of the class D -/
def spAll (P : Program) (w : World) (K : PySem.W.Frag) (mg : Str → Option Value) (base : Heap) (kc : Nat) : Sp := fun vs H Q _ => ∃ (M : List Addr) (pl : Addr) (v : V) (fs : List Addr) (i : Nat) (D : Addr), vs = [.ref pl, v] ∧ (∀ a ∈ M, ∃ o, H a = some o) ∧ cut M H pl = some (.lst (fs.map V.ref)) ∧ Kinds K mg D i ∧
  Dv K (cut M H) v (.tuple [.str (kWord i), .int 0]) ∧ (∀ f ∈ fs, (∃ L, H f = some (LamO f L)) ∧ ∀ H', Ex H H' → Calls P w K mg base kc f H' (fun _ _ => False) (fun cls d H2 => cls = .ref D ∧ d = none ∧ Ex H' H2)) ∧
  ∀ H', Ex H H' → Q (.bl true) H'
end DV
namespace DV
open PySem PySem.Spec L2 Evl LamX NdefX
open PyProof.Rows hiding St cutD
/-! ### slots forgotten -/
def onlyR : Nat → List Sl → List Sl
  | _, [] => []
  | 0, r :: ρ => r :: ρ.map fun _ => .any
  | n + 1, _ :: ρ => .any :: onlyR n ρ
theorem slots_none {K : PySem.W.Frag} {H : Hp} : ∀ {σ : St} {ρ : List Sl}, Slots K H σ ρ → Slots K H σ (ρ.map fun _ => Sl.any)
  | [], [], _ => trivial
  | _ :: _, _ :: _, ⟨_, b⟩ => ⟨trivial, slots_none b⟩
  | [], _ :: _, h => h.elim
  | _ :: _, [], h => h.elim
theorem slots_only {K : PySem.W.Frag} {H : Hp} : ∀ {σ : St} {ρ : List Sl} (n : Nat), Slots K H σ ρ → Slots K H σ (onlyR n ρ)
  | [], [], n, _ => by cases n <;> exact trivial
  | _ :: _, _ :: _, 0, ⟨a, b⟩ => ⟨a, slots_none b⟩
  | _ :: _, _ :: _, n + 1, ⟨_, b⟩ => ⟨trivial, slots_only n b⟩
  | [], _ :: _, _, h => h.elim
  | _ :: _, [], _, h => h.elim
/-! ### a maker's state: a box, a table of code objects -/
structure LawR (M : List Addr) (R : Bx → Hp → Prop) (b l T : Addr) (q : Str) : Prop where
  g : Rg M R
  box : BoxIn M R b l id fun _ t => t
  mT : T ∈ M
  tab : ∀ {st H}, R st H → TabS H T q
  to : ∀ {st H H'}, R st H → ExP T H H' → TabS H' T q → R st H'
  out : ∀ {st H a}, R st H → a ∈ M → (∃ xs, H a = some (.lst xs)) ∨ ∃ ps, H a = some (.tbl ps)
theorem exP_cut {M : List Addr} {T : Addr} {H H' : Hp} (m : T ∈ M) (e : ExP T H H') : Ex (cut M H) (cut M H') := fun a o ha => by
  obtain ⟨n, ha⟩ := cut_some ha
  rw [cut_out n]
  exact e a o (fun z => n (by rw [z]; exact m)) ha
theorem LawR.rx {M : List Addr} {R : Bx → Hp → Prop} {b l T : Addr} {q : Str} (L : LawR M R b l T q) (H1 : Hp) : LawR M (RX R M H1) b l T q :=
  ⟨RX.rg L.g H1, L.box.rx H1, L.mT, fun h => L.tab h.1, fun h e t => ⟨L.to h.1 e t, h.2.trans (exP_cut L.mT e)⟩, fun h m => L.out h.1 m⟩
theorem LawR.cut_ext {M : List Addr} {R : Bx → Hp → Prop} {b l T : Addr} {q : Str} (L : LawR M R b l T q) {st : Bx} {H : Hp} {a : Addr} {φ : Heap → Prop} (h : R st H) (e : H a = some (.ext φ)) : cut M H a = some (.ext φ) := by
  have n : a ∉ M := fun m => by
    rcases L.out h m with ⟨_, z⟩ | ⟨_, z⟩ <;> rw [e] at z <;> cases z
  rw [cut_out n, e]
theorem LawR.cut_tup {M : List Addr} {R : Bx → Hp → Prop} {b l T : Addr} {q : Str} (L : LawR M R b l T q) {st : Bx} {H : Hp} {a : Addr} {xs : List V} (h : R st H) (e : H a = some (.tup xs)) : cut M H a = some (.tup xs) := by
  have n : a ∉ M := fun m => by
    rcases L.out h m with ⟨_, z⟩ | ⟨_, z⟩ <;> rw [e] at z <;> cases z
  rw [cut_out n, e]
theorem tabS_but {H H' : Hp} {P : Addr} {q : Str} (h : TabS H P q) (e : ∀ a o, H a = some o → (∀ xs, o ≠ .lst xs) → H' a = some o) : TabS H' P q := by
  obtain ⟨ps, h1, h2, h3⟩ := h
  refine ⟨ps, e _ _ h1 (fun xs z => by cases z), h2, fun pos cv hc => ?_⟩
  obtain ⟨c, e1, e2⟩ := h3 pos cv hc
  exact ⟨c, e1, e _ _ e2 fun xs z => by unfold CodeO at z; cases z⟩
/-- the law's own R -/
def RLaw (b l T : Addr) (q : Str) : Bx → Hp → Prop := fun st H => BoxAt b l st H ∧ TabS H T q
theorem lawR {b l T : Addr} {q : Str} (hb : b ≠ T) (hl : l ≠ T) : LawR [b, l, T] (RLaw b l T q) b l T q where
  g := ⟨fun h e => ⟨h.1.ex e, h.2.ext e⟩, fun {st H a} h m => by
    simp only [List.mem_cons, List.not_mem_nil, or_false] at m
    rcases m with rfl | rfl | rfl
    · exact ⟨_, h.1.1⟩
    · exact ⟨_, h.1.2⟩
    · obtain ⟨ps, e, _⟩ := h.2
      exact ⟨_, e⟩⟩
  box := ⟨by simp, by simp, fun h => h.1, fun {s H H' st} h e bx => ⟨bx, tabS_but h.2 fun a o ha hn => by
    have n : a ∉ [b, l] := fun m => by
      simp only [List.mem_cons, List.not_mem_nil, or_false] at m
      rcases m with rfl | rfl
      · rw [h.1.1] at ha
        exact hn _ (Option.some.inj ha).symm
      · rw [h.1.2] at ha
        exact hn _ (Option.some.inj ha).symm
    have := e a o (by rw [cut_out n]; exact ha)
    rw [cut_out n] at this
    exact this⟩⟩
  mT := by simp
  tab := fun h => h.2
  to := fun h e t => ⟨⟨e _ _ hb h.1.1, e _ _ hl h.1.2⟩, t⟩
  out := fun {st H a} h m => by
    simp only [List.mem_cons, List.not_mem_nil, or_false] at m
    rcases m with rfl | rfl | rfl
    · exact .inl ⟨_, h.1.1⟩
    · exact .inl ⟨_, h.1.2⟩
    · obtain ⟨ps, e, _⟩ := h.2
      exact .inr ⟨_, e⟩
section
variable {X : Cx} {M : List Addr} {R : Bx → Hp → Prop} {b l c T : Addr} {st : Bx} {σ : L2.St} {H : Hp} {Q : VK} {params : Arguments} {body : Expr} {scope : Scope} {pos : Pos}
theorem LawR.lam0 (L : LawR M R b l T (X.env.qual ++ "<lambda>")) (B : LamB X c T scope) (hd : params.defaults = []) (hk : params.kw_defaults = []) (hR : R st H)
    (h : ∀ (f c' : Addr) (H1 : Hp), Ex (cut M H) (cut M H1) → R st H1 → cut M H1 f = some (LamO f ⟨X.env.qual ++ "<lambda>", params, body, scope, cloFrom X.env.cells scope.names [], c', .none⟩) → cut M H1 c' = some (CodeO c' (X.env.qual ++ "<lambda>")) → Q (.ref f) H1) :
    wE X (.Lambda params body scope pos) σ H Q :=
  w_lam0 B hd hk (L.tab hR) fun f c' H1 eE T1 nf hf hc => by
    have R1 := L.to hR eE T1
    exact h f c' H1 (exP_cut L.mT eE) R1 (L.cut_ext R1 hf) (L.cut_ext R1 hc)
theorem LawR.lam1 {i : Int} {j : Nat} {p1 : Pos} (L : LawR M R b l T (X.env.qual ++ "<lambda>")) (B : LamB X c T scope) (hd : params.defaults = [.Constant (.int i) j p1]) (hk : params.kw_defaults = []) (hR : R st H)
    (h : ∀ (f c' D : Addr) (H1 : Hp), Ex (cut M H) (cut M H1) → R st H1 → cut M H1 f = some (LamO f ⟨X.env.qual ++ "<lambda>", params, body, scope, cloFrom X.env.cells scope.names [], c', .ref D⟩) → cut M H1 c' = some (CodeO c' (X.env.qual ++ "<lambda>")) →
      cut M H1 D = some (.tup [.int i]) → Q (.ref f) H1) : wE X (.Lambda params body scope pos) σ H Q :=
  w_lam1 B hd hk (L.tab hR) fun f c' D H1 eE T1 nf hf hc ht => by
    have R1 := L.to hR eE T1
    exact h f c' D H1 (exP_cut L.mT eE) R1 (L.cut_ext R1 hf) (L.cut_ext R1 hc) (L.cut_tup R1 ht)
end
/-! ### lambdas that raise -/
/-- at f, known in h: called while the cells of ys are told, an error of the class D -/
def LamGood (X : Cx) (σ : L2.St) (ys : List (Nat × Str)) (D f : Addr) (h : Hp) : Prop := (∃ L, h f = some (LamO f L)) ∧
  ∀ (σ' : L2.St) (H1 : Hp) (G : Addr → Option HO) (H' : Hp), (∀ p ∈ ys, σ'[p.1]? = σ[p.1]?) → Shown X σ' H1 ys G → Ex h H1 → Ex (ov G H1) H' → Calls X.prog X.w X.K X.mg X.base 5 f H' (fun _ _ => False) (fun cls d H2 => cls = .ref D ∧ d = none ∧ Ex H' H2)
theorem LamGood.ex {X : Cx} {σ : L2.St} {ys : List (Nat × Str)} {D f : Addr} {h h' : Hp} (g : LamGood X σ ys D f h) (e : Ex h h') : LamGood X σ ys D f h' := by
  obtain ⟨⟨L, hL⟩, k⟩ := g
  exact ⟨⟨L, e _ _ hL⟩, fun σ' H1 G H' a sh e1 e2 => k σ' H1 G H' a sh (e.trans e1) e2⟩
theorem LamGood.slots {X : Cx} {σ σ2 : L2.St} {ys : List (Nat × Str)} {D f : Addr} {h : Hp} (g : LamGood X σ ys D f h) (e : ∀ p ∈ ys, σ2[p.1]? = σ[p.1]?) : LamGood X σ2 ys D f h := by
  obtain ⟨hL, k⟩ := g
  exact ⟨hL, fun σ' H1 G H' a sh e1 e2 => k σ' H1 G H' (fun p hp => (a p hp).trans (e p hp)) sh e1 e2⟩
section
variable {X : Cx} {σ : L2.St} {ys : List (Nat × Str)} {D f c : Addr} {h : Hp} {L : Lam} {N ps fr : List Str} {js : List Nat} {vs : List V} {x : Str} {e : Expr} {es : List Expr} {px pos : Pos} {G2 : List Sl → Out → Prop} {rs ρ : List Sl}
theorem lam_er (hL : h f = some (LamO f L)) (hc : h L.c = some (CodeO L.c L.qual)) (hcl : L.cl = cloFrom X.env.cells L.scope.names []) (hfree : ∀ y ∈ L.scope.names, y.2 = .free → X.env.scope.names.lookup y.1 = some .cell ∨ X.env.scope.names.lookup y.1 = some .free)
    (S : NScope N ps fr L.scope) (hl : vs.length = ps.length) (hjs : js.length = fr.length) (hys : ∀ (i : Nat) (y : Str), fr[i]? = some y → ∃ j, js[i]? = some j ∧ (j, y) ∈ ys)
    (hb : ∀ (H' : Hp) (s : Shared), Ex h H' → HOk X.prog X.w H' s.heap → ∃ us, Vals vs us ∧ ∀ doc pm ctv, BindsTo s (L.fd doc pm ctv) ⟨[], []⟩ (ps.zip us))
    (hbody : L.body = .Call (.Name x px) (e :: es) [] pos) (cd : Cal X.prog X.w X.K X.mg X.base x 4 (DV.spS X.K G2)) (hG : G2 rs (.er (.ref D))) (hσ : ∀ Hx, Ex h Hx → Slots X.K Hx (startF N vs (js.map (slotAt σ))) ρ)
    (hgl : ∀ A outer s Hx E', Gl (ncx (L2.CX X.prog X.w) X.prog X.w X.K X.mg X.base N L.nf f A outer s Hx E') x)
    (ha : ∀ A outer s Hx E', EvA1 (ncx (L2.CX X.prog X.w) X.prog X.w X.K X.mg X.base N L.nf f A outer s Hx E') [] (fun (_ : Unit) H'' => Ex Hx H'') ρ (e :: es) () rs ())
    (hdb : (x == ("__debug__" : Str)) = false) (he : ∀ env, starEach (e :: es) env = (false, eval e env) :: starEach es env) (hpl : ∀ env, (backTo pos (starEach es env)).any (·.1) = false) : LamGood X σ ys D f h := by
  refine ⟨⟨L, hL⟩, fun σ' H1 G H' hag sh e1 e2 => ?_⟩
  have hfr : ∀ y ∈ L.scope.names, y.2 = .free → ∃ c, X.env.cells.lookup y.1 = some c := fun y hy k => (hfree y hy k).elim (fun z => sh.ok.has _ (.inl z)) fun z => sh.ok.has _ (.inr z)
  have e3 : Ex h H' := e1.trans ((ex_ov sh.free).trans e2)
  have hit : ∀ (i : Nat) (y : Str), fr[i]? = some y → ∃ c o v j, L.cl.lookup y = some c ∧ js[i]? = some j ∧ σ[j]? = some (some v) ∧ H' c = some (CellF o v) ∧ G c = some (CellF o v) := fun i y hi => by
    obtain ⟨j, hj, hm⟩ := hys i y hi
    obtain ⟨c, o, v, k1, k2, k3⟩ := sh.at_ j y hm
    have hy : (y, NameKind.free) ∈ L.scope.names := PySem.mem_of_lookup (S.frk y (List.mem_of_getElem? hi))
    refine ⟨c, o, v, j, ?_, hj, ?_, e2 _ _ (ov_some k3), k3⟩
    · rw [hcl]
      exact clo_has hfr hy k1
    · rw [← hag (j, y) hm]
      exact k2
  have only : ∀ p ∈ L.cl, ∃ i : Nat, fr[i]? = some p.1 ∧ L.cl.lookup p.1 = some p.2 := fun p hp => by
    rw [hcl] at hp
    rcases cloFrom_mem (n := p.1) (c := p.2) hp with z | ⟨z1, z2⟩
    · cases z
    · obtain ⟨i, hi⟩ := List.mem_iff_getElem?.mp (S.free _ z1 rfl)
      obtain ⟨c, hc⟩ := hfr _ z1 rfl
      have hc : X.env.cells.lookup p.1 = some c := hc
      refine ⟨i, hi, ?_⟩
      rw [hcl, z2, hc]
      exact clo_has hfr z1 hc
  have inj : ∀ x y c, L.cl.lookup x = some c → L.cl.lookup y = some c → x = y := fun x y c k1 k2 => by
    rw [hcl] at k1 k2
    exact sh.ok.inj x y c (clo_cm hfr k1) (clo_cm hfr k2)
  refine Calls.lam (k := 4) (N := N) (ps := ps) (fr := fr) (vs := vs) (ws := js.map (slotAt σ)) S (e3 _ _ hL) (e3 _ _ hc) hl (by rw [List.length_map]; exact hjs) (fun s hok => hb H' s e3 hok) (fun i y hi => ?_) only inj fun A outer s E' eE hr => ?_
  · obtain ⟨c, o, v, j, k1, k2, k3, k4, _⟩ := hit i y hi
    refine ⟨c, o, v, k1, ?_, k4⟩
    rw [List.getElem?_map, k2]
    show some (slotAt σ j) = _
    rw [slotAt_of k3]
  · rw [hbody]
    have eX : Ex h (un (capG L H') H') := fun a o hao => by
      have q := e3 a o hao
      have hn : capG L H' a = none := by
        unfold capG
        split
        · rename_i hm
          obtain ⟨p, hp, rfl⟩ := List.mem_map.mp hm
          obtain ⟨i, hi, hlk⟩ := only p hp
          obtain ⟨c, o', v, j, k1, _, _, _, k5⟩ := hit i p.1 hi
          rw [hlk] at k1
          cases k1
          have z := e1 _ _ hao
          rw [sh.free _ _ k5] at z
          cases z
        · rfl
      rw [un_none hn]
      exact q
    have tG : ∀ a ho, capG L H' a = some ho → H' a = some ho := fun a ho e => by
      unfold capG at e
      split at e
      · exact e
      · cases e
    refine x_call (M := []) (R := fun (_ : Unit) H'' => Ex (un (capG L H') H') H'') (s := ()) (s1 := ()) (rs := rs) (rg_pure fun a m => by cases m) cd hr (Nat.le_refl _) (hgl _ _ _ _ _) (passes_call (takes_of rfl rfl rfl rfl) fun _ _ _ _ h => h) hG (ha _ _ _ _ _) (by rw [cut_nil]; exact hσ _ eX) (exId _) (fun H2 _ R2 => ?_) hdb (he _) (hpl _)
    rw [eE]
    exact ⟨rfl, rfl, un_ex tG R2⟩
end
end DV
namespace DV
open PySem PySem.Spec L2 Evl LamX NdefX
open PyProof.Rows hiding St cutD
/-! ### if not _law_all(works, due): .. -/
section
variable {X : Cx} {M : List Addr} {R : Bx → Hp → Prop} {b l T : Addr} {q x : Str} {st : Bx} {σ : L2.St} {H : Hp} {e1 e2 : Expr} {rest bad : List Stmt} {px pos p1 p2 : Pos} {D : Ends} {ρ : List Sl} {j i : Nat} {C : Addr} {ys : List (Nat × Str)}
theorem b_all (L : LawR M R b l T q) (c : Cal X.prog X.w X.K X.mg X.base x 7 (spAll X.prog X.w X.K X.mg X.base 5)) (hr : Room j X.A) (hk : 7 ≤ j) (hg : Gl X x) (Kd : Kinds X.K X.mg C i) (hy : ∀ p ∈ ys, X.N[p.1]? = some p.2 ∧ X.env.scope.names.lookup p.2 = some .cell ∧ X.fn p.2 = true) (hys : ∀ p ∈ ys, ∃ v, σ[p.1]? = some (some v))
    (hσ : Slots X.K (cut M H) σ ρ) (hR : R st H)
    (h1 : ∀ Q : VK, (∀ (pl : Addr) (fs : List Addr) (H1 : Hp), Ex (cut M H) (cut M H1) → R st H1 → cut M H1 pl = some (.lst (fs.map V.ref)) → (∀ f ∈ fs, LamGood X σ ys C f (cut M H1)) → Q (.ref pl) H1) → wE X e1 σ H Q)
    (h2 : ∀ H1, Slots X.K (cut M H1) σ ρ → R st H1 → Ev1 X M R ρ e2 st (.dat (.tuple [.str (kWord i), .int 0])) st) (k : ∀ H1, Slots X.K (cut M H1) σ ρ → R st H1 → wB X rest D σ H1)
    (hdb : (x == ("__debug__" : Str)) = false := by decide) (he : starEach [e1, e2] X.env = (false, eval e1 X.env) :: starEach [e2] X.env := by rfl) (he2 : starEach [e2] X.env = (false, eval e2 X.env) :: starEach [] X.env := by rfl) (hpl : (backTo pos (starEach [e2] X.env)).any (·.1) = false := by rfl) :
    wB X (.If (.UnaryOp .Not (.Call (.Name x px) [e1, e2] [] pos) p1) bad [] p2 :: rest) D σ H := by
  refine b_if (wT_of (pt_not pt_w) (wT_of (pt_val pe_w fun whole => rfl) ?_))
  refine w_callG c hr hk hg ys hy hys (wA_of (pa_cons pe_w pa_w he) (h1 _ fun pl fs H1 x1 R1 hpl' hfs => wA_of (pa_cons pe_w pa_nil he2) ?_)) hdb he hpl
  refine h2 H1 (hσ.ex x1) R1 σ H1 _ (hσ.ex x1) R1 fun v2 H2 x2 R2 d2 => ?_
  intro G sh
  have eo := exCut (M := M) (ex_ov sh.free)
  refine ⟨M, pl, v2, fs, i, C, rfl, fun a m => ?_, eo _ _ (x2 _ _ hpl'), Kd, dp_ex eo _ _ d2, fun f hf => ?_, fun H' e' => ⟨true, rfl, ?_⟩⟩
  · obtain ⟨o, ho⟩ := L.g.dom R2 m
    exact ⟨o, ex_ov sh.free _ _ ho⟩
  · have g := (hfs f hf).ex x2
    obtain ⟨⟨Lf, hL⟩, gk⟩ := g
    exact ⟨⟨Lf, ex_ov sh.free _ _ (ex_cut _ _ hL)⟩, fun H' e' => gk σ H2 G H' (fun _ _ => rfl) sh ex_cut e'⟩
  · have e3 := ov_ex sh.free e'
    show (if (!true) = true then _ else wB X [] { D with nx := wB X rest D } σ (un G H'))
    rw [if_neg (by decide)]
    exact b_nil (k _ (hσ.ex (x1.trans (x2.trans (exCut e3)))) (L.g.up R2 e3))
end
/-! ### {k: v, k: v}.get(x, y), all of them texts -/
section
variable {S : Type} {X : Cx} {M : List Addr} {R : S → Hp → Prop} {ρ : List Sl} {s : S} {e f : Expr} {p1 p2 p3 p4 dp apos cpos : Pos}
theorem e_disp2 (g : Rg M R) {k1 v1 k2 v2 x y : Str} {j1 j2 j3 j4} (hu : X.A.units + 1 < cLine) (he : Ev1 X M R ρ e s (.dat (.str x)) s) (hf : Ev1 X M R ρ f s (.dat (.str y)) s) (hne : k1 ≠ k2)
    (m : M2 X (.Dict [some (.Constant (.str k1) j1 p1), some (.Constant (.str k2) j2 p2)] [.Constant (.str v1) j3 p3, .Constant (.str v2) j4 p4] dp) "get" apos e f cpos) :
    Ev1 X M R ρ (.Call (.Attribute (.Dict [some (.Constant (.str k1) j1 p1), some (.Constant (.str k2) j2 p2)] [.Constant (.str v1) j3 p3, .Constant (.str v2) j4 p4] dp) "get" apos) [e, f] [] cpos) s (.dat (.str (if k1 = x then v1 else if k2 = x then v2 else y))) s := by
  intro σ H Q hσ hR q
  refine wE_of (pe_dget2 hu pe_w pe_w pe_w m) ?_
  refine wE_of (pe_disp (pps_cons pe_str pe_str (pps_cons pe_str pe_str pps_nil)) rfl rfl (by simp) (by simp)) fun p hp => ?_
  refine ⟨upd_same, [(.inr k1, .str v1), (.inr k2, .str v2)], rfl, by simp, ?_⟩
  have hpM : p ∉ M := g.fresh hR hp
  have eH : Ex H (upd (upd H p (.dK [])) p (.dK (mergeK [] [(.inr k1, .str v1), (.inr k2, .str v2)]))) := fun a o ha => by
    have n : a ≠ p := fun z => by rw [z, hp] at ha; cases ha
    rw [upd_ne n, upd_ne n]
    exact ha
  have hm : mergeK [] [(.inr k1, .str v1), (.inr k2, .str v2)] = ([(.inr k1, .str v1), (.inr k2, .str v2)] : List (Key × V)) := by
    unfold mergeK
    simp [putK, hne]
  refine ⟨p, rfl, .inl ⟨_, .of upd_same⟩, ?_⟩
  refine he σ _ _ (hσ.ex (exCut eH)) (g.up hR eH) fun w1 H2 e2 R2 d2 => ?_
  refine hf σ H2 _ (hσ.ex ((exCut eH).trans e2)) R2 fun w2 H3 e3 R3 d3 => ?_
  rw [sv_str d2, sv_str d3]
  have hp3 : H3 p = some (.dK [(.inr k1, .str v1), (.inr k2, .str v2)]) := by
    rw [hm] at e2
    exact ex_cut _ _ (e3 _ _ (e2 _ _ (cut_upd hpM)))
  refine ⟨_, DGet.k (k := .inr x) hp3, ?_⟩
  have hv : (valV [((.inr k1 : Key), V.str v1), (.inr k2, .str v2)] (.inr x)).getD (.str y) = .str (if k1 = x then v1 else if k2 = x then v2 else y) := by
    by_cases a : k1 = x
    · rw [valV_pos (by rw [a]), if_pos a]; rfl
    · rw [valV_neg (fun z => a (Sum.inr.inj z)), if_neg a]
      by_cases b : k2 = x
      · rw [valV_pos (by rw [b]), if_pos b]; rfl
      · rw [valV_neg (fun z => b (Sum.inr.inj z)), if_neg b]; rfl
  rw [hv]
  exact q _ H3 ((exCut eH).trans (e2.trans e3)) R3 (.str _)
end
end DV
namespace DV
open PySem PySem.Spec L2 Evl LamX NdefX
open PyProof.Rows hiding St cutD
/-! ### sorting data -/
abbrev IsD (K : PySem.W.Frag) (H : Hp) : Value → PyData → Prop := fun u d => ∃ x, RelV x u ∧ Dv K H x d
theorem each_of {K : PySem.W.Frag} {H : Hp} : ∀ {ds : List PyData} {vs : List V} {us : List Value}, Vals vs us → DvAll K H vs ds → PySem.W.EachIs (DV.IsD K H) us ds
  | [], _, _, r, h => by
    cases h
    cases r
    exact .nil
  | d :: ds, _, _, r, h => by
    cases h with
    | cons a b =>
      cases r with
      | cons p q => exact .cons ⟨_, p, a⟩ (each_of q b)
theorem each_back {K : PySem.W.Frag} {H : Hp} : ∀ {ds : List PyData} {us : List Value}, PySem.W.EachIs (DV.IsD K H) us ds → ∃ vs, Vals vs us ∧ DvAll K H vs ds
  | _, _, .nil => ⟨[], .nil, .nil⟩
  | _, _, .cons ⟨x, p, a⟩ t => by
    obtain ⟨vs, q, b⟩ := each_back t
    exact ⟨x :: vs, .cons p q, .cons a b⟩
def depthLe (n : Nat) (ds : List PyData) : Prop := ∀ d ∈ ds, d.depth ≤ n
def rSortedD (K : PySem.W.Frag) : List V → Hp → VK → Prop := fun vs H Q => ∃ (M : List Addr) (a : Addr) (xs : List V) (ds : List PyData), vs = [.ref a] ∧ SqL K H a xs ∧ DvAll K (cut M H) xs ds ∧ PySem.W.AllAlike ds ∧ PySem.W.Sortable ds ∧ depthLe 60 ds ∧
  ∀ ys p, DvAll K (cut M H) ys (ds.mergeSort (PySem.W.dataLe false id)) → H p = none → Q (.ref p) (upd H p (.lst ys))
theorem cr_sortedD {X : Cx} (hu : X.A.units + 64 < cLine) : CallR X (.builtin "sorted") (rSortedD X.K) := by
  intro pins s σ H vs us Q I r h
  obtain ⟨M, a, xs, ds, rfl, hs, hd, hal, hk, hdp, q⟩ := h
  obtain ⟨its, rv, hl, hz⟩ := I.list hs
  rw [Vals.ref1 r]
  have e := each_of rv hd
  have hlen : its.length = ds.length := e.length
  have er : PySem.W.EachIs (fun v b => ∃ as, Reads s.heap v (id b) as) its ds := e.mono fun v d ⟨x, rx, dx⟩ => Dp.reads I d x v (dv_dp _ _ (dp_ex ex_cut _ _ dx)) rx
  have hz' : ds.length ≤ sizeLine := by rw [← hlen, ← rv.length]; exact hz
  refine PySem.W.sorted_data (enc := id) hl.isList e er (by rw [List.map_id]; exact hal) (by rw [List.map_id]; exact hk) hz' (fun d hd => ?_) fun out ho eo => ?_
  · have := hdp d hd
    show X.A.units + 2 + d.depth < cLine
    omega
  · obtain ⟨ys, ry, dy⟩ := each_back eo
    obtain ⟨ep, he'⟩ := PyProof.Rows.sortedAll_at s.heap its out.toArray
    have hly : ys.length ≤ sizeLine := by
      rw [dpa_length dy, List.length_mergeSort]
      exact hz'
    exact ⟨.ref _, upd H (s.heap.objs.size + 1) (.lst ys), I.laid (t' := s.toks) (fun _ _ => PyProof.Rows.sortedAll_old) (Nat.le_succ _) ⟨hly, out, ep, ry, he'⟩, rfl, q ys _ dy (I.hok.fresh (Nat.le_succ _))⟩
section
variable {S : Type} {X : Cx} {M : List Addr} {R : S → Hp → Prop} {ρ : List Sl} {s s1 : S} {e : Expr} {px pos : Pos}
theorem boot_sorted : bootBuiltins "sorted" = some (.builtin "sorted") := by decide +kernel
theorem e_sortedD (g : Rg M R) {ds : List PyData} (hu : X.A.units + 64 < cLine) (hal : PySem.W.AllAlike ds) (hk : PySem.W.Sortable ds) (hdp : depthLe 60 ds) (hg : Gl X "sorted") (hm : X.mg "sorted" = none) (ha : EvA1 X M R ρ [e] s [.dat (.list ds)] s1)
    (he : starEach [e] X.env = (false, eval e X.env) :: starEach [] X.env := by rfl) (hpl : (backTo pos (starEach [] X.env)).any (·.1) = false := by rfl) :
    Ev1 X M R ρ (.Call (.Name "sorted" px) [e] [] pos) s (.dat (.list (ds.mergeSort (PySem.W.dataLe false id)))) s1 :=
  e_callB (cr_sortedD hu) hg hm boot_sorted ha (fun vs H Q h hR q => by
    obtain ⟨v, rfl, h1⟩ := svall1 h
    obtain ⟨p, xs, rfl, hp, hd⟩ := sv_lst h1
    exact ⟨M, p, xs, ds, rfl, sq_of (ex_cut _ _ hp), hd, hal, hk, hdp, fun ys p' hy n => new_lst g hR n hy q⟩) (by decide) (by decide) he hpl
/-! max of ints -/
def maxI : List Int → Int
  | [] => 0
  | n :: ns => ns.foldl max n
def rMaxI (K : PySem.W.Frag) : List V → Hp → VK → Prop := fun vs H Q => ∃ (a : Addr) (ns : List Int), vs = [.ref a] ∧ SqL K H a (ns.map V.int) ∧ ns ≠ [] ∧ Q (.int (maxI ns)) H
theorem alike_intsA (ns : List Int) : PySem.W.AlikeAll (ns.map .int) := by
  refine ⟨fun x hx y hy => ?_, fun x hx => ?_⟩
  · obtain ⟨i, _, rfl⟩ := List.mem_map.mp hx
    obtain ⟨j, _, rfl⟩ := List.mem_map.mp hy
    rfl
  · obtain ⟨i, _, rfl⟩ := List.mem_map.mp hx
    exact fun h => by cases h
theorem reads_ints {h : Heap} : ∀ {ns : List Int} {us : List Value}, Vals (ns.map V.int) us → ∃ as, ReadsAll h us (ns.map .int) as
  | [], _, r => by
    cases r
    exact ⟨[], .nil⟩
  | n :: ns, _, r => by
    cases r with
    | cons p q =>
      obtain ⟨t, rfl⟩ := p
      obtain ⟨as, ra⟩ := reads_ints (h := h) q
      exact ⟨_, .cons (.int n t) ra⟩
theorem depth_dI (ns : List Int) : PyData.depthAll (ns.map .int) = 0 := depth_ints ns
theorem reads_int {h : Heap} {v : Value} {i : Int} {bs : List Addr} (r : Reads h v (.int i) bs) : RelV (.int i) v := by
  cases r with
  | int i t => exact ⟨t, rfl⟩
theorem call_maxI (hc : X.calm = true) (hu : X.A.units + 64 < cLine) : CallR X (.builtin "max") (rMaxI X.K) := by
  intro pins s σ H vs us Q I r h
  obtain ⟨a, ns, rfl, hs, hne, q⟩ := h
  obtain ⟨its, rv, hl, _⟩ := I.list hs
  rw [Vals.ref1 r]
  cases ns with
  | nil => exact absurd rfl hne
  | cons n ns =>
    obtain ⟨as, ra⟩ := reads_ints (h := s.heap) rv
    refine PySem.W.max_list_data (vs := its.toArray) (x := .int n) (xs := ns.map .int) (I.ok.hd hc) hl.isList ra (alike_intsA (n :: ns)) ?_ fun i v h' tk bs _ rd hk => ?_
    · have := depth_dI (n :: ns)
      rw [show PyData.depthAll (.int n :: ns.map .int) = 0 from this]
      omega
    · rw [PySem.W.maxD_ints] at rd
      exact ⟨.int _, H, I.kept hk, reads_int rd, q⟩
theorem e_maxI (hc : X.calm = true) (hu : X.A.units + 64 < cLine) {ns : List Int} (hne : ns ≠ []) (hg : Gl X "max") (hm : X.mg "max" = none) (ha : EvA1 X M R ρ [e] s [.dat (.list (dI ns))] s1)
    (he : starEach [e] X.env = (false, eval e X.env) :: starEach [] X.env := by rfl) (hpl : (backTo pos (starEach [] X.env)).any (·.1) = false := by rfl) : Ev1 X M R ρ (.Call (.Name "max" px) [e] [] pos) s (.dat (.int (maxI ns))) s1 :=
  e_callB (call_maxI hc hu) hg hm boot_max ha (fun vs H Q h hR q => by
    obtain ⟨v, rfl, h1⟩ := svall1 h
    obtain ⟨p, xs, rfl, hp, hd⟩ := sv_lst h1
    rw [dpa_ints hd] at hp
    exact ⟨p, ns, rfl, sq_of (ex_cut _ _ hp), hne, q _ H (exId _) hR (.int _)⟩) (by decide) (by decide) he hpl
/-- max(.., default=None) -/
def maxN : List Int → PyData
  | [] => .none
  | n :: ns => .int (maxI (n :: ns))
def vN : PyData → V
  | .int i => .int i
  | _ => .non
def rMaxN (K : PySem.W.Frag) : List V → List V → Hp → VK → Prop := fun vs zs H Q => ∃ (a : Addr) (ns : List Int), vs = [.ref a] ∧ zs = [.non] ∧ SqL K H a (ns.map V.int) ∧ Q (vN (maxN ns)) H
theorem call_maxN (hc : X.calm = true) (hu : X.A.units + 64 < cLine) : CallRK X (.builtin "max") [Str.ofString "default"] (rMaxN X.K) := by
  intro pins s σ H vs zs us ws Q I r rz h
  obtain ⟨a, ns, rfl, rfl, hs, q⟩ := h
  obtain ⟨its, rv, hl, _⟩ := I.list hs
  rw [Vals.ref1 r]
  cases rz with
  | cons p t =>
    cases t
    have p : _ = Value.none := p
    subst p
    obtain ⟨as, ra⟩ := reads_ints (h := s.heap) rv
    refine PySem.W.max_list_default (vs := its.toArray) (xs := ns.map .int) (I.ok.hd hc) hl.isList ra (alike_intsA ns) ?_ (fun h0 h' tk hk => ?_) fun y ys i v h' tk bs e _ rd hk => ?_
    · rw [depth_dI]
      omega
    · cases ns with
      | nil => exact ⟨.non, H, I.kept hk, rfl, q⟩
      | cons n ns => cases h0
    · cases ns with
      | nil => cases e
      | cons n ns =>
        cases e
        rw [PySem.W.maxD_ints] at rd
        exact ⟨.int _, H, I.kept hk, reads_int rd, q⟩
theorem dv_maxN {K : PySem.W.Frag} {H : Hp} (ns : List Int) : Dv K H (vN (maxN ns)) (maxN ns) := by
  cases ns with
  | nil => exact .non
  | cons n ns => exact .int _
end
end DV
namespace DV
open PySem PySem.Spec L2 Evl LamX NdefX
open PyProof.Rows hiding St cutD
/-! ### return (p[a], p[b]): the call leaves all that was -/
structure KeyTxt (mg : Str → Option Value) (st : Stmt) (p : Str) (i j : Int) : Prop where
  ex : ∃ (a b : Str) (q1 q2 q3 q4 q5 q6 tp rp : Pos) (tk : Nat), defBody st = [.Return (some (.Tuple [.Subscript (.Name p q1) (.Name a q2) q3, .Subscript (.Name p q4) (.Name b q5) q6] tk tp)) rp] ∧ (defScope st).names.lookup p = some .local ∧ (defScope st).names.lookup a = some .globalImplicit ∧
    (defScope st).names.lookup b = some .globalImplicit ∧ (p == ("__debug__" : Str)) = false ∧ (a == ("__debug__" : Str)) = false ∧ (b == ("__debug__" : Str)) = false ∧ (∃ t, mg a = some (.int i t)) ∧ ∃ t, mg b = some (.int j t)
/-- what such a call is: exact -/
def KeyRunX (P : Program) (w : World) (K : PySem.W.Frag) (mg : Str → Option Value) (f : Addr) (i j : Int) : Prop :=
  ∀ (A : Around) (s : Shared) (T : Addr) (its : Array Value) (ki kj : Nat) (u v : Value) (Q E : Value → Shared → Prop), K.In s.heap → s.heap.Ns mainGlobals mg → s.heap.NoLimit → A.depth < recursionLimit → IsTup s.heap T its → -(2 ^ 63) ≤ i → i < 2 ^ 63 → -(2 ^ 63) ≤ j → j < 2 ^ 63 →
    seqIndex? i its.size = some ki → its[ki]? = some u → seqIndex? j its.size = some kj → its[kj]? = some v →
    (∀ h' tk T', (∀ b o, s.heap.get? b = some o → h'.get? b = some o) → s.heap.get? T' = none → IsTup h' T' #[u, v] → Q (.ref T') { s with heap := h', toks := tk }) → wpAny (model P w) A (call (.ref f) [.ref T]) Q E s
theorem key_run {P : Program} {w : World} {K : PySem.W.Frag} {mg : Str → Option Value} {x : Str} {st : Stmt} {p : Str} {f : Addr} {fd : FuncData} {i j : Int} (Fn : L2.Fun K x x st f fd) (S : FnScope [p] [p] (defScope st)) (hb : ∀ (s : Shared) (u : Value), BindsTo s fd ⟨[u], []⟩ [(p, u)]) (t : KeyTxt mg st p i j) :
    KeyRunX P w K mg f i j := by
  intro A s T its ki kj u v Q E KX G lim hd hT i1 i2 j1 j2 hi hu hj hv q
  obtain ⟨a, b, q1, q2, q3, q4, q5, q6, tp, rp, tk, eb, lp, la, lb, dp, da, db, ⟨ta, ma⟩, ⟨tb, mb⟩⟩ := t
  obtain ⟨oc, od, kV, doc, pm, an, cdv, ct, osl, rfl, lk, hcd⟩ := Fn.ex
  refine wpAny_call ?_
  refine codeAny_call_function hd (KX _ _ lk) rfl S.co S.gen rfl (PySem.W.codeRec_of KX hcd) (hb _ _ _ _ _ _ ?_)
  refine wpAny_newFunctionEnv_cells S.kind (fun y hy => ?_) fun env he s1 xx => ?_
  · have : y = (p, .ref T) := by simpa using hy
    rw [this]
    exact .inl lp
  subst he
  refine ⟨lim.keeps xx.toInCall.keep, codeAny_func ?_⟩
  rw [eb]
  have k1 := xx.toInCall.keep
  obtain ⟨h1, tk1, e1⟩ := xx.toInCall.same
  have hput : (bindL (newEnv (defScope st) s.heap.objs.size mainGlobals (cellsFrom (s.heap.objs.size + 1) (defScope st).names []) (x ++ ".<locals>.") (some f) cdv none builtinsNs).kindOf [(p, Value.ref T)] fun _ => none) p = some (.ref T) := by
    unfold bindL bindL
    have : ((newEnv (defScope st) s.heap.objs.size mainGlobals (cellsFrom (s.heap.objs.size + 1) (defScope st).names []) (x ++ ".<locals>.") (some f) cdv none builtinsNs).kindOf p) = some .local := lp
    simp [this]
  have nm : ∀ {pos : Pos} {Q' E' : Value → Shared → Prop}, Q' (.ref T) s1 → wpAny (model P w) (A.deeper (newEnv (defScope st) s.heap.objs.size mainGlobals (cellsFrom (s.heap.objs.size + 1) (defScope st).names []) (x ++ ".<locals>.") (some f) cdv none builtinsNs)) (eval (.Name p pos) (newEnv (defScope st) s.heap.objs.size mainGlobals (cellsFrom (s.heap.objs.size + 1) (defScope st).names []) (x ++ ".<locals>.") (some f) cdv none builtinsNs)) Q' E' s1 := fun {pos Q' E'} h =>
    wpAny_Name (wpAny_loadName_local S.kind lp xx.toInCall.ns hput h) dp
  have gl : ∀ {y : Str} {t : Tok} {k : Int} {pos : Pos} {Q' E' : Value → Shared → Prop}, (defScope st).names.lookup y = some .globalImplicit → (y == ("__debug__" : Str)) = false → mg y = some (.int k t) → Q' (.int k t) s1 →
      wpAny (model P w) (A.deeper (newEnv (defScope st) s.heap.objs.size mainGlobals (cellsFrom (s.heap.objs.size + 1) (defScope st).names []) (x ++ ".<locals>.") (some f) cdv none builtinsNs)) (eval (.Name y pos) (newEnv (defScope st) s.heap.objs.size mainGlobals (cellsFrom (s.heap.objs.size + 1) (defScope st).names []) (x ++ ".<locals>.") (some f) cdv none builtinsNs)) Q' E' s1 :=
    fun {y t k pos Q' E'} hg hdb hm h => Calls.Name_function_global S.kind hg (Calls.loadGlobal_global (G.keeps k1) hm h) hdb
  have hT1 : IsTup s1.heap T its := hT.keeps k1
  refine wpAny_execs_cons (wpAny_Return_some (wpAny_Tuple_spliced ?_))
  show wpAny _ _ (spliced ((false, eval (.Subscript (.Name p q1) (.Name a q2) q3) _) :: (false, eval (.Subscript (.Name p q4) (.Name b q5) q6) _) :: [])) _ _ s1
  refine Calls.spliced_cons (Subscript_ (nm (gl la da ma ?_)))
  refine subscriptTail_builtinR (x := u) hT1.typeIs slot_tuple_getitem.lookup (getItem_tuple hT1 i1 i2 hi hu ⟨rfl, ?_⟩) rfl
  refine Calls.spliced_cons (Subscript_ (nm (gl lb db mb ?_)))
  refine subscriptTail_builtinR (x := v) hT1.typeIs slot_tuple_getitem.lookup (getItem_tuple hT1 j1 j2 hj hv ⟨rfl, ?_⟩) rfl
  refine Calls.spliced_nil ⟨(by decide : 2 ≤ sizeLine), ?_⟩
  subst e1
  have fr : s.heap.get? h1.objs.size = none := by
    cases z : s.heap.get? h1.objs.size with
    | none => rfl
    | some o => exact absurd (Heap.lt_size (k1 _ _ z)) (Nat.lt_irrefl _)
  exact q _ tk1 _ (fun b o e => Heap.get?_push_of_some _ (k1 b o e)) fr ⟨_, Heap.get?_push_size _ rfl, rfl, _, rfl⟩
end DV
namespace DV
open PySem PySem.Spec L2 Evl LamX NdefX
open PyProof.Rows hiding St cutD
/-! ### sorted, max by such a key -/
def KeyOk (i j : Nat) (d : PyData) : Prop := ∃ (xs : List PyData) (a b : Int), d = .tuple xs ∧ xs[i]? = some (.int a) ∧ xs[j]? = some (.int b)
def keyD (i j : Nat) : PyData → PyData
  | .tuple xs => .tuple [xs.getD i .none, xs.getD j .none]
  | _ => .none
theorem key_is {i j : Nat} {d : PyData} (h : KeyOk i j d) : ∃ a b : Int, keyD i j d = .tuple [.int a, .int b] := by
  obtain ⟨xs, a, b, rfl, h1, h2⟩ := h
  refine ⟨a, b, ?_⟩
  show PyData.tuple [xs.getD i .none, xs.getD j .none] = _
  rw [List.getD_eq_getElem?_getD, List.getD_eq_getElem?_getD, h1, h2]
  rfl
theorem keys_alike {i j : Nat} {ds : List PyData} (h : ∀ d ∈ ds, KeyOk i j d) : PySem.W.AllAlike (ds.map (keyD i j)) := by
  intro d hd d' hd'
  obtain ⟨x, hx, rfl⟩ := List.mem_map.mp hd
  obtain ⟨y, hy, rfl⟩ := List.mem_map.mp hd'
  obtain ⟨a, b, e⟩ := key_is (h x hx)
  obtain ⟨a', b', e'⟩ := key_is (h y hy)
  rw [e, e']
  rfl
theorem keys_sortable {i j : Nat} {ds : List PyData} (h : ∀ d ∈ ds, KeyOk i j d) : PySem.W.Sortable (ds.map (keyD i j)) := .inl fun d hd => by
  obtain ⟨x, hx, rfl⟩ := List.mem_map.mp hd
  obtain ⟨a, b, e⟩ := key_is (h x hx)
  exact ⟨_, _, e⟩
theorem seq_nat {n k : Nat} (h : k < n) : seqIndex? (k : Int) n = some k := by
  unfold seqIndex?
  have h1 : ¬ ((k : Int) < 0) := by omega
  simp only [h1, if_false]
  have h2 : (0 : Int) ≤ (k : Int) := by omega
  have h3 : (k : Int) < (n : Int) := by omega
  simp [h2, h3]
/-- what the call of the key makes of an item -/
theorem key_item {X : Cx} {pins : List (Addr × Obj)} {σ : L2.St} {H : Hp} {s : Shared} {M : List Addr} {i j : Nat} {d : PyData} {v : Value} (I : Inv X pins σ H s) (hk : KeyOk i j d) (hv : IsD X.K (cut M H) v d) :
    ∃ (T : Addr) (its : Array Value) (a b : Int) (ta tb : Tok), v = .ref T ∧ IsTup s.heap T its ∧ keyD i j d = .tuple [.int a, .int b] ∧ seqIndex? (i : Int) its.size = some i ∧ its[i]? = some (.int a ta) ∧ seqIndex? (j : Int) its.size = some j ∧ its[j]? = some (.int b tb) ∧ i < 2 ^ 62 ∧ j < 2 ^ 62 := by
  obtain ⟨x, rx, dx⟩ := hv
  obtain ⟨xs, a, b, rfl, h1, h2⟩ := hk
  obtain ⟨T, vs, rfl, hq, hd⟩ := sv_tup (show Sv X.K (cut M H) (.dat (.tuple xs)) x from dx)
  obtain ⟨its, rv, hT, hz⟩ := I.tuple (ex_t ex_cut hq)
  obtain ⟨x1, g1, dx1⟩ := dpa_get' hd h1
  obtain ⟨x2, g2, dx2⟩ := dpa_get' hd h2
  cases dx1
  cases dx2
  obtain ⟨w1, e1, r1⟩ := rv.get g1
  obtain ⟨w2, e2, r2⟩ := rv.get g2
  obtain ⟨ta, rfl⟩ := r1
  obtain ⟨tb, rfl⟩ := r2
  have l := rv.length
  have i1 : i < its.length := by
    by_cases z : i < its.length
    · exact z
    · rw [List.getElem?_eq_none (by omega)] at e1; cases e1
  have i2 : j < its.length := by
    by_cases z : j < its.length
    · exact z
    · rw [List.getElem?_eq_none (by omega)] at e2; cases e2
  have hb : sizeLine < 2 ^ 62 := by rw [sizeLine_eq]; decide
  refine ⟨T, its.toArray, a, b, ta, tb, rx, hT, ?_, ?_, by simpa using e1, ?_, by simpa using e2, by omega, by omega⟩
  · show PyData.tuple [xs.getD i .none, xs.getD j .none] = _
    rw [List.getD_eq_getElem?_getD, List.getD_eq_getElem?_getD, h1, h2]
    rfl
  · rw [List.size_toArray]; exact seq_nat i1
  · rw [List.size_toArray]; exact seq_nat i2
def rSortedK (K : PySem.W.Frag) (f : Addr) (i j : Nat) : List V → List V → Hp → VK → Prop := fun vs zs H Q => ∃ (M : List Addr) (a : Addr) (xs : List V) (ds : List PyData), vs = [.ref a] ∧ zs = [.ref f] ∧ SqL K H a xs ∧ DvAll K (cut M H) xs ds ∧ (∀ d ∈ ds, KeyOk i j d) ∧
  ∀ ys p, DvAll K (cut M H) ys (ds.mergeSort (PySem.W.dataLe false (keyD i j))) → H p = none → Q (.ref p) (upd H p (.lst ys))
theorem cr_sortedK {X : Cx} {f : Addr} {i j : Nat} (hr : Room 2 X.A) (F : KeyRunX X.prog X.w X.K X.mg f i j) : CallRK X (.builtin "sorted") [Str.ofString "key"] (rSortedK X.K f i j) := by
  intro pins s σ H vs zs us ws Q I r rz h
  obtain ⟨M, a, xs, ds, rfl, rfl, hs, hd, hko, q⟩ := h
  obtain ⟨its, rv, hl, hz⟩ := I.list hs
  rw [Vals.ref1 r, Vals.ref1 rz]
  show wpAny _ _ (call _ [.ref a] [(Str.ofString "key", .ref f)]) _ _ _
  have e := each_of rv hd
  have hlen : its.length = ds.length := e.length
  have hz' : ds.length ≤ sizeLine := by rw [← hlen, ← rv.length]; exact hz
  refine PySem.W.sorted_key_data (b := false) (keyD i j) hl.isList e (keys_alike hko) (keys_sortable hko) hz' (fun d hd => ?_) (PyProof.Rows.ksk_s1 _ _) (fun _ => PyProof.Rows.ksk_l1 _ _) (fun _ => PyProof.Rows.ksk_t1 _ _) (fun v d hvd hdm h tk kp => ?_) fun out c h' tk kp _ hD ho eo => ?_
  · obtain ⟨x, y, e⟩ := key_is (hko d hd)
    have := hr.units
    rw [e]
    show X.A.units + 2 + 1 < cLine
    omega
  · obtain ⟨T, it, x, y, tx, ty, rfl, hT, ek, s1, g1, s2, g2, b1, b2⟩ := key_item I (hko d hdm) hvd
    refine F _ _ T it i j (.int x tx) (.int y ty) _ _ (I.kIn.keeps kp) ((I.ok.mod.glob.keeps I.bk).keeps kp) (I.nolimit.keeps kp) (hr.in1.in1.depth) (hT.keeps kp) (by omega) (by omega) (by omega) (by omega) s1 g1 s2 g2 fun h'' tk' T' kp' _ hT' => ?_
    refine ⟨h'', tk', rfl, kp', ?_⟩
    obtain ⟨o, ho, hc, n, hdt⟩ := hT'
    rw [ek]
    exact Reads.tuple ho hc hdt (.cons (.int x tx) (.cons (.int y ty) .nil))
  · obtain ⟨ys, ry, dy⟩ := each_back eo
    have hly : ys.length ≤ sizeLine := by
      rw [dpa_length dy, List.length_mergeSort]
      exact hz'
    exact ⟨.ref _, upd H (s.heap.objs.size + 1) (.lst ys), I.laid (t' := tk) kp (Nat.le_succ _) ⟨hly, out, c, ry, hD⟩, rfl, q ys _ dy (I.hok.fresh (Nat.le_succ _))⟩
end DV
namespace DV
open PySem PySem.Spec L2 Evl LamX NdefX
open PyProof.Rows hiding St cutD
/-! ### max(xs, key=f) -/
def bestI (i j : Nat) (ds : List PyData) : Nat := argBest (fun m n => PySem.W.dataLt (keyD i j (ds.getD n .none)) (keyD i j (ds.getD m .none))) (ds.length - 1)
def bestD (i j : Nat) (ds : List PyData) : PyData := ds.getD (bestI i j ds) .none
def rMaxK (K : PySem.W.Frag) (f : Addr) (i j : Nat) : List V → List V → Hp → VK → Prop := fun vs zs H Q => ∃ (M : List Addr) (a : Addr) (xs : List V) (ds : List PyData), vs = [.ref a] ∧ zs = [.ref f] ∧ SqL K H a xs ∧ DvAll K (cut M H) xs ds ∧ (∀ d ∈ ds, KeyOk i j d) ∧ ds ≠ [] ∧
  ∀ x, Dv K (cut M H) x (bestD i j ds) → Q x H
theorem listIter_keeps {h h' : Heap} {a l : Addr} {i : Nat} (x : h.IsListIter a l i) (k : ∀ b o, h.get? b = some o → h'.get? b = some o) : h'.IsListIter a l i := by
  obtain ⟨o, ho, r⟩ := x
  exact ⟨o, k _ _ ho, r⟩
theorem isList_keeps {h h' : Heap} {l : Addr} {vs : Array Value} (x : h.IsList l vs) (k : ∀ b o, h.get? b = some o → h'.get? b = some o) : h'.IsList l vs := by
  obtain ⟨o, ho, r⟩ := x
  exact ⟨o, k _ _ ho, r⟩
theorem shared_eta {s s' : Shared} (h2 : s'.gens = s.gens) (h3 : s'.drawn = s.drawn) (h4 : s'.os = s.os) : s' = { s with heap := s'.heap, toks := s'.toks } := by
  obtain ⟨hp, g, d, tk, os⟩ := s'
  have h2 : g = s.gens := h2
  have h3 : d = s.drawn := h3
  have h4 : os = s.os := h4
  subst h2 h3 h4
  rfl
theorem call_maxK {X : Cx} {f : Addr} {i j : Nat} (hc : X.calm = true) (hr : Room 2 X.A) (F : KeyRunX X.prog X.w X.K X.mg f i j) : CallRK X (.builtin "max") [Str.ofString "key"] (rMaxK X.K f i j) := by
  intro pins s σ H vs zs us ws Q I r rz h
  obtain ⟨M, a, xs, ds, rfl, rfl, hs, hd, hko, hne, q⟩ := h
  obtain ⟨its, rv, hl, hz⟩ := I.list hs
  rw [Vals.ref1 r, Vals.ref1 rz]
  show wpAny _ _ (call _ [.ref a] [(Str.ofString "key", .ref f)]) _ _ _
  have lx := dpa_length hd
  have lv := rv.length
  have hlen : its.length = ds.length := by omega
  have item : ∀ (n : Nat) (v : Value), its.toArray[n]? = some v → ∃ x d, xs[n]? = some x ∧ ds[n]? = some d ∧ RelV x v ∧ Dv X.K (cut M H) x d := fun n v hv => by
    have hv : its[n]? = some v := by simpa using hv
    have hn : n < xs.length := by
      by_cases z : n < its.length
      · omega
      · rw [List.getElem?_eq_none (by omega)] at hv; cases hv
    obtain ⟨w, e1, e2⟩ := rv.get (List.getElem?_eq_getElem hn)
    rw [hv] at e1
    cases e1
    obtain ⟨d, g, dx⟩ := dpa_get hd (List.getElem?_eq_getElem hn)
    exact ⟨_, d, List.getElem?_eq_getElem hn, g, e2, dx⟩
  have getD_some : ∀ {n : Nat} {d : PyData}, ds[n]? = some d → ds.getD n .none = d := fun {n d} h => by rw [List.getD_eq_getElem?_getD, h]; rfl
  refine PySem.call_max_walkK (PySem.W.iter_listW (A := X.A.in1) (I.ok.hd hc) hl.isList fun s₂ e W st hfp hw hk => ?_)
  have oldI : ∀ b o, s.heap.get? b = some o → b ≠ s.heap.objs.size := fun b o e => Nat.ne_of_lt (Heap.lt_size e)
  have hS : s₂.heap.objs.size = s.heap.objs.size + 1 := by rw [e]; exact Heap.size_push ..
  have oldS : ∀ b o, s.heap.get? b = some o → b ≠ s₂.heap.objs.size := fun b o e => by rw [hS]; exact Nat.ne_of_lt (Nat.lt_succ_of_lt (Heap.lt_size e))
  refine ⟨_, _, _, _, _, _, _, (fun s' => ∃ h' tk, s' = { s with heap := h', toks := tk } ∧ ∀ b o, s.heap.get? b = some o → h'.get? b = some o),
    (fun n k s' => ∃ (d : PyData) (T : Addr) (x y : Int) (tx ty : Tok), ds[n]? = some d ∧ keyD i j d = .tuple [.int x, .int y] ∧ k = .ref T ∧ IsTup s'.heap T #[.int x tx, .int y ty] ∧ T ≠ s₂.heap.objs.size ∧ T ≠ s.heap.objs.size), (fun m n => PySem.W.dataLt (keyD i j (ds.getD n .none)) (keyD i j (ds.getD m .none))), rfl, W, st, hfp, ?_, ⟨?_, ?_, ?_, ?_⟩, ?_, ?_⟩
  · rw [List.size_toArray, hlen]
    cases ds with
    | nil => exact absurd rfl hne
    | cons _ _ => simp
  · rintro s1 s2 ⟨h', tk, rfl, kp⟩ mv
    refine ⟨s2.heap, s2.toks, shared_eta (s := s) mv.gens mv.drawn mv.os, fun b o hb => mv.heap b o (fun hm => ?_) (kp b o hb)⟩
    rcases List.mem_cons.mp hm with z | hm
    · exact oldS b o hb z
    · rcases List.mem_cons.mp hm with z | hm
      · exact oldI b o hb z
      · cases hm
  · rintro n k s1 s2 ⟨d, T, x, y, tx, ty, hd', ek, rfl, ⟨o, ho, r⟩, n1, n2⟩ mv
    refine ⟨d, T, x, y, tx, ty, hd', ek, rfl, ⟨o, mv.heap T o (fun hm => ?_) ho, r⟩, n1, n2⟩
    rcases List.mem_cons.mp hm with z | hm
    · exact n1 z
    · rcases List.mem_cons.mp hm with z | hm
      · exact n2 z
      · cases hm
  · rintro n v s1 o Q' E' hn hv ⟨h', tk, rfl, kp⟩ hst hSo hq
    obtain ⟨x, d, gx, gd, rx, dx⟩ := item n v hv
    obtain ⟨T, it, x1, y1, tx, ty, rfl, hT, ek, s1, g1, s2', g2, b1, b2⟩ := key_item I (hko d (List.mem_of_getElem? gd)) ⟨x, rx, dx⟩
    refine F _ _ T it i j (.int x1 tx) (.int y1 ty) _ _ (I.kIn.keeps kp) ((I.ok.mod.glob.keeps I.bk).keeps kp) (I.nolimit.keeps kp) (hr.in1.depth) (hT.keeps kp) (by omega) (by omega) (by omega) (by omega) s1 g1 s2' g2 fun h'' tk' T' kp' fr hT' => ?_
    obtain ⟨st1, st2⟩ := hst
    have hIo : ∃ o, h'.get? s.heap.objs.size = some o := by
      obtain ⟨o, ho, _⟩ := st1
      exact ⟨o, ho⟩
    refine hq _ _ ⟨h'', tk', rfl, fun b o hb => kp' b o (kp b o hb)⟩ ⟨listIter_keeps st1 kp', isList_keeps st2 kp'⟩ (kp' _ _ hSo) ⟨d, T', x1, y1, tx, ty, gd, ek, rfl, hT', fun z => ?_, fun z => ?_⟩ ?_
    · rw [z] at fr
      have hSo : h'.get? s₂.heap.objs.size = some o := hSo
      have fr : h'.get? s₂.heap.objs.size = none := fr
      rw [hSo] at fr
      cases fr
    · obtain ⟨o', ho'⟩ := hIo
      rw [z] at fr
      have fr : h'.get? s.heap.objs.size = none := fr
      rw [ho'] at fr
      cases fr
    · rintro m k' ⟨d2, T2, x2, y2, tx2, ty2, a1, a2, a3, a4, a5, a6⟩
      exact ⟨d2, T2, x2, y2, tx2, ty2, a1, a2, a3, a4.keeps kp', a5, a6⟩
  · rintro m n km kn s1 Q' E' _ ⟨d1, T1, x1, y1, tx1, ty1, g1, ek1, rfl, ⟨o1, ho1, c1, n1, hd1⟩, _, _⟩ ⟨d2, T2, x2, y2, tx2, ty2, g2, ek2, rfl, ⟨o2, ho2, c2, n2, hd2⟩, _, _⟩ hq
    have r1 : Reads s1.heap (.ref T1) (.tuple [.int x1, .int y1]) [] := Reads.tuple ho1 c1 hd1 (.cons (.int x1 tx1) (.cons (.int y1 ty1) .nil))
    have r2 : Reads s1.heap (.ref T2) (.tuple [.int x2, .int y2]) [] := Reads.tuple ho2 c2 hd2 (.cons (.int x2 tx2) (.cons (.int y2 ty2) .nil))
    refine PySem.W.rcGt_alike _ _ X.A.in1 s1 _ _ _ _ r1 r2 rfl (fun z => by cases z) ?_ X.prog X.w E' Q' ?_
    · have := hr.units
      show X.A.units + 1 + min 1 1 < cLine
      omega
    · rw [← ek1, ← ek2]
      have z1 := getD_some g1
      have z2 := getD_some g2
      rw [← z1, ← z2] at *
      exact hq
  · exact ⟨s₂.heap, s.toks, by rw [e], hk⟩
  · rintro v s' hP ⟨h', tk, rfl, kp⟩
    obtain ⟨x, d, gx, gd, rx, dx⟩ := item _ v hP
    refine ⟨x, H, I.kept kp, rx, q x ?_⟩
    have hb : bestD i j ds = d := by
      have := getD_some gd
      rw [← this]
      unfold bestD bestI
      rw [List.size_toArray, hlen]
    rw [hb]
    exact dx
end DV
namespace DV
open PySem PySem.Spec L2 Evl LamX NdefX
open PyProof.Rows hiding St cutD
section
variable {S : Type} {X : Cx} {M : List Addr} {R : S → Hp → Prop} {ρ : List Sl} {s s1 s2 : S} {a b e ke : Expr} {px pos kp : Pos}
/-! one keyword -/
theorem e_callKw {id : String} {r : List V → List V → Hp → VK → Prop} {x n : Str} {rs : List Sl} {rk rc : Sl} (hc : CallRK X (.builtin id) [n] r) (hg : Gl X x) (hm : X.mg x = none) (hv : bootBuiltins x = some (.builtin id)) (ha : EvA1 X M R ρ [e] s rs s1) (hk : Ev1 X M R ρ ke s1 rk s2)
    (hr : ∀ vs z H (Q : VK), SvAll X.K (cut M H) rs vs → Sv X.K (cut M H) rk z → R s2 H → (∀ v H2, Ex (cut M H) (cut M H2) → R s2 H2 → Sv X.K (cut M H2) rc v → Q v H2) → r vs [z] H Q) (hn : x ≠ "__name__" := by decide) (hdb : (x == ("__debug__" : Str)) = false := by decide)
    (he : backTo pos (starEach [e] X.env) = (false, eval e X.env) :: backTo pos (starEach [] X.env) := by rfl) (hpl : (backTo pos (starEach [e] X.env)).any (·.1) = false := by rfl)
    (hall : (backToKw pos (keywordEach [⟨some n, ke, kp⟩] X.env)).all (·.1.isSome) = true := by rfl) (hnone : (backToKw pos (keywordEach [⟨some n, ke, kp⟩] X.env)).any (·.1.isNone) = false := by rfl) (hks : (backToKw pos (keywordEach [⟨some n, ke, kp⟩] X.env)).filterMap (·.1) = [n] := by rfl) :
    Ev1 X M R ρ (.Call (.Name x px) [e] [⟨some n, ke, kp⟩] pos) s rc s2 := by
  intro σ H Q hσ hR q
  refine wE_of (pe_callBK hc hg hm hv pa_w (pk_cons pe_w pk_nil) hn hdb he hpl hall hnone hks) ?_
  refine ha σ H _ hσ hR fun vs H1 e1 R1 d1 => ?_
  refine hk σ H1 _ (hσ.ex e1) R1 fun z H2 e2 R2 d2 => ?_
  exact hr vs z H2 Q (d1.ex e2) d2 R2 fun v H3 e3 R3 d3 => q v H3 (e1.trans (e2.trans e3)) R3 d3
theorem e_sortedK (g : Rg M R) {f : Addr} {i j : Nat} {ds : List PyData} (hr : Room 2 X.A) (F : KeyRunX X.prog X.w X.K X.mg f i j) (hko : ∀ d ∈ ds, KeyOk i j d) (hg : Gl X "sorted") (hm : X.mg "sorted" = none) (ha : EvA1 X M R ρ [e] s [.dat (.list ds)] s1) (hk : Ev1 X M R ρ ke s1 (.raw (.ref f)) s2)
    (he : backTo pos (starEach [e] X.env) = (false, eval e X.env) :: backTo pos (starEach [] X.env) := by rfl) (hpl : (backTo pos (starEach [e] X.env)).any (·.1) = false := by rfl)
    (hall : (backToKw pos (keywordEach [⟨some "key", ke, kp⟩] X.env)).all (·.1.isSome) = true := by rfl) (hnone : (backToKw pos (keywordEach [⟨some "key", ke, kp⟩] X.env)).any (·.1.isNone) = false := by rfl) (hks : (backToKw pos (keywordEach [⟨some "key", ke, kp⟩] X.env)).filterMap (·.1) = [("key" : Str)] := by rfl) :
    Ev1 X M R ρ (.Call (.Name "sorted" px) [e] [⟨some "key", ke, kp⟩] pos) s (.dat (.list (ds.mergeSort (PySem.W.dataLe false (keyD i j))))) s2 :=
  e_callKw (cr_sortedK hr F) hg hm boot_sorted ha hk (fun vs z H Q h hz hR q => by
    obtain ⟨v, hv, h1⟩ := svall1 h
    subst hv
    obtain ⟨p, xs, rfl, hp, hd⟩ := sv_lst h1
    have hz : z = .ref f := hz
    subst hz
    exact ⟨M, p, xs, ds, rfl, rfl, sq_of (ex_cut _ _ hp), hd, hko, fun ys p' hy n => new_lst g hR n hy q⟩) (by decide) (by decide) he hpl hall hnone hks
theorem e_maxK {f : Addr} {i j : Nat} {ds : List PyData} (hc : X.calm = true) (hr : Room 2 X.A) (F : KeyRunX X.prog X.w X.K X.mg f i j) (hko : ∀ d ∈ ds, KeyOk i j d) (hne : ds ≠ []) (hg : Gl X "max") (hm : X.mg "max" = none) (ha : EvA1 X M R ρ [e] s [.dat (.list ds)] s1) (hk : Ev1 X M R ρ ke s1 (.raw (.ref f)) s2)
    (he : backTo pos (starEach [e] X.env) = (false, eval e X.env) :: backTo pos (starEach [] X.env) := by rfl) (hpl : (backTo pos (starEach [e] X.env)).any (·.1) = false := by rfl)
    (hall : (backToKw pos (keywordEach [⟨some "key", ke, kp⟩] X.env)).all (·.1.isSome) = true := by rfl) (hnone : (backToKw pos (keywordEach [⟨some "key", ke, kp⟩] X.env)).any (·.1.isNone) = false := by rfl) (hks : (backToKw pos (keywordEach [⟨some "key", ke, kp⟩] X.env)).filterMap (·.1) = [("key" : Str)] := by rfl) :
    Ev1 X M R ρ (.Call (.Name "max" px) [e] [⟨some "key", ke, kp⟩] pos) s (.dat (bestD i j ds)) s2 :=
  e_callKw (call_maxK hc hr F) hg hm boot_max ha hk (fun vs z H Q h hz hR q => by
    obtain ⟨v, hv, h1⟩ := svall1 h
    subst hv
    obtain ⟨p, xs, rfl, hp, hd⟩ := sv_lst h1
    have hz : z = .ref f := hz
    subst hz
    exact ⟨M, p, xs, ds, rfl, rfl, sq_of (ex_cut _ _ hp), hd, hko, hne, fun x hx => q x H (exId _) hR hx⟩) (by decide) (by decide) he hpl hall hnone hks
theorem e_maxN {ns : List Int} (hc : X.calm = true) (hu : X.A.units + 64 < cLine) (hg : Gl X "max") (hm : X.mg "max" = none) (ha : EvA1 X M R ρ [e] s [.dat (.list (dI ns))] s1) (hk : Ev1 X M R ρ ke s1 (.dat .none) s2)
    (he : backTo pos (starEach [e] X.env) = (false, eval e X.env) :: backTo pos (starEach [] X.env) := by rfl) (hpl : (backTo pos (starEach [e] X.env)).any (·.1) = false := by rfl)
    (hall : (backToKw pos (keywordEach [⟨some "default", ke, kp⟩] X.env)).all (·.1.isSome) = true := by rfl) (hnone : (backToKw pos (keywordEach [⟨some "default", ke, kp⟩] X.env)).any (·.1.isNone) = false := by rfl) (hks : (backToKw pos (keywordEach [⟨some "default", ke, kp⟩] X.env)).filterMap (·.1) = [("default" : Str)] := by rfl) :
    Ev1 X M R ρ (.Call (.Name "max" px) [e] [⟨some "default", ke, kp⟩] pos) s (.dat (maxN ns)) s2 :=
  e_callKw (call_maxN hc hu) hg hm boot_max ha hk (fun vs z H Q h hz hR q => by
    obtain ⟨v, hv, h1⟩ := svall1 h
    subst hv
    obtain ⟨p, xs, rfl, hp, hd⟩ := sv_lst h1
    rw [dpa_ints hd] at hp
    rw [sv_non hz]
    exact ⟨p, ns, rfl, rfl, sq_of (ex_cut _ _ hp), q _ H (exId _) hR (dv_maxN ns)⟩) (by decide) (by decide) he hpl hall hnone hks
/-! d[k], d a dict of the module -/
theorem e_ixKD {p : Addr} {z : Str} {v : V} (hd : KDct X.K X.w p z v) (ha : Ev1 X M R ρ a s (.raw (.ref p)) s1) (hb : Ev1 X M R ρ b s1 (.dat (.str z)) s2) (hs : PlainIx b := by exact fun _ _ => rfl) : Ev1 X M R ρ (.Subscript a b pos) s (.raw v) s2 := by
  intro σ H Q hσ hR q
  refine wE_of (pe_ix ix_kdict pe_w pe_w hs) ?_
  refine ha σ H _ hσ hR fun x H1 e1 R1 d1 => ?_
  refine hb σ H1 _ (hσ.ex e1) R1 fun y H2 e2 R2 d2 => ?_
  have d1 : x = .ref p := d1
  subst d1
  exact ⟨p, z, v, rfl, sv_str d2, hd, q v H2 (e1.trans e2) R2 rfl⟩
/-! not in a written tuple of flat data -/
theorem t_ninT {d : PyData} {ds : List PyData} (ha : Ev1 X M R ρ a s (.dat d) s1) (hb : Ev1 X M R ρ b s1 (.dat (.tuple ds)) s2) (f : flatD d = true) (fs : ds.all flatD = true) (hm : behindInMarks .NotIn b = false := by with_unfolding_all rfl) :
    EvT1 X M R ρ (.Compare a [.NotIn] [b] pos) s (!ds.any fun e => PyData.eqv e d) s2 :=
  t_cmp op_notIn_seq ha hb (fun x y H Q dx dy hR q => by
    obtain ⟨p, xs, rfl, hp, hd⟩ := sv_tup dy
    refine ⟨p, xs, rfl, .inr (ex_t ex_cut hp), flat_dv dx f, flat_all hd fs, ?_⟩
    rw [in_dv dx f hd fs]
    exact q H (exId _) hR) hm
end
end DV
namespace DV
open PySem PySem.Spec L2 Evl LamX NdefX
open PyProof.Rows hiding St cutD
section
variable {S : Type} {X : Cx} {M : List Addr} {R : S → Hp → Prop} {ρ : List Sl} {s s1 s2 : S} {a b e : Expr} {rest : List Stmt} {px py pt pos : Pos} {D : Ends}
/-- a, b = e -/
theorem st_unp {i j kt : Nat} {x y : Str} {d1 d2 : PyData} (g : PG X (.Tuple [.Name x px, .Name y py] kt pt) (gTup X.K 2 (gCons (gName i) (gCons (gName j) gNil)))) (he : Ev1 X M R ρ e s (.dat (.tuple [d1, d2])) s1) (k : St1 X M R ((ρ.set i (.dat d1)).set j (.dat d2)) rest s1 D)
    (hs : swapsWithSole [.Tuple [.Name x px, .Name y py] kt pt] e pos.line X.env = pure false := by rfl) (hw : swappedStores [.Tuple [.Name x px, .Name y py] kt pt] e X.env = pure none := by rfl)
    (h1 : (assignEach [.Tuple [.Name x px, .Name y py] kt pt] X.env).map (·.2) = [assign (.Tuple [.Name x px, .Name y py] kt pt) X.env] := by rfl) : St1 X M R ρ (.Assign [.Tuple [.Name x px, .Name y py] kt pt] e pos :: rest) s D := by
  intro σ H hσ hR
  refine wB_cons (wS_of (ps_asg pe_w g hs hw h1) ?_)
  refine he σ H _ hσ hR fun v H1 e1 R1 d1 => ?_
  exact tg0_pair M σ H1 v _ (hσ.ex e1) d1 fun σ2 hσ2 => k σ2 H1 hσ2 R1
/-- a list as a test -/
theorem t_list {ds : List PyData} (h : Ev1 X M R ρ e s (.dat (.list ds)) s1) (he : ∀ whole, isTrue e X.env whole = (do let v ← whole; standAt e.pos; holding [v] (truthy v)) := by intro _; rfl) : EvT1 X M R ρ e s (!ds.isEmpty) s1 := by
  intro σ H Q hσ hR q
  refine wT_of (pt_truth pe_w he) ?_
  refine h σ H _ hσ hR fun v H1 e1 R1 d1 => ?_
  obtain ⟨p, xs, rfl, hp, hd⟩ := sv_lst d1
  have hl : xs.isEmpty = ds.isEmpty := by cases hd <;> rfl
  exact ⟨!ds.isEmpty, .inl ⟨xs, sq_of (ex_cut _ _ hp), by rw [hl]⟩, q H1 e1 R1⟩
end
end DV
namespace DV
open PySem PySem.Spec L2 Evl LamX NdefX
open PyProof.Rows hiding St cutD
section
variable {S : Type} {X : Cx} {M : List Addr} {R : S → Hp → Prop} {ρ : List Sl} {s : S}
/-! a comprehension by its reading: the new list is told to be new -/
theorem lcT (g : Rg M R) {elt : Expr} {ifs : List Expr} {scope : Scope} {own : List (Str × Nat)} {gt : TG} {n : Nat} {it : Nat → Sl} {ss : Nat → S} {outs : Nat → List PyData} {wi : TI}
    (hwi : ∀ σ H (k : It → Hp → Prop), Slots X.K (cut M H) σ ρ → R s H → (∀ J H1, Ex (cut M H) (cut M H1) → R (ss 0) H1 → Src X.K M J n it H1 → k J H1) → wi σ H k) (h0 : outs 0 = []) (hz : ∀ i, i < n → (outs i).length < 100000)
    (hs : ∀ i, i < n → ∃ ρ', Tg1 X.K gt (own.map (·.2)) (wipeR ρ (own.map (·.2))) (it i) ρ' ∧ Lc1 X scope M R ρ' ifs elt (ss i) (outs i) (outs (i + 1)) (ss (i + 1))) (σ : St) (H : Hp) (Q : VK) (hσ : Slots X.K (cut M H) σ ρ) (hR : R s H)
    (q : ∀ D H2, Ex (cut M H) (cut M H2) → R (ss n) H2 → cut M H D = none → Sv X.K (cut M H2) (.dat (.list (outs n))) (.ref D) → Q (.ref D) H2) : tLc wi gt (wbT X scope ifs) (wbE X scope elt) (own.map (·.2)) σ H Q := by
  refine hwi σ H _ hσ hR fun J H1 e1 R1 hsrc D nD => ?_
  obtain ⟨G, hG, w⟩ := hsrc
  have hDM : D ∉ M := g.fresh R1 nD
  refine lc_it w (fun i H' => R (ss i) (rem D H') ∧ Ex (cut M H1) (cut M H') ∧ ∃ acc, H' D = some (.lst acc) ∧ DvAll X.K (cut (D :: M) H') acc (outs i)) ?_ (fun i H' _ ⟨_, e, _⟩ => hG H' e) ?_ ?_
  · refine ⟨by rw [rem_upd, rem_free nD]; exact R1, exCut (Ex.new nD), [], upd_same, ?_⟩
    rw [h0]
    exact .nil
  · intro i x H2 H' hi ⟨R2, e2, acc, hD, hacc⟩ hy
    obtain ⟨ρ', ht, hl⟩ := hs i hi
    have gD := RD.rg g D acc
    have RD2 : RD R D acc (ss i) H2 := ⟨R2, hD⟩
    obtain ⟨eH, sx⟩ := hy (D :: M) (cut_cons_none nD) (fun a m => gD.dom RD2 m) (ex_cut_back nD e2)
    have RD3 : RD R D acc (ss i) H' := gD.up RD2 eH
    have e12 : Ex (cut M H1) (cut M H') := e2.trans (exCut eH)
    have hσ' : Slots X.K (cut (D :: M) H') (wipe σ (own.map (·.2))) (wipeR ρ (own.map (·.2))) := by
      have := slots_wipe hσ (own.map (·.2))
      refine Slots.ex ?_ this
      have ee : Ex (cut M H) (cut (D :: M) H1) := by
        rw [cut_cons_none nD]
        exact e1
      exact ee.trans (ex_cut_back nD e12)
    refine ht (D :: M) _ H' x _ hσ' sx fun σ2 hσ2 hw2 => ?_
    refine ⟨hw2.trans wipe_wipe, ?_⟩
    have hacc' : DvAll X.K (cut (D :: M) H') acc (outs i) := dpa_ex (exCut eH) _ _ hacc
    obtain ⟨b, s1, hb, hb1, hb0⟩ := hl D acc gD
    have fin : ∀ H3, Ex (cut (D :: M) H') (cut (D :: M) H3) → RD R D acc s1 H3 → (if b = true then wbE X scope elt σ2 H3 fun y H4 => ∃ acc, H4 D = some (.lst acc) ∧ acc.length < sizeLine ∧
        (R (ss (i + 1)) (rem D (upd H4 D (.lst (acc ++ [y])))) ∧ Ex (cut M H1) (cut M (upd H4 D (.lst (acc ++ [y])))) ∧ ∃ acc', upd H4 D (.lst (acc ++ [y])) D = some (.lst acc') ∧ DvAll X.K (cut (D :: M) (upd H4 D (.lst (acc ++ [y])))) acc' (outs (i + 1)))
        else (R (ss (i + 1)) (rem D H3) ∧ Ex (cut M H1) (cut M H3) ∧ ∃ acc, H3 D = some (.lst acc) ∧ DvAll X.K (cut (D :: M) H3) acc (outs (i + 1)))) := by
      intro H3 e3 R3
      have back : ∀ {H5 : Hp}, Ex (cut (D :: M) H') (cut (D :: M) H5) → Ex (cut M H1) (cut M H5) := fun {H5} e a o ha => by
        have hne : a ≠ D := fun z => by
          rw [z] at ha
          rw [(cut_some ha).2] at nD
          cases nD
        have hM := (cut_some ha).1
        have q1 := e12 a o ha
        have n2 : a ∉ D :: M := fun z => (List.mem_cons.mp z).elim hne hM
        have q2 := e a o (by rw [cut_out n2]; rw [cut_out hM] at q1; exact q1)
        rw [cut_out hM]
        rw [cut_out n2] at q2
        exact q2
      cases b with
      | true =>
        rw [if_pos rfl]
        obtain ⟨d, eo, he⟩ := hb1 rfl
        intro sh Hh C cl fp
        refine he sh Hh C cl fp σ2 H3 _ (hσ2.ex e3) R3 fun y H4 e4 R4 d4 => ?_
        have la : acc.length = (outs i).length := dpa_length hacc
        refine ⟨acc, R4.2, by rw [la]; exact Nat.lt_of_lt_of_le (hz i hi) (by decide), ?_, ?_, acc ++ [y], upd_same, ?_⟩
        · rw [rem_upd]; exact R4.1
        · have := back (e3.trans e4)
          intro a o ha
          have hne : a ≠ D := fun z => by
            rw [z] at ha
            rw [(cut_some ha).2] at nD
            cases nD
          have q1 := this a o ha
          rw [cut_out (cut_some ha).1] at q1 ⊢
          rw [upd_ne hne]
          exact q1
        · rw [cut_upd_in List.mem_cons_self, eo]
          exact dpa_app (dpa_ex (e3.trans e4) _ _ hacc') (.cons d4 .nil)
      | false =>
        rw [if_neg Bool.false_ne_true]
        obtain ⟨eo, es⟩ := hb0 rfl
        refine ⟨by rw [es]; exact R3.1, back e3, acc, R3.2, ?_⟩
        rw [eo]
        exact dpa_ex e3 _ _ hacc'
    match ifs, hb with
    | [], hb =>
      obtain ⟨hbt, hs1⟩ := hb
      subst hbt
      exact fin H' (exId _) (by rw [hs1]; exact RD3)
    | [c], hb =>
      intro sh Hh C cl fp
      refine hb sh Hh C cl fp σ2 H' _ hσ2 RD3 fun H3 e3 R3 => ?_
      exact fin H3 e3 R3
    | _ :: _ :: _, hb => exact hb.elim
  · intro H' ⟨R', e', acc, hD, hacc⟩
    refine q D H' (e1.trans e') (g.up R' ex_rem) ?_ (.lst (by rw [cut_out hDM]; exact hD) (dpa_ex cut_cons _ _ hacc))
    cases z : cut M H D with
    | none => rfl
    | some o =>
      have := (cut_some (e1 _ _ z)).2
      rw [nD] at this
      cases this
theorem pts_w {X : Cx} {ifs : List Expr} {scope : Scope} : ∀ (sh : Shared) (Hh : Hp) (C : Addr) (cl : List (Str × Addr)) (fp : List Addr), PTs (Bk X scope sh Hh C cl fp) ifs (wbT X scope ifs) := by
  intro sh Hh C cl fp
  match ifs with
  | [] => exact pts_nil
  | [c] => exact pts_one ⟨fun pins s σ H Q I h => h sh Hh C cl fp pins s I⟩
  | _ :: _ :: _ => exact ⟨fun pins s σ H Q I h => h.elim⟩
/-- name = [..] -/
theorem st_lc (g : Rg M R) {i : Nat} {y : Str} {elt tg iter : Expr} {ifs : List Expr} {scope : Scope} {own : List (Str × Nat)} {pos spos py : Pos} {gt : TG} {n : Nat} {it : Nat → Sl} {ss : Nat → S} {outs : Nat → List PyData} {rest : List Stmt} {D : Ends} (hc : X.calm = true) (hN : X.N.Nodup) (hy : X.N[i]? = some y) (hyl : X.env.scope.names.lookup y = some .local)
    (hsw : swapsWith (.ListComp elt [⟨tg, iter, ifs, 0⟩] scope pos) (some (.Name y py)) spos.line X.env = pure true) (ok : BlkOk X.N X.env.scope scope own) (hg : ∀ sh Hh C cl fp, PG (Bk X scope sh Hh C cl fp) tg gt) (hi : EvI1 X M R ρ tg iter s n it (ss 0)) (h0 : outs 0 = []) (hz : ∀ i, i < n → (outs i).length < 100000)
    (hs : ∀ i, i < n → ∃ ρ', Tg1 X.K gt (own.map (·.2)) (wipeR ρ (own.map (·.2))) (it i) ρ' ∧ Lc1 X scope M R ρ' ifs elt (ss i) (outs i) (outs (i + 1)) (ss (i + 1))) (k : St1 X M R (ρ.set i (.dat (.list (outs n)))) rest (ss n) D)
    (hfs : ∀ x, foldedSetIterable iter X.env x = pure x := by intro _; rfl) : St1 X M R ρ (.Assign [.Name y py] (.ListComp elt [⟨tg, iter, ifs, 0⟩] scope pos) spos :: rest) s D := by
  intro σ H hσ hR
  obtain ⟨wi, pwi, hwi⟩ := hi
  refine wB_cons (wS_of (ps_setLc (i := i) (te := wbE X scope elt) (tt := wbT X scope ifs) (g := gt) (own := own) hc hN hy hyl hsw pwi ok hg pts_w (fun sh Hh C cl fp => ⟨fun pins s σ H Q I h => h sh Hh C cl fp pins s I⟩) hfs) ?_)
  refine lcT g hwi h0 hz hs σ H _ hσ hR fun L H2 e2 R2 _ d2 => ?_
  exact k _ H2 (Slots.set d2 i (hσ.ex e2)) R2
/-- return [..], the list is new -/
theorem st_retLc (g : Rg M R) {elt tg iter : Expr} {ifs : List Expr} {scope : Scope} {own : List (Str × Nat)} {pos spos : Pos} {gt : TG} {n : Nat} {it : Nat → Sl} {ss : Nat → S} {outs : Nat → List PyData} {rest : List Stmt} {D : Ends} (hc : X.calm = true) (hN : X.N.Nodup)
    (ok : BlkOk X.N X.env.scope scope own) (hg : ∀ sh Hh C cl fp, PG (Bk X scope sh Hh C cl fp) tg gt) (hi : EvI1 X M R ρ tg iter s n it (ss 0)) (h0 : outs 0 = []) (hz : ∀ i, i < n → (outs i).length < 100000)
    (hs : ∀ i, i < n → ∃ ρ', Tg1 X.K gt (own.map (·.2)) (wipeR ρ (own.map (·.2))) (it i) ρ' ∧ Lc1 X scope M R ρ' ifs elt (ss i) (outs i) (outs (i + 1)) (ss (i + 1))) (k : ∀ L H H', R s H → cut M H L = none → R (ss n) H' → Sv X.K (cut M H') (.dat (.list (outs n))) (.ref L) → D.rt (.ref L) H')
    (hfs : ∀ x, foldedSetIterable iter X.env x = pure x := by intro _; rfl) : St1 X M R ρ (.Return (some (.ListComp elt [⟨tg, iter, ifs, 0⟩] scope pos)) spos :: rest) s D := by
  intro σ H hσ hR
  obtain ⟨wi, pwi, hwi⟩ := hi
  refine wB_cons (wS_of (ps_ret pe_w) (wE_of (pe_lc (te := wbE X scope elt) (tt := wbT X scope ifs) (g := gt) (own := own) hc hN pwi ok hg pts_w (fun sh Hh C cl fp => ⟨fun pins s σ H Q I h => h sh Hh C cl fp pins s I⟩) hfs) ?_))
  exact lcT g hwi h0 hz hs σ H _ hσ hR fun L H2 e2 R2 n2 d2 => k L H H2 hR n2 R2 d2
/-! the steps of a filter, of a map -/
theorem steps_filter {i : Nat} {c elt : Expr} {scope : Scope} {own : List (Str × Nat)} {ds : List PyData} (p : PyData → Bool) (f : PyData → PyData) (hm : i ∈ own.map (·.2))
    (ht : ∀ d, d ∈ ds → ∀ sh Hh C cl fp D acc, Rg (D :: M) (RD R D acc) → EvT1 (Bk X scope sh Hh C cl fp) (D :: M) (RD R D acc) ((wipeR ρ (own.map (·.2))).set i (.dat d)) c s (p d) s)
    (he : ∀ d, d ∈ ds → p d = true → ∀ sh Hh C cl fp D acc, Rg (D :: M) (RD R D acc) → Ev1 (Bk X scope sh Hh C cl fp) (D :: M) (RD R D acc) ((wipeR ρ (own.map (·.2))).set i (.dat d)) elt s (.dat (f d)) s) :
    ∀ j, j < ds.length → ∃ ρ', Tg1 X.K (gName i) (own.map (·.2)) (wipeR ρ (own.map (·.2))) (itD ds j) ρ' ∧ Lc1 X scope M R ρ' [c] elt s (((ds.take j).filter p).map f) (((ds.take (j + 1)).filter p).map f) s := by
  intro j hj
  have hd : ds[j]? = some ds[j] := List.getElem?_eq_getElem hj
  refine ⟨_, tg_name hm, fun D acc gD => ⟨p ds[j], s, fun sh Hh C cl fp => ?_, fun hp => ⟨f ds[j], ?_, fun sh Hh C cl fp => ?_⟩, fun hp => ⟨?_, rfl⟩⟩⟩
  · rw [itD_lt hd]
    exact ht _ (List.getElem_mem hj) sh Hh C cl fp D acc gD
  · rw [take_succ' hd, List.filter_append, List.filter_cons, if_pos hp, List.map_append]
    rfl
  · rw [itD_lt hd]
    exact he _ (List.getElem_mem hj) hp sh Hh C cl fp D acc gD
  · rw [take_succ' hd, List.filter_append, List.filter_cons, if_neg (by rw [hp]; exact Bool.false_ne_true), List.filter_nil, List.append_nil]
theorem steps_map {i : Nat} {elt : Expr} {scope : Scope} {own : List (Str × Nat)} {ds : List PyData} (f : PyData → PyData) (hm : i ∈ own.map (·.2))
    (he : ∀ d, d ∈ ds → ∀ sh Hh C cl fp D acc, Rg (D :: M) (RD R D acc) → Ev1 (Bk X scope sh Hh C cl fp) (D :: M) (RD R D acc) ((wipeR ρ (own.map (·.2))).set i (.dat d)) elt s (.dat (f d)) s) :
    ∀ j, j < ds.length → ∃ ρ', Tg1 X.K (gName i) (own.map (·.2)) (wipeR ρ (own.map (·.2))) (itD ds j) ρ' ∧ Lc1 X scope M R ρ' [] elt s ((ds.take j).map f) ((ds.take (j + 1)).map f) s := by
  intro j hj
  have hd : ds[j]? = some ds[j] := List.getElem?_eq_getElem hj
  refine ⟨_, tg_name hm, fun D acc gD => ⟨true, s, ⟨rfl, rfl⟩, fun _ => ⟨f ds[j], ?_, fun sh Hh C cl fp => ?_⟩, fun h => by cases h⟩⟩
  · rw [take_succ' hd, List.map_append]
    rfl
  · rw [itD_lt hd]
    exact he _ (List.getElem_mem hj) sh Hh C cl fp D acc gD
theorem len_filter (p : PyData → Bool) (f : PyData → PyData) {ds : List PyData} (h : ds.length ≤ 100000) : ∀ i, i < ds.length → (((ds.take i).filter p).map f).length < 100000 := fun i hi => by
  rw [List.length_map]
  have := List.length_filter_le p (ds.take i)
  rw [List.length_take] at this
  omega
theorem len_map (f : PyData → PyData) {ds : List PyData} (h : ds.length ≤ 100000) : ∀ i, i < ds.length → ((ds.take i).map f).length < 100000 := fun i hi => by
  rw [List.length_map, List.length_take]
  omega
end
/-! ### what is handed back is new -/
def spF (K : PySem.W.Frag) (G : List Sl → Sl → Prop) : Sp := fun vs H Q _ => ∃ (M : List Addr) (rs : List Sl) (r : Sl), (∀ a ∈ M, ∃ o, H a = some o) ∧ SvAll K (cut M H) rs vs ∧ G rs r ∧ ∀ v H', Ex H H' → Sv K (cut M H') r v → (∀ p, v = .ref p → H p = none) → Q v H'
/-- a datum that is no object -/
def bareD : PyData → Bool
  | .none | .bool _ | .int _ | .str _ => true
  | _ => false
theorem bare_v {K : PySem.W.Frag} {H : Hp} {d : PyData} {v : V} (h : Sv K H (.dat d) v) (b : bareD d = true) (p : Addr) : v ≠ .ref p := by
  intro e
  subst e
  cases (show Dv K H (.ref p) d from h) <;> cases b
theorem spF_of {K : PySem.W.Frag} {G : List Sl → Out → Prop} {G' : List Sl → Sl → Prop} (h : ∀ rs r, G' rs r → G rs (.ok r) ∧ ∃ d, r = .dat d ∧ bareD d = true) : ∀ vs H Q E, spF K G' vs H Q E → DV.spS K G vs H Q E := by
  rintro vs H Q E ⟨M, rs, r, dom, sv, g, q⟩
  obtain ⟨g', d, rfl, hb⟩ := h rs r g
  exact ⟨M, rs, _, dom, sv, g', fun v H' e s => q v H' e s fun p z => absurd z (bare_v s hb p)⟩
section
variable {P : Program} {w : World} {K : PySem.W.Frag} {mg : Str → Option Value} {base : Heap}
/-- what such a body is to show -/
def BodyF (P : Program) (w : World) (K : PySem.W.Frag) (mg : Str → Option Value) (base : Heap) (N : List Str) (x : Str) (st : Stmt) (k : Nat) (rs : List Sl) (r : Sl) : Prop :=
  ∀ (f : Addr) (cdv : Value) (A : Around) (outer : List Env) (sh : Shared) (H : Hp) (E : XK) (M : List Addr) (R : Unit → Hp → Prop) (D : Ends), Room k (A.deeper (envOfC x (defScope st) sh.heap.objs.size f cdv)) → Rg M R → (∀ H1 p, R () H1 → H1 p = none → H p = none) → 
    (∀ v H', R () H' → Sv K (cut M H') r v → (∀ p, v = .ref p → H p = none) → D.rt v H') → St1 (dx P w K mg base N x st f cdv A outer sh H E) M R (ini N rs) (defBody st) () D
theorem Def.calF {x : Str} {st : Stmt} {ps N : List Str} {k : Nat} {G : List Sl → Sl → Prop} (d : Def K mg x st ps) (S : FnScope N ps (defScope st)) (len : ∀ rs r, G rs r → rs.length = ps.length) (hb : ∀ rs r, G rs r → BodyF P w K mg base N x st k rs r) : Cal P w K mg base x (k + 1) (spF K G) := by
  refine d.calW S (fun vs H Q E ⟨M, rs, r, _, sv, g, _⟩ => by rw [sv.len, len rs r g]) ?_
  rintro f cdv A outer sh H vs Q E hr ⟨M, rs, r, dom, sv, g, q⟩
  exact hb rs r g f cdv A outer sh H E M (fun _ H' => Ex H H') _ hr (rg_pure dom) (fun H1 p e n => by
    cases z : H p with
    | none => rfl
    | some o => rw [e _ _ z] at n; cases n) (fun v H' e s n => q v H' e s n) _ H (slots_ini sv) (exId _)
end
/-- in the cut heap: not there, so not there at all -/
theorem cut_fresh {K : PySem.W.Frag} {M : List Addr} {H H' : Hp} {p : Addr} {ds : List PyData} (n : cut M H p = none) (h : Sv K (cut M H') (.dat (.list ds)) (.ref p)) : H p = none := by
  obtain ⟨a, xs, e, ha, _⟩ := sv_lst h
  cases e
  have := (cut_some ha).1
  rw [cut_out this] at n
  exact n
end DV
namespace DV
open PySem PySem.Spec L2 Evl LamX NdefX
open PyProof.Rows hiding St cutD
/-! ### lists that change, within the state -/
structure ListIn {S : Type} (K : PySem.W.Frag) (M : List Addr) (R : S → Hp → Prop) (L : Addr) (get : S → List PyData) (put : S → List PyData → S) : Prop where
  mem : L ∈ M
  at_ : ∀ {s : S} {H : Hp}, R s H → ∃ xs, H L = some (.lst xs) ∧ DvAll K (cut M H) xs (get s)
  to : ∀ {s : S} {H : Hp} {ys : List V} {ds : List PyData}, R s H → DvAll K (cut M H) ys ds → R (put s ds) (upd H L (.lst ys))
theorem ListIn.rx {S : Type} {K : PySem.W.Frag} {M : List Addr} {R : S → Hp → Prop} {L : Addr} {get : S → List PyData} {put : S → List PyData → S} (h : ListIn K M R L get put) (H1 : Hp) : ListIn K M (RX R M H1) L get put :=
  ⟨h.mem, fun q => h.at_ q.1, fun q d => ⟨h.to q.1 d, by rw [cut_upd_in h.mem]; exact q.2⟩⟩
theorem cut_rem {M : List Addr} {H : Hp} {D : Addr} : cut M (rem D H) = cut (D :: M) H := by
  funext a
  by_cases m : a ∈ M
  · rw [cut_in m, cut_in (List.mem_cons_of_mem _ m)]
  · by_cases e : a = D
    · subst e
      rw [cut_out m, cut_in List.mem_cons_self, rem_self]
    · rw [cut_out m, cut_out (fun z => (List.mem_cons.mp z).elim e m), rem_ne e]
theorem ListIn.rd {S : Type} {K : PySem.W.Frag} {M : List Addr} {R : S → Hp → Prop} {L : Addr} {get : S → List PyData} {put : S → List PyData → S} (h : ListIn K M R L get put) (D : Addr) (acc : List V) : ListIn K (D :: M) (RD R D acc) L get put := by
  refine ⟨List.mem_cons_of_mem _ h.mem, fun {s H} ⟨q, d⟩ => ?_, fun {s H ys ds} ⟨q, d⟩ hd => ?_⟩
  · obtain ⟨xs, e, dx⟩ := h.at_ q
    rw [cut_rem] at dx
    exact ⟨xs, (rem_some e).2, dx⟩
  · obtain ⟨xs, e, _⟩ := h.at_ q
    have n : L ≠ D := (rem_some e).1
    refine ⟨?_, by rw [upd_ne n.symm]; exact d⟩
    have e2 : rem D (upd H L (.lst ys)) = upd (rem D H) L (.lst ys) := by
      funext a
      by_cases z : a = D
      · subst z
        rw [rem_self, upd_ne n.symm, rem_self]
      · by_cases y : a = L
        · subst y
          rw [rem_ne z, upd_same, upd_same]
        · rw [rem_ne z, upd_ne y, upd_ne y, rem_ne z]
    rw [e2]
    exact h.to q (by rw [cut_rem]; exact hd)
section
variable {S : Type} {X : Cx} {M : List Addr} {R : S → Hp → Prop} {ρ : List Sl} {s s1 s2 : S} {a b e o i : Expr} {rest : List Stmt} {px pos apos cpos ps : Pos} {D : Ends} {L : Addr} {get : S → List PyData} {put : S → List PyData → S}
theorem e_ixM {d : PyData} {k : Int} (I : ListIn X.K M R L get put) (ha : Ev1 X M R ρ a s (.raw (.ref L)) s1) (hb : Ev1 X M R ρ b s1 (.dat (.int k)) s2) (hi : atI (get s2) k = some d) (hs : PlainIx b := by exact fun _ _ => rfl) : Ev1 X M R ρ (.Subscript a b pos) s (.dat d) s2 := by
  intro σ H Q hσ hR q
  refine wE_of (pe_ix ix_list pe_w pe_w hs) ?_
  refine ha σ H _ hσ hR fun x H1 e1 R1 d1 => ?_
  refine hb σ H1 _ (hσ.ex e1) R1 fun y H2 e2 R2 d2 => ?_
  have d1 : x = .ref L := d1
  subst d1
  obtain ⟨xs, hL, hd⟩ := I.at_ R2
  obtain ⟨v, hv, dv⟩ := atI_dv hd hi
  exact ⟨L, xs, k, v, rfl, sv_int d2, sq_of hL, hv, q v H2 (e1.trans e2) R2 dv⟩
/-- o.append(e) -/
theorem st_app {d : PyData} (I : ListIn X.K M R L get put) (ho : Ev1 X M R ρ o s (.raw (.ref L)) s1) (he : Ev1 X M R ρ e s1 (.dat d) s2) (hz : (get s2).length < 100000) (k : St1 X M R ρ rest (put s2 (get s2 ++ [d])) D) (hsw : swapsWith (.Call (.Attribute o "append" apos) [e] [] cpos) none pos.line X.env = pure false := by rfl)
    (hbase : attributeBase o "append" X.env (eval o X.env) = eval o X.env := by rfl)
    (hfew : ((backTo cpos (starEach [e] X.env)).all (fun x => !x.1) && (backToKw cpos (keywordEach [] X.env)).all (fun x => x.1.isSome) && decide ([e].length + ([] : List Keyword).length + (if ([] : List Keyword).isEmpty then 0 else 1) < 30)) = true := by rfl)
    (hline : (apos.endLine == cpos.line) = true := by rfl) (hs : starEach [e] X.env = (false, eval e X.env) :: starEach [] X.env := by rfl) (hplain : (backTo cpos (starEach [] X.env)).any (·.1) = false := by rfl) :
    St1 X M R ρ (.Expr (.Call (.Attribute o "append" apos) [e] [] cpos) pos :: rest) s D := by
  intro σ H hσ hR
  refine b_expr (wE_of (pe_bm PySem.F.plainAttrs_list PySem.F.slot_list_append PySem.F.type_list_append (mt_append : MtM _ _ _) pe_w pa_w hbase hfew hline hs hplain) ?_) hsw
  refine ho σ H _ hσ hR fun x H1 e1 R1 d1 => ?_
  have d1 : x = .ref L := d1
  subst d1
  obtain ⟨xs, hL, _⟩ := I.at_ R1
  refine ⟨.inl ⟨rfl, _, sq_of hL⟩, ?_⟩
  refine wA_of (pa_cons pe_w pa_nil hs) (he σ H1 _ (hσ.ex e1) R1 fun y H2 e2 R2 d2 => ?_)
  obtain ⟨xs2, hL2, hd2⟩ := I.at_ R2
  refine ⟨L, xs2, y, rfl, rfl, hL2, by rw [dpa_length hd2]; exact Nat.lt_of_lt_of_le hz (by decide), ?_⟩
  refine k σ _ ?_ (I.to R2 (dpa_app hd2 (.cons d2 .nil)))
  rw [cut_upd_in I.mem]
  exact hσ.ex (e1.trans e2)
theorem dpa_set {K : PySem.W.Frag} {H : Hp} {v : V} {d : PyData} (h : Dv K H v d) : ∀ {xs : List V} {ds : List PyData} (j : Nat), DvAll K H xs ds → DvAll K H (xs.set j v) (ds.set j d)
  | _, _, _, .nil => .nil
  | _, _, 0, .cons _ t => .cons h t
  | _, _, j + 1, .cons a t => .cons a (dpa_set h j t)
/-- o[i] = e -/
theorem st_setM {d : PyData} {k : Int} {j : Nat} {s3 : S} (I : ListIn X.K M R L get put) (he : Ev1 X M R ρ e s (.dat d) s1) (ho : Ev1 X M R ρ o s1 (.raw (.ref L)) s2) (hi : Ev1 X M R ρ i s2 (.dat (.int k)) s3) (hj : ixN (get s3).length k = some j) (hk : St1 X M R ρ rest (put s3 ((get s3).set j d)) D)
    (hs : swapsWithSole [.Subscript o i ps] e pos.line X.env = pure false := by rfl) (hw : swappedStores [.Subscript o i ps] e X.env = pure none := by rfl) (h1 : (assignEach [.Subscript o i ps] X.env).map (·.2) = [assign (.Subscript o i ps) X.env] := by rfl)
    (ha : ∀ v, assign (.Subscript o i ps) X.env v = (do
      let ov ← holding [v] (eval o X.env)
      let iv ← holding [v, ov] (eval i X.env)
      standAt ps
      holding [v, ov, iv] (setItem ov iv v)
      release [v, ov, iv] []) := by intro _; rfl) : St1 X M R ρ (.Assign [.Subscript o i ps] e pos :: rest) s D := by
  intro σ H hσ hR
  refine b_put ?_ hs hw h1 ha
  refine he σ H _ hσ hR fun x H1 e1 R1 d1 => ?_
  refine ho σ H1 _ (hσ.ex e1) R1 fun ov H2 e2 R2 d2 => ?_
  refine hi σ H2 _ (hσ.ex (e1.trans e2)) R2 fun iv H3 e3 R3 d3 => ?_
  have d2 : ov = .ref L := d2
  subst d2
  obtain ⟨xs, hL, hd⟩ := I.at_ R3
  refine ⟨L, xs, k, j, rfl, sv_int d3, hL, by rw [dpa_length hd]; exact hj, ?_⟩
  refine hk σ _ ?_ (I.to R3 (dpa_set (d1.ex (e2.trans e3)) j hd))
  rw [cut_upd_in I.mem]
  exact hσ.ex (e1.trans (e2.trans e3))
end
end DV
namespace DV
open PySem PySem.Spec L2 Evl LamX NdefX
open PyProof.Rows hiding St cutD
/-! ### a new list within the state -/
def RL {S : Type} (K : PySem.W.Frag) (M : List Addr) (R : S → Hp → Prop) (L : Addr) : S × List PyData → Hp → Prop := fun s H => R s.1 (rem L H) ∧ ∃ xs, H L = some (.lst xs) ∧ DvAll K (cut (L :: M) H) xs s.2
section
variable {S : Type} {K : PySem.W.Frag} {M : List Addr} {R : S → Hp → Prop} {L : Addr}
theorem RL.rg (g : Rg M R) : Rg (L :: M) (RL K M R L) := ⟨fun ⟨h, xs, e, d⟩ x => ⟨g.up h (rem_ex x), xs, x _ _ e, dpa_ex (exCut x) _ _ d⟩, fun ⟨h, xs, e, d⟩ m => by
  rcases List.mem_cons.mp m with z | m
  · subst z; exact ⟨_, e⟩
  · obtain ⟨o, q⟩ := g.dom h m
    exact ⟨o, (rem_some q).2⟩⟩
theorem RL.list (g : Rg M R) : ListIn K (L :: M) (RL K M R L) L (fun s => s.2) (fun s d => (s.1, d)) :=
  ⟨List.mem_cons_self, fun ⟨_, xs, e, d⟩ => ⟨xs, e, d⟩, fun {s H ys ds} ⟨h, _⟩ d => ⟨by rw [rem_upd]; exact h, ys, upd_same, by rw [cut_upd_in List.mem_cons_self]; exact d⟩⟩
theorem BoxIn.rl {b l : Addr} {get : S → Bx} {put : S → Bx → S} (h : BoxIn M R b l get put) : BoxIn (L :: M) (RL K M R L) b l (fun s => get s.1) (fun s t => (put s.1 t, s.2)) := by
  refine ⟨List.mem_cons_of_mem _ h.mb, List.mem_cons_of_mem _ h.ml, fun ⟨q, _⟩ => (h.at_ q).ex ex_rem, fun {s H H' st} ⟨q, xs, d, dx⟩ e bx => ?_⟩
  have b0 := h.at_ q
  have nb : b ≠ L := (rem_some b0.1).1
  have nl : l ≠ L := (rem_some b0.2).1
  have nD : L ∉ [b, l] := fun m => by
    rcases List.mem_cons.mp m with z | m
    · exact nb z.symm
    · rcases List.mem_cons.mp m with z | m
      · exact nl z.symm
      · cases m
  refine ⟨h.to q (fun a o ha => ?_) ⟨by rw [rem_ne nb]; exact bx.1, by rw [rem_ne nl]; exact bx.2⟩, xs, ?_, dpa_ex (ex_of_cut2 (List.mem_cons_of_mem _ h.mb) (List.mem_cons_of_mem _ h.ml) e) _ _ dx⟩
  · obtain ⟨n, ha⟩ := cut_some ha
    obtain ⟨nD, ha⟩ := rem_some ha
    have := e a o (by rw [cut_out n]; exact ha)
    rw [cut_out n] at this ⊢
    rw [rem_ne nD]
    exact this
  · have := e L _ (by rw [cut_out nD]; exact d)
    rw [cut_out nD] at this
    exact this
theorem ListIn.rl {L2 : Addr} {get : S → List PyData} {put : S → List PyData → S} (h : ListIn K M R L2 get put) : ListIn K (L :: M) (RL K M R L) L2 (fun s => get s.1) (fun s d => (put s.1 d, s.2)) := by
  refine ⟨List.mem_cons_of_mem _ h.mem, fun {s H} ⟨q, _⟩ => ?_, fun {s H ys ds} ⟨q, xs, d, dx⟩ hd => ?_⟩
  · obtain ⟨xs, e, dx⟩ := h.at_ q
    rw [cut_rem] at dx
    exact ⟨xs, (rem_some e).2, dx⟩
  · obtain ⟨us, e, _⟩ := h.at_ q
    have n : L2 ≠ L := (rem_some e).1
    have e2 : rem L (upd H L2 (.lst ys)) = upd (rem L H) L2 (.lst ys) := by
      funext a
      by_cases z : a = L
      · subst z
        rw [rem_self, upd_ne n.symm, rem_self]
      · by_cases y : a = L2
        · subst y
          rw [rem_ne z, upd_same, upd_same]
        · rw [rem_ne z, upd_ne y, upd_ne y, rem_ne z]
    refine ⟨?_, xs, by rw [upd_ne n.symm]; exact d, by rw [cut_upd_in (List.mem_cons_of_mem _ h.mem)]; exact dx⟩
    show R (put s.1 ds) (rem L (upd H L2 (.lst ys)))
    rw [e2]
    exact h.to q (by rw [cut_rem]; exact hd)
/-- as a datum, when it changes no more -/
theorem RL.dat (g : Rg M R) {s : S} {ds : List PyData} {H : Hp} (h : RL K M R L (s, ds) H) : R s H ∧ Sv K (cut M H) (.dat (.list ds)) (.ref L) := by
  obtain ⟨q, xs, e, d⟩ := h
  have n : L ∉ M := fun m => by
    obtain ⟨o, z⟩ := g.dom q m
    rw [rem_self] at z
    cases z
  exact ⟨g.up q ex_rem, .lst (by rw [cut_out n]; exact e) (dpa_ex cut_cons _ _ d)⟩
end
/-- a new list -/
def EvF1 {S : Type} (X : Cx) (M : List Addr) (R : S → Hp → Prop) (ρ : List Sl) (e : Expr) (s : S) (ds : List PyData) (s' : S) : Prop :=
  ∀ σ H (Q : VK), Slots X.K (cut M H) σ ρ → R s H → (∀ L H2, Ex (cut M H) (cut (L :: M) H2) → RL X.K M R L (s', ds) H2 → Q (.ref L) H2) → wE X e σ H Q
section
variable {S : Type} {X : Cx} {M : List Addr} {R : S → Hp → Prop} {ρ : List Sl} {s s1 s2 : S} {e a b : Expr} {es : List Expr} {px pos : Pos} {rest : List Stmt} {D : Ends}
theorem new_RL {H : Hp} {p : Addr} {xs : List V} {ds : List PyData} (hR : R s H) (n : H p = none) (h : DvAll X.K (cut M H) xs ds) : Ex (cut M H) (cut (p :: M) (upd H p (.lst xs))) ∧ RL X.K M R p (s, ds) (upd H p (.lst xs)) := by
  have e : cut (p :: M) (upd H p (.lst xs)) = cut M H := by rw [cut_upd_in List.mem_cons_self, cut_cons_none n]
  refine ⟨by rw [e]; exact exId _, by rw [rem_upd, rem_free n]; exact hR, xs, upd_same, by rw [e]; exact h⟩
theorem f_lst {ds : List PyData} (h : EvA1 X M R ρ es s (dats ds) s1) (hz : ds.length ≤ 100000) : EvF1 X M R ρ (.List es pos) s ds s1 := by
  intro σ H Q hσ hR q
  refine wE_of (pe_lst pa_w) ?_
  refine h σ H _ hσ hR fun vs H1 e1 R1 d1 => ?_
  have d := svall_dats d1
  refine ⟨by rw [dpa_length d]; exact upd_sz hz, fun p n => ?_⟩
  obtain ⟨e2, r2⟩ := new_RL R1 n d
  exact q p _ (e1.trans e2) r2
theorem f_rep {ds : List PyData} {k : Int} (hk : k < 2 ^ 63) (h0 : -(2 ^ 63) ≤ k) (hz : ds.length * k.toNat ≤ 100000) (ha : Ev1 X M R ρ a s (.dat (.list ds)) s1) (hb : Ev1 X M R ρ b s1 (.dat (.int k)) s2) : EvF1 X M R ρ (.BinOp a .Mult b pos) s (List.replicate k.toNat ds).flatten s2 := by
  intro σ H Q hσ hR q
  refine wE_of (pe_op op_rep pe_w pe_w) ?_
  refine ha σ H _ hσ hR fun x H1 e1 R1 d1 => ?_
  refine hb σ H1 _ (hσ.ex e1) R1 fun y H2 e2 R2 d2 => ?_
  obtain ⟨p, xs, rfl, hp, hd⟩ := sv_lst (d1.ex e2)
  refine ⟨p, k, xs, rfl, sv_int d2, ex_cut _ _ hp, h0, hk, by rw [dpa_length hd]; exact upd_sz hz, fun p n => ?_⟩
  obtain ⟨e3, r3⟩ := new_RL R2 n (dpa_rep hd k.toNat)
  exact q p _ (e1.trans (e2.trans e3)) r3
theorem f_listL {ds : List PyData} (hg : Gl X "list") (hm : X.mg "list" = none) (ha : EvA1 X M R ρ [e] s [(.dat (.list ds))] s1) (he : starEach [e] X.env = (false, eval e X.env) :: starEach [] X.env := by rfl) (hpl : (backTo pos (starEach [] X.env)).any (·.1) = false := by rfl) : EvF1 X M R ρ (.Call (.Name "list" px) [e] [] pos) s ds s1 := by
  intro σ H Q hσ hR q
  refine wE_of (pe_callTy call_list_of hg hm (by decide +kernel) pa_w (by decide) (by decide) he hpl) ?_
  refine ha σ H _ hσ hR fun vs H1 e1 R1 d1 => ?_
  obtain ⟨v, hv, h1⟩ := svall1 d1
  subst hv
  obtain ⟨p, xs, rfl, hp, hd⟩ := sv_lst h1
  refine ⟨p, xs, rfl, .inl (sq_of (ex_cut _ _ hp)), fun l n => ?_⟩
  obtain ⟨e2, r2⟩ := new_RL R1 n hd
  exact q l _ (e1.trans e2) r2
/-- x = a new list, which goes into the state -/
theorem st_newL (i : Nat) {x : Str} {ds : List PyData} (hN : X.N.Nodup) (hi : X.N[i]? = some x) (hx : Loc X.env.scope x) (he : EvF1 X M R ρ e s ds s1) (k : ∀ L, St1 X (L :: M) (RL X.K M R L) (ρ.set i (.raw (.ref L))) rest (s1, ds) D)
    (hs : swapsWith e (some (.Name x px)) pos.line X.env = pure false := by rfl) (hf : X.fn x = true ∨ X.env.scope.names.lookup x = some .local := by first | exact .inl rfl | exact .inr rfl) : St1 X M R ρ (.Assign [.Name x px] e pos :: rest) s D := by
  intro σ H hσ hR
  refine wB_cons (wS_of (ps_set (i := i) hN hi hx pe_w hs hf) ?_)
  exact he σ H _ hσ hR fun L H2 e2 r2 => k L _ H2 (Slots.set (r := .raw (.ref L)) (v := .ref L) rfl i (hσ.ex e2)) r2
theorem lcF (g : Rg M R) {elt : Expr} {ifs : List Expr} {scope : Scope} {own : List (Str × Nat)} {gt : TG} {n : Nat} {it : Nat → Sl} {ss : Nat → S} {outs : Nat → List PyData} {wi : TI}
    (hwi : ∀ σ H (k : It → Hp → Prop), Slots X.K (cut M H) σ ρ → R s H → (∀ J H1, Ex (cut M H) (cut M H1) → R (ss 0) H1 → Src X.K M J n it H1 → k J H1) → wi σ H k) (h0 : outs 0 = []) (hz : ∀ i, i < n → (outs i).length < 100000)
    (hs : ∀ i, i < n → ∃ ρ', Tg1 X.K gt (own.map (·.2)) (wipeR ρ (own.map (·.2))) (it i) ρ' ∧ Lc1 X scope M R ρ' ifs elt (ss i) (outs i) (outs (i + 1)) (ss (i + 1))) (σ : St) (H : Hp) (Q : VK) (hσ : Slots X.K (cut M H) σ ρ) (hR : R s H)
    (q : ∀ D H2, Ex (cut M H) (cut (D :: M) H2) → RL X.K M R D (ss n, outs n) H2 → Q (.ref D) H2) : tLc wi gt (wbT X scope ifs) (wbE X scope elt) (own.map (·.2)) σ H Q := by
  refine hwi σ H _ hσ hR fun J H1 e1 R1 hsrc D nD => ?_
  obtain ⟨G, hG, w⟩ := hsrc
  have hDM : D ∉ M := g.fresh R1 nD
  refine lc_it w (fun i H' => R (ss i) (rem D H') ∧ Ex (cut M H1) (cut M H') ∧ ∃ acc, H' D = some (.lst acc) ∧ DvAll X.K (cut (D :: M) H') acc (outs i)) ?_ (fun i H' _ ⟨_, e, _⟩ => hG H' e) ?_ ?_
  · refine ⟨by rw [rem_upd, rem_free nD]; exact R1, exCut (Ex.new nD), [], upd_same, ?_⟩
    rw [h0]
    exact .nil
  · intro i x H2 H' hi ⟨R2, e2, acc, hD, hacc⟩ hy
    obtain ⟨ρ', ht, hl⟩ := hs i hi
    have gD := RD.rg g D acc
    have RD2 : RD R D acc (ss i) H2 := ⟨R2, hD⟩
    obtain ⟨eH, sx⟩ := hy (D :: M) (cut_cons_none nD) (fun a m => gD.dom RD2 m) (ex_cut_back nD e2)
    have RD3 : RD R D acc (ss i) H' := gD.up RD2 eH
    have e12 : Ex (cut M H1) (cut M H') := e2.trans (exCut eH)
    have hσ' : Slots X.K (cut (D :: M) H') (wipe σ (own.map (·.2))) (wipeR ρ (own.map (·.2))) := by
      have := slots_wipe hσ (own.map (·.2))
      refine Slots.ex ?_ this
      have ee : Ex (cut M H) (cut (D :: M) H1) := by
        rw [cut_cons_none nD]
        exact e1
      exact ee.trans (ex_cut_back nD e12)
    refine ht (D :: M) _ H' x _ hσ' sx fun σ2 hσ2 hw2 => ?_
    refine ⟨hw2.trans wipe_wipe, ?_⟩
    have hacc' : DvAll X.K (cut (D :: M) H') acc (outs i) := dpa_ex (exCut eH) _ _ hacc
    obtain ⟨b, s1, hb, hb1, hb0⟩ := hl D acc gD
    have fin : ∀ H3, Ex (cut (D :: M) H') (cut (D :: M) H3) → RD R D acc s1 H3 → (if b = true then wbE X scope elt σ2 H3 fun y H4 => ∃ acc, H4 D = some (.lst acc) ∧ acc.length < sizeLine ∧
        (R (ss (i + 1)) (rem D (upd H4 D (.lst (acc ++ [y])))) ∧ Ex (cut M H1) (cut M (upd H4 D (.lst (acc ++ [y])))) ∧ ∃ acc', upd H4 D (.lst (acc ++ [y])) D = some (.lst acc') ∧ DvAll X.K (cut (D :: M) (upd H4 D (.lst (acc ++ [y])))) acc' (outs (i + 1)))
        else (R (ss (i + 1)) (rem D H3) ∧ Ex (cut M H1) (cut M H3) ∧ ∃ acc, H3 D = some (.lst acc) ∧ DvAll X.K (cut (D :: M) H3) acc (outs (i + 1)))) := by
      intro H3 e3 R3
      have back : ∀ {H5 : Hp}, Ex (cut (D :: M) H') (cut (D :: M) H5) → Ex (cut M H1) (cut M H5) := fun {H5} e a o ha => by
        have hne : a ≠ D := fun z => by
          rw [z] at ha
          rw [(cut_some ha).2] at nD
          cases nD
        have hM := (cut_some ha).1
        have q1 := e12 a o ha
        have n2 : a ∉ D :: M := fun z => (List.mem_cons.mp z).elim hne hM
        have q2 := e a o (by rw [cut_out n2]; rw [cut_out hM] at q1; exact q1)
        rw [cut_out hM]
        rw [cut_out n2] at q2
        exact q2
      cases b with
      | true =>
        rw [if_pos rfl]
        obtain ⟨d, eo, he⟩ := hb1 rfl
        intro sh Hh C cl fp
        refine he sh Hh C cl fp σ2 H3 _ (hσ2.ex e3) R3 fun y H4 e4 R4 d4 => ?_
        have la : acc.length = (outs i).length := dpa_length hacc
        refine ⟨acc, R4.2, by rw [la]; exact Nat.lt_of_lt_of_le (hz i hi) (by decide), ?_, ?_, acc ++ [y], upd_same, ?_⟩
        · rw [rem_upd]; exact R4.1
        · have := back (e3.trans e4)
          intro a o ha
          have hne : a ≠ D := fun z => by
            rw [z] at ha
            rw [(cut_some ha).2] at nD
            cases nD
          have q1 := this a o ha
          rw [cut_out (cut_some ha).1] at q1 ⊢
          rw [upd_ne hne]
          exact q1
        · rw [cut_upd_in List.mem_cons_self, eo]
          exact dpa_app (dpa_ex (e3.trans e4) _ _ hacc') (.cons d4 .nil)
      | false =>
        rw [if_neg Bool.false_ne_true]
        obtain ⟨eo, es⟩ := hb0 rfl
        refine ⟨by rw [es]; exact R3.1, back e3, acc, R3.2, ?_⟩
        rw [eo]
        exact dpa_ex e3 _ _ hacc'
    match ifs, hb with
    | [], hb =>
      obtain ⟨hbt, hs1⟩ := hb
      subst hbt
      exact fin H' (exId _) (by rw [hs1]; exact RD3)
    | [c], hb =>
      intro sh Hh C cl fp
      refine hb sh Hh C cl fp σ2 H' _ hσ2 RD3 fun H3 e3 R3 => ?_
      exact fin H3 e3 R3
    | _ :: _ :: _, hb => exact hb.elim
  · intro H' ⟨R', e', acc, hD, hacc⟩
    refine q D H' (e1.trans ?_) ⟨R', acc, hD, hacc⟩
    have := ex_cut_back nD e'
    rw [cut_cons_none nD] at this
    exact this
theorem f_lc (g : Rg M R) {elt tg iter : Expr} {ifs : List Expr} {scope : Scope} {own : List (Str × Nat)} {gt : TG} {n : Nat} {it : Nat → Sl} {ss : Nat → S} {outs : Nat → List PyData} (hc : X.calm = true) (hN : X.N.Nodup) (ok : BlkOk X.N X.env.scope scope own) (hg : ∀ sh Hh C cl fp, PG (Bk X scope sh Hh C cl fp) tg gt) (hi : EvI1 X M R ρ tg iter s n it (ss 0)) (h0 : outs 0 = []) (hz : ∀ i, i < n → (outs i).length < 100000)
    (hs : ∀ i, i < n → ∃ ρ', Tg1 X.K gt (own.map (·.2)) (wipeR ρ (own.map (·.2))) (it i) ρ' ∧ Lc1 X scope M R ρ' ifs elt (ss i) (outs i) (outs (i + 1)) (ss (i + 1))) (hfs : ∀ x, foldedSetIterable iter X.env x = pure x := by intro _; rfl) : EvF1 X M R ρ (.ListComp elt [⟨tg, iter, ifs, 0⟩] scope pos) s (outs n) (ss n) := by
  intro σ H Q hσ hR q
  obtain ⟨wi, pwi, hwi⟩ := hi
  refine wE_of (pe_lc (te := wbE X scope elt) (tt := wbT X scope ifs) (g := gt) (own := own) hc hN pwi ok hg pts_w (fun sh Hh C cl fp => ⟨fun pins s σ H Q I h => h sh Hh C cl fp pins s I⟩) hfs) ?_
  exact lcF g hwi h0 hz hs σ H _ hσ hR q
end
end DV
namespace DV
open PySem PySem.Spec L2 Evl LamX NdefX
open PyProof.Rows hiding St cutD
section
variable {S : Type} {X : Cx} {M : List Addr} {R : S → Hp → Prop} {ρ : List Sl} {s s1 s2 s3 : S} {e o ix : Expr} {rest : List Stmt} {px pt ps pos : Pos} {D : Ends} {L : Addr} {get : S → List PyData} {put : S → List PyData → S}
/-- x, o[i] = e -/
theorem st_nmIx {i kt : Nat} {x : Str} {d1 d2 : PyData} {k : Int} {j : Nat} (I : ListIn X.K M R L get put) (hc : X.calm = true) (gn : PG X (.Name x px) (gName i)) (he : Ev1 X M R ρ e s (.dat (.tuple [d1, d2])) s1) (ho : Ev1 X M R (ρ.set i (.dat d1)) o s1 (.raw (.ref L)) s2) (hi : Ev1 X M R (ρ.set i (.dat d1)) ix s2 (.dat (.int k)) s3)
    (hj : ixN (get s3).length k = some j) (hk : St1 X M R (ρ.set i (.dat d1)) rest (put s3 ((get s3).set j d2)) D)
    (ha : ∀ v, assign (.Subscript o ix ps) X.env v = (do
      let ov ← holding [v] (eval o X.env)
      let iv ← holding [v, ov] (eval ix X.env)
      standAt ps
      holding [v, ov, iv] (setItem ov iv v)
      release [v, ov, iv] []) := by intro _; rfl)
    (hn : (assignEach [.Name x px, .Subscript o ix ps] X.env).length = 2 := by rfl) (hst : (assignEach [.Name x px, .Subscript o ix ps] X.env).findIdx? (·.1) = none := by rfl)
    (hs : swapsWithSole [.Tuple [.Name x px, .Subscript o ix ps] kt pt] e pos.line X.env = pure false := by rfl) (hw : swappedStores [.Tuple [.Name x px, .Subscript o ix ps] kt pt] e X.env = pure none := by rfl)
    (h1 : (assignEach [.Tuple [.Name x px, .Subscript o ix ps] kt pt] X.env).map (·.2) = [assign (.Tuple [.Name x px, .Subscript o ix ps] kt pt) X.env] := by rfl)
    (hp1 : ∀ {t u}, PG X (.Name x px) t → PGs X [.Subscript o ix ps] u → PGs X [.Name x px, .Subscript o ix ps] (gCons t u) := by exact fun a b => pgs_cons a b) (hp2 : ∀ {t u}, PG X (.Subscript o ix ps) t → PGs X [] u → PGs X [.Subscript o ix ps] (gCons t u) := by exact fun a b => pgs_cons a b) :
    St1 X M R ρ (.Assign [.Tuple [.Name x px, .Subscript o ix ps] kt pt] e pos :: rest) s D := by
  intro σ H hσ hR
  refine wB_cons (wS_of (ps_asg pe_w (pg_tup hc (hp1 gn (hp2 (pg_sub pe_w pe_w set_list ha) pgs_nil)) hn hst) hs hw h1) ?_)
  refine he σ H _ hσ hR fun v H1 e1 R1 dv => ?_
  obtain ⟨T, xs, rfl, hq, hd⟩ := sv_tup dv
  cases hd with
  | cons a b =>
    cases b with
    | cons b c =>
      cases c
      rename_i x1 x2
      refine ⟨T, [x1, x2], rfl, ex_t ex_cut hq, rfl, x1, [x2], rfl, ?_⟩
      show ∃ v r, _
      refine ⟨x2, [], rfl, ?_⟩
      have hσ1 := Slots.set (r := .dat d1) a i (hσ.ex e1)
      refine ho _ H1 _ hσ1 R1 fun ov H2 e2 R2 dd2 => ?_
      refine hi _ H2 _ (hσ1.ex e2) R2 fun iv H3 e3 R3 dd3 => ?_
      have dd2 : ov = .ref L := dd2
      subst dd2
      obtain ⟨ys, hL, hyd⟩ := I.at_ R3
      refine ⟨L, ys, k, j, rfl, sv_int dd3, hL, by rw [dpa_length hyd]; exact hj, rfl, ?_⟩
      refine hk _ _ ?_ (I.to R3 (dpa_set (dp_ex (e2.trans e3) _ _ b) j hyd))
      rw [cut_upd_in I.mem]
      exact hσ1.ex (e2.trans e3)
end
end DV
namespace DV
open PySem PySem.Spec L2 Evl LamX NdefX
open PyProof.Rows hiding St cutD
theorem Slots.reset {K : PySem.W.Frag} {H : Hp} {r : Sl} {o : Option V} (h : So K H r o) : ∀ {σ : St} {ρ : List Sl} (i : Nat), Slots K H σ ρ → σ[i]? = some o → Slots K H σ (ρ.set i r)
  | [], [], _, _, e => by simp at e
  | _ :: _, _ :: _, 0, ⟨_, b⟩, e => by
    have e : some _ = some o := e
    cases e
    exact ⟨h, b⟩
  | _ :: _, _ :: _, i + 1, ⟨a, b⟩, e => ⟨a, Slots.reset h i b (by simpa using e)⟩
  | [], _ :: _, _, q, _ => q.elim
  | _ :: _, [], _, q, _ => q.elim
section
variable {S : Type} {X : Cx} {M : List Addr} {R : S → Hp → Prop} {ρ : List Sl} {s s1 s2 : S} {c a b o e : Expr} {body rest : List Stmt} {px pos apos cpos : Pos} {D : Ends} {L : Addr} {get : S → List PyData} {put : S → List PyData → S}
theorem st_while (J : Nat → List Sl → S → Prop) (hp : PassesOwn (model X.prog X.w) X.A X.env X.xe) (h0 : ∃ m, J m ρ s)
    (hs : ∀ m ρi si, J m ρi si → ∃ k si', EvT1 X M R ρi c si k si' ∧ (k = true → ∀ (N : St → Hp → Prop), (∀ σ H m' ρ2 s2, m' < m → J m' ρ2 s2 → Slots X.K (cut M H) σ ρ2 → R s2 H → N σ H) → St1 X M R ρi body si' { D with nx := N, ct := N, bk := wB X rest D }) ∧ (k = false → St1 X M R ρi rest si' D)) :
    St1 X M R ρ (.While c body [] pos :: rest) s D := by
  intro σ H hσ hR
  refine wB_cons (wS_of (ps_while hp pt_w pss_w) ?_)
  obtain ⟨m0, j0⟩ := h0
  refine ⟨fun m σ H => ∃ ρi si, J m ρi si ∧ Slots X.K (cut M H) σ ρi ∧ R si H, ⟨m0, ρ, s, j0, hσ, hR⟩, ?_⟩
  rintro m σ1 H1 ⟨ρi, si, hJ, hσ1, hR1⟩
  obtain ⟨k, si', ht, h1, h2⟩ := hs m ρi si hJ
  refine ht σ1 H1 _ hσ1 hR1 fun H2 e2 R2 => ?_
  cases k with
  | true =>
    rw [if_pos rfl]
    refine ⟨fun σ' H' => ∃ m', m' < m ∧ ∃ ρ2 s2, J m' ρ2 s2 ∧ Slots X.K (cut M H') σ' ρ2 ∧ R s2 H', fun σ' H' ⟨m', l, x⟩ => ⟨m', l, x⟩, ?_⟩
    exact h1 rfl _ (fun σ H m' ρ2 s2 l j a b => ⟨m', l, ρ2, s2, j, a, b⟩) σ1 H2 (hσ1.ex e2) R2
  | false =>
    rw [if_neg Bool.false_ne_true]
    exact h2 rfl σ1 H2 (hσ1.ex e2) R2
theorem ListIn.dv {K : PySem.W.Frag} (I : ListIn K M R L get put) {H : Hp} (h : R s H) : Dv K H (.ref L) (.list (get s)) := by
  obtain ⟨xs, e, d⟩ := I.at_ h
  exact .lst e (dpa_ex ex_cut _ _ d)
/-- a list that changes, != a datum -/
theorem t_neM {d : PyData} (hu : X.A.units + 64 < cLine) (I : ListIn X.K M R L get put) (ha : Ev1 X M R ρ a s (.raw (.ref L)) s1) (hb : Ev1 X M R ρ b s1 (.dat d) s2) (z1 : SeqAt.shaped (.list (get s2)) = true) (z2 : SeqAt.shaped d = true) : EvT1 X M R ρ (.Compare a [.NotEq] [b] pos) s (!PyData.eqv (.list (get s2)) d) s2 :=
  t_cmp (op_neD hu) ha hb (fun x y H Q dx dy hR q => by
    have dx : x = .ref L := dx
    subst dx
    exact ⟨.list (get s2), d, dv_dp _ _ (I.dv hR), dv_dp _ _ (dp_ex ex_cut _ _ dy), z1, z2, q H (exId _) hR⟩) (nomark _)
theorem e_lenM (I : ListIn X.K M R L get put) (hg : Gl X "len") (hm : X.mg "len" = none) (ha : EvA1 X M R ρ [e] s [.raw (.ref L)] s1) (he : starEach [e] X.env = (false, eval e X.env) :: starEach [] X.env := by rfl)
    (hpl : (backTo pos (starEach [] X.env)).any (·.1) = false := by rfl) : Ev1 X M R ρ (.Call (.Name "len" px) [e] [] pos) s (.dat (.int (get s1).length)) s1 :=
  e_callB call_len_seq hg hm PySem.boot_len ha (fun vs H Q h hR q => by
    obtain ⟨v, hv, h1⟩ := svall1 h
    subst hv
    have h1 : v = .ref L := h1
    subst h1
    obtain ⟨xs, hL, hd⟩ := I.at_ hR
    refine ⟨L, xs, rfl, .inl (sq_of hL), ?_⟩
    rw [dpa_length hd]
    exact q _ H (exId _) hR (.int _)) (by decide) (by decide) he hpl
theorem dpa_erase {K : PySem.W.Frag} {H : Hp} : ∀ {xs : List V} {ds : List PyData} (j : Nat), DvAll K H xs ds → DvAll K H (xs.eraseIdx j) (ds.eraseIdx j)
  | _, _, _, .nil => .nil
  | _, _, 0, .cons _ t => t
  | _, _, j + 1, .cons a t => .cons a (dpa_erase j t)
/-- o.pop(e) -/
theorem e_popM {d : PyData} {k : Nat} (I : ListIn X.K M R L get put) (ho : Ev1 X M R ρ o s (.raw (.ref L)) s1) (he : Ev1 X M R ρ e s1 (.dat (.int (k : Nat))) s2) (hk : (get s2)[k]? = some d) (hb : k < 2 ^ 62)
    (hbase : attributeBase o "pop" X.env (eval o X.env) = eval o X.env := by rfl)
    (hfew : ((backTo cpos (starEach [e] X.env)).all (fun x => !x.1) && (backToKw cpos (keywordEach [] X.env)).all (fun x => x.1.isSome) && decide ([e].length + ([] : List Keyword).length + (if ([] : List Keyword).isEmpty then 0 else 1) < 30)) = true := by rfl)
    (hline : (apos.endLine == cpos.line) = true := by rfl) (hs : starEach [e] X.env = (false, eval e X.env) :: starEach [] X.env := by rfl) (hplain : (backTo cpos (starEach [] X.env)).any (·.1) = false := by rfl) :
    Ev1 X M R ρ (.Call (.Attribute o "pop" apos) [e] [] cpos) s (.dat d) (put s2 ((get s2).eraseIdx k)) := by
  intro σ H Q hσ hR q
  refine wE_of (pe_bm PySem.F.plainAttrs_list PySem.F.slot_list_pop PySem.F.type_list_pop (mt_popAt : MtM _ _ _) pe_w pa_w hbase hfew hline hs hplain) ?_
  refine ho σ H _ hσ hR fun x H1 e1 R1 d1 => ?_
  have d1 : x = .ref L := d1
  subst d1
  obtain ⟨xs, hL, _⟩ := I.at_ R1
  refine ⟨.inl ⟨rfl, _, sq_of hL⟩, ?_⟩
  refine wA_of (pa_cons pe_w pa_nil hs) (he σ H1 _ (hσ.ex e1) R1 fun y H2 e2 R2 d2 => ?_)
  rw [sv_int d2]
  obtain ⟨ys, hL2, hd2⟩ := I.at_ R2
  obtain ⟨v, hv, dv⟩ := dpa_get' hd2 hk
  have hlt : k < ys.length := by
    by_cases z : k < ys.length
    · exact z
    · rw [List.getElem?_eq_none (by omega)] at hv; cases hv
  refine ⟨L, ys, k, k, v, rfl, rfl, hL2, by omega, by omega, seq_nat hlt, hv, ?_⟩
  have ec := cut_upd_in (H := H2) (o := .lst (ys.eraseIdx k)) I.mem
  refine q v _ ?_ (I.to R2 (dpa_erase k hd2)) ?_
  · rw [ec]; exact e1.trans e2
  · rw [ec]; exact dv
/-- a list that changes no more -/
theorem st_unL (g : Rg M R) {ds : List PyData} (i : Nat) (hi : ρ[i]? = some (.raw (.ref L))) (k : St1 X M R (ρ.set i (.dat (.list ds))) rest s D) : St1 X (L :: M) (RL X.K M R L) ρ rest (s, ds) D := by
  intro σ H hσ hR
  obtain ⟨R0, sv⟩ := RL.dat g hR
  have hσ2 : Slots X.K (cut M H) σ ρ := hσ.ex cut_cons
  obtain ⟨o, ho, z⟩ := hσ2.get hi
  have z : o = some (.ref L) := z
  subst z
  exact k σ H (hσ2.reset (.of sv) i ho) R0
/-- forgotten -/
theorem st_weak {ρ' : List Sl} (h : ∀ K H σ, Slots K H σ ρ → Slots K H σ ρ') (k : St1 X M R ρ' rest s D) : St1 X M R ρ rest s D := fun σ H hσ hR => k σ H (h _ _ _ hσ) hR
end
end DV
namespace DV
open PySem PySem.Spec L2 Evl LamX NdefX
open PyProof.Rows hiding St cutD
section
variable {S : Type} {X : Cx} {M : List Addr} {R : S → Hp → Prop} {ρ : List Sl} {s s1 s2 : S} {x : Str} {e o : Expr} {es : List Expr} {px apos cpos pos : Pos} {rs : List Sl} {j k : Nat}
/-- a call that hands back something new, as a datum -/
theorem e_callF (g : Rg M R) {G : List Sl → Sl → Prop} {r : Sl} (c : Cal X.prog X.w X.K X.mg X.base x k (spF X.K G)) (hr : Room j X.A) (hk : k ≤ j) (hg : Gl X x) (hG : G rs r) (ha : EvA1 X M R ρ (e :: es) s rs s1) (hdb : (x == ("__debug__" : Str)) = false := by decide)
    (he : starEach (e :: es) X.env = (false, eval e X.env) :: starEach es X.env := by rfl) (hpl : (backTo pos (starEach es X.env)).any (·.1) = false := by rfl) : Ev1 X M R ρ (.Call (.Name x px) (e :: es) [] pos) s r s1 := by
  intro σ H Q hσ hR q
  refine w_call c hr hk hg passL ha hσ hR (fun vs H1 e1 d1 R1 => ?_) hdb he hpl
  exact ⟨M, rs, r, fun a m => g.dom R1 m, d1, hG, fun v H' e2 d2 _ => q v H' (e1.trans (exCut e2)) (g.up R1 e2) d2⟩
end
theorem b_ifE {S : Type} {X : Cx} {M : List Addr} {R : S → Hp → Prop} {ρ : List Sl} {s s1 : S} {c : Expr} {x y rest : List Stmt} {pos : Pos} {D : Ends} {σ : St} {H : Hp} {k : Bool} (h : EvT1 X M R ρ c s k s1) (hσ : Slots X.K (cut M H) σ ρ) (hR : R s H)
    (q : ∀ H2, Ex (cut M H) (cut M H2) → R s1 H2 → if k = true then wB X x { D with nx := wB X rest D } σ H2 else wB X y { D with nx := wB X rest D } σ H2) : wB X (.If c x y pos :: rest) D σ H := b_if (h σ H _ hσ hR q)
/-- what is new may change -/
def Frame {S : Type} (M : List Addr) (R : S → Hp → Prop) : Prop := ∀ (st : S) (H1 H : Hp) (p : Addr) (xs ys : List V), R st H1 → H1 p = none → R st H → Ex (cut M H1) (cut M H) → p ∉ M → H p = some (.lst xs) → R st (upd H p (.lst ys))
theorem ex_upd {M : List Addr} {H0 H1 H : Hp} {p : Addr} {o : HO} (e0 : Ex (cut M H0) (cut M H1)) (n : H1 p = none) (e : Ex (cut M H1) (cut M H)) : Ex (cut M H0) (cut M (upd H p o)) := fun a u h => by
  have h1 := e0 a u h
  have h2 := e a u h1
  obtain ⟨nm, _⟩ := cut_some h
  have na : a ≠ p := fun z => by
    rw [z] at h1
    have := (cut_some h1).2
    rw [n] at this
    cases this
  rw [cut_out nm] at h2 ⊢
  rw [upd_ne na]
  exact h2
theorem Frame.rx {S : Type} {M : List Addr} {R : S → Hp → Prop} (h : Frame M R) (H0 : Hp) : Frame M (RX R M H0) := fun st H1 H p xs ys r1 n r e nm hp => ⟨h st H1 H p xs ys r1.1 n r.1 e nm hp, ex_upd r1.2 n e⟩
theorem frame_law {b l T : Addr} {q : Str} : Frame [b, l, T] (RLaw b l T q) := fun st H1 H p xs ys r1 n r e nm hp => by
  simp only [List.mem_cons, List.not_mem_nil, or_false, not_or] at nm
  obtain ⟨nb, nl, nT⟩ := nm
  refine ⟨⟨by rw [upd_ne (Ne.symm nb)]; exact r.1.1, by rw [upd_ne (Ne.symm nl)]; exact r.1.2⟩, ?_⟩
  obtain ⟨ps, h1, h2, h3⟩ := r.2
  refine ⟨ps, by rw [upd_ne (Ne.symm nT)]; exact h1, h2, fun pos cv hc => ?_⟩
  obtain ⟨c, e1, e2⟩ := h3 pos cv hc
  refine ⟨c, e1, ?_⟩
  have na : c ≠ p := fun z => by
    rw [z, hp] at e2
    unfold CodeO at e2
    cases e2
  rw [upd_ne na]
  exact e2
end DV
namespace DV
open PySem PySem.Spec L2 Evl LamX NdefX
open PyProof.Rows hiding St cutD
/-! sorted(xs, key=def, reverse=b) -/
def rSortedKR (K : PySem.W.Frag) (f : Addr) (i j : Nat) (b : Bool) : List V → List V → Hp → VK → Prop := fun vs zs H Q => ∃ (M : List Addr) (a : Addr) (xs : List V) (ds : List PyData), vs = [.ref a] ∧ zs = [.ref f, .bl b] ∧ SqL K H a xs ∧ DvAll K (cut M H) xs ds ∧ (∀ d ∈ ds, KeyOk i j d) ∧
  ∀ ys p, DvAll K (cut M H) ys (ds.mergeSort (PySem.W.dataLe b (keyD i j))) → H p = none → Q (.ref p) (upd H p (.lst ys))
theorem cr_sortedKR {X : Cx} {f : Addr} {i j : Nat} {b : Bool} (hr : Room 2 X.A) (F : KeyRunX X.prog X.w X.K X.mg f i j) : CallRK X (.builtin "sorted") [Str.ofString "key", Str.ofString "reverse"] (rSortedKR X.K f i j b) := by
  intro pins s σ H vs zs us ws Q I r rz h
  obtain ⟨M, a, xs, ds, rfl, rfl, hs, hd, hko, q⟩ := h
  obtain ⟨its, rv, hl, hz⟩ := I.list hs
  rw [Vals.ref1 r]
  cases rz with
  | cons r1 rz =>
  cases rz with
  | cons r2 rz =>
  cases rz
  cases r1
  obtain rfl := r2
  show wpAny _ _ (call _ [.ref a] [(Str.ofString "key", .ref f), (Str.ofString "reverse", .bool b)]) _ _ _
  have e := each_of rv hd
  have hlen : its.length = ds.length := e.length
  have hz' : ds.length ≤ sizeLine := by rw [← hlen, ← rv.length]; exact hz
  refine PySem.W.sorted_key_data (b := b) (keyD i j) hl.isList e (keys_alike hko) (keys_sortable hko) hz' (fun d hd => ?_) (PyProof.Rows.ksk_s2 _ _ _) (fun _ => PyProof.Rows.ksk_l2 _ _ _) (fun _ => PyProof.Rows.ksk_t2 _ _ _) (fun v d hvd hdm h tk kp => ?_) fun out c h' tk kp _ hD ho eo => ?_
  · obtain ⟨x, y, e⟩ := key_is (hko d hd)
    have := hr.units
    rw [e]
    show X.A.units + 2 + 1 < cLine
    omega
  · obtain ⟨T, it, x, y, tx, ty, rfl, hT, ek, s1, g1, s2, g2, b1, b2⟩ := key_item I (hko d hdm) hvd
    refine F _ _ T it i j (.int x tx) (.int y ty) _ _ (I.kIn.keeps kp) ((I.ok.mod.glob.keeps I.bk).keeps kp) (I.nolimit.keeps kp) (hr.in1.in1.depth) (hT.keeps kp) (by omega) (by omega) (by omega) (by omega) s1 g1 s2 g2 fun h'' tk' T' kp' _ hT' => ?_
    refine ⟨h'', tk', rfl, kp', ?_⟩
    obtain ⟨o, ho, hc, n, hdt⟩ := hT'
    rw [ek]
    exact Reads.tuple ho hc hdt (.cons (.int x tx) (.cons (.int y ty) .nil))
  · obtain ⟨ys, ry, dy⟩ := each_back eo
    have hly : ys.length ≤ sizeLine := by
      rw [dpa_length dy, List.length_mergeSort]
      exact hz'
    exact ⟨.ref _, upd H (s.heap.objs.size + 1) (.lst ys), I.laid (t' := tk) kp (Nat.le_succ _) ⟨hly, out, c, ry, hD⟩, rfl, q ys _ dy (I.hok.fresh (Nat.le_succ _))⟩
section
variable {S : Type} {X : Cx} {M : List Addr} {R : S → Hp → Prop} {ρ : List Sl} {s s1 s2 s3 : S} {e ke re : Expr} {px pos kp rp : Pos}
theorem e_sortedKR (g : Rg M R) {f : Addr} {i j : Nat} {b : Bool} {ds : List PyData} (hr : Room 2 X.A) (F : KeyRunX X.prog X.w X.K X.mg f i j) (hko : ∀ d ∈ ds, KeyOk i j d) (hg : Gl X "sorted") (hm : X.mg "sorted" = none) (ha : EvA1 X M R ρ [e] s [.dat (.list ds)] s1) (hk : Ev1 X M R ρ ke s1 (.raw (.ref f)) s2)
    (hb : Ev1 X M R ρ re s2 (.dat (.bool b)) s3)
    (he : backTo pos (starEach [e] X.env) = (false, eval e X.env) :: backTo pos (starEach [] X.env) := by rfl) (hpl : (backTo pos (starEach [e] X.env)).any (·.1) = false := by rfl)
    (hall : (backToKw pos (keywordEach [⟨some "key", ke, kp⟩, ⟨some "reverse", re, rp⟩] X.env)).all (·.1.isSome) = true := by rfl) (hnone : (backToKw pos (keywordEach [⟨some "key", ke, kp⟩, ⟨some "reverse", re, rp⟩] X.env)).any (·.1.isNone) = false := by rfl)
    (hks : (backToKw pos (keywordEach [⟨some "key", ke, kp⟩, ⟨some "reverse", re, rp⟩] X.env)).filterMap (·.1) = [("key" : Str), ("reverse" : Str)] := by rfl) :
    Ev1 X M R ρ (.Call (.Name "sorted" px) [e] [⟨some "key", ke, kp⟩, ⟨some "reverse", re, rp⟩] pos) s (.dat (.list (ds.mergeSort (PySem.W.dataLe b (keyD i j))))) s3 := by
  intro σ H Q hσ hR q
  refine wE_of (pe_callBK (cr_sortedKR (b := b) hr F) hg hm boot_sorted pa_w (pk_cons pe_w (pk_cons pe_w pk_nil)) (by decide) (by decide) he hpl hall hnone hks) ?_
  refine ha σ H _ hσ hR fun vs H1 e1 R1 d1 => ?_
  refine hk σ H1 _ (hσ.ex e1) R1 fun z H2 e2 R2 d2 => ?_
  refine hb σ H2 _ (hσ.ex (e1.trans e2)) R2 fun z2 H3 e3 R3 d3 => ?_
  obtain ⟨v, hv, h1⟩ := svall1 d1
  subst hv
  obtain ⟨p, xs, rfl, hp, hd⟩ := sv_lst (h1.ex (e2.trans e3))
  have hz : z = .ref f := d2
  subst hz
  rw [sv_bl d3]
  exact ⟨M, p, xs, ds, rfl, rfl, sq_of (ex_cut _ _ hp), hd, hko, fun ys p' hy n => new_lst g R3 n hy fun v H4 e4 R4 d4 => q v H4 (e1.trans (e2.trans (e3.trans e4))) R4 d4⟩
end
end DV
namespace DV
open PySem PySem.Spec L2 Evl LamX NdefX
open PyProof.Rows hiding St cutD
/-! ### methods called by places and keywords -/
def tMethN (C : Addr) (m : Str) (n j : Nat) (sp : Sp) (gV : List V → List V → List V) (E : XK) (ta : TE) (t tk : TA) : TE := fun σ H Q => ta σ H fun x H1 => ∃ a dx fs, x = .ref a ∧ H1 a = some (.ins C dx fs) ∧ fs.lookup m = none ∧
  t σ H1 fun vs H2 => tk σ H2 fun zs H3 => vs.length = n ∧ zs.length = j ∧ sp (gV (x :: vs) zs) H3 Q E
section
variable {X : Cx} {CX : CXT} {k n : Nat} {C f : Addr} {fd : FuncData} {ps ks : List Str} {sp : Sp} {E : XK} {x m : Str} {p pos apos : Pos} {o e : Expr} {es : List Expr} {kws : List Keyword} {ta : TE} {t tk : TA} {g : List Value → List Value → List Value} {gV : List V → List V → List V}
theorem pe_methN {pl : Sem Bool} (he : PE X o ta) (c : Cls X.K C) (hm : Meth X.K C m f) (F : FnOk X.prog X.w X.K X.mg X.base CX k f fd ps sp) (hr : Room k X.A) (hb : KBn X.K fd ps (n + 1) ks g gV) (hx : Passes CX X E) (ha : PA X (e :: es) t) (hkw : PK X kws tk)
    (hall : (backToKw pos (keywordEach kws X.env)).all (·.1.isSome) = true := by rfl) (hks : (backToKw pos (keywordEach kws X.env)).filterMap (·.1) = ks := by rfl)
    (hst : starEach (e :: es) X.env = (false, eval e X.env) :: starEach es X.env := by rfl) (hpl : ((backTo pos (starEach (e :: es) X.env)).any (·.1) || (backToKw pos (keywordEach kws X.env)).any (·.1.isNone)) = false := by rfl)
    (ht : eval (.Call (.Attribute o m apos) (e :: es) kws pos) X.env = (do
      let ov ← eval o X.env
      standAt apos.atName
      let (f, first) ← holding [ov] (getMethod ov m pl)
      callWith pos f first (backTo pos (starEach (e :: es) X.env)) (backToKw pos (keywordEach kws X.env))) := by rfl) :
    PE X (.Call (.Attribute o m apos) (e :: es) kws pos) (tMethN C m n ks.length sp gV E ta t tk) := by
  refine ⟨fun pins s σ H Q I h => ?_⟩
  refine PySem.W.methodCall_KW (pl := pl) (thn (he.run pins s σ H _ I h) fun u s1 ⟨x, H1, I1, rx, a, dx, fs, ex, ea, l, q⟩ => ?_) ht
  subst ex
  obtain rfl : u = Value.ref a := rx
  refine getmeth_ok I1 ea c hm l ?_
  refine PySem.W.callWith_KW (first := [.ref a]) (h₀ := X.base) I.ok.mod.kin hm.kp hall (thn (ha.run pos pins s1 σ H1 _ I1 q) fun us s2 ⟨vs, H2, I2, r, q2⟩ => ?_) hpl hst
  refine thn (hkw.run pos pins s2 σ H2 _ I2 q2) fun ws s3 ⟨zs, H3, I3, rz, l1, l2, q3⟩ => ⟨I3.kIn, ?_⟩
  rw [hks]
  exact run_fnN (us := .ref a :: us) (vs := .ref a :: vs) F hr hb hx I3 (.cons rfl r) rz (by rw [List.length_cons, l1]) l2 q3
theorem pe_methN0 {pl : Sem Bool} (he : PE X o ta) (c : Cls X.K C) (hm : Meth X.K C m f) (F : FnOk X.prog X.w X.K X.mg X.base CX k f fd ps sp) (hr : Room k X.A) (hb : KBn X.K fd ps 1 [] g gV) (hx : Passes CX X E)
    (ht : eval (.Call (.Attribute o m apos) [] [] pos) X.env = (do
      let ov ← eval o X.env
      standAt apos.atName
      let (f, first) ← holding [ov] (getMethod ov m pl)
      callWith pos f first (backTo pos (starEach [] X.env)) (backToKw pos (keywordEach [] X.env))) := by rfl) :
    PE X (.Call (.Attribute o m apos) [] [] pos) (tMethN C m 0 0 sp gV E ta tNil tNil) := by
  refine ⟨fun pins s σ H Q I h => ?_⟩
  refine PySem.W.methodCall_KW (pl := pl) (thn (he.run pins s σ H _ I h) fun u s1 ⟨x, H1, I1, rx, a, dx, fs, ex, ea, l, q⟩ => ?_) ht
  subst ex
  obtain rfl : u = Value.ref a := rx
  obtain ⟨_, _, q⟩ := q
  refine getmeth_ok I1 ea c hm l ?_
  refine PySem.W.callWith_K0 (first := [.ref a]) I1.kIn hm.kp ?_
  exact run_fnN (us := [.ref a]) (vs := [.ref a]) (ws := []) (zs := []) F hr hb hx I1 (.cons rfl .nil) .nil rfl rfl q
end
/-- a def with keyword-only defaults alone, some of them given -/
theorem FunD.kbinds0 {K : PySem.W.Frag} {x qual : Str} {params : Arguments} {body : List Stmt} {scope : Scope} {kws : List (Str × V)} {f : Addr} {fd : FuncData} {ps : List Str} (F : FunD K x qual params body scope [] kws f fd) (n : Nat) (ks : List Str) (ms : List (Str × V)) (g : {α : Type} → List α → List α → List α → List α) (hk : kws ≠ []) (hms : ∀ q ∈ ms, q ∈ kws)
    (hrel : ∀ {vs mz zs : List V} {us mv ws : List Value}, Vals vs us → Vals mz mv → Vals zs ws → Vals (g vs mz zs) (g us mv ws))
    (h : ∀ (D : Addr) (doc pm : Value) (an : Option Addr) (cdv ct : Value) (us mv ws : List Value), us.length = n → mv.length = ms.length → ws.length = ks.length →
      KwChain D ((ms.map (·.1)).zip mv) (bindArgs (PySem.W.fnOf x qual params body scope .none (.ref D) doc pm an cdv ct) ⟨us, ks.zip ws⟩) (ps.zip (g us mv ws))) :
    ∃ mv : List Value, KBn K fd ps n ks (fun us ws => g us mv ws) (fun vs zs => g vs (ms.map (·.2)) zs) := by
  obtain ⟨oc, od, dV, kV, doc, pm, an, cdv, ct, osl, rfl, lk, hcd, hD, hK⟩ := F.ex
  rcases hD with ⟨_, rfl⟩ | ⟨e, _⟩
  · rcases hK with e | ⟨D, rfl, hq⟩
    · exact absurd e hk
    · obtain ⟨mv, hl, rk, hks⟩ := kwd_vals (ms := ms) fun q hm => hq q (hms q hm)
      exact ⟨mv, ⟨fun s us ws X l1 l2 => BindsTo.of_looks fun M => KwChain.looks X hks (h D doc pm an cdv ct us mv ws l1 hl l2), fun r1 r2 => hrel r1 rk r2⟩⟩
  · exact absurd rfl e
/-- all places, no defaults -/
theorem kbn_of {K : PySem.W.Frag} {fd : FuncData} {ps : List Str} (hb : Binds K fd ps []) : KBn K fd ps ps.length [] (fun us _ => us) (fun vs _ => vs) :=
  ⟨fun s us ws X l1 l2 => by
    have := hb s us X (by rw [List.append_nil]; exact l1)
    rw [List.append_nil] at this
    cases ws with
    | nil => exact this
    | cons _ _ => simp at l2, fun r _ => r⟩
/-- a method by its promise -/
structure Mth (P : Program) (w : World) (K : PySem.W.Frag) (mg : Str → Option Value) (base : Heap) (C : Addr) (m : Str) (n : Nat) (ks : List Str) (gV : List V → List V → List V) (k : Nat) (sp : Sp) : Prop where
  ex : ∃ (f : Addr) (fd : FuncData) (ps : List Str) (g : List Value → List Value → List Value), FnOk P w K mg base (L2.CX P w) k f fd ps sp ∧ Meth K C m f ∧ KBn K fd ps (n + 1) ks g gV
  cls : Cls K C
section
variable {P : Program} {w : World} {K : PySem.W.Frag} {mg : Str → Option Value} {base : Heap} {C : Addr} {m : Str} {n : Nat} {ks : List Str} {gV : List V → List V → List V}
theorem Mth.mono {j k : Nat} {sp : Sp} (c : Mth P w K mg base C m n ks gV j sp) (h : j ≤ k) : Mth P w K mg base C m n ks gV k sp := by
  obtain ⟨f, fd, ps, g, F, r⟩ := c.ex
  exact ⟨⟨f, fd, ps, g, F.mono h, r⟩, c.cls⟩
theorem Mth.imp {k : Nat} {sp sp' : Sp} (c : Mth P w K mg base C m n ks gV k sp) (h : ∀ vs H Q E, sp' vs H Q E → sp vs H Q E) : Mth P w K mg base C m n ks gV k sp' := by
  obtain ⟨f, fd, ps, g, F, r⟩ := c.ex
  exact ⟨⟨f, fd, ps, g, F.imp h, r⟩, c.cls⟩
end
/-! ### in the layer -/
/-- keywords' values -/
def EvK1 {S : Type} (X : Cx) (M : List Addr) (R : S → Hp → Prop) (ρ : List Sl) (kws : List Keyword) (s : S) (rs : List Sl) (s' : S) : Prop :=
  ∃ t, PK X kws t ∧ ∀ σ H (Q : List V → Hp → Prop), Slots X.K (cut M H) σ ρ → R s H → (∀ vs H2, Ex (cut M H) (cut M H2) → R s' H2 → SvAll X.K (cut M H2) rs vs → Q vs H2) → t σ H Q
section
variable {S : Type} {X : Cx} {M : List Addr} {R : S → Hp → Prop} {ρ : List Sl} {s s1 s2 s3 : S} {o e : Expr} {es : List Expr} {kws : List Keyword} {x m f : Str} {pos apos ppos kpos : Pos} {rs zs : List Sl} {C a : Addr} {n j k : Nat} {ks : List Str} {gV : List V → List V → List V} {sp : Sp} {E : XK}
theorem k_nil : EvK1 X M R ρ [] s [] s := ⟨_, pk_nil, fun σ H Q _ hR q => q [] H (exId _) hR trivial⟩
theorem k_cons {nm : Option Str} {r : Sl} (he : Ev1 X M R ρ e s r s1) (hk : EvK1 X M R ρ kws s1 rs s2) : EvK1 X M R ρ (⟨nm, e, kpos⟩ :: kws) s (r :: rs) s2 := by
  obtain ⟨t, pk, h⟩ := hk
  refine ⟨_, pk_cons pe_w pk, fun σ H Q hσ hR q => ?_⟩
  refine he σ H _ hσ hR fun v H1 e1 R1 d1 => ?_
  exact h σ H1 _ (hσ.ex e1) R1 fun vs H2 e2 R2 d2 => q (v :: vs) H2 (e1.trans e2) R2 ⟨d1.ex e2, d2⟩
/-- an object there -/
def HasIns {S : Type} (R : S → Hp → Prop) (s : S) (a C : Addr) (m : Str) : Prop := ∀ H, R s H → ∃ dx fs, H a = some (.ins C dx fs) ∧ fs.lookup m = none
theorem w_meth {σ : St} {H : Hp} {Q : VK} (c : Mth X.prog X.w X.K X.mg X.base C m n ks gV k sp) (hr : Room j X.A) (hk : k ≤ j) (hx : Passes (L2.CX X.prog X.w) X E) (ho : Ev1 X M R ρ o s (.raw (.ref a)) s1) (hi : HasIns R s1 a C m) (ha : EvA1 X M R ρ (e :: es) s1 rs s2) (hkw : EvK1 X M R ρ kws s2 zs s3) (hσ : Slots X.K (cut M H) σ ρ) (hR : R s H)
    (ln : rs.length = n) (lk : zs.length = ks.length) (h : ∀ vs us H1, Ex (cut M H) (cut M H1) → SvAll X.K (cut M H1) rs vs → SvAll X.K (cut M H1) zs us → R s3 H1 → sp (gV (.ref a :: vs) us) H1 Q E)
    (hall : (backToKw pos (keywordEach kws X.env)).all (·.1.isSome) = true := by rfl) (hks : (backToKw pos (keywordEach kws X.env)).filterMap (·.1) = ks := by rfl)
    (hst : starEach (e :: es) X.env = (false, eval e X.env) :: starEach es X.env := by rfl) (hpl : ((backTo pos (starEach (e :: es) X.env)).any (·.1) || (backToKw pos (keywordEach kws X.env)).any (·.1.isNone)) = false := by rfl) {pl : Sem Bool}
    (ht : eval (.Call (.Attribute o m apos) (e :: es) kws pos) X.env = (do
      let ov ← eval o X.env
      standAt apos.atName
      let (f, first) ← holding [ov] (getMethod ov m pl)
      callWith pos f first (backTo pos (starEach (e :: es) X.env)) (backToKw pos (keywordEach kws X.env))) := by rfl) : wE X (.Call (.Attribute o m apos) (e :: es) kws pos) σ H Q := by
  obtain ⟨f, fd, ps, g, F, hm, hb⟩ := c.ex
  obtain ⟨tk, pk, hkk⟩ := hkw
  refine wE_of (pe_methN (pl := pl) pe_w c.cls hm F (hr.mono hk) hb hx pa_w pk hall hks hst hpl ht) ?_
  refine ho σ H _ hσ hR fun v H1 e1 R1 d1 => ?_
  have d1 : v = .ref a := d1
  subst d1
  obtain ⟨dx, fs, h1, h2⟩ := hi H1 R1
  refine ⟨a, dx, fs, rfl, h1, h2, ?_⟩
  refine ha σ H1 _ (hσ.ex e1) R1 fun vs H2 e2 R2 d2 => ?_
  refine hkk σ H2 _ (hσ.ex (e1.trans e2)) R2 fun us H3 e3 R3 d3 => ?_
  exact ⟨d2.len.trans ln, d3.len.trans lk, h vs us H3 (e1.trans (e2.trans e3)) (d2.ex e3) d3 R3⟩
theorem w_meth0 {σ : St} {H : Hp} {Q : VK} (c : Mth X.prog X.w X.K X.mg X.base C m 0 [] gV k sp) (hr : Room j X.A) (hk : k ≤ j) (hx : Passes (L2.CX X.prog X.w) X E) (ho : Ev1 X M R ρ o s (.raw (.ref a)) s1) (hi : HasIns R s1 a C m) (hσ : Slots X.K (cut M H) σ ρ) (hR : R s H)
    (h : ∀ H1, Ex (cut M H) (cut M H1) → R s1 H1 → sp (gV [.ref a] []) H1 Q E) {pl : Sem Bool}
    (ht : eval (.Call (.Attribute o m apos) [] [] pos) X.env = (do
      let ov ← eval o X.env
      standAt apos.atName
      let (f, first) ← holding [ov] (getMethod ov m pl)
      callWith pos f first (backTo pos (starEach [] X.env)) (backToKw pos (keywordEach [] X.env))) := by rfl) : wE X (.Call (.Attribute o m apos) [] [] pos) σ H Q := by
  obtain ⟨f, fd, ps, g, F, hm, hb⟩ := c.ex
  refine wE_of (pe_methN0 (pl := pl) pe_w c.cls hm F (hr.mono hk) hb hx ht) ?_
  refine ho σ H _ hσ hR fun v H1 e1 R1 d1 => ?_
  have d1 : v = .ref a := d1
  subst d1
  obtain ⟨dx, fs, h1, h2⟩ := hi H1 R1
  exact ⟨a, dx, fs, rfl, h1, h2, rfl, rfl, h H1 e1 R1⟩
/-- o.f -/
theorem e_fld {r : Sl} (c : Cls X.K C) (na : NoAttr X.K C f) (ho : Ev1 X M R ρ o s (.raw (.ref a)) s1) (h : ∀ H, R s1 H → ∃ dx fs v, H a = some (.ins C dx fs) ∧ fs.lookup f = some v ∧ Sv X.K (cut M H) r v)
    (hb : attributeBase o f X.env (eval o X.env) = eval o X.env := by rfl) : Ev1 X M R ρ (.Attribute o f pos) s r s1 := by
  intro σ H Q hσ hR q
  refine wE_of (pe_fld pe_w hb) ?_
  refine ho σ H _ hσ hR fun v H1 e1 R1 d1 => ?_
  have d1 : v = .ref a := d1
  subst d1
  obtain ⟨dx, fs, v, h1, h2, h3⟩ := h H1 R1
  exact ⟨a, C, dx, fs, v, rfl, h1, c, na, h2, q v H1 e1 R1 h3⟩
/-- o.f = e -/
theorem st_fld {r : Sl} {rest : List Stmt} {D : Ends} (c : Cls X.K C) (na : NoAttr X.K C f) (he : Ev1 X M R ρ e s r s1) (ho : Ev1 X M R ρ o s1 (.raw (.ref a)) s2) (am : a ∈ M)
    (h : ∀ H v, R s2 H → Sv X.K (cut M H) r v → ∃ dx fs, H a = some (.ins C dx fs) ∧ fs.length < 1000 ∧ R s3 (upd H a (.ins C dx (putF f v fs)))) (k : St1 X M R ρ rest s3 D)
    (hs : swapsWith e (some (.Attribute o f ppos)) pos.line X.env = pure false := by rfl) : St1 X M R ρ (.Assign [.Attribute o f ppos] e pos :: rest) s D := by
  intro σ H hσ hR
  refine wB_cons (wS_of (ps_fld pe_w pe_w hs) ?_)
  refine he σ H _ hσ hR fun y H1 e1 R1 d1 => ?_
  refine ho σ H1 _ (hσ.ex e1) R1 fun v H2 e2 R2 d2 => ?_
  have d2 : v = .ref a := d2
  subst d2
  obtain ⟨dx, fs, h1, h2, h3⟩ := h H2 y R2 (d1.ex e2)
  refine ⟨a, C, dx, fs, rfl, h1, c, na, h2, k σ _ ?_ h3⟩
  rw [cut_upd_in am]
  exact hσ.ex (e1.trans e2)
end
end DV
/-! zip over n tuples, for one name -/
namespace ZN
open PySem PySem.Spec PyProof.Rows L2
open PySem.Sem (wp)
theorem forIn_inv {M : Model} {A : Around} {E : Value → Shared → Prop} {α β : Type} {f : α → β → Sem (ForInStep β)} {Inv : Nat → β → Shared → Prop} {Q : β → Shared → Prop} : ∀ (l : List α) (k : Nat) (b : β) (s : Shared),
    (∀ j x b s, l[j]? = some x → Inv (k + j) b s → wpAny M A (f x b) (fun r s' => ∃ b', r = .yield b' ∧ Inv (k + j + 1) b' s') E s) → Inv k b s → (∀ b s', Inv (k + l.length) b s' → Q b s') → wpAny M A (forIn l b f) Q E s
  | [], k, b, s, _, h, q => by
    rw [List.forIn_nil]
    exact wpAny_pure (q b s h)
  | x :: l, k, b, s, hs, h, q => by
    rw [List.forIn_cons]
    refine wpAny_bind (wpAny_mono (hs 0 x b s rfl h) (fun r s' ⟨b', e, h'⟩ => ?_) fun _ _ z => z)
    subst e
    refine forIn_inv l (k + 1) b' s' (fun j y b s hj hi => ?_) h' fun b s' hi => q b s' (by rw [List.length_cons]; rw [show k + (l.length + 1) = k + 1 + l.length by omega]; exact hi)
    have := hs (j + 1) y b s (by simpa using hj) (by rw [show k + (j + 1) = k + 1 + j by omega]; exact hi)
    rw [show k + (j + 1) + 1 = k + 1 + j + 1 by omega] at this
    exact this
/-- a loop over an array, as over its list -/
theorem forIn_arr {M : Model} {A : Around} {E : Value → Shared → Prop} {α β : Type} {f : α → β → Sem (ForInStep β)} {Q : β → Shared → Prop} {a : Array α} {b : β} {s : Shared} (h : wpAny M A (forIn a.toList b f) Q E s) : wpAny M A (forIn a b f) Q E s := by
  rw [← Array.forIn_toList]
  exact h
abbrev zObj (f0 f1 : Value) (TI TO : Addr) : Obj := { cls := .type "zip", data := .fields #[f0, f1, .bool false, .ref TI, .ref TO] }
abbrev tObj (xs : Array Value) : Obj := { cls := .type "tuple", data := .seq xs }
/-- what a zip over the tuples as stands like at turn i -/
structure ZSt (z TI TO : Addr) (is as : List Addr) (i : Nat) (h : Heap) : Prop where
  z : ∃ f0 f1, h.get? z = some (zObj f0 f1 TI TO) ∧ (f0 = .none ∨ ∃ a t, f0 = .int a t)
  ti : h.get? TI = some (tObj (is.map Value.ref).toArray)
  to : ∃ xs, h.get? TO = some (tObj xs) ∧ xs.size = is.length
  its : ∀ (j : Nat) (it a : Addr), is[j]? = some it → as[j]? = some a → h.IsTupleIter it a i
/-- the cells lie apart -/
structure ZAp (z TI TO : Addr) (is as : List Addr) : Prop where
  len : is.length = as.length
  TIz : TI ≠ z
  TOz : TO ≠ z
  TITO : TI ≠ TO
  iz : ∀ x ∈ is, x ≠ z
  iTI : ∀ x ∈ is, x ≠ TI
  iTO : ∀ x ∈ is, x ≠ TO
  az : ∀ x ∈ as, x ≠ z
  aTO : ∀ x ∈ as, x ≠ TO
  ai : ∀ x ∈ as, ∀ y ∈ is, x ≠ y
  nd : is.Nodup
section
variable {prog : Program} {w : World} {A : Around} {E : Value → Shared → Prop}
/-- what each draw leaves -/
structure ZMid (s0 : Shared) (is as : List Addr) (cells : List Addr) (i j : Nat) (s : Shared) : Prop where
  h : ∃ h', s = { s0 with heap := h' }
  sz : s.heap.objs.size = s0.heap.objs.size
  old : ∀ b o, b ∉ cells → s0.heap.get? b = some o → s.heap.get? b = some o
  done : ∀ (m : Nat) (it a : Addr), m < j → is[m]? = some it → as[m]? = some a → s.heap.IsTupleIter it a (i + 1)
  left : ∀ (m : Nat) (it a : Addr), j ≤ m → is[m]? = some it → as[m]? = some a → s.heap.IsTupleIter it a i
theorem nodup_at {is : List Addr} (h : is.Nodup) {m j : Nat} {x : Addr} (h1 : is[m]? = some x) (h2 : is[j]? = some x) : m = j := by
  obtain ⟨b1, e1⟩ := List.getElem?_eq_some_iff.mp h1
  obtain ⟨b2, e2⟩ := List.getElem?_eq_some_iff.mp h2
  have key := List.pairwise_iff_getElem.mp h
  rcases Nat.lt_trichotomy m j with z | z | z
  · exact absurd (e1.trans e2.symm) (key m j b1 b2 z)
  · exact z
  · exact absurd (e2.trans e1.symm) (key j m b2 b1 z)
/-- the tuples as they stand, and what they have at turn i -/
structure ZTup (h : Heap) (as : List Addr) (i : Nat) (vs : List Value) : Prop where
  len : vs.length = as.length
  tup : ∀ (m : Nat) (a : Addr) (v : Value), as[m]? = some a → vs[m]? = some v → ∃ xs : Array Value, h.IsTuple a xs ∧ xs[i]? = some v
theorem draw_step {s0 s : Shared} {is as cells : List Addr} {i j : Nat} {it : Addr} {vs : List Value} {v : Value} (Zm : ZMid s0 is as cells i j s) (nd : is.Nodup) (hl : is.length = as.length) (hc : ∀ x ∈ is, x ∈ cells) (ha : ∀ x ∈ as, x ∉ cells) (T : ZTup s0.heap as i vs)
    (hi : is[j]? = some it) (hv : vs[j]? = some v) : wpAny (model prog w) A (Builtin.SmallTypes.nextOf (.ref it)) (fun r s' => r = v ∧ ZMid s0 is as cells i (j + 1) s') E s := by
  obtain ⟨b1, _⟩ := List.getElem?_eq_some_iff.mp hi
  have hja : as[j]? = some (as[j]'(by omega)) := List.getElem?_eq_getElem _
  obtain ⟨xs, ⟨ot, ho, r⟩, hx⟩ := T.tup j _ v hja hv
  have hn : as[j]'(by omega) ∉ cells := ha _ (List.getElem_mem _)
  have ho' := Zm.old _ _ hn ho
  have hit := Zm.left j it _ (Nat.le_refl _) hi hja
  refine RZ.nextOf_tuple_item (items := xs) hit ⟨ot, ho', r⟩ hx fun h' hit' hs => ⟨rfl, ?_⟩
  obtain ⟨hp, rfl⟩ := Zm.h
  have eb := hs.extBut
  refine ⟨⟨h', rfl⟩, by rw [← Zm.sz]; exact hs.1, fun b o hb e => eb b o (fun z => hb (z ▸ hc it (List.mem_of_getElem? hi))) (Zm.old b o hb e), fun m it' a' hm h1 h2 => ?_, fun m it' a' hm h1 h2 => ?_⟩
  · by_cases z : m = j
    · subst z
      rw [hi] at h1
      cases h1
      rw [hja] at h2
      cases h2
      exact hit'
    · have hne : it' ≠ it := fun e => z (nodup_at nd h1 (e ▸ hi))
      exact (Zm.done m it' a' (by omega) h1 h2).at fun o e => eb _ o hne e
  · have hne : it' ≠ it := fun e => by
      have := nodup_at nd h1 (e ▸ hi)
      omega
    exact (Zm.left m it' a' (by omega) h1 h2).at fun o e => eb _ o hne e
theorem alive_at {M : Model} {s : Shared} {a : Addr} {Q : Option Obj → Shared → Prop} (h : Q (s.heap.get? a) s) : wpAny M A (loadIfAlive a) Q E s := fun _ _ _ => h
abbrev BSt := Option PySem.Fin × Array Value
def BStep (prog : Program) (w : World) (A : Around) (E : Value → Shared → Prop) (f : Value → BSt → Sem (ForInStep BSt)) : Prop := ∀ (x : Value) (xs : Array Value) (s : Shared) (R : ForInStep BSt → Shared → Prop),
  wpAny (model prog w) A (Builtin.SmallTypes.nextOf x) (fun v s' => R (.yield (none, xs.push v)) s') E s → wpAny (model prog w) A (f x (none, xs)) R E s
def BRest (prog : Program) (w : World) (A : Around) (E : Value → Shared → Prop) (g : BSt → Sem PySem.Fin) : Prop := ∀ (xs : Array Value) (s : Shared) (R : PySem.Fin → Shared → Prop),
  wpAny (model prog w) A (newTuple xs.toList >>= fun v => ret v) R E s → wpAny (model prog w) A (g (none, xs)) R E s
theorem busy_loop {f : Value → BSt → Sem (ForInStep BSt)} {g : BSt → Sem PySem.Fin} (hf : BStep prog w A E f) (hg : BRest prog w A E g) {s : Shared} {is as : List Addr} {i : Nat} {vs : List Value} {Q : Value → Shared → Prop} (hl : is.length = as.length) (nd : is.Nodup) (ha : ∀ x ∈ as, x ∉ is) (h100 : is.length ≤ 100)
    (hit : ∀ (j : Nat) (it a : Addr), is[j]? = some it → as[j]? = some a → s.heap.IsTupleIter it a i) (T : ZTup s.heap as i vs)
    (hQ : ∀ h', (∀ (j : Nat) (it a : Addr), is[j]? = some it → as[j]? = some a → h'.IsTupleIter it a (i + 1)) → h'.get? s.heap.objs.size = some (tObj vs.toArray) → (∀ b o, b ∉ is → s.heap.get? b = some o → h'.get? b = some o) → Q (.ref s.heap.objs.size) { s with heap := h' }) :
    wpAny (model prog w) A (forIn (is.map Value.ref).toArray ((none, #[]) : BSt) f >>= g) (fun fin s' => ∃ v, fin = .done (.ret v) ∧ Q v s') E s := by
  have Zm0 : ZMid s is as is i 0 s := ⟨⟨s.heap, rfl⟩, rfl, fun b o _ e => e, fun m it a hm => absurd hm (Nat.not_lt_zero _), fun m it a _ e1 e2 => hit m it a e1 e2⟩
  refine wpAny_bind (forIn_arr (forIn_inv (Inv := fun j b s' => b.1 = none ∧ b.2.toList = vs.take j ∧ ZMid s is as is i j s') (is.map Value.ref) 0 _ _ (fun j x b s' hj ⟨hb1, hb2, Zm⟩ => ?_) ⟨rfl, by simp, Zm0⟩ fun b s' ⟨hb1, hb2, Zm⟩ => ?_))
  · rw [Nat.zero_add] at Zm hb2 ⊢
    rw [List.getElem?_map] at hj
    cases hi : is[j]? with
    | none => rw [hi] at hj; cases hj
    | some it =>
      rw [hi] at hj
      have hj : Value.ref it = x := Option.some.inj hj
      subst hj
      obtain ⟨b1', _⟩ := List.getElem?_eq_some_iff.mp hi
      have hv : vs[j]? = some (vs[j]'(by rw [T.len]; omega)) := List.getElem?_eq_getElem _
      obtain ⟨c1, c2⟩ := b
      have hb1 : c1 = none := hb1
      subst hb1
      have hb2 : c2.toList = vs.take j := hb2
      refine hf _ _ _ _ (wpAny_mono (draw_step Zm nd hl (fun x hx => hx) ha T hi hv) (fun r s2 ⟨e, Zm2⟩ => ?_) fun _ _ z => z)
      subst e
      exact ⟨_, rfl, rfl, by show (c2.push _).toList = _; rw [Array.toList_push, hb2, List.take_add_one, hv]; rfl, Zm2⟩
  · rw [List.length_map, Nat.zero_add] at Zm hb2
    rw [List.take_of_length_le (by rw [T.len]; omega)] at hb2
    obtain ⟨b1, b2⟩ := b
    have hb1 : b1 = none := hb1
    have hb2 : b2.toList = vs := hb2
    subst hb1
    refine hg _ _ _ ?_
    rw [hb2]
    obtain ⟨h2, rfl⟩ := Zm.h
    have esz : h2.objs.size = s.heap.objs.size := Zm.sz
    refine wpAny_bind (wpAny_newTuple ?_ (by rw [T.len, ← hl, sizeLine_eq]; omega))
    have up : ∀ b o, h2.get? b = some o → (h2.push (tObj vs.toArray)).get? b = some o := fun b o e => Heap.get?_push_of_some _ e
    refine wpAny_pure ⟨_, rfl, ?_⟩
    show Q (.ref h2.objs.size) { s with heap := h2.push (tObj vs.toArray) }
    rw [esz]
    refine hQ _ (fun j it a e1 e2 => ?_) (by rw [← esz]; exact Heap.get?_push_size _ rfl) (fun b o hb e => up b o (Zm.old b o hb e))
    obtain ⟨bj, _⟩ := List.getElem?_eq_some_iff.mp e1
    exact (Zm.done j it a bj e1 e2).at fun o e => up _ o e
/-- a turn, the tuple handed out ahead still there: a new one -/
theorem next_busy {s : Shared} {z TI TO : Addr} {is as : List Addr} {i : Nat} {f1 : Value} {a0 : Int} {t0 : Tok} {o0 : Obj} {vs : List Value} {Q : Value → Shared → Prop} (D : ZAp z TI TO is as) (hne : is ≠ []) (h100 : is.length ≤ 100)
    (hz : s.heap.get? z = some (zObj (.int a0 t0) f1 TI TO)) (ho : s.heap.get? a0.toNat = some o0) (S : ZSt z TI TO is as i s.heap) (T : ZTup s.heap as i vs)
    (hQ : ∀ h', ZSt z TI TO is as (i + 1) h' → h'.get? s.heap.objs.size = some (tObj vs.toArray) → (∀ b o, b ∉ z :: TO :: is → s.heap.get? b = some o → h'.get? b = some o) → Q (.ref s.heap.objs.size) { s with heap := h' }) :
    wpAny (model prog w) A (Builtin.«zip.__next__» ⟨[.ref z], []⟩) (fun fin s' => ∃ v, fin = .done (.ret v) ∧ Q v s') E s := by
  have hTI := S.ti
  obtain ⟨xo, hTO, hxo⟩ := S.to
  show wpAny _ _ (field (.ref z) 2 >>= _) _ _ _
  refine wpAny_bind (wpAny_field hz rfl (x := .bool false) rfl ?_)
  show wpAny _ _ (field (.ref z) 3 >>= _) _ _ _
  refine wpAny_bind (wpAny_field hz rfl (x := .ref TI) rfl ?_)
  refine wpAny_bind (wpAny_seqItems hTI rfl ?_)
  have he : ((is.map Value.ref).toArray.isEmpty) = false := by
    cases is with
    | nil => exact absurd rfl hne
    | cons _ _ => rfl
  simp only [he, Bool.false_eq_true, if_false]
  have hl := D.len
  have ha : ∀ x ∈ as, x ∉ is := fun x hx hm => D.ai x hx x hm rfl
  have main : ∀ (f1 : Value) (h1 : Heap) (f : Value → BSt → Sem (ForInStep BSt)) (g : BSt → Sem PySem.Fin), BStep prog w A E f → BRest prog w A E g → h1.get? z = some (zObj (.int a0 t0) f1 TI TO) → Heap.SameBut z s.heap h1 → wpAny (model prog w) A (forIn (is.map Value.ref).toArray ((none, #[]) : BSt) f >>= g) (fun fin s' => ∃ v, fin = .done (.ret v) ∧ Q v s') E { s with heap := h1 } := by
    intro f1 h1 f g hf hg hz1 hs1
    have ext := hs1.extBut
    have T1 : ZTup h1 as i vs := ⟨T.len, fun m a v e1 e2 => by
      obtain ⟨xs, ⟨o, ho, r⟩, hx⟩ := T.tup m a v e1 e2
      exact ⟨xs, ⟨o, ext _ o (D.az a (List.mem_of_getElem? e1)) ho, r⟩, hx⟩⟩
    refine busy_loop hf hg (s := { s with heap := h1 }) hl D.nd ha h100 (fun m it a e1 e2 => (S.its m it a e1 e2).at fun o e => ext _ o (D.iz it (List.mem_of_getElem? e1)) e) T1 fun h' hi hT hk => ?_
    have esz : h1.objs.size = s.heap.objs.size := hs1.1
    have hT : h'.get? h1.objs.size = some (tObj vs.toArray) := hT
    show Q (.ref h1.objs.size) { s with heap := h' }
    rw [esz] at hT ⊢
    refine hQ h' ⟨⟨_, _, hk z _ (fun m => D.iz z m rfl) hz1, .inr ⟨_, _, rfl⟩⟩, hk TI _ (fun m => D.iTI TI m rfl) (ext _ _ D.TIz hTI), ⟨xo, hk TO _ (fun m => D.iTO TO m rfl) (ext _ _ D.TOz hTO), hxo⟩, hi⟩ hT fun b o hb e => ?_
    refine hk b o (fun m => hb (List.mem_cons_of_mem _ (List.mem_cons_of_mem _ m))) (ext b o (fun e => hb (e ▸ List.mem_cons_self)) e)
  refine wpAny_bind ?_
  unfold Builtin.SmallTypes.ownedTupleIsFree
  refine wpAny_bind (wpAny_field hz rfl (x := .int a0 t0) rfl ?_)
  refine wpAny_bind (alive_at ?_)
  rw [ho]
  simp only [Option.isNone_some, Bool.false_eq_true, if_false]
  refine wpAny_bind (wpAny_field hz rfl (x := f1) rfl ?_)
  by_cases q : (f1 != Value.bool true) = true
  · rw [if_pos q]
    refine wpAny_bind (wpAny_setField_rec hz (by simp) fun h1 hz1 hs1 => ?_)
    refine wpAny_pure ?_
    simp only [Bool.false_eq_true, if_false]
    refine main _ h1 _ _ (fun x xs s R h => ?_) (fun xs s R h => h) hz1 hs1
    refine wpAny_bind (wpAny_holding ?_)
    show wpAny _ _ (Builtin.SmallTypes.nextOf x >>= _) _ _ _
    exact wpAny_bind (wpAny_mono h (fun v s' h' => wpAny_pure (wpAny_pure h')) fun _ _ z => z)
  · rw [if_neg q]
    refine wpAny_pure ?_
    simp only [Bool.false_eq_true, if_false]
    refine main _ s.heap _ _ (fun x xs s R h => ?_) (fun xs s R h => h) hz (Heap.SameBut.refl ..)
    refine wpAny_bind (wpAny_holding ?_)
    show wpAny _ _ (Builtin.SmallTypes.nextOf x >>= _) _ _ _
    exact wpAny_bind (wpAny_mono h (fun v s' h' => wpAny_pure (wpAny_pure h')) fun _ _ z => z)
theorem vs_of {vs : List Value} {xs : Array Value} {k : Nat} (hs : xs.size = k) (hl : vs.length = k) (h : ∀ m, m < k → xs[m]? = vs[m]?) : xs.toList = vs := by
  apply List.ext_getElem?
  intro m
  rw [Array.getElem?_toList]
  by_cases z : m < k
  · exact h m z
  · rw [Array.getElem?_eq_none (by omega), List.getElem?_eq_none (by omega)]
/-- a turn, the owned tuple free: its items are exchanged, a copy is handed out -/
theorem next_free {s : Shared} {z TI TO : Addr} {is as : List Addr} {i : Nat} {f0 f1 : Value} {vs : List Value} {Q : Value → Shared → Prop} (D : ZAp z TI TO is as) (hne : is ≠ []) (h100 : is.length ≤ 100)
    (hz : s.heap.get? z = some (zObj f0 f1 TI TO)) (h0 : f0 = .none ∨ ∃ a t, f0 = .int a t ∧ s.heap.get? a.toNat = none) (S : ZSt z TI TO is as i s.heap) (T : ZTup s.heap as i vs)
    (hQ : ∀ h', ZSt z TI TO is as (i + 1) h' → h'.get? s.heap.objs.size = some (tObj vs.toArray) → (∀ b o, b ∉ z :: TO :: is → s.heap.get? b = some o → h'.get? b = some o) → Q (.ref s.heap.objs.size) { s with heap := h' }) :
    wpAny (model prog w) A (Builtin.«zip.__next__» ⟨[.ref z], []⟩) (fun fin s' => ∃ v, fin = .done (.ret v) ∧ Q v s') E s := by
  have hTI := S.ti
  obtain ⟨xo, hTO, hxo⟩ := S.to
  have hl := D.len
  show wpAny _ _ (field (.ref z) 2 >>= _) _ _ _
  refine wpAny_bind (wpAny_field hz rfl (x := .bool false) rfl ?_)
  show wpAny _ _ (field (.ref z) 3 >>= _) _ _ _
  refine wpAny_bind (wpAny_field hz rfl (x := .ref TI) rfl ?_)
  refine wpAny_bind (wpAny_seqItems hTI rfl ?_)
  have he : ((is.map Value.ref).toArray.isEmpty) = false := by
    cases is with
    | nil => exact absurd rfl hne
    | cons _ _ => rfl
  simp only [he, Bool.false_eq_true, if_false]
  refine wpAny_bind ?_
  have hfree : ∀ {R : Bool → Shared → Prop}, R true s → wpAny (model prog w) A (Builtin.SmallTypes.ownedTupleIsFree (.ref z)) R E s := by
    intro R hR
    unfold Builtin.SmallTypes.ownedTupleIsFree
    refine wpAny_bind (wpAny_field hz rfl (x := f0) rfl ?_)
    rcases h0 with rfl | ⟨a, t, rfl, ha⟩
    · exact wpAny_pure hR
    · refine wpAny_bind (alive_at ?_)
      rw [ha]
      exact wpAny_pure hR
  refine hfree ?_
  simp only [if_true]
  refine wpAny_bind (wpAny_rule ?_)
  refine wpAny_bind (wpAny_field hz rfl (x := .ref TO) rfl ?_)
  refine wpAny_bind (wpAny_setField_rec hz (by simp) fun h1 hz1 hs1 => ?_)
  replace hz1 : h1.get? z = some (zObj .ellipsis f1 TI TO) := hz1
  have ext := hs1.extBut
  have T1 : ZTup h1 as i vs := ⟨T.len, fun m a v e1 e2 => by
    obtain ⟨xs, ⟨o, ho, r⟩, hx⟩ := T.tup m a v e1 e2
    exact ⟨xs, ⟨o, ext _ o (D.az a (List.mem_of_getElem? e1)) ho, r⟩, hx⟩⟩
  have hTO1 : h1.get? TO = some (tObj xo) := ext _ _ D.TOz hTO
  have hc : ∀ x ∈ is, x ∈ TO :: is := fun x hx => List.mem_cons_of_mem _ hx
  have ha : ∀ x ∈ as, x ∉ TO :: is := fun x hx hm => by
    rcases List.mem_cons.mp hm with e | hm
    · exact D.aTO x hx e
    · exact D.ai x hx x hm rfl
  have Zm0 : ZMid { s with heap := h1 } is as (TO :: is) i 0 { s with heap := h1 } := ⟨⟨h1, rfl⟩, rfl, fun b o _ e => e, fun m it a hm => absurd hm (Nat.not_lt_zero _), fun m it a _ e1 e2 => (S.its m it a e1 e2).at fun o e => ext _ o (D.iz it (List.mem_of_getElem? e1)) e⟩
  refine wpAny_bind (forIn_inv (Inv := fun j b s' => b.1 = none ∧ ZMid { s with heap := h1 } is as (TO :: is) i j s' ∧ ∃ xs, s'.heap.get? TO = some (tObj xs) ∧ xs.size = is.length ∧ ∀ m, m < j → xs[m]? = vs[m]?) ((is.map Value.ref).zipIdx) 0 _ _
    (fun j x b s' hj ⟨hb1, Zm, xs, hxT, hxs, hxv⟩ => ?_) ⟨rfl, Zm0, xo, hTO1, hxo, fun m hm => absurd hm (Nat.not_lt_zero _)⟩ fun b s' ⟨hb1, Zm, xs, hxT, hxs, hxv⟩ => ?_)
  · rw [Nat.zero_add] at Zm hxv ⊢
    rw [List.getElem?_zipIdx, List.getElem?_map] at hj
    cases hi : is[j]? with
    | none => rw [hi] at hj; cases hj
    | some it =>
      rw [hi] at hj
      have hj : (Value.ref it, 0 + j) = x := Option.some.inj hj
      rw [Nat.zero_add] at hj
      subst hj
      obtain ⟨bj, _⟩ := List.getElem?_eq_some_iff.mp hi
      have hv : vs[j]? = some (vs[j]'(by rw [T.len]; omega)) := List.getElem?_eq_getElem _
      refine wpAny_bind (wpAny_onRaise ?_)
      show wpAny _ _ (Builtin.SmallTypes.nextOf (.ref it) >>= _) _ _ _
      have noTO : ∀ {s2 : Shared}, s'.heap.get? TO = some (tObj xs) → ZMid { s with heap := h1 } is as (TO :: is) i (j + 1) s2 → (∀ b o, b ≠ it → s'.heap.get? b = some o → s2.heap.get? b = some o) → s2.heap.get? TO = some (tObj xs) := fun e _ k => k TO _ (fun e => D.iTO it (List.mem_of_getElem? hi) e.symm) e
      obtain ⟨hp, rfl⟩ := Zm.h
      obtain ⟨ot, hot, rt⟩ : ∃ o, _ := (Zm.left j it _ (Nat.le_refl _) hi (List.getElem?_eq_getElem (by omega)))
      have hja : as[j]? = some (as[j]'(by omega)) := List.getElem?_eq_getElem _
      obtain ⟨xt, ⟨o2, ho2, r2⟩, hx⟩ := T1.tup j _ _ hja hv
      have hn : as[j]'(by omega) ∉ TO :: is := ha _ (List.getElem_mem _)
      refine wpAny_bind (RZ.nextOf_tuple_item (items := xt) (Zm.left j it _ (Nat.le_refl _) hi hja) ⟨o2, Zm.old _ _ hn ho2, r2⟩ hx fun h2 hit2 hs2 => wpAny_pure ?_)
      have eb2 := hs2.extBut
      have hT2 : h2.get? TO = some (tObj xs) := eb2 TO _ (fun e => D.iTO it (List.mem_of_getElem? hi) e.symm) hxT
      refine wpAny_bind (wpAny_seqItems hT2 rfl ?_)
      refine wpAny_bind (wpAny_updateSeq hT2 rfl ?_ (by rw [hxs, sizeLine_eq]; omega) (by rw [Array.size_setIfInBounds, hxs, sizeLine_eq]; omega))
      refine wpAny_bind (wpAny_letGo (wpAny_pure ⟨_, rfl, rfl, ?_, xs.setIfInBounds j (vs[j]'(by rw [T.len]; omega)), by
        show (h2.update TO _).get? TO = _
        rw [Heap.get?_update_self _ hT2 rfl]
        simp [Obj.mapSeq], ?_, ?_⟩))
      · have hs3 := Heap.SameBut.update h2 TO (Obj.mapSeq fun y => y.setIfInBounds j (vs[j]'(by rw [T.len]; omega)))
        have eb3 := hs3.extBut
        refine ⟨⟨_, rfl⟩, (hs3.1.trans hs2.1).trans Zm.sz, fun b o hb e => eb3 b o (fun z => hb (z ▸ List.mem_cons_self)) (eb2 b o (fun z => hb (z ▸ hc it (List.mem_of_getElem? hi))) (Zm.old b o hb e)), fun m it' a' hm h1' h2' => ?_, fun m it' a' hm h1' h2' => ?_⟩
        · have nT : it' ≠ TO := D.iTO it' (List.mem_of_getElem? h1')
          by_cases z : m = j
          · subst z
            rw [hi] at h1'
            cases h1'
            rw [hja] at h2'
            cases h2'
            exact hit2.at fun o e => eb3 _ o nT e
          · have hne : it' ≠ it := fun e => z (nodup_at D.nd h1' (e ▸ hi))
            exact ((Zm.done m it' a' (by omega) h1' h2').at fun o e => eb2 _ o hne e).at fun o e => eb3 _ o nT e
        · have nT : it' ≠ TO := D.iTO it' (List.mem_of_getElem? h1')
          have hne : it' ≠ it := fun e => by
            have := nodup_at D.nd h1' (e ▸ hi)
            omega
          exact ((Zm.left m it' a' (by omega) h1' h2').at fun o e => eb2 _ o hne e).at fun o e => eb3 _ o nT e
      · show (xs.setIfInBounds j _).size = _
        rw [Array.size_setIfInBounds, hxs]
      · intro m hm
        show (xs.setIfInBounds j _)[m]? = _
        rw [Array.getElem?_setIfInBounds]
        by_cases z : j = m
        · subst z
          rw [if_pos rfl, if_pos (by omega), hv]
        · rw [if_neg z]
          exact hxv m (by omega)
  · rw [List.length_zipIdx, List.length_map, Nat.zero_add] at Zm hxv
    obtain ⟨b1, b2⟩ := b
    have hb1 : b1 = none := hb1
    subst hb1
    obtain ⟨h2, rfl⟩ := Zm.h
    have hxl : xs.toList = vs := vs_of hxs (by rw [T.len, ← hl]) hxv
    refine wpAny_bind (wpAny_seqItems hxT rfl ?_)
    dsimp only
    rw [hxl]
    have esz : h2.objs.size = s.heap.objs.size := Zm.sz.trans hs1.1
    refine wpAny_bind (wpAny_newTuple ?_ (by rw [T.len, ← hl, sizeLine_eq]; omega))
    have up : ∀ b o, h2.get? b = some o → (h2.push (tObj vs.toArray)).get? b = some o := fun b o e => Heap.get?_push_of_some _ e
    have hz2 : h2.get? z = some (zObj .ellipsis f1 TI TO) := Zm.old z _ (fun m => by
      rcases List.mem_cons.mp m with e | m
      · exact D.TOz e.symm
      · exact D.iz z m rfl) hz1
    have hzlt : z < h2.objs.size := Heap.lt_size hz2
    show wpAny _ _ (Builtin.SmallTypes.ownedTupleHandOut (.ref z) (.ref h2.objs.size) >>= _) _ _ { s with heap := h2.push (tObj vs.toArray) }
    refine wpAny_bind ?_
    unfold Builtin.SmallTypes.ownedTupleHandOut
    refine wpAny_bind (wpAny_setField_rec (up _ _ hz2) (by simp) fun h3 hz3 hs3 => ?_)
    replace hz3 : h3.get? z = some (zObj (rawInt h2.objs.size) f1 TI TO) := hz3
    refine wpAny_setField_rec hz3 (by simp) fun h4 hz4 hs4 => ?_
    replace hz4 : h4.get? z = some (zObj (rawInt h2.objs.size) (.bool false) TI TO) := hz4
    have k4 : ∀ b o, b ≠ z → h2.get? b = some o → h4.get? b = some o := fun b o n e => hs4.extBut b o n (hs3.extBut b o n (up b o e))
    refine wpAny_pure ⟨_, rfl, ?_⟩
    show Q (.ref h2.objs.size) { s with heap := h4 }
    have hT4 : h4.get? h2.objs.size = some (tObj vs.toArray) := hs4.extBut _ _ (Nat.ne_of_gt hzlt) (hs3.extBut _ _ (Nat.ne_of_gt hzlt) (Heap.get?_push_size _ rfl))
    rw [esz] at hT4 ⊢
    refine hQ h4 ⟨⟨_, _, hz4, .inr ⟨_, _, rfl⟩⟩, k4 TI _ D.TIz (Zm.old TI _ (fun m => by
      rcases List.mem_cons.mp m with e | m
      · exact D.TITO e
      · exact D.iTI TI m rfl) (ext _ _ D.TIz hTI)), ⟨xs, k4 TO _ D.TOz hxT, hxs⟩, fun m it a e1 e2 => ?_⟩ hT4 fun b o hb e => ?_
    · obtain ⟨bm, _⟩ := List.getElem?_eq_some_iff.mp e1
      exact (Zm.done m it a bm e1 e2).at fun o e => k4 _ o (D.iz it (List.mem_of_getElem? e1)) e
    · exact k4 b o (fun e => hb (e ▸ List.mem_cons_self)) (Zm.old b o (fun m => hb (List.mem_cons_of_mem _ m)) (ext b o (fun e => hb (e ▸ List.mem_cons_self)) e))
/-- the first draw ends the zip -/
theorem next_end {s : Shared} {z TI TO : Addr} {is as : List Addr} {i : Nat} {a : Addr} {xs : Array Value} {Q : PySem.Fin → Shared → Prop} (hh : A.handled = none) (D : ZAp z TI TO is as) (hne : is ≠ []) (S : ZSt z TI TO is as i s.heap)
    (h0 : as[0]? = some a) (ha : s.heap.IsTuple a xs) (hx : xs[i]? = none)
    (hE : ∀ h' e, (∀ b o, b ∉ z :: TO :: is → s.heap.get? b = some o → h'.get? b = some o) → (∃ o, h'.get? e = some o ∧ o.cls = .type "StopIteration") → E (.ref e) { s with heap := h' }) :
    wpAny (model prog w) A (Builtin.«zip.__next__» ⟨[.ref z], []⟩) Q E s := by
  obtain ⟨f0, f1, hz, hf0⟩ := S.z
  have hTI := S.ti
  obtain ⟨xo, hTO, hxo⟩ := S.to
  have hl := D.len
  have hi0 : is[0]? = some (is[0]'(List.length_pos_iff.mpr hne)) := List.getElem?_eq_getElem _
  have ham : a ∈ as := List.mem_of_getElem? h0
  have hz2 : is[0]'(List.length_pos_iff.mpr hne) ∈ is := List.getElem_mem _
  have hit := S.its 0 _ a hi0 h0
  generalize hg : is[0]'(List.length_pos_iff.mpr hne) = it at hi0 hz2 hit
  obtain ⟨r, hr⟩ : ∃ r, is = it :: r := by
    cases is with
    | nil => exact absurd rfl hne
    | cons x r => exact ⟨r, by have : x = it := hg; rw [this]⟩
  obtain ⟨oa, hoa, ra⟩ := ha
  show wpAny _ _ (field (.ref z) 2 >>= _) _ _ _
  refine wpAny_bind (wpAny_field hz rfl (x := .bool false) rfl ?_)
  show wpAny _ _ (field (.ref z) 3 >>= _) _ _ _
  refine wpAny_bind (wpAny_field hz rfl (x := .ref TI) rfl ?_)
  refine wpAny_bind (wpAny_seqItems hTI rfl ?_)
  have he : ((is.map Value.ref).toArray.isEmpty) = false := by rw [hr]; rfl
  simp only [he, Bool.false_eq_true, if_false]
  -- a draw from a heap that differs at z alone
  have draw : ∀ (h1 : Heap) (R : Value → Shared → Prop) (E2 : Value → Shared → Prop), Heap.ExtBut z s.heap h1 → (∀ h' e, Heap.ExtBut it h1 h' → (∃ o, h'.get? e = some o ∧ o.cls = .type "StopIteration") → E2 (.ref e) { s with heap := h' }) → wpAny (model prog w) A (Builtin.SmallTypes.nextOf (.ref it)) R E2 { s with heap := h1 } := fun h1 R E2 ext hE2 =>
    RZ.nextOf_tuple_end (s := { s with heap := h1 }) (items := xs) hh (hit.at fun o e => ext _ o (D.iz it hz2) e) ⟨oa, ext _ _ (D.az a ham) hoa, ra⟩ hx hE2
  have fin1 : ∀ (h1 h' : Heap) (e : Addr), Heap.ExtBut z s.heap h1 → Heap.ExtBut it h1 h' → (∃ o, h'.get? e = some o ∧ o.cls = .type "StopIteration") → E (.ref e) { s with heap := h' } := fun h1 h' e x1 x2 ho =>
    hE h' e (fun b o hb eb => x2 b o (fun q => hb (q ▸ List.mem_cons_of_mem _ (List.mem_cons_of_mem _ hz2))) (x1 b o (fun q => hb (q ▸ List.mem_cons_self)) eb)) ho
  have busy : ∀ (h1 : Heap) (f : Value → BSt → Sem (ForInStep BSt)) (g : BSt → Sem PySem.Fin), (∀ (x : Value) (xs : Array Value) (s : Shared) (R : ForInStep BSt → Shared → Prop) (E2 : Value → Shared → Prop), wpAny (model prog w) A (Builtin.SmallTypes.nextOf x) (fun v s' => R (.yield (none, xs.push v)) s') E2 s → wpAny (model prog w) A (f x (none, xs)) R E2 s) →
      Heap.ExtBut z s.heap h1 → wpAny (model prog w) A (forIn (is.map Value.ref).toArray ((none, #[]) : BSt) f >>= g) Q E { s with heap := h1 } := fun h1 f g hf ext => by
    refine wpAny_bind (forIn_arr ?_)
    rw [hr]
    show wpAny _ _ (forIn (Value.ref it :: r.map Value.ref) _ _) _ _ _
    rw [List.forIn_cons]
    exact wpAny_bind (hf _ _ _ _ _ (draw h1 _ _ ext fun h' e x2 ho => fin1 h1 h' e ext x2 ho))
  have hbody : ∀ (x : Value) (xs : Array Value) (s : Shared) (R : ForInStep BSt → Shared → Prop) (E2 : Value → Shared → Prop), wpAny (model prog w) A (Builtin.SmallTypes.nextOf x) (fun v s' => R (.yield (none, xs.push v)) s') E2 s → wpAny (model prog w) A (Builtin.SmallTypes.nextOf x >>= fun v => pure (some v)) (fun d s' => match d with | some v => R (.yield (none, xs.push v)) s' | none => True) E2 s := fun x xs s R E2 h => wpAny_bind (wpAny_mono h (fun v s' h' => wpAny_pure h') fun _ _ z => z)
  have free : wpAny (model prog w) A (Builtin.SmallTypes.ownedTupleIsFree (.ref z)) (fun b s' => (b = true ∧ s' = s) ∨ (b = false ∧ ∃ h1, s' = { s with heap := h1 } ∧ Heap.ExtBut z s.heap h1)) E s := by
    unfold Builtin.SmallTypes.ownedTupleIsFree
    refine wpAny_bind (wpAny_field hz rfl (x := f0) rfl ?_)
    rcases hf0 with rfl | ⟨a0, t0, rfl⟩
    · exact wpAny_pure (.inl ⟨rfl, rfl⟩)
    · refine wpAny_bind (alive_at ?_)
      cases ho : s.heap.get? a0.toNat with
      | none => exact wpAny_pure (.inl ⟨rfl, rfl⟩)
      | some o0 =>
        simp only [Option.isNone_some, Bool.false_eq_true, if_false]
        refine wpAny_bind (wpAny_field hz rfl (x := f1) rfl ?_)
        by_cases q : (f1 != Value.bool true) = true
        · rw [if_pos q]
          exact wpAny_bind (wpAny_setField_rec hz (by simp) fun h1 hz1 hs1 => wpAny_pure (.inr ⟨rfl, h1, rfl, hs1.extBut⟩))
        · rw [if_neg q]
          exact wpAny_pure (.inr ⟨rfl, s.heap, rfl, fun _ _ _ e => e⟩)
  refine wpAny_bind (wpAny_mono free (fun b s' hb => ?_) fun _ _ z => z)
  rcases hb with ⟨rfl, rfl⟩ | ⟨rfl, h1, rfl, ext⟩
  · simp only [if_true]
    refine wpAny_bind (wpAny_rule ?_)
    refine wpAny_bind (wpAny_field hz rfl (x := .ref TO) rfl ?_)
    refine wpAny_bind (wpAny_setField_rec hz (by simp) fun h1 hz1 hs1 => ?_)
    have ext := hs1.extBut
    refine wpAny_bind ?_
    rw [hr]
    show wpAny _ _ (forIn ((Value.ref it, 0) :: (r.map Value.ref).zipIdx 1) _ _) _ _ _
    rw [List.forIn_cons]
    refine wpAny_bind (wpAny_bind (wpAny_onRaise ?_))
    show wpAny _ _ (Builtin.SmallTypes.nextOf (.ref it) >>= _) _ _ _
    refine wpAny_bind (draw h1 _ _ ext fun h' e x2 ho => ?_)
    obtain ⟨oe, hoe, hce⟩ := ho
    have hz3 := x2 z _ (fun q => D.iz it hz2 q.symm) hz1
    have hez : e ≠ z := fun x => by subst x; rw [hz3] at hoe; cases hoe; simp at hce
    refine wpAny_setField_rec hz3 (by simp) fun h4 _ hs4 => ?_
    exact hE h4 e (fun b o hb eb => hs4.extBut b o (fun q => hb (q ▸ List.mem_cons_self)) (x2 b o (fun q => hb (q ▸ List.mem_cons_of_mem _ (List.mem_cons_of_mem _ hz2))) (ext b o (fun q => hb (q ▸ List.mem_cons_self)) eb))) ⟨oe, hs4.extBut _ _ hez hoe, hce⟩
  · simp only [Bool.false_eq_true, if_false]
    refine busy h1 _ _ (fun x xs s R E2 h => ?_) ext
    refine wpAny_bind (wpAny_holding ?_)
    show wpAny _ _ (Builtin.SmallTypes.nextOf x >>= _) _ _ _
    exact wpAny_bind (wpAny_mono h (fun v s' h' => wpAny_pure (wpAny_pure h')) fun _ _ z => z)
end
end ZN
namespace ZN
open PySem PySem.Spec PyProof.Rows L2
open PySem.Sem (wp)
section
variable {prog : Program} {w : World} {A : Around} {E : Value → Shared → Prop}
def itsAt (n k : Nat) : List Addr := (List.range k).map fun j => n + j
theorem itsAt_get {n k j : Nat} (h : j < k) : (itsAt n k)[j]? = some (n + j) := by
  unfold itsAt
  rw [List.getElem?_map, List.getElem?_range h]
  rfl
theorem itsAt_len (n k : Nat) : (itsAt n k).length = k := by unfold itsAt; rw [List.length_map, List.length_range]
theorem iterAll_tups {s : Shared} {as : List Addr} {Q : List Value → Shared → Prop} (ht : ∀ a ∈ as, ∃ xs, s.heap.IsTuple a xs)
    (hQ : ∀ h', h'.objs.size = s.heap.objs.size + as.length → (∀ b o, s.heap.get? b = some o → h'.get? b = some o) → (∀ j a, as[j]? = some a → h'.IsTupleIter (s.heap.objs.size + j) a 0) → Q ((itsAt s.heap.objs.size as.length).map Value.ref) { s with heap := h' }) :
    wpAny (model prog w) A (Builtin.SmallTypes.iterAll (as.map Value.ref)) Q E s := by
  unfold Builtin.SmallTypes.iterAll
  refine wpAny_bind (forIn_inv (Inv := fun j b s' => b.toList = (itsAt s.heap.objs.size j).map Value.ref ∧ ∃ h', s' = { s with heap := h' } ∧ h'.objs.size = s.heap.objs.size + j ∧ (∀ b o, s.heap.get? b = some o → h'.get? b = some o) ∧ ∀ m a, m < j → as[m]? = some a → h'.IsTupleIter (s.heap.objs.size + m) a 0)
    (as.map Value.ref) 0 _ _ (fun j x b s' hj ⟨hb, h', e, hsz, hk, hi⟩ => ?_) ⟨rfl, s.heap, rfl, rfl, fun _ _ e => e, fun m a hm => absurd hm (Nat.not_lt_zero _)⟩ fun b s' ⟨hb, h', e, hsz, hk, hi⟩ => ?_)
  · rw [Nat.zero_add] at hb hsz hi ⊢
    subst e
    rw [List.getElem?_map] at hj
    cases ha : as[j]? with
    | none => rw [ha] at hj; cases hj
    | some a =>
      rw [ha] at hj
      have hj : Value.ref a = x := Option.some.inj hj
      subst hj
      obtain ⟨xs, o, ho, r⟩ := ht a (List.mem_of_getElem? ha)
      refine wpAny_bind (wpAny_holding (wpAny_pyIter_tuple (s := { s with heap := h' }) (items := xs) ⟨o, hk _ _ ho, r⟩ (wpAny_pure ⟨_, rfl, ?_, _, rfl, ?_, fun b o e => Heap.get?_push_of_some _ (hk b o e), fun m a' hm e1 => ?_⟩)))
      · show (b.push (Value.ref h'.objs.size)).toList = _
        rw [Array.toList_push, hb, hsz]
        unfold itsAt
        rw [List.range_succ, List.map_append, List.map_append]
        rfl
      · show (h'.push _).objs.size = _
        rw [Heap.size_push, hsz]
        omega
      · by_cases z : m = j
        · subst z
          rw [ha] at e1
          cases e1
          rw [← hsz]
          exact ⟨_, Heap.get?_push_size _ rfl, rfl, rfl⟩
        · exact (hi m a' (by omega) e1).at fun o e => Heap.get?_push_of_some _ e
  · rw [List.length_map, Nat.zero_add] at hb hsz hi
    subst e
    refine wpAny_pure ?_
    rw [hb]
    exact hQ h' hsz hk fun j a e => hi j a (List.getElem?_eq_some_iff.mp e).1 e
theorem new_cls (rest : List Value) : Builtin.SmallTypes.newClass "zip" ⟨.type "zip" :: rest, []⟩ = pure (.type "zip", rest) := by
  have h := sub_zip
  simp [Builtin.SmallTypes.newClass, isType, h]
theorem meets_new (as : List Addr) : Meets (Builtin.«zip.__new__» ⟨.type "zip" :: as.map Value.ref, []⟩) (fun _ R s => (∀ a ∈ as, ∃ xs, s.heap.IsTuple a xs) ∧ as.length ≤ 100 ∧
    ∀ h', h'.get? (s.heap.objs.size + as.length + 2) = some (zObj .none (.bool false) (s.heap.objs.size + as.length) (s.heap.objs.size + as.length + 1)) → h'.get? (s.heap.objs.size + as.length) = some (tObj ((itsAt s.heap.objs.size as.length).map Value.ref).toArray) →
      h'.get? (s.heap.objs.size + as.length + 1) = some (tObj (((itsAt s.heap.objs.size as.length).map Value.ref).map fun _ => Value.none).toArray) → (∀ j a, as[j]? = some a → h'.IsTupleIter (s.heap.objs.size + j) a 0) → (∀ b o, s.heap.get? b = some o → h'.get? b = some o) →
      R (.ok (.ret (.ref (s.heap.objs.size + as.length + 2)))) { s with heap := h' }) :=
  .of_wp fun prog w A R s h => by
    obtain ⟨ht, hl, h⟩ := h
    have hsub := sub_zip
    obtain ⟨hp, g, d, tk, os⟩ := s
    unfold Builtin.«zip.__new__»
    refine wpAny_bind (wpAny_of_eq (new_cls (as.map Value.ref)) ?_)
    simp only [List.length_nil]
    rw [if_neg (by decide)]
    refine wpAny_bind (iterAll_tups (s := ⟨hp, g, d, tk, os⟩) ht fun h' hsz hk hi => ?_)
    have hsz : h'.objs.size = hp.objs.size + as.length := hsz
    have hL : ((itsAt hp.objs.size as.length).map Value.ref).length = as.length := by rw [List.length_map, itsAt_len]
    refine wpAny_bind (wpAny_newTuple ?_ (by rw [hL, sizeLine_eq]; omega))
    refine wpAny_bind (wpAny_newTuple ?_ (by rw [List.length_map, hL, sizeLine_eq]; omega))
    show wpAny _ _ (newObj (.type "zip") (.fields #[Value.none, .bool false, .bool false, .ref h'.objs.size, .ref (h'.push (tObj ((itsAt hp.objs.size as.length).map Value.ref).toArray)).objs.size]) >>= fun r => ret r) _ _ _
    refine wpAny_bind (wpAny_newObj_type (wpAny_pure ⟨_, rfl, ?_⟩))
    have e1 : (h'.push (tObj ((itsAt hp.objs.size as.length).map Value.ref).toArray)).objs.size = hp.objs.size + as.length + 1 := by rw [Heap.size_push, hsz]
    have e2 : ((h'.push (tObj ((itsAt hp.objs.size as.length).map Value.ref).toArray)).push (tObj (((itsAt hp.objs.size as.length).map Value.ref).map fun _ => Value.none).toArray)).objs.size = hp.objs.size + as.length + 2 := by rw [Heap.size_push, e1]
    show R (.ok (.ret (.ref ((h'.push (tObj ((itsAt hp.objs.size as.length).map Value.ref).toArray)).push (tObj (((itsAt hp.objs.size as.length).map Value.ref).map fun _ => Value.none).toArray)).objs.size))) ⟨_, g, d, tk, os⟩
    rw [e2]
    refine h _ ?_ ?_ ?_ (fun j a e => (hi j a e).at fun o e => ?_) (fun b o e => ?_)
    · show Heap.get? _ (hp.objs.size + as.length + 2) = _
      rw [← e2]
      refine Heap.get?_push_size _ ?_ |>.trans ?_
      · rfl
      · rw [e1, hsz]
    · show Heap.get? _ (hp.objs.size + as.length) = _
      rw [← hsz]
      exact Heap.get?_push_of_some _ (Heap.get?_push_of_some _ (Heap.get?_push_size _ rfl))
    · show Heap.get? _ (hp.objs.size + as.length + 1) = _
      rw [← e1]
      exact Heap.get?_push_of_some _ (Heap.get?_push_size _ rfl)
    · exact Heap.get?_push_of_some _ (Heap.get?_push_of_some _ (Heap.get?_push_of_some _ e))
    · exact Heap.get?_push_of_some _ (Heap.get?_push_of_some _ (Heap.get?_push_of_some _ (hk b o e)))
theorem ty1 (a : Value) : checkTypeCall "zip" ⟨[a], []⟩ = pure () := by kernel_rfl
theorem ty4 (a b c d : Value) : checkTypeCall "zip" ⟨[a, b, c, d], []⟩ = pure () := by kernel_rfl
theorem nw1 (a : Value) : checkBuiltinCall "zip.__new__" ⟨[.type "zip", a], []⟩ = pure () := by kernel_rfl
theorem nw4 (a b c d : Value) : checkBuiltinCall "zip.__new__" ⟨[.type "zip", a, b, c, d], []⟩ = pure () := by kernel_rfl
theorem oi1 (o a : Value) : argsOk "object.__init__" ⟨[o, a], []⟩ := by unfold argsOk; kernel_rfl
theorem oi4 (o a b c d : Value) : argsOk "object.__init__" ⟨[o, a, b, c, d], []⟩ := by unfold argsOk; kernel_rfl
theorem call_zipN {s : Shared} {as : List Addr} {Q : Value → Shared → Prop} (h1 : 1 ≤ as.length) (h4 : as.length ≤ 4) (ht : ∀ a ∈ as, ∃ xs, s.heap.IsTuple a xs)
    (h : ∀ h', h'.get? (s.heap.objs.size + as.length + 2) = some (zObj .none (.bool false) (s.heap.objs.size + as.length) (s.heap.objs.size + as.length + 1)) → h'.get? (s.heap.objs.size + as.length) = some (tObj ((itsAt s.heap.objs.size as.length).map Value.ref).toArray) →
      h'.get? (s.heap.objs.size + as.length + 1) = some (tObj (((itsAt s.heap.objs.size as.length).map Value.ref).map fun _ => Value.none).toArray) → (∀ j a, as[j]? = some a → h'.IsTupleIter (s.heap.objs.size + j) a 0) → (∀ b o, s.heap.get? b = some o → h'.get? b = some o) →
      Q (.ref (s.heap.objs.size + as.length + 2)) { s with heap := h' }) : wpAny (model prog w) A (call (.type "zip") (as.map Value.ref)) Q E s := by
  have hct : checkTypeCall "zip" ⟨as.map Value.ref, []⟩ = pure () := by
    match as, h1, h4 with
    | [a], _, _ => exact ty1 _
    | [a, b], _, _ => exact F.typeCall_zip_2 _ _
    | [a, b, c], _, _ => exact F.typeCall_zip_3 _ _ _
    | [a, b, c, d], _, _ => exact ty4 _ _ _ _
    | _ :: _ :: _ :: _ :: _ :: _, _, h => simp only [List.length_cons] at h; omega
  have hcn : checkBuiltinCall "zip.__new__" ⟨.type "zip" :: as.map Value.ref, []⟩ = pure () := by
    match as, h1, h4 with
    | [a], _, _ => exact nw1 _
    | [a, b], _, _ => exact F.newCall_zip_2 _ _
    | [a, b, c], _, _ => exact F.newCall_zip_3 _ _ _
    | [a, b, c, d], _, _ => exact nw4 _ _ _ _
    | _ :: _ :: _ :: _ :: _ :: _, _, h => simp only [List.length_cons] at h; omega
  have hok : ∀ obj, argsOk "object.__init__" ⟨obj :: as.map Value.ref, []⟩ := fun obj => by
    match as, h1, h4 with
    | [a], _, _ => exact oi1 _ _
    | [a, b], _, _ => exact F.args_object_init_3 _ _ _
    | [a, b, c], _, _ => exact F.args_object_init_4 _ _ _ _
    | [a, b, c, d], _, _ => exact oi4 _ _ _ _ _
    | _ :: _ :: _ :: _ :: _ :: _, _, h => simp only [List.length_cons] at h; omega
  refine callType_new F.called_zip (by decide) hct hcn hok F.entry_zip_new (meets_new as) ⟨ht, by omega, fun h' a1 a2 a3 a4 a5 => ?_⟩
  exact ⟨⟨_, a1, rfl⟩, h h' a1 a2 a3 a4 a5⟩
end
/-- the tuples at as, turn by turn -/
def ItzN (K : PySem.W.Frag) (as : List Addr) : It :=
  ⟨fun i H => ∃ vs : List V, vs.length = as.length ∧ ∀ (m : Nat) (a : Addr) (v : V), as[m]? = some a → vs[m]? = some v → ∃ xs, SqT K H a xs ∧ xs[i]? = some v,
    fun i H v H' => ∃ T vs, v = .ref T ∧ H T = none ∧ H' = upd H T (.tup vs) ∧ vs.length = as.length ∧ ∀ (m : Nat) (a : Addr) (v : V) (xs : List V), as[m]? = some a → vs[m]? = some v → SqT K H a xs → xs[i]? = some v,
    fun i H => ∃ a xs, as[0]? = some a ∧ SqT K H a xs ∧ xs.length ≤ i⟩
theorem pyIter_zipN {prog : Program} {w : World} {A : Around} {E : Value → Shared → Prop} {s : Shared} {z TI TO : Addr} {f0 f1 : Value} {Q : Value → Shared → Prop} (hz : s.heap.get? z = some (zObj f0 f1 TI TO)) (h : Q (.ref z) s) : wpAny (model prog w) A (pyIter (.ref z)) Q E s := by
  have hT : s.TypeIs (.ref z) "zip" := ⟨_, hz, rfl⟩
  refine wpAny_pyIter_slot hT F.slot_zip_iter (wpAny_call_entry F.slot_zip_iter hT F.entry_zip_iter ?_ (F.args_zip_iter_1 _))
  show wpAny _ _ (ret (.ref z)) _ _ s
  exact wpAny_pure ⟨_, rfl, "zip", _, hT, F.slot_zip_next.lookup, h⟩
theorem vals_list {xs : List V} {us : List Value} (hl : xs.length = us.length) (h : ∀ (m : Nat) (x : V) (u : Value), xs[m]? = some x → us[m]? = some u → RelV x u) : Vals xs us := by
  induction xs generalizing us with
  | nil =>
    cases us with
    | nil => exact .nil
    | cons _ _ => simp at hl
  | cons x xs ih =>
    cases us with
    | nil => simp at hl
    | cons u us => exact .cons (h 0 x u rfl rfl) (ih (by simpa using hl) fun m x u h1 h2 => h (m + 1) x u (by simpa using h1) (by simpa using h2))
theorem turn_zipN {P : Program} {w : World} {K : PySem.W.Frag} {x : Str} {px : Pos} {z TI TO : Addr} {is as : List Addr} (D : ZAp z TI TO is as) (hne : is ≠ []) (h100 : is.length ≤ 100) :
    Turn P w K (.Name x px) (ItzN K as) (z :: TI :: TO :: is) z (fun i h => ZSt z TI TO is as i h) where
  mem := by simp
  obj := fun i h st c hc => by
    obtain ⟨f0, f1, hz, _⟩ := st.z
    obtain ⟨xo, hTO, _⟩ := st.to
    rcases List.mem_cons.mp hc with rfl | hc
    · exact ⟨_, hz, fun v q => nomatch q⟩
    rcases List.mem_cons.mp hc with rfl | hc
    · exact ⟨_, st.ti, fun v q => nomatch q⟩
    rcases List.mem_cons.mp hc with rfl | hc
    · exact ⟨_, hTO, fun v q => nomatch q⟩
    obtain ⟨m, hm, rfl⟩ := List.mem_iff_getElem.mp hc
    have hl := D.len
    obtain ⟨o, ho, _, hd⟩ := st.its m _ _ (List.getElem?_eq_getElem hm) (List.getElem?_eq_getElem (by omega))
    exact ⟨o, ho, fun v q => by rw [hd] at q; cases q⟩
  keep := fun i h h' st k => by
    obtain ⟨f0, f1, hz, hf⟩ := st.z
    obtain ⟨xo, hTO, hx⟩ := st.to
    exact ⟨⟨f0, f1, k z (by simp) _ hz, hf⟩, k TI (by simp) _ st.ti, ⟨xo, k TO (by simp) _ hTO, hx⟩, fun j it a h1 h2 => (st.its j it a h1 h2).at fun o e => k it (by simp [List.mem_of_getElem? h1]) o e⟩
  item := by
    intro X hP hw hK hc i pins s σ H E I hf st hg
    subst hP hw hK
    obtain ⟨vs, hvl, hv⟩ := hg
    have hl := D.len
    -- the items of this turn
    have hex : ∀ m, m < as.length → ∃ u : Value, ∃ (xs : Array Value), s.heap.IsTuple (as.getD m 0) xs ∧ xs[i]? = some u ∧ RelV (vs.getD m .non) u := fun m hm => by
      have ha : as[m]? = some (as.getD m 0) := by rw [List.getD_eq_getElem?_getD, List.getElem?_eq_getElem hm]; rfl
      have hvm : vs[m]? = some (vs.getD m .non) := by rw [List.getD_eq_getElem?_getD, List.getElem?_eq_getElem (by omega)]; rfl
      obtain ⟨xs, hq, hx⟩ := hv m _ _ ha hvm
      obtain ⟨its, rv, p, _⟩ := I.tuple hq
      obtain ⟨u, hu, ru⟩ := rv.get hx
      exact ⟨u, its.toArray, p, by simpa using hu, ru⟩
    let us : List Value := (List.range as.length).map fun m => if hm : m < as.length then Classical.choose (hex m hm) else .none
    have usl : us.length = as.length := by show ((List.range _).map _).length = _; rw [List.length_map, List.length_range]
    have usat : ∀ m, (hm : m < as.length) → us[m]? = some (Classical.choose (hex m hm)) := fun m hm => by
      show ((List.range _).map _)[m]? = _
      rw [List.getElem?_map, List.getElem?_range hm]
      show some (if hm : m < as.length then _ else _) = _
      rw [dif_pos hm]
    have T : ZTup s.heap as i us := ⟨usl, fun m a v ha hu => by
      obtain ⟨hm, _⟩ := List.getElem?_eq_some_iff.mp ha
      rw [usat m hm] at hu
      cases hu
      obtain ⟨xs, ht, hx, _⟩ := Classical.choose_spec (hex m hm)
      have ea : as.getD m 0 = a := by rw [List.getD_eq_getElem?_getD, ha]; rfl
      rw [ea] at ht
      exact ⟨xs, ht, hx⟩⟩
    have rv : Vals vs us := vals_list (hvl.trans usl.symm) fun m x u h1 h2 => by
      obtain ⟨hm, _⟩ := List.getElem?_eq_some_iff.mp h2
      rw [usl] at hm
      rw [usat m hm] at h2
      cases h2
      obtain ⟨xs, _, _, r⟩ := Classical.choose_spec (hex m hm)
      have ex : vs.getD m .non = x := by rw [List.getD_eq_getElem?_getD, h1]; rfl
      have tr : ∀ u, L2.RelV (vs.getD m .non) u → L2.RelV x u := fun u h => by rw [← ex]; exact h
      exact tr _ r
    have hsub : ∀ b ∈ z :: TO :: is, b ∈ z :: TI :: TO :: is := fun b hb => by
      rcases List.mem_cons.mp hb with rfl | hb
      · simp
      · exact List.mem_cons_of_mem _ (List.mem_cons_of_mem _ hb)
    have hzT : s.TypeIs (.ref z) "zip" := by
      obtain ⟨f0, f1, hz, _⟩ := st.z
      exact ⟨_, hz, rfl⟩
    have fin : ∀ h', ZSt z TI TO is as (i + 1) h' → h'.get? s.heap.objs.size = some (tObj us.toArray) → (∀ b o, b ∉ z :: TO :: is → s.heap.get? b = some o → h'.get? b = some o) → (∃ u, some (Value.ref s.heap.objs.size) = some u ∧
        wpAny (model X.prog X.w) X.A (letOwnedTupleGo (.Name x px) (.ref z) u) (fun _ s2 => ∃ x H', Inv X pins σ H' s2 ∧ RelV x u ∧ (ItzN X.K as).yld i H x H' ∧ ZSt z TI TO is as (i + 1) s2.heap ∧ ∀ b ∈ z :: TI :: TO :: is, H' b = none) E { s with heap := h' }) := fun h' st' hT hk => by
      refine ⟨_, rfl, wpAny_pure ?_⟩
      have hn := I.hok.fresh (Nat.le_refl s.heap.objs.size)
      have hz1 : us.length ≤ sizeLine := by rw [usl, ← hl, sizeLine_eq]; omega
      have new : ObjOk X.prog X.w (upd H s.heap.objs.size (.tup vs)) h' s.heap.objs.size (.tup vs) := ⟨by rw [hvl, ← usl]; exact hz1, us, rv, ⟨_, hT, rfl, _, rfl⟩⟩
      have I1 : Inv X pins σ (upd H s.heap.objs.size (.tup vs)) { s with heap := h' } := I.turnedNew (t' := s.toks) (ch := z :: TO :: is) hk (fun b hb => hf b (hsub b hb)) (Nat.le_refl _) new
      refine ⟨.ref s.heap.objs.size, _, I1, rfl, ⟨_, vs, rfl, hn, rfl, hvl, fun m a v xs ha hvm hq => ?_⟩, st', fun b hb => ?_⟩
      · obtain ⟨xs', hq', hx⟩ := hv m a v ha hvm
        rw [I.tuple_inj hq hq']
        exact hx
      · have hb0 := (hf b hb).1
        obtain ⟨o, ho, _⟩ : ∃ o, s.heap.get? b = some o ∧ True := by
          obtain ⟨f0, f1, hz, _⟩ := st.z
          obtain ⟨xo, hTO, _⟩ := st.to
          rcases List.mem_cons.mp hb with rfl | hb
          · exact ⟨_, hz, trivial⟩
          rcases List.mem_cons.mp hb with rfl | hb
          · exact ⟨_, st.ti, trivial⟩
          rcases List.mem_cons.mp hb with rfl | hb
          · exact ⟨_, hTO, trivial⟩
          obtain ⟨m, hm, rfl⟩ := List.mem_iff_getElem.mp hb
          obtain ⟨o, ho, _⟩ := st.its m _ _ (List.getElem?_eq_getElem hm) (List.getElem?_eq_getElem (by omega))
          exact ⟨o, ho, trivial⟩
        rw [upd_ne (Nat.ne_of_lt (Heap.lt_size ho))]
        exact hb0
    have core : wpAny (model X.prog X.w) X.A.in1 (Builtin.«zip.__next__» ⟨[.ref z], []⟩) (fun f s' => ∃ v, f = .done (.ret v) ∧ (v = .ref s.heap.objs.size ∧ ∃ h', s' = { s with heap := h' } ∧ ZSt z TI TO is as (i + 1) h' ∧ h'.get? s.heap.objs.size = some (tObj us.toArray) ∧ ∀ b o, b ∉ z :: TO :: is → s.heap.get? b = some o → h'.get? b = some o)) (fun _ _ => False) s := by
      obtain ⟨f0, f1, hz, hf0⟩ := st.z
      rcases hf0 with rfl | ⟨a0, t0, rfl⟩
      · exact next_free (Q := fun v s' => v = .ref s.heap.objs.size ∧ ∃ h', s' = { s with heap := h' } ∧ _) D hne h100 hz (.inl rfl) st T fun h' a1 a2 a3 => ⟨rfl, h', rfl, a1, a2, a3⟩
      · cases ho : s.heap.get? a0.toNat with
        | none => exact next_free (Q := fun v s' => v = .ref s.heap.objs.size ∧ ∃ h', s' = { s with heap := h' } ∧ _) D hne h100 hz (.inr ⟨_, _, rfl, ho⟩) st T fun h' a1 a2 a3 => ⟨rfl, h', rfl, a1, a2, a3⟩
        | some o0 => exact next_busy (Q := fun v s' => v = .ref s.heap.objs.size ∧ ∃ h', s' = { s with heap := h' } ∧ _) D hne h100 hz ho st T fun h' a1 a2 a3 => ⟨rfl, h', rfl, a1, a2, a3⟩
    unfold pyNext
    refine wpAny_bind (wpAny_attempt (wpAny_callSpecial?_slot (name := Str.ofString "__next__") hzT F.slot_zip_next (wpAny_call_entry F.slot_zip_next hzT F.entry_zip_next (wpAny_mono core (fun f s' hq => ?_) fun _ _ z => z.elim) (F.args_zip_next_1 _))))
    obtain ⟨v, rfl, rfl, h', rfl, a1, a2, a3⟩ := hq
    exact ⟨_, rfl, wpAny_pure (fin h' a1 a2 a3)⟩
  done := by
    intro X hP hw hK hc i pins s σ H E I hf st hg
    subst hP hw hK
    obtain ⟨a, xs, ha, hq, hx⟩ := hg
    obtain ⟨its, rv, p, _⟩ := I.tuple hq
    have l1 := rv.length
    have hzT : s.TypeIs (.ref z) "zip" := by
      obtain ⟨f0, f1, hz, _⟩ := st.z
      exact ⟨_, hz, rfl⟩
    have hsub : ∀ b ∈ z :: TO :: is, b ∈ z :: TI :: TO :: is := fun b hb => by
      rcases List.mem_cons.mp hb with rfl | hb
      · simp
      · exact List.mem_cons_of_mem _ (List.mem_cons_of_mem _ hb)
    unfold pyNext
    refine wpAny_bind (wpAny_attempt (wpAny_callSpecial?_slot (name := Str.ofString "__next__") hzT F.slot_zip_next (wpAny_call_entry F.slot_zip_next hzT F.entry_zip_next (next_end (I.ok.hd hc) D hne st ha (show s.heap.IsTuple a its.toArray from p) (by simp; omega) fun h' e hk he => ?_) (F.args_zip_next_1 _))))
    obtain ⟨o, ho, hc'⟩ := he
    refine wpAny_bind (wpAny_isInstance (T := "StopIteration") (b := true) ⟨o, ho, hc'⟩ isSubtype_stop ?_)
    exact wpAny_pure ⟨rfl, I.turnedL (t' := s.toks) (ch := z :: TO :: is) hk fun b hb => hf b (hsub b hb)⟩
  self := fun A i s Q E st h => by
    obtain ⟨f0, f1, hz, _⟩ := st.z
    exact pyIter_zipN hz h
end ZN
namespace ZN
open PySem PySem.Spec PyProof.Rows L2
open PySem.Sem (wp)
theorem its_in {N k b : Nat} (h : b ∈ itsAt N k) : N ≤ b ∧ b < N + k := by
  unfold itsAt at h
  rw [List.mem_map] at h
  obtain ⟨j, hj, e⟩ := h
  have h2 : j < k := List.mem_range.mp hj
  have e : N + j = b := e
  exact ⟨e ▸ Nat.le_add_right N j, e ▸ Nat.add_lt_add_left h2 N⟩
theorem its_nd (N k : Nat) : (itsAt N k).Nodup := by
  unfold itsAt
  refine List.Pairwise.map _ (fun (a b : Nat) (hab : a ≠ b) e => ?_) (List.nodup_range (n := k))
  have e : N + a = N + b := e
  exact hab (by omega)
theorem its_ap {N : Nat} {as : List Nat} (h : ∀ a ∈ as, a < N) : ZAp (N + as.length + 2) (N + as.length) (N + as.length + 1) (itsAt N as.length) as where
  len := itsAt_len _ _
  TIz := Nat.ne_of_lt (Nat.lt_add_of_pos_right (by decide))
  TOz := Nat.ne_of_lt (Nat.lt_succ_self _)
  TITO := Nat.ne_of_lt (Nat.lt_succ_self _)
  iz := fun x hx => Nat.ne_of_lt (Nat.lt_of_lt_of_le (its_in hx).2 (Nat.le_add_right _ _))
  iTI := fun x hx => Nat.ne_of_lt (its_in hx).2
  iTO := fun x hx => Nat.ne_of_lt (Nat.lt_of_lt_of_le (its_in hx).2 (Nat.le_add_right _ _))
  az := fun x hx => Nat.ne_of_lt (Nat.lt_of_lt_of_le (h x hx) (Nat.le_trans (Nat.le_add_right _ _) (Nat.le_add_right _ _)))
  aTO := fun x hx => Nat.ne_of_lt (Nat.lt_of_lt_of_le (h x hx) (Nat.le_trans (Nat.le_add_right _ _) (Nat.le_add_right _ _)))
  ai := fun x hx y hy => Nat.ne_of_lt (Nat.lt_of_lt_of_le (h x hx) (its_in hy).1)
  nd := its_nd _ _
/-- for x in zip(*tuples) -/
def iZipN (K : PySem.W.Frag) (te : TE) : L2.TI := fun σ H R => te σ H fun y H1 => ∃ (l : Addr) (as : List Addr), y = .ref l ∧ SqL K H1 l (as.map V.ref) ∧ 1 ≤ as.length ∧ as.length ≤ 4 ∧ (∀ a ∈ as, ∃ xs, SqT K H1 a xs) ∧ R (ItzN K as) H1
theorem looks_ty {M : Model} {T : String} (h : Heap) (_ : True) : ∃ k, (k = Keeper.frame ∨ k = Keeper.machine ∨ k = Keeper.boundFrame) ∧ PySem.W.Looks M h (keeperOf (.type T)) k := ⟨.machine, .inr (.inl rfl), PySem.W.Looks.of_pure rfl⟩
theorem pi_zipN {X : Cx} {e : Expr} {te : TE} {p pos sp px : Pos} {x : Str} (hg : Gl X "zip") (hm : X.mg "zip" = none) (he : PE X e te)
    (hs : starEach [.Starred e sp] X.env = [(true, eval e X.env)] := by rfl) : PI X (.Name x px) (.Call (.Name "zip" p) [.Starred e sp] [] pos) (iZipN X.K te) := by
  refine ⟨fun pins s σ H R I h => ?_⟩
  refine Call_ (ld_blt I hg hm PyProof.Rows.boot_zip ?_)
  rw [hs]
  refine PySem.W.ks_call (P := fun _ => True) rfl (fun h _ => looks_ty h trivial) (PySem.W.ks_lone (thn (he.run pins s σ H _ I h) fun v s1 ⟨y, H1, I1, r1, q1⟩ => ?_))
  obtain ⟨l, as, rfl, hl, h1, h4, hts, q⟩ := q1
  obtain rfl : v = Value.ref l := r1
  refine StX.star_any I1 (.inr hl) fun us s2 I2 rv => ⟨trivial, ?_⟩
  have hus : us = as.map Value.ref := by
    clear q hts h1 h4 hl
    induction as generalizing us with
    | nil => cases rv; rfl
    | cons a as ih =>
      cases rv with
      | cons r t =>
        cases r
        rw [ih _ t]
        rfl
  subst hus
  have old : ∀ a ∈ as, ∃ xs : Array Value, s2.heap.IsTuple a xs := fun a ha => by
    obtain ⟨xs, hq⟩ := hts a ha
    obtain ⟨its, rv, p, _⟩ := I2.tuple hq
    exact ⟨_, p⟩
  have alt : ∀ a ∈ as, a < s2.heap.objs.size := fun a ha => by
    obtain ⟨xs, o, ho, _⟩ := old a ha
    exact Heap.lt_size ho
  show wpAny _ _ (call (.type "zip") ([] ++ as.map Value.ref)) _ _ _
  rw [List.nil_append]
  refine call_zipN h1 h4 old fun h' hz hTI hTO hi hk => pyIter_zipN hz ?_
  have il : (itsAt s2.heap.objs.size as.length).length = as.length := itsAt_len _ _
  have D := its_ap (N := s2.heap.objs.size) alt
  have I3 : Inv X pins σ H1 { s2 with heap := h' } := I2.kept (t' := s2.toks) hk
  refine ⟨_, (s2.heap.objs.size + as.length + 2) :: (s2.heap.objs.size + as.length) :: (s2.heap.objs.size + as.length + 1) :: itsAt s2.heap.objs.size as.length, _, _, H1, rfl, I3, turn_zipN D (fun e => by rw [e] at il; simp at il; omega) (by omega), ⟨⟨_, _, hz, .inl rfl⟩, hTI, ⟨_, hTO, by simp [itsAt_len]⟩, fun j it a e1 e2 => ?_⟩, fun b hb => ?_, q⟩
  · obtain ⟨hj, _⟩ := List.getElem?_eq_some_iff.mp e2
    rw [itsAt_get hj] at e1
    cases e1
    exact hi j a e2
  · have hle : s2.heap.objs.size ≤ b := by
      rcases List.mem_cons.mp hb with rfl | hb
      · exact Nat.le_trans (Nat.le_add_right _ _) (Nat.le_add_right _ _)
      rcases List.mem_cons.mp hb with rfl | hb
      · exact Nat.le_add_right _ _
      rcases List.mem_cons.mp hb with rfl | hb
      · exact Nat.le_trans (Nat.le_add_right _ _) (Nat.le_add_right _ _)
      exact (its_in hb).1
    exact I2.fpOk hle (I2.hok.fresh hle)
/-- walked, the tuples alike long -/
theorem walk_zipN {K : PySem.W.Frag} {as : List Addr} {n : Nat} {rows : List (List V)} (h1 : 1 ≤ as.length) (hl : rows.length = as.length) (hn : ∀ r ∈ rows, r.length = n) :
    Walk (ItzN K as) n (fun H => ∀ (m : Nat) (a : Addr) (r : List V), as[m]? = some a → rows[m]? = some r → SqT K H a r) fun i H v H' => ∃ T vs, v = .ref T ∧ H T = none ∧ H' = upd H T (.tup vs) ∧ vs.length = as.length ∧ ∀ (m : Nat) (r : List V), rows[m]? = some r → vs[m]? = r[i]? := by
  have rowAt : ∀ m, m < as.length → ∃ a r, as[m]? = some a ∧ rows[m]? = some r ∧ r.length = n := fun m hm => ⟨_, _, List.getElem?_eq_getElem hm, List.getElem?_eq_getElem (by omega), hn _ (List.getElem_mem _)⟩
  refine ⟨fun i H hi hG => ?_, fun H hG => ?_, fun i H v H' hi hG hy => ?_⟩
  · refine ⟨rows.map fun r => r.getD i .non, by rw [List.length_map, hl], fun m a v ha hv => ?_⟩
    obtain ⟨hm, _⟩ := List.getElem?_eq_some_iff.mp ha
    obtain ⟨a', r, e1, e2, e3⟩ := rowAt m hm
    rw [ha] at e1
    cases e1
    rw [List.getElem?_map, e2] at hv
    have hv : r.getD i .non = v := Option.some.inj hv
    refine ⟨r, hG m a r ha e2, ?_⟩
    rw [← hv, List.getD_eq_getElem?_getD, List.getElem?_eq_getElem (by omega)]
    rfl
  · obtain ⟨a, r, e1, e2, e3⟩ := rowAt 0 (by omega)
    exact ⟨a, r, e1, hG 0 a r e1 e2, by omega⟩
  · obtain ⟨T, vs, e1, e2, e3, e4, e5⟩ := hy
    refine ⟨T, vs, e1, e2, e3, e4, fun m r hr => ?_⟩
    obtain ⟨hm, _⟩ := List.getElem?_eq_some_iff.mp hr
    obtain ⟨a', r', f1, f2, f3⟩ := rowAt m (by omega)
    rw [hr] at f2
    cases f2
    have hvm : vs[m]? = some (vs[m]'(by omega)) := List.getElem?_eq_getElem _
    rw [hvm]
    exact (e5 m a' _ r f1 hvm (hG m a' r f1 hr)).symm
end ZN
namespace DV
open PySem PySem.Spec L2 Evl LamX NdefX
open PyProof.Rows hiding St cutD
theorem dpa_of_get {K : PySem.W.Frag} {H : Hp} : ∀ {vs : List V} {ds : List PyData}, vs.length = ds.length → (∀ (m : Nat) (v : V) (d : PyData), vs[m]? = some v → ds[m]? = some d → Dv K H v d) → DvAll K H vs ds
  | [], [], _, _ => .nil
  | [], _ :: _, h, _ => by simp at h
  | _ :: _, [], h, _ => by simp at h
  | v :: vs, d :: ds, h, hg => .cons (hg 0 v d rfl rfl) (dpa_of_get (by simpa using h) fun m v d h1 h2 => hg (m + 1) v d (by simpa using h1) (by simpa using h2))
theorem tups_of {K : PySem.W.Frag} {H : Hp} : ∀ {rows : List (List PyData)} {xs : List V}, DvAll K H xs (rows.map .tuple) → ∃ (as : List Addr) (vr : List (List V)), xs = as.map V.ref ∧ as.length = rows.length ∧ vr.length = rows.length ∧
    ∀ (m : Nat) (a : Addr) (r : List V) (d : List PyData), as[m]? = some a → vr[m]? = some r → rows[m]? = some d → SqT K H a r ∧ DvAll K H r d
  | [], _, h => by
    cases h
    exact ⟨[], [], rfl, rfl, rfl, fun m a r d h => by simp at h⟩
  | row :: rows, _, h => by
    cases h with
    | cons h1 h2 =>
      cases h1 with
      | @tup a0 xs0 ds0 ha hd =>
        obtain ⟨as, vr, e1, e2, e3, e4⟩ := tups_of h2
        refine ⟨a0 :: as, xs0 :: vr, by rw [e1]; rfl, by rw [List.length_cons, List.length_cons, e2], by rw [List.length_cons, List.length_cons, e3], fun m a r d g1 g2 g3 => ?_⟩
        cases m with
        | zero =>
          have g1 : some _ = some a := g1
          have g2 : some _ = some r := g2
          have g3 : some _ = some d := g3
          cases g1
          cases g2
          cases g3
          exact ⟨ha, hd⟩
        | succ m => exact e4 m a r d (by simpa using g1) (by simpa using g2) (by simpa using g3)
def colD (rows : List (List PyData)) (i : Nat) : PyData := .tuple (rows.map fun r => r.getD i .none)
section
variable {S : Type} {X : Cx} {M : List Addr} {R : S → Hp → Prop} {ρ : List Sl} {s s1 s2 : S} {e o : Expr} {p px pos sp apos cpos : Pos} {x : Str}
theorem i_zipStar {rows : List (List PyData)} {n : Nat} (h1 : 1 ≤ rows.length) (h4 : rows.length ≤ 4) (hn : ∀ r ∈ rows, r.length = n) (hg : Gl X "zip") (hm : X.mg "zip" = none) (h : Ev1 X M R ρ e s (.dat (.list (rows.map .tuple))) s1)
    (hs : starEach [.Starred e sp] X.env = [(true, eval e X.env)] := by rfl) : EvI1 X M R ρ (.Name x px) (.Call (.Name "zip" p) [.Starred e sp] [] pos) s n (fun i => .dat (colD rows i)) s1 := by
  refine ⟨_, ZN.pi_zipN hg hm pe_w hs, fun σ H k hσ hR q => ?_⟩
  refine h σ H _ hσ hR fun v H1 e1 R1 d1 => ?_
  obtain ⟨l, xs, rfl, hl, hd⟩ := sv_lst d1
  obtain ⟨as, vr, rfl, la, lv, hrow⟩ := tups_of hd
  have rowAt : ∀ m, m < rows.length → ∃ a r d, as[m]? = some a ∧ vr[m]? = some r ∧ rows[m]? = some d := fun m hm => ⟨_, _, _, List.getElem?_eq_getElem (by omega), List.getElem?_eq_getElem (by omega), List.getElem?_eq_getElem hm⟩
  have hrl : ∀ r ∈ vr, r.length = n := fun r hr => by
    obtain ⟨m, hm, rfl⟩ := List.mem_iff_getElem.mp hr
    obtain ⟨a, r', d, f1, f2, f3⟩ := rowAt m (by omega)
    rw [List.getElem?_eq_getElem hm] at f2
    cases f2
    have := (hrow m a _ d f1 (List.getElem?_eq_getElem hm) f3).2
    rw [dpa_length this]
    exact hn d (List.mem_of_getElem? f3)
  refine ⟨l, as, rfl, sq_of (ex_cut _ _ hl), by omega, by omega, fun a ha => ?_, q _ H1 e1 R1 ⟨fun H => ∀ (m : Nat) (a : Addr) (r : List V), as[m]? = some a → vr[m]? = some r → SqT X.K H a r, fun H2 e2 m a r g1 g2 => ?_, ?_⟩⟩
  · obtain ⟨m, hm, rfl⟩ := List.mem_iff_getElem.mp ha
    obtain ⟨a, r, d, f1, f2, f3⟩ := rowAt m (by omega)
    rw [List.getElem?_eq_getElem hm] at f1
    cases f1
    exact ⟨r, ex_t ex_cut (hrow m _ r d (List.getElem?_eq_getElem hm) f2 f3).1⟩
  · obtain ⟨hm, _⟩ := List.getElem?_eq_some_iff.mp g1
    obtain ⟨a', r', d, f1, f2, f3⟩ := rowAt m (by omega)
    exact ex_t ex_cut (ex_t e2 (hrow m a r d g1 g2 f3).1)
  · refine Walk.mono (ZN.walk_zipN (K := X.K) (as := as) (n := n) (rows := vr) (by omega) (by omega) hrl) (fun _ h => h) fun i H2 v H' hi hG hy => ?_
    intro M' em dm e2
    obtain ⟨T, vs, rfl, hT, rfl, hvl, hv⟩ := hy
    have hTM : T ∉ M' := fun m => by
      obtain ⟨o, eo⟩ := dm T m
      rw [hT] at eo
      cases eo
    have ee : Ex (cut M' H2) (cut M' (upd H2 T (.tup vs))) := exCut (Ex.new hT)
    refine ⟨Ex.new hT, .tup (st_of (cut_upd hTM)) (dpa_of_get (by rw [List.length_map]; omega) fun m v d g1 g2 => ?_)⟩
    obtain ⟨hm, _⟩ := List.getElem?_eq_some_iff.mp g1
    obtain ⟨a, r, dr, f1, f2, f3⟩ := rowAt m (by omega)
    rw [List.getElem?_map, f3] at g2
    have g2 : dr.getD i .none = d := Option.some.inj g2
    have hr := (hrow m a r dr f1 f2 f3).2
    rw [hv m r f2] at g1
    rw [← em] at hr
    obtain ⟨d', gd, dv⟩ := dpa_get (dpa_ex (e2.trans ee) _ _ hr) g1
    have ed : d' = d := by rw [← g2, List.getD_eq_getElem?_getD, gd]; rfl
    rw [← ed]
    exact dv
/-! min of a tuple of ints -/
def minI : List Int → Int
  | [] => 0
  | n :: ns => ns.foldl min n
def rMinT (K : PySem.W.Frag) : List V → Hp → VK → Prop := fun vs H Q => ∃ (a : Addr) (ns : List Int), vs = [.ref a] ∧ SqT K H a (ns.map V.int) ∧ ns ≠ [] ∧ Q (.int (minI ns)) H
theorem call_minT (hc : X.calm = true) (hu : X.A.units + 64 < cLine) : CallR X (.builtin "min") (rMinT X.K) := by
  intro pins s σ H vs us Q I r h
  obtain ⟨a, ns, rfl, hs, hne, q⟩ := h
  obtain ⟨its, rv, hl, _⟩ := I.tuple hs
  rw [Vals.ref1 r]
  cases ns with
  | nil => exact absurd rfl hne
  | cons n ns =>
    obtain ⟨as, ra⟩ := reads_ints (h := s.heap) rv
    refine PySem.W.min_tuple_data (vs := its.toArray) (x := .int n) (xs := ns.map .int) (I.ok.hd hc) (show s.heap.IsTuple a its.toArray from hl) ra (alike_intsA (n :: ns)) ?_ fun i v h' tk bs _ rd hk => ?_
    · have := depth_dI (n :: ns)
      rw [show PyData.depthAll (.int n :: ns.map .int) = 0 from this]
      omega
    · rw [PySem.W.minD_ints] at rd
      exact ⟨.int _, H, I.kept hk, reads_int rd, q⟩
theorem boot_min : bootBuiltins "min" = some (.builtin "min") := by decide +kernel
theorem e_minT (hc : X.calm = true) (hu : X.A.units + 64 < cLine) {ns : List Int} (hne : ns ≠ []) (hg : Gl X "min") (hm : X.mg "min" = none) (ha : EvA1 X M R ρ [e] s [.dat (.tuple (dI ns))] s1)
    (he : starEach [e] X.env = (false, eval e X.env) :: starEach [] X.env := by rfl) (hpl : (backTo pos (starEach [] X.env)).any (·.1) = false := by rfl) : Ev1 X M R ρ (.Call (.Name "min" px) [e] [] pos) s (.dat (.int (minI ns))) s1 :=
  e_callB (call_minT hc hu) hg hm boot_min ha (fun vs H Q h hR q => by
    obtain ⟨v, rfl, h1⟩ := svall1 h
    obtain ⟨p, xs, rfl, hp, hd⟩ := sv_tup h1
    rw [dpa_ints hd] at hp
    exact ⟨p, ns, rfl, ex_t ex_cut hp, hne, q _ H (exId _) hR (.int _)⟩) (by decide) (by decide) he hpl
end
end DV
namespace DV
open PySem PySem.Spec L2 Evl LamX NdefX
open PyProof.Rows hiding St cutD
/-! list(d.values()) -/
def tLV (to : TE) : TE := fun σ H Q => to σ H fun x H1 => ∃ (a : Addr) (kvs : List (Key × V)), x = .ref a ∧ H1 a = some (.dK kvs) ∧ ∀ l, H1 l = none → Q (.ref l) (upd H1 l (.lst (kvs.map (·.2))))
theorem kv_at {kvs : List (Key × V)} {vs : List (Key × Value)} (h : KV kvs vs) : ∀ (i : Nat) (k : Key) (u : Value), vs[i]? = some (k, u) → ∃ v, kvs[i]? = some (k, v) ∧ RelV v u := by
  induction h with
  | nil => intro i k u e; simp at e
  | cons r t ih =>
    intro i k u e
    cases i with
    | zero =>
      have e : some _ = some (k, u) := e
      cases e
      obtain ⟨r1, r2⟩ := r
      have r1 : _ = k := r1
      subst r1
      exact ⟨_, rfl, r2⟩
    | succ i => exact ih i k u (by simpa using e)
theorem boot_listT : bootBuiltins "list" = some (.type "list") := by decide +kernel
section
variable {X : Cx} {o : Expr} {to : TE} {p pos apos cpos : Pos}
theorem pe_listVals (hg : Gl X "list") (hm : X.mg "list" = none) (hc : X.calm = true) (ho : PE X o to)
    (na : starEach [.Call (.Attribute o "values" apos) [] [] cpos] X.env = (false, eval (.Call (.Attribute o "values" apos) [] [] cpos) X.env) :: starEach [] X.env := by rfl)
    (hbase : attributeBase o "values" X.env (eval o X.env) = eval o X.env := by rfl) (hline : (apos.endLine == cpos.line) = true := by rfl) :
    PE X (.Call (.Name "list" p) [.Call (.Attribute o "values" apos) [] [] cpos] [] pos) (tLV to) := by
  refine ⟨fun pins s σ H Q I h => ?_⟩
  refine Call_ (ld_blt I hg hm boot_listT ?_)
  refine PyProof.Rows.callWith_type1 (PyProof.Rows.args_cons ?_ na) na rfl
  refine wpAny_Call_method0_late hbase hline (thn (ho.run pins s σ H _ I h) fun v s1 ⟨x, H1, I1, r1, a, kvs, ex, ha, q⟩ => ?_)
  subst ex
  obtain rfl : v = Value.ref a := r1
  obtain ⟨hz, hsm, vs, hkv, hD⟩ := dk_of I1.hok ha
  refine ⟨"dict", "dict.values", PySem.F.plainAttrs_dict, PySem.F.slot_dict_values, PySem.F.type_dict_values, hD.typeIs, (fun b e => ?_), Calls.callWith_builtin rfl (PySem.evalArgs_none (call_meetsIn PySem.F.slot_dict_values hD.typeIs PySem.F.entry_dict_values (PySem.F.args_dict_values_1 _) (meets_dict_values (mixKind X.prog X.w) a hsm) ⟨⟨vs, hD⟩, ?_⟩))⟩
  · cases e
    obtain ⟨o, es, ep, ho, hc, _⟩ := hD
    exact ⟨o, ho, hc.2.1⟩
  · refine PyProof.Rows.args_nil ?_
    obtain ⟨ep, hat⟩ := hD.dictAt
    have up : ∀ b o, s1.heap.get? b = some o → (s1.heap.push { cls := .type "dict_values", data := .fields #[.ref a] }).get? b = some o := fun b o e => Heap.get?_push_of_some _ e
    have I2 : Inv X pins σ H1 { s1 with heap := s1.heap.push { cls := .type "dict_values", data := .fields #[.ref a] } } := I1.kept (t' := s1.toks) up
    have hlen : vs.length = kvs.length := hkv.length.symm
    refine PySem.W.kdl_call (PySem.W.kdl_values (knd := mixKind X.prog X.w) (kvs := vs) (ep := ep)) (I.ok.hd hc) ⟨⟨_, Heap.get?_push_size _ rfl, rfl, rfl⟩, hat.at' fun o e => up a o e⟩ (by omega) fun h' tk acc' c' hk hl hacc => ?_
    have rv : Vals (kvs.map (·.2)) acc'.toList := by
      have ha1 : acc'.toList.length = vs.length := (Array.length_toList).trans hacc.1
      refine ZN.vals_list (by rw [List.length_map, ha1, hlen]) fun m x u h1 h2 => ?_
      rw [Array.getElem?_toList] at h2
      obtain ⟨k, hk'⟩ := hacc.2 m u h2
      obtain ⟨v, e1, e2⟩ := kv_at hkv m k u hk'
      rw [List.getElem?_map, e1] at h1
      have h1 : v = x := Option.some.inj h1
      rw [← h1]
      exact e2
    have hf := I2.hok.fresh (Nat.le_refl (Shared.heap { s1 with heap := s1.heap.push { cls := .type "dict_values", data := .fields #[.ref a] } }).objs.size)
    exact ⟨.ref _, _, I2.laid (t' := tk) (o := .lst (kvs.map (·.2))) hk (Nat.le_refl _) ⟨by rw [List.length_map]; omega, acc'.toList, c', rv, by rw [Array.toArray_toList]; exact hl⟩, rfl, q _ hf⟩
end
end DV
namespace DV
open PySem PySem.Spec L2 Evl LamX NdefX PySem.W
open PyProof.Rows hiding St cutD
/-! sorted(d), d a dict whose keys are tuples -/
section
variable {prog : Program} {w : World} {A : Around} {E : Value → Shared → Prop} {s : Shared} {T : String} {r d : Addr} {n : Nat} {P : Nat → Value → Prop} {OK : Heap → Prop}
theorem kdl_collect {R : List Value → Shared → Prop} (K : KdlSrc prog w T r d n P OK) (hh : A.handled = none) (hok : OK s.heap) (hn : n ≤ sizeLine)
    (h : ∀ (h' : Heap) (tk : Nat) (acc : Array Value), (∀ b o, s.heap.get? b = some o → h'.get? b = some o) → s.heap.objs.size < h'.objs.size → ItemsOf P acc n → R acc.toList { s with heap := h', toks := tk }) :
    wpAny (model prog w) A (collect (.ref r)) R E s := by
  have hr : r < s.heap.objs.size := (K.there _ hok).1
  have hd : d < s.heap.objs.size := (K.there _ hok).2
  unfold collect
  refine wpAny_bind (wpAny_runValue (codeAny_builtin entry_proto_collect' ?_))
  rw [Around.under_plainId PySem.F.plain_proto_collect _]
  show wpAny _ A.in1 (newList [] >>= fun l => again (.builtin "list.__iadd__" ⟨[l, .ref r], []⟩)) _ _ s
  refine wpAny_bind (wpAny_newObj_type ?_)
  refine wpAny_pure ⟨plainId_quiet PySem.F.plain_list_iadd _, codeAny_builtin entry_list_iadd' ?_⟩
  rw [Around.under_plainId PySem.F.plain_list_iadd _]
  have hS₁ : (s.heap.push { cls := .type "list", data := .seq ([] : List Value).toArray }).get? s.heap.objs.size = some { cls := .type "list", data := .seq #[] } := Heap.get?_push_size _ rfl
  show wpAny _ A.in1 (Builtin.List.listExtendWith (.ref s.heap.objs.size) (.ref r) (.ref s.heap.objs.size)) _ _ _
  have key := kdl_extend (A := A) (s := { s with heap := s.heap.push { cls := .type "list", data := .seq ([] : List Value).toArray } })
    (R := fun (q : Result) (s' : Shared) => ∃ (h' : Heap) (tk : Nat) (acc' : Array Value) (c' : Nat), q = .ok (.ret (.ref s.heap.objs.size)) ∧ s' = { s with heap := h', toks := tk } ∧
      (∀ b o, s.heap.get? b = some o → h'.get? b = some o) ∧ h'.get? s.heap.objs.size = some { cls := .type "list", dict := none, data := .seq acc' c', slots := #[] } ∧ ItemsOf P acc' n)
    K hh (K.keep _ _ hok fun b _ o e => Heap.get?_push_of_some _ e) s.heap.objs.size (Nat.ne_of_gt hr) (Nat.ne_of_gt hd) (.ref s.heap.objs.size) 0 hS₁
    (fun h' tk acc' c' hk hS' hacc => ⟨h', tk, acc', c', rfl, rfl, fun b o e => hk b o (Nat.ne_of_lt (Heap.lt_size e)) (Heap.get?_push_of_some _ e), hS', hacc⟩) hn
  refine wpAny_mono key (fun fin s' x => ?_) fun e s' x => ?_
  · cases fin with
    | done f =>
      obtain ⟨h', tk, acc', c', e, rfl, hk, hS', hacc⟩ := x
      cases e
      show wpAny _ A (load s.heap.objs.size >>= _) _ _ _
      refine wpAny_bind (wpAny_load hS' ?_)
      refine wpAny_pure ?_
      exact h h' tk acc' hk (Heap.lt_size hS') hacc
    | again c₁ =>
      refine ⟨x.1, codeAny_mono x.2 fun q s₂ y => ?_⟩
      obtain ⟨h', tk, acc', c', rfl, rfl, hk, hS', hacc⟩ := y
      show wpAny _ A (load s.heap.objs.size >>= _) _ _ _
      refine wpAny_bind (wpAny_load hS' ?_)
      refine wpAny_pure ?_
      exact h h' tk acc' hk (Heap.lt_size hS') hacc
  · obtain ⟨_, _, _, _, e', _⟩ := x
    cases e'
theorem sorted_src {Q : Value → Shared → Prop} (K : KdlSrc prog w T r d n P OK) (hh : A.handled = none) (hok : OK s.heap) (hn : n ≤ sizeLine)
    (h : ∀ (h' : Heap) (tk : Nat) (acc : Array Value), (∀ b o, s.heap.get? b = some o → h'.get? b = some o) → s.heap.objs.size < h'.objs.size → ItemsOf P acc n →
      wpAny (model prog w) A.in1 (call (.builtin "list.sort") [.ref h'.objs.size]) (fun _ s' => Q (.ref h'.objs.size) s') E { s with heap := h'.push { cls := .type "list", data := .seq acc.toList.toArray }, toks := tk }) :
    wpAny (model prog w) A (call (.builtin "sorted") [.ref r]) Q E s := by
  refine PySem.Calls.call_function_entry kind_sorted plain_sorted entry_sorted (args_sorted1 _) ?_
  unfold Builtin.«sorted»
  refine wpAny_bind (m := checkCount "sorted" 1 1 _) (wpAny_pure ?_)
  refine wpAny_bind (kdl_collect (A := A.in1) K hh hok hn fun h' tk acc hk hlt hacc => ?_)
  refine wpAny_bind (wpAny_newList ?_ (by rw [Array.length_toList, hacc.1]; exact hn))
  have hg := h h' tk acc hk hlt hacc
  refine wpAny_bind (wpAny_holding (wpAny_mono hg (fun _ s' x => ?_) fun _ _ e => e))
  exact wpAny_pure ⟨_, rfl, x⟩
end
def keyDt : L2.Key → PyData
  | .inl i => .int i
  | .inr x => .str x
theorem dv_key {K : PySem.W.Frag} {H : Hp} : ∀ ks : List L2.Key, DvAll K H (ks.map kV) (ks.map keyDt)
  | [] => .nil
  | .inl i :: t => .cons (.int i) (dv_key t)
  | .inr x :: t => .cons (.str x) (dv_key t)
/-- the places of a dict with tuples as keys, as data -/
def placesD (kvs : List (List L2.Key × V)) : List PyData := kvs.map fun kv => .tuple (kv.1.map keyDt)
def rSortedT1 (K : PySem.W.Frag) : List V → Hp → VK → Prop := fun vs H Q => ∃ (M : List Addr) (d : Addr) (kvs : List (List L2.Key × V)), vs = [.ref d] ∧ H d = some (.dT kvs) ∧ (kvs ≠ [] → ∀ a ∈ M, ∀ xs, H a ≠ some (.tup xs)) ∧ PySem.W.AllAlike (placesD kvs) ∧ PySem.W.Sortable (placesD kvs) ∧
  ∀ ys p, DvAll K (cut M H) ys ((placesD kvs).mergeSort (PySem.W.dataLe false id)) → H p = none → Q (.ref p) (upd H p (.lst ys))
theorem placeD_depth : ∀ ks : List L2.Key, PyData.depthAll (ks.map keyDt) = 0
  | [] => rfl
  | .inl i :: t => by
    show max 0 (PyData.depthAll (t.map keyDt)) = 0
    rw [placeD_depth t]; rfl
  | .inr x :: t => by
    show max 0 (PyData.depthAll (t.map keyDt)) = 0
    rw [placeD_depth t]; rfl
theorem cr_sortedT1 {X : Cx} (hc : X.calm = true) (hu : X.A.units + 64 < cLine) : CallR X (.builtin "sorted") (rSortedT1 X.K) := by
  intro pins s σ H vs us Q I r h
  obtain ⟨M, d, kvs, rfl, hdt, hM, hal, hk, q⟩ := h
  rw [Vals.ref1 r]
  obtain ⟨z, hs, ks, pr, o, es, ep, ho, hx, hd, he, hn⟩ := (show ObjOk X.prog X.w H s.heap d (.dT kvs) from I.hok d _ hdt)
  have l1 : es.size = ks.length := size_of_entries he
  have l2 : kvs.length = ks.length := Paired.length pr
  refine sorted_src (kdl_raw hs hx hd) (I.ok.hd hc) ho (by omega) fun h' tk acc kp hlt it => ?_
  have ea : acc.toList = (ks.map fun x => x.2.1).map Value.ref := by
    have hl : acc.toList.length = ks.length := by rw [Array.length_toList, it.1]; exact l1
    rw [List.map_map]
    apply List.ext_getElem?
    intro j
    rw [List.getElem?_map]
    cases hj : acc.toList[j]? with
    | none =>
      have h1 := List.getElem?_eq_none_iff.mp hj
      rw [List.getElem?_eq_none (by omega)]
      all_goals rfl
    | some v =>
      obtain ⟨en, hen, hv⟩ := it.2 j v (by rw [← Array.getElem?_toList]; exact hj)
      have qe := entry_at he j
      rw [hen] at qe
      cases hb : ks[j]? with
      | none =>
        rw [hb] at qe
        exact nomatch (show some en = none from qe)
      | some b =>
        rw [hb] at qe
        have e2 : en = entryOfKey (tupleKind (mixKind X.prog X.w)) b := Option.some.inj qe
        rw [hv, e2]
        all_goals rfl
  have I1 : Inv X pins σ H { s with heap := h', toks := tk } := I.kept kp
  have hf1 := I1.hok.fresh (Nat.le_refl (Shared.heap { s with heap := h', toks := tk }).objs.size)
  have I2 : Inv X pins σ H { s with heap := h'.push { cls := .type "list", data := .seq acc.toList.toArray }, toks := tk } := I1.kept (t' := tk) fun b o e => Heap.get?_push_of_some _ e
  have hS : (h'.push { cls := .type "list", data := .seq acc.toList.toArray }).get? h'.objs.size = some (seqObj "list" acc.toList.toArray 0) := Heap.get?_push_size _ rfl
  have dv : DvAll X.K (cut M H) ((ks.map fun x => x.2.1).map V.ref) (placesD kvs) := by
    have ik := isKeys_of pr
    have hM' : ∀ b k, (∃ p ∈ kvs, p.1 = k) → H b = some (.tup (k.map kV)) → b ∉ M := fun b k hk hb m => hM (fun z => by
      obtain ⟨p, hp, _⟩ := hk
      rw [z] at hp
      cases hp) b m _ hb
    revert ik
    clear pr l1 l2 he it ea z hk hal q hdt hM
    generalize (ks.map fun x => x.2.1) = bs
    intro ik
    unfold IsKeys at ik
    induction ik with
    | nil => exact DvAll.nil
    | cons h t ih =>
      refine DvAll.cons (.tup (st_of ?_) (dv_key _)) (ih fun b k hk => hM' b k (by
        obtain ⟨p, hp, e⟩ := hk
        exact ⟨p, List.mem_cons_of_mem _ hp, e⟩))
      rw [cut_out (hM' _ _ ⟨_, List.mem_cons_self, rfl⟩ h)]
      exact h
  have eI : PySem.W.EachIs (DV.IsD X.K (cut M H)) acc.toList (placesD kvs) := by
    rw [ea]
    exact each_of (vals_refs _) dv
  have er : PySem.W.EachIs (fun v b => ∃ as, Reads (sortingHeap (h'.push { cls := .type "list", data := .seq acc.toList.toArray }) h'.objs.size acc.toList) v (id b) as) acc.toList (placesD kvs) := by
    refine eI.mono fun v dd ⟨x, rx, dx⟩ => ?_
    obtain ⟨as, ra⟩ := Dp.reads I1 dd x v (dv_dp _ _ (dp_ex ex_cut _ _ dx)) rx
    exact ⟨as, PyProof.Rows.Reads.keeps (fun b o e => sortingHeap_old (Nat.ne_of_lt (Heap.lt_size e)) (Heap.get?_push_of_some _ e)) ra⟩
  have hz' : (placesD kvs).length ≤ sizeLine := by
    unfold placesD
    rw [List.length_map]
    omega
  have hu' : ∀ b ∈ placesD kvs, X.A.in1.units + 1 + (id b).depth < cLine := fun b hb => by
    unfold placesD at hb
    obtain ⟨kv, _, rfl⟩ := List.mem_map.mp hb
    show X.A.units + 1 + 1 + (PyData.depthAll (kv.1.map keyDt) + 1) < cLine
    rw [placeD_depth]
    omega
  refine wpAny_call_entry slot_list_sort ⟨_, hS, rfl⟩ entry_list_sort (list_sort_vals (κ := dataKind (sortingHeap (h'.push { cls := .type "list", data := .seq acc.toList.toArray }) h'.objs.size acc.toList) ((placesD kvs).map id)) hS (SortsAt.data (s := { s with heap := sortingHeap (h'.push { cls := .type "list", data := .seq acc.toList.toArray }) h'.objs.size acc.toList, toks := tk }) (each_map (R := fun v d => ∃ as, Reads (sortingHeap (h'.push { cls := .type "list", data := .seq acc.toList.toArray }) h'.objs.size acc.toList) v d as) id er) (by rw [List.map_id]; exact hal) (by rw [List.map_id]; exact hk) (bound_map hu')) (by rw [eI.length]; exact hz') ⟨.none, rfl, ?_⟩) (args_list_sort _)
  have eo := sortVals_data (R := DV.IsD X.K (cut M H)) (enc := id) false eI er (by rw [List.map_id]; exact hal)
  obtain ⟨ys, ry, dy⟩ := each_back eo
  have hly : ys.length ≤ sizeLine := by
    rw [dpa_length dy, List.length_mergeSort]
    exact hz'
  obtain ⟨ep', he'⟩ := sortedHeap_at (out := (sortVals (dataKind (sortingHeap (h'.push { cls := .type "list", data := .seq acc.toList.toArray }) h'.objs.size acc.toList) ((placesD kvs).map id)) false acc.toList acc.toList).toArray) hS
  refine ⟨.ref _, upd H h'.objs.size (.lst ys), I1.laid (t' := tk) (fun b o e => (sortedHeap_old (Nat.ne_of_lt (Heap.lt_size e)) (Heap.lt_size (Heap.get?_push_of_some _ e))).trans (Heap.get?_push_of_some _ e)) (Nat.le_refl _) ⟨hly, _, ep', ry, he'⟩, rfl, q ys _ dy hf1⟩
end DV
namespace DV
open PySem PySem.Spec L2 Evl LamX NdefX
open PyProof.Rows hiding St cutD
/-! ### classes called -/
structure Mkr (P : Program) (w : World) (K : PySem.W.Frag) (mg : Str → Option Value) (base : Heap) (x : Str) (C : Addr) (n : Nat) (ks : List Str) (gV : List V → List V → List V) (k : Nat) (sp : Sp) : Prop where
  ex : ∃ (f : Addr) (fd : FuncData) (ps : List Str) (g : List Value → List Value → List Value), FnOk P w K mg base (L2.CX P w) k f fd ps sp ∧ Mk K C f ∧ KBn K fd ps (n + 1) ks g gV
  gC : mg x = some (.ref C)
section
variable {P : Program} {w : World} {K : PySem.W.Frag} {mg : Str → Option Value} {base : Heap} {x : Str} {C : Addr} {n : Nat} {ks : List Str} {gV : List V → List V → List V}
theorem Mkr.mono {j k : Nat} {sp : Sp} (c : Mkr P w K mg base x C n ks gV j sp) (h : j ≤ k) : Mkr P w K mg base x C n ks gV k sp := by
  obtain ⟨f, fd, ps, g, F, r⟩ := c.ex
  exact ⟨⟨f, fd, ps, g, F.mono h, r⟩, c.gC⟩
end
section
variable {S : Type} {X : Cx} {M : List Addr} {R : S → Hp → Prop} {ρ : List Sl} {s s1 s2 s3 : S} {e : Expr} {es : List Expr} {kws : List Keyword} {x : Str} {px pos : Pos} {rs zs : List Sl} {C : Addr} {n j k : Nat} {ks : List Str} {gV : List V → List V → List V} {sp : Sp} {E : XK}
theorem w_make {σ : St} {H : Hp} {Q : VK} (c : Mkr X.prog X.w X.K X.mg X.base x C n ks gV k sp) (hr : Room j X.A) (hk : k + 1 ≤ j) (hg : Gl X x) (hx : Passes (L2.CX X.prog X.w) X E) (ha : EvA1 X M R ρ (e :: es) s rs s1) (hkw : EvK1 X M R ρ kws s1 zs s2) (hσ : Slots X.K (cut M H) σ ρ) (hR : R s H)
    (ln : rs.length = n) (lk : zs.length = ks.length)
    (h : ∀ vs us H1 a dx, Ex (cut M H) (cut M H1) → SvAll X.K (cut M H1) rs vs → SvAll X.K (cut M H1) zs us → R s2 H1 → H1 a = none → H1 dx = none → dx ≠ a → sp (gV (.ref a :: vs) us) (upd (upd H1 dx (.own a)) a (.ins C dx [])) (fun v H3 => v = .non ∧ Q (.ref a) H3) E)
    (hall : (backToKw pos (keywordEach kws X.env)).all (·.1.isSome) = true := by rfl) (hks : (backToKw pos (keywordEach kws X.env)).filterMap (·.1) = ks := by rfl) (hdb : (x == ("__debug__" : Str)) = false := by decide)
    (hst : starEach (e :: es) X.env = (false, eval e X.env) :: starEach es X.env := by rfl) (hpl : ((backTo pos (starEach (e :: es) X.env)).any (·.1) || (backToKw pos (keywordEach kws X.env)).any (·.1.isNone)) = false := by rfl) : wE X (.Call (.Name x px) (e :: es) kws pos) σ H Q := by
  obtain ⟨f, fd, ps, g, F, hm, hb⟩ := c.ex
  obtain ⟨tk, pk, hkk⟩ := hkw
  refine wE_of (pe_makeK hm F (hr.mono hk) hg c.gC hb hx pa_w pk hall hks hdb hst hpl) ?_
  refine ha σ H _ hσ hR fun vs H1 e1 R1 d1 => ?_
  refine hkk σ H1 _ (hσ.ex e1) R1 fun us H2 e2 R2 d2 => ?_
  exact ⟨d1.len.trans ln, d2.len.trans lk, fun a dx na nd ne => h vs us H2 a dx (e1.trans e2) (d1.ex e2) d2 R2 na nd ne⟩
/-- an object laid: nothing else changes -/
theorem ex_laid {H : Hp} {a dx : Addr} {o1 o2 : HO} (na : H a = none) (nd : H dx = none) (ne : dx ≠ a) : Ex H (upd (upd H dx o1) a o2) :=
  (Ex.new nd).trans (Ex.new (by rw [upd_ne (Ne.symm ne)]; exact na))
/-- it raises -/
theorem x_make (g : Rg M R) {G : List Sl → Out → Prop} {cl : Value} {σ : St} {H : Hp} {Q : VK} {rv : List Sl} (c : Mkr X.prog X.w X.K X.mg X.base x C n ks gV k (spS X.K G)) (hr : Room j X.A) (hk : k + 1 ≤ j) (hg : Gl X x) (hx : Passes (L2.CX X.prog X.w) X E) (hG : G rv (.er cl)) (ha : EvA1 X M R ρ (e :: es) s rs s1) (hkw : EvK1 X M R ρ kws s1 zs s2)
    (hrv : ∀ (H' : Hp) (a : Addr) (vs us : List V), SvAll X.K H' rs vs → SvAll X.K H' zs us → SvAll X.K H' rv (gV (.ref a :: vs) us)) (hσ : Slots X.K (cut M H) σ ρ) (hR : R s H)
    (ln : rs.length = n) (lk : zs.length = ks.length) (h : ∀ H1, Ex (cut M H) (cut M H1) → R s2 H1 → E cl none H1)
    (hall : (backToKw pos (keywordEach kws X.env)).all (·.1.isSome) = true := by rfl) (hks : (backToKw pos (keywordEach kws X.env)).filterMap (·.1) = ks := by rfl) (hdb : (x == ("__debug__" : Str)) = false := by decide)
    (hst : starEach (e :: es) X.env = (false, eval e X.env) :: starEach es X.env := by rfl) (hpl : ((backTo pos (starEach (e :: es) X.env)).any (·.1) || (backToKw pos (keywordEach kws X.env)).any (·.1.isNone)) = false := by rfl) : wE X (.Call (.Name x px) (e :: es) kws pos) σ H Q := by
  refine w_make c hr hk hg hx ha hkw hσ hR ln lk (fun vs us H1 a dx e1 d1 d2 R2 na nd ne => ?_) hall hks hdb hst hpl
  have eL := ex_laid (o1 := .own a) (o2 := .ins C dx []) na nd ne
  refine ⟨M, rv, .er cl, fun b m => g.dom (g.up R2 eL) m, hrv _ a vs us (d1.ex (exCut eL)) (d2.ex (exCut eL)), hG, fun H' e2 => h H' (e1.trans ((exCut eL).trans (exCut e2))) (g.up R2 (eL.trans e2))⟩
end
/-! a lambda whose body raises -/
section
variable {X : Cx} {σ : L2.St} {ys : List (Nat × Str)} {D f c : Addr} {h : Hp} {L : Lam} {N ps fr : List Str} {js : List Nat} {vs : List V}
theorem lam_erG (hL : h f = some (LamO f L)) (hc : h L.c = some (CodeO L.c L.qual)) (hcl : L.cl = cloFrom X.env.cells L.scope.names []) (hfree : ∀ y ∈ L.scope.names, y.2 = .free → X.env.scope.names.lookup y.1 = some .cell ∨ X.env.scope.names.lookup y.1 = some .free)
    (S : NScope N ps fr L.scope) (hl : vs.length = ps.length) (hjs : js.length = fr.length) (hys : ∀ (i : Nat) (y : Str), fr[i]? = some y → ∃ j, js[i]? = some j ∧ (j, y) ∈ ys)
    (hb : ∀ (H' : Hp) (s : Shared), Ex h H' → HOk X.prog X.w H' s.heap → ∃ us, Vals vs us ∧ ∀ doc pm ctv, BindsTo s (L.fd doc pm ctv) ⟨[], []⟩ (ps.zip us))
    (hbody : ∀ A outer s Hx (E' : XK), Room 4 (A.deeper (envF L.nf f s.heap.objs.size)) → Ex h Hx → (∀ H2, Ex Hx H2 → E' (.ref D) none H2) → wE (ncx (L2.CX X.prog X.w) X.prog X.w X.K X.mg X.base N L.nf f A outer s Hx E') L.body (startF N vs (js.map (slotAt σ))) Hx fun _ _ => False) : LamGood X σ ys D f h := by
  refine ⟨⟨L, hL⟩, fun σ' H1 G H' hag sh e1 e2 => ?_⟩
  have hfr : ∀ y ∈ L.scope.names, y.2 = .free → ∃ c, X.env.cells.lookup y.1 = some c := fun y hy k => (hfree y hy k).elim (fun z => sh.ok.has _ (.inl z)) fun z => sh.ok.has _ (.inr z)
  have e3 : Ex h H' := e1.trans ((ex_ov sh.free).trans e2)
  have hit : ∀ (i : Nat) (y : Str), fr[i]? = some y → ∃ c o v j, L.cl.lookup y = some c ∧ js[i]? = some j ∧ σ[j]? = some (some v) ∧ H' c = some (CellF o v) ∧ G c = some (CellF o v) := fun i y hi => by
    obtain ⟨j, hj, hm⟩ := hys i y hi
    obtain ⟨c, o, v, k1, k2, k3⟩ := sh.at_ j y hm
    have hy : (y, NameKind.free) ∈ L.scope.names := PySem.mem_of_lookup (S.frk y (List.mem_of_getElem? hi))
    refine ⟨c, o, v, j, ?_, hj, ?_, e2 _ _ (ov_some k3), k3⟩
    · rw [hcl]
      exact clo_has hfr hy k1
    · rw [← hag (j, y) hm]
      exact k2
  have only : ∀ p ∈ L.cl, ∃ i : Nat, fr[i]? = some p.1 ∧ L.cl.lookup p.1 = some p.2 := fun p hp => by
    rw [hcl] at hp
    rcases cloFrom_mem (n := p.1) (c := p.2) hp with z | ⟨z1, z2⟩
    · cases z
    · obtain ⟨i, hi⟩ := List.mem_iff_getElem?.mp (S.free _ z1 rfl)
      obtain ⟨c, hc⟩ := hfr _ z1 rfl
      have hc : X.env.cells.lookup p.1 = some c := hc
      refine ⟨i, hi, ?_⟩
      rw [hcl, z2, hc]
      exact clo_has hfr z1 hc
  have inj : ∀ x y c, L.cl.lookup x = some c → L.cl.lookup y = some c → x = y := fun x y c k1 k2 => by
    rw [hcl] at k1 k2
    exact sh.ok.inj x y c (clo_cm hfr k1) (clo_cm hfr k2)
  refine Calls.lam (k := 4) (N := N) (ps := ps) (fr := fr) (vs := vs) (ws := js.map (slotAt σ)) S (e3 _ _ hL) (e3 _ _ hc) hl (by rw [List.length_map]; exact hjs) (fun s hok => hb H' s e3 hok) (fun i y hi => ?_) only inj fun A outer s E' eE hr => ?_
  · obtain ⟨c, o, v, j, k1, k2, k3, k4, _⟩ := hit i y hi
    refine ⟨c, o, v, k1, ?_, k4⟩
    rw [List.getElem?_map, k2]
    show some (slotAt σ j) = _
    rw [slotAt_of k3]
  · have eX : Ex h (un (capG L H') H') := fun a o hao => by
      have q := e3 a o hao
      have hn : capG L H' a = none := by
        unfold capG
        split
        · rename_i hm
          obtain ⟨p, hp, rfl⟩ := List.mem_map.mp hm
          obtain ⟨i, hi, hlk⟩ := only p hp
          obtain ⟨c, o', v, j, k1, _, _, _, k5⟩ := hit i p.1 hi
          rw [hlk] at k1
          cases k1
          have z := e1 _ _ hao
          rw [sh.free _ _ k5] at z
          cases z
        · rfl
      rw [un_none hn]
      exact q
    have tG : ∀ a ho, capG L H' a = some ho → H' a = some ho := fun a ho e => by
      unfold capG at e
      split at e
      · exact e
      · cases e
    have hw := hbody A outer s (un (capG L H') H') E' hr eX fun H2 e => by
      rw [eE]
      exact ⟨rfl, rfl, un_ex tG e⟩
    exact fun pins s' I => wpAny_mono (hw pins s' I) (fun v s1 ⟨_, _, _, _, q⟩ => q.elim) fun _ _ e => e
end
end DV
namespace DV
open PySem PySem.Spec L2 Evl LamX NdefX
open PyProof.Rows hiding St cutD
/-! ### dicts told -/
def DkT {κ : Type} (K : PySem.W.Frag) (H : Hp) : List (κ × V) → List (κ × PyData) → Prop
  | [], [] => True
  | (k, v) :: a, (l, d) :: b => k = l ∧ Dv K H v d ∧ DkT K H a b
  | _, _ => False
theorem DkT.ex {κ : Type} {K : PySem.W.Frag} {H H' : Hp} (e : Ex H H') : ∀ {a : List (κ × V)} {b : List (κ × PyData)}, DkT K H a b → DkT K H' a b
  | [], [], _ => trivial
  | (_, _) :: _, (_, _) :: _, ⟨h1, h2, h3⟩ => ⟨h1, dp_ex e _ _ h2, DkT.ex e h3⟩
  | [], (_, _) :: _, h => h.elim
  | (_, _) :: _, [], h => h.elim
theorem DkT.len {κ : Type} {K : PySem.W.Frag} {H : Hp} : ∀ {a : List (κ × V)} {b : List (κ × PyData)}, DkT K H a b → a.length = b.length
  | [], [], _ => rfl
  | (_, _) :: _, (_, _) :: _, ⟨_, _, h3⟩ => by rw [List.length_cons, List.length_cons, DkT.len h3]
  | [], (_, _) :: _, h => h.elim
  | (_, _) :: _, [], h => h.elim
theorem DkT.keys {κ : Type} {K : PySem.W.Frag} {H : Hp} : ∀ {a : List (κ × V)} {b : List (κ × PyData)}, DkT K H a b → a.map (·.1) = b.map (·.1)
  | [], [], _ => rfl
  | (_, _) :: _, (_, _) :: _, ⟨h1, _, h3⟩ => by rw [List.map_cons, List.map_cons, DkT.keys h3, h1]
  | [], (_, _) :: _, h => h.elim
  | (_, _) :: _, [], h => h.elim
theorem DkT.vals {κ : Type} {K : PySem.W.Frag} {H : Hp} : ∀ {a : List (κ × V)} {b : List (κ × PyData)}, DkT K H a b → DvAll K H (a.map (·.2)) (b.map (·.2))
  | [], [], _ => .nil
  | (_, _) :: _, (_, _) :: _, ⟨_, h2, h3⟩ => .cons h2 (DkT.vals h3)
  | [], (_, _) :: _, h => h.elim
  | (_, _) :: _, [], h => h.elim
theorem DkT.app {κ : Type} {K : PySem.W.Frag} {H : Hp} {k : κ} {v : V} {d : PyData} (hv : Dv K H v d) : ∀ {a : List (κ × V)} {b : List (κ × PyData)}, DkT K H a b → DkT K H (a ++ [(k, v)]) (b ++ [(k, d)])
  | [], [], _ => ⟨rfl, hv, trivial⟩
  | (_, _) :: _, (_, _) :: _, ⟨h1, h2, h3⟩ => ⟨h1, h2, DkT.app hv h3⟩
  | [], (_, _) :: _, h => h.elim
  | (_, _) :: _, [], h => h.elim
theorem putK_app {κ : Type} [DecidableEq κ] {k : κ} {z : V} {kvs : List (κ × V)} (h : k ∉ kvs.map (·.1)) : putK kvs k z = kvs ++ [(k, z)] := by
  unfold putK
  rw [if_neg]
  intro e
  obtain ⟨p, hp, q⟩ := List.any_eq_true.mp e
  exact h (List.mem_map.mpr ⟨p, hp, of_decide_eq_true q⟩)
def RK {S : Type} (K : PySem.W.Frag) (M : List Addr) (R : S → Hp → Prop) (D : Addr) : S × List (L2.Key × PyData) → Hp → Prop := fun s H => R s.1 (rem D H) ∧ ∃ kvs, H D = some (.dK kvs) ∧ DkT K (cut (D :: M) H) kvs s.2
def RDk {S : Type} (R : S → Hp → Prop) (D : Addr) (acc : List (L2.Key × V)) : S → Hp → Prop := fun s H => R s (rem D H) ∧ H D = some (.dK acc)
theorem RDk.rg {S : Type} {M : List Addr} {R : S → Hp → Prop} (g : Rg M R) (D : Addr) (acc : List (L2.Key × V)) : Rg (D :: M) (RDk R D acc) :=
  ⟨fun ⟨h, d⟩ e => ⟨g.up h (rem_ex e), e _ _ d⟩, fun ⟨h, d⟩ m => by
    rcases List.mem_cons.mp m with e | m
    · subst e; exact ⟨_, d⟩
    · obtain ⟨o, q⟩ := g.dom h m
      exact ⟨o, (rem_some q).2⟩⟩
section
variable {S : Type} {X : Cx} {M : List Addr} {R : S → Hp → Prop} {ρ : List Sl} {s : S} {pos : Pos}
/-- one turn: the test, the key, the value -/
def Dc1 (X : Cx) (scope : Scope) (M : List Addr) (R : S → Hp → Prop) (ρ : List Sl) (c kx vx : Expr) (s : S) (o o' : List (L2.Key × PyData)) : Prop :=
  ∀ D acc, Rg (D :: M) (RDk R D acc) → ∃ (b : Bool),
    (∀ sh Hh C cl fp, EvT1 (Bk X scope sh Hh C cl fp) (D :: M) (RDk R D acc) ρ c s b s) ∧
    (b = true → ∃ k d, o' = o ++ [(k, d)] ∧ k ∉ o.map (·.1) ∧ (∀ sh Hh C cl fp, Ev1 (Bk X scope sh Hh C cl fp) (D :: M) (RDk R D acc) ρ kx s (.raw (kV k)) s) ∧ ∀ sh Hh C cl fp, Ev1 (Bk X scope sh Hh C cl fp) (D :: M) (RDk R D acc) ρ vx s (.dat d) s) ∧ (b = false → o' = o)
theorem dcF (g : Rg M R) {c kx vx tg iter : Expr} {scope : Scope} {own : List (Str × Nat)} {gt : TG} {n : Nat} {it : Nat → Sl} {outs : Nat → List (L2.Key × PyData)} (hc : X.calm = true) (hN : X.N.Nodup) (ok : BlkOk X.N X.env.scope scope own) (hg : ∀ sh Hh C cl fp, PG (Bk X scope sh Hh C cl fp) tg gt) (hi : EvI1 X M R ρ tg iter s n it s) (h0 : outs 0 = []) (hz : ∀ i, i < n → (outs i).length < 100000)
    (hs : ∀ i, i < n → ∃ ρ', Tg1 X.K gt (own.map (·.2)) (wipeR ρ (own.map (·.2))) (it i) ρ' ∧ Dc1 X scope M R ρ' c kx vx s (outs i) (outs (i + 1))) (σ : St) (H : Hp) (Q : VK) (hσ : Slots X.K (cut M H) σ ρ) (hR : R s H)
    (q : ∀ D H2, Ex (cut M H) (cut (D :: M) H2) → (∀ a ∈ M, a ≠ D) → RK X.K M R D (s, outs n) H2 → Q (.ref D) H2) (hfs : ∀ x, foldedSetIterable iter X.env x = pure x := by intro _; rfl) : wE X (.DictComp kx vx [⟨tg, iter, [c], 0⟩] scope pos) σ H Q := by
  obtain ⟨wi, pwi, hwi⟩ := hi
  refine wE_of (pe_dc (tk := wbE X scope kx) (tv := wbE X scope vx) (tt := wbT X scope [c]) (g := gt) (own := own) hc hN pwi ok hg (fun sh Hh C cl fp => pts_one ⟨fun pins s σ H Q I h => h sh Hh C cl fp pins s I⟩) (fun sh Hh C cl fp => ⟨fun pins s σ H Q I h => h sh Hh C cl fp pins s I⟩) (fun sh Hh C cl fp => ⟨fun pins s σ H Q I h => h sh Hh C cl fp pins s I⟩) hfs) ?_
  refine hwi σ H _ hσ hR fun J H1 e1 R1 hsrc D nD => ?_
  obtain ⟨G, hG, w⟩ := hsrc
  have hDM : D ∉ M := g.fresh R1 nD
  let P : Nat → Hp → Prop := fun i H' => R s (rem D H') ∧ Ex (cut M H1) (cut M H') ∧ ∃ acc, H' D = some (.dK acc) ∧ DkT X.K (cut (D :: M) H') acc (outs i)
  refine ⟨fun i m H => m = n - i ∧ i ≤ n ∧ P i H, ⟨n, by simp, Nat.zero_le _, ?_⟩, ?_⟩
  · refine ⟨by rw [rem_upd, rem_free nD]; exact R1, exCut (Ex.new nD), [], upd_same, ?_⟩
    rw [h0]
    trivial
  rintro i m H2 ⟨rfl, hi, p⟩
  by_cases hlt : i < n
  · have hgo := hG H2 p.2.1
    refine .inr ⟨w.goes i H2 hlt hgo, P (i + 1), fun H' p' => ⟨n - (i + 1), by omega, rfl, hlt, p'⟩, fun x H' y => ?_⟩
    have hy := w.yields i H2 x H' hlt hgo y
    obtain ⟨R2, e2, acc, hD, hacc⟩ := p
    obtain ⟨ρ', ht, hl⟩ := hs i hlt
    have gD := RDk.rg g D acc
    have RD2 : RDk R D acc s H2 := ⟨R2, hD⟩
    obtain ⟨eH, sx⟩ := hy (D :: M) (cut_cons_none nD) (fun a m => gD.dom RD2 m) (ex_cut_back nD e2)
    have RD3 : RDk R D acc s H' := gD.up RD2 eH
    have e12 : Ex (cut M H1) (cut M H') := e2.trans (exCut eH)
    have hσ' : Slots X.K (cut (D :: M) H') (wipe σ (own.map (·.2))) (wipeR ρ (own.map (·.2))) := by
      have := slots_wipe hσ (own.map (·.2))
      refine Slots.ex ?_ this
      have ee : Ex (cut M H) (cut (D :: M) H1) := by
        rw [cut_cons_none nD]
        exact e1
      exact ee.trans (ex_cut_back nD e12)
    refine ht (D :: M) _ H' x _ hσ' sx fun σ2 hσ2 hw2 => ?_
    refine ⟨hw2.trans wipe_wipe, ?_⟩
    have hacc' : DkT X.K (cut (D :: M) H') acc (outs i) := hacc.ex (exCut eH)
    obtain ⟨b, hb, hb1, hb0⟩ := hl D acc gD
    intro sh Hh C cl fp
    refine hb sh Hh C cl fp σ2 H' _ hσ2 RD3 fun H3 e3 R3 => ?_
    have back : ∀ {H5 : Hp}, Ex (cut (D :: M) H') (cut (D :: M) H5) → Ex (cut M H1) (cut M H5) := fun {H5} e a o ha => by
      have hne : a ≠ D := fun z => by
        rw [z] at ha
        rw [(cut_some ha).2] at nD
        cases nD
      have hM := (cut_some ha).1
      have q1 := e12 a o ha
      have n2 : a ∉ D :: M := fun z => (List.mem_cons.mp z).elim hne hM
      have q2 := e a o (by rw [cut_out n2]; rw [cut_out hM] at q1; exact q1)
      rw [cut_out hM]
      rw [cut_out n2] at q2
      exact q2
    cases b with
    | true =>
      rw [if_pos rfl]
      obtain ⟨k, d, eo, nk, hk, hv⟩ := hb1 rfl
      intro sh Hh C cl fp
      refine hk sh Hh C cl fp σ2 H3 _ (hσ2.ex e3) R3 fun y H4 e4 R4 d4 => ?_
      have d4 : y = kV k := d4
      subst d4
      intro sh Hh C cl fp
      refine hv sh Hh C cl fp σ2 H4 _ (hσ2.ex (e3.trans e4)) R4 fun z H5 e5 R5 d5 => ?_
      have la : acc.length = (outs i).length := hacc.len
      refine ⟨acc, k, rfl, R5.2, by rw [la]; exact Nat.lt_of_lt_of_le (hz i hlt) (by decide), ?_, ?_, acc ++ [(k, z)], ?_, ?_⟩
      · rw [rem_upd]; exact R5.1
      · have := back (e3.trans (e4.trans e5))
        intro a o ha
        have hne : a ≠ D := fun z => by
          rw [z] at ha
          rw [(cut_some ha).2] at nD
          cases nD
        have q1 := this a o ha
        rw [cut_out (cut_some ha).1] at q1 ⊢
        rw [upd_ne hne]
        exact q1
      · rw [upd_same, putK_app (by rw [hacc.keys]; exact nk)]
      · rw [cut_upd_in List.mem_cons_self, eo]
        exact DkT.app d5 (hacc'.ex (e3.trans (e4.trans e5)))
    | false =>
      rw [if_neg Bool.false_ne_true]
      have eo := hb0 rfl
      refine ⟨R3.1, back e3, acc, R3.2, ?_⟩
      rw [eo]
      exact hacc'.ex e3
  · have e : i = n := by omega
    subst e
    obtain ⟨R', e', acc, hD, hacc⟩ := p
    refine .inl ⟨w.stops H2 (hG H2 e'), q D H2 (e1.trans ?_) (fun a m z => hDM (z ▸ m)) ⟨R', acc, hD, hacc⟩⟩
    have := ex_cut_back nD e'
    rw [cut_cons_none nD] at this
    exact this
end
end DV
namespace DV
open PySem PySem.Spec L2 Evl LamX NdefX
open PyProof.Rows hiding St cutD
/-! ### an object in the making -/
def TFs (K : PySem.W.Frag) (H : Hp) : List (Str × Sl) → List (Str × V) → Prop
  | [], [] => True
  | (f, r) :: a, (g, v) :: b => f = g ∧ Sv K H r v ∧ TFs K H a b
  | _, _ => False
theorem TFs.ex {K : PySem.W.Frag} {H H' : Hp} (e : Ex H H') : ∀ {a : List (Str × Sl)} {b : List (Str × V)}, TFs K H a b → TFs K H' a b
  | [], [], _ => trivial
  | (_, _) :: _, (_, _) :: _, ⟨h1, h2, h3⟩ => ⟨h1, h2.ex e, TFs.ex e h3⟩
  | [], (_, _) :: _, h => h.elim
  | (_, _) :: _, [], h => h.elim
theorem TFs.len {K : PySem.W.Frag} {H : Hp} : ∀ {a : List (Str × Sl)} {b : List (Str × V)}, TFs K H a b → b.length = a.length
  | [], [], _ => rfl
  | (_, _) :: _, (_, _) :: _, ⟨_, _, h3⟩ => by rw [List.length_cons, List.length_cons, TFs.len h3]
  | [], (_, _) :: _, h => h.elim
  | (_, _) :: _, [], h => h.elim
theorem TFs.look {K : PySem.W.Frag} {H : Hp} {f : Str} {r : Sl} : ∀ {a : List (Str × Sl)} {b : List (Str × V)}, TFs K H a b → a.lookup f = some r → ∃ v, b.lookup f = some v ∧ Sv K H r v
  | [], [], _, h => by cases h
  | (g, r') :: a, (g', v) :: b, ⟨h1, h2, h3⟩, h => by
    subst h1
    rw [List.lookup_cons] at h ⊢
    cases e : f == g with
    | true =>
      rw [e] at h
      have h : some r' = some r := h
      cases h
      exact ⟨v, rfl, h2⟩
    | false =>
      rw [e] at h
      exact TFs.look h3 h
  | [], (_, _) :: _, h, _ => h.elim
  | (_, _) :: _, [], h, _ => h.elim
theorem TFs.look_none {K : PySem.W.Frag} {H : Hp} {f : Str} : ∀ {a : List (Str × Sl)} {b : List (Str × V)}, TFs K H a b → a.lookup f = none → b.lookup f = none
  | [], [], _, _ => rfl
  | (g, r) :: a, (g', v) :: b, ⟨h1, h2, h3⟩, h => by
    subst h1
    rw [List.lookup_cons] at h ⊢
    cases e : f == g with
    | true => rw [e] at h; cases h
    | false =>
      rw [e] at h
      exact TFs.look_none h3 h
  | [], (_, _) :: _, h, _ => h.elim
  | (_, _) :: _, [], h, _ => h.elim
/-- the told fields behind a store -/
def putT (f : Str) (r : Sl) : List (Str × Sl) → List (Str × Sl)
  | [] => [(f, r)]
  | (g, x) :: t => if g = f then (g, r) :: t else (g, x) :: putT f r t
theorem TFs.put {K : PySem.W.Frag} {H : Hp} {f : Str} {r : Sl} {v : V} (hv : Sv K H r v) : ∀ {a : List (Str × Sl)} {b : List (Str × V)}, TFs K H a b → TFs K H (putT f r a) (putF f v b)
  | [], [], _ => ⟨rfl, hv, trivial⟩
  | (g, x) :: a, (g', y) :: b, ⟨h1, h2, h3⟩ => by
    subst h1
    unfold putT putF
    by_cases e : g = f
    · rw [if_pos e, if_pos e]
      exact ⟨rfl, hv, h3⟩
    · rw [if_neg e, if_neg e]
      exact ⟨rfl, h2, TFs.put hv h3⟩
  | [], (_, _) :: _, h => h.elim
  | (_, _) :: _, [], h => h.elim
structure RIt (K : PySem.W.Frag) (C x dx : Addr) (M : List Addr) (H0 : Hp) (ob : List (Addr × HO)) (fa : List (V × PyData)) (fs : List (Str × Sl)) (H : Hp) : Prop where
  own : H dx = some (.own x)
  ins : ∃ vs, H x = some (.ins C dx vs) ∧ TFs K (cut M H) fs vs
  obs : ∀ p ∈ ob, p.1 ≠ x ∧ H p.1 = some p.2
  fac : ∀ p ∈ fa, Dv K (cut M H) p.1 p.2
  ne : dx ≠ x
  old : ∀ a o, a ≠ x → H0 a = some o → H a = some o
  mx : x ∈ M
  md : ∀ a ∈ M, a = x ∨ a = dx ∨ a ∈ ob.map (·.1) ∨ ∃ o, H0 a = some o
def RI (K : PySem.W.Frag) (C x dx : Addr) (M : List Addr) (H0 : Hp) (ob : List (Addr × HO)) (fa : List (V × PyData)) : List (Str × Sl) → Hp → Prop := fun fs H => RIt K C x dx M H0 ob fa fs H
section
variable {K : PySem.W.Frag} {C x dx : Addr} {M : List Addr} {H0 : Hp} {ob : List (Addr × HO)} {fa : List (V × PyData)}
theorem RI.rg : Rg M (RI K C x dx M H0 ob fa) where
  up := fun {s H H'} h e => by
    obtain ⟨vs, h1, h2⟩ := h.ins
    exact ⟨e _ _ h.own, ⟨vs, e _ _ h1, h2.ex (exCut e)⟩, fun p hp => ⟨(h.obs p hp).1, e _ _ (h.obs p hp).2⟩, fun p hp => dp_ex (exCut e) _ _ (h.fac p hp), h.ne, fun a o n z => e _ _ (h.old a o n z), h.mx, h.md⟩
  dom := fun {s H a} h m => by
    rcases h.md a m with rfl | rfl | m | ⟨o, ho⟩
    · obtain ⟨vs, h1, _⟩ := h.ins
      exact ⟨_, h1⟩
    · exact ⟨_, h.own⟩
    · obtain ⟨p, hp, rfl⟩ := List.mem_map.mp m
      exact ⟨_, (h.obs p hp).2⟩
    · by_cases z : a = x
      · subst z
        obtain ⟨vs, h1, _⟩ := h.ins
        exact ⟨_, h1⟩
      · exact ⟨_, h.old a o z ho⟩
end
section
variable {X : Cx} {C x dx : Addr} {M : List Addr} {H0 : Hp} {ob : List (Addr × HO)} {fa : List (V × PyData)} {ρ : List Sl} {fs : List (Str × Sl)} {f : Str} {r : Sl} {e o : Expr} {ppos pos : Pos} {rest : List Stmt} {D : Ends}
/-- self.f = e -/
theorem putT_new {f : Str} {r : Sl} : ∀ {fs : List (Str × Sl)}, fs.all (fun p => !(p.1 == f)) = true → putT f r fs = fs ++ [(f, r)]
  | [], _ => rfl
  | (g, x) :: t, h => by
    rw [List.all_cons, Bool.and_eq_true] at h
    unfold putT
    rw [if_neg fun z => by
      have h1 : (!(g == f)) = true := h.1
      rw [z] at h1
      simp at h1, putT_new h.2]
    rfl
theorem st_fldI (c : Cls X.K C) (na : NoAttr X.K C f) (he : Ev1 X M (RI X.K C x dx M H0 ob fa) ρ e fs r fs) (ho : Ev1 X M (RI X.K C x dx M H0 ob fa) ρ o fs (.raw (.ref x)) fs) (k : St1 X M (RI X.K C x dx M H0 ob fa) ρ rest (fs ++ [(f, r)]) D)
    (hl : decide (fs.length < 1000) = true := by rfl) (hn : fs.all (fun p => !(p.1 == f)) = true := by rfl) (hs : swapsWith e (some (.Attribute o f ppos)) pos.line X.env = pure false := by rfl) : St1 X M (RI X.K C x dx M H0 ob fa) ρ (.Assign [.Attribute o f ppos] e pos :: rest) fs D := by
  intro σ H hσ hR
  refine wB_cons (wS_of (ps_fld pe_w pe_w hs) ?_)
  refine he σ H _ hσ hR fun y H1 e1 R1 d1 => ?_
  refine ho σ H1 _ (hσ.ex e1) R1 fun v H2 e2 R2 d2 => ?_
  have d2 : v = .ref x := d2
  subst d2
  obtain ⟨vs, h1, h2⟩ := R2.ins
  have hc : cut M (upd H2 x (.ins C dx (putF f y vs))) = cut M H2 := cut_upd_in R2.mx
  refine ⟨x, C, dx, vs, rfl, h1, c, na, by rw [h2.len]; exact of_decide_eq_true hl, k σ _ (by rw [hc]; exact hσ.ex (e1.trans e2)) ?_⟩
  exact ⟨by rw [upd_ne R2.ne]; exact R2.own, ⟨_, upd_same, by rw [hc, ← putT_new hn]; exact h2.put (d1.ex e2)⟩, fun p hp => ⟨(R2.obs p hp).1, by rw [upd_ne (R2.obs p hp).1]; exact (R2.obs p hp).2⟩, fun p hp => by rw [hc]; exact R2.fac p hp, R2.ne, fun a o n z => by rw [upd_ne n]; exact R2.old a o n z, R2.mx, R2.md⟩
/-- self.f = something new, kept apart -/
theorem st_newI (PP : HO → List (V × PyData) → Prop) (c : Cls X.K C) (na : NoAttr X.K C f)
    (he : ∀ σ H (Q : VK), Slots X.K (cut M H) σ ρ → RI X.K C x dx M H0 ob fa fs H → (∀ (p : Addr) (u : HO) (fb : List (V × PyData)) (H2 : Hp), Ex (cut M H) (cut (p :: M) H2) → RI X.K C x dx M H0 ob fa fs (rem p H2) → H2 p = some u → (∀ q ∈ fb, Dv X.K (cut (p :: M) H2) q.1 q.2) → PP u fb → Q (.ref p) H2) → wE X e σ H Q)
    (ho : ∀ (M' : List Addr) (R' : List (Str × Sl) → Hp → Prop) (fs' : List (Str × Sl)), Ev1 X M' R' ρ o fs' (.raw (.ref x)) fs')
    (k : ∀ p u fb, H0 p = none → p ∉ M → PP u fb → St1 X (p :: M) (RI X.K C x dx (p :: M) H0 ((p, u) :: ob) (fb ++ fa)) ρ rest (fs ++ [(f, .raw (.ref p))]) D)
    (hl : decide (fs.length < 1000) = true := by rfl) (hn : fs.all (fun p => !(p.1 == f)) = true := by rfl) (hs : swapsWith e (some (.Attribute o f ppos)) pos.line X.env = pure false := by rfl) : St1 X M (RI X.K C x dx M H0 ob fa) ρ (.Assign [.Attribute o f ppos] e pos :: rest) fs D := by
  intro σ H hσ hR
  refine wB_cons (wS_of (ps_fld pe_w pe_w hs) ?_)
  refine he σ H _ hσ hR fun p u fb H1 ec R1 hp1 hfb pp => ?_
  have px : p ≠ x := fun z => by
    obtain ⟨vs, h1, _⟩ := R1.ins
    rw [z, rem_self] at h1
    cases h1
  have pM : p ∉ M := fun m => by
    obtain ⟨o, ho⟩ := RI.rg.dom R1 m
    rw [rem_self] at ho
    cases ho
  have n0 : H0 p = none := by
    cases q : H0 p with
    | none => rfl
    | some o =>
      have := R1.old p o px q
      rw [rem_self] at this
      cases this
  have RN : RI X.K C x dx (p :: M) H0 ((p, u) :: ob) (fb ++ fa) fs H1 := by
    obtain ⟨vs, h1, h2⟩ := R1.ins
    rw [cut_rem] at h2
    refine ⟨(rem_some R1.own).2, ⟨vs, (rem_some h1).2, h2⟩, fun q hq => ?_, fun q hq => ?_, R1.ne, fun a o n z => (rem_some (R1.old a o n z)).2, List.mem_cons_of_mem _ R1.mx, fun a m => ?_⟩
    · rcases List.mem_cons.mp hq with rfl | hq
      · exact ⟨px, hp1⟩
      · exact ⟨(R1.obs q hq).1, (rem_some (R1.obs q hq).2).2⟩
    · rcases List.mem_append.mp hq with hq | hq
      · exact hfb q hq
      · have := R1.fac q hq
        rw [cut_rem] at this
        exact this
    · rcases List.mem_cons.mp m with rfl | m
      · exact .inr (.inr (.inl List.mem_cons_self))
      · rcases R1.md a m with h | h | h | h
        · exact .inl h
        · exact .inr (.inl h)
        · exact .inr (.inr (.inl (List.mem_cons_of_mem _ h)))
        · exact .inr (.inr (.inr h))
  refine ho (p :: M) _ fs σ H1 _ (hσ.ex ec) RN fun v H2 e2 R2 d2 => ?_
  have d2 : v = .ref x := d2
  subst d2
  obtain ⟨vs, h1, h2⟩ := R2.ins
  have hc : cut (p :: M) (upd H2 x (.ins C dx (putF f (.ref p) vs))) = cut (p :: M) H2 := cut_upd_in R2.mx
  refine ⟨x, C, dx, vs, rfl, h1, c, na, by rw [h2.len]; exact of_decide_eq_true hl, k p u fb n0 pM pp σ _ (by rw [hc]; exact hσ.ex (ec.trans e2)) ?_⟩
  exact ⟨by rw [upd_ne R2.ne]; exact R2.own, ⟨_, upd_same, by rw [hc, ← putT_new hn]; exact h2.put (r := .raw (.ref p)) rfl⟩, fun p hp => ⟨(R2.obs p hp).1, by rw [upd_ne (R2.obs p hp).1]; exact (R2.obs p hp).2⟩, fun p hp => by rw [hc]; exact R2.fac p hp, R2.ne, fun a o n z => by rw [upd_ne n]; exact R2.old a o n z, R2.mx, R2.md⟩
theorem newI_at {H : Hp} {p : Addr} {u : HO} (n : H p = none) (hR : RI X.K C x dx M H0 ob fa fs H) : Ex (cut M H) (cut (p :: M) (upd H p u)) ∧ RI X.K C x dx M H0 ob fa fs (rem p (upd H p u)) := by
  have e : cut (p :: M) (upd H p u) = cut M H := by rw [cut_upd_in List.mem_cons_self, cut_cons_none n]
  exact ⟨by rw [e]; exact exId _, by rw [rem_upd, rem_free n]; exact hR⟩
/-- [] and {} as such -/
theorem newI_lst {σ : St} {H : Hp} {Q : VK} {pos : Pos} (hR : RI X.K C x dx M H0 ob fa fs H) (q : ∀ (p : Addr) (u : HO) (fb : List (V × PyData)) (H2 : Hp), Ex (cut M H) (cut (p :: M) H2) → RI X.K C x dx M H0 ob fa fs (rem p H2) → H2 p = some u → (∀ q ∈ fb, Dv X.K (cut (p :: M) H2) q.1 q.2) → (u = .lst [] ∧ fb = []) → Q (.ref p) H2) : wE X (.List [] pos) σ H Q :=
  wE_of (pe_lst pa_nil) ⟨by decide, fun p n => q p _ [] _ (newI_at n hR).1 (newI_at n hR).2 upd_same (fun _ h => by cases h) ⟨rfl, rfl⟩⟩
theorem newI_dT {σ : St} {H : Hp} {Q : VK} {pos : Pos} (hR : RI X.K C x dx M H0 ob fa fs H) (q : ∀ (p : Addr) (u : HO) (fb : List (V × PyData)) (H2 : Hp), Ex (cut M H) (cut (p :: M) H2) → RI X.K C x dx M H0 ob fa fs (rem p H2) → H2 p = some u → (∀ q ∈ fb, Dv X.K (cut (p :: M) H2) q.1 q.2) → (u = .dT [] ∧ fb = []) → Q (.ref p) H2) : wE X (.Dict [] [] pos) σ H Q :=
  wE_of pe_dnewT fun p n => q p _ [] _ (newI_at n hR).1 (newI_at n hR).2 upd_same (fun _ h => by cases h) ⟨rfl, rfl⟩
theorem newI_dK {σ : St} {H : Hp} {Q : VK} {pos : Pos} (hR : RI X.K C x dx M H0 ob fa fs H) (q : ∀ (p : Addr) (u : HO) (fb : List (V × PyData)) (H2 : Hp), Ex (cut M H) (cut (p :: M) H2) → RI X.K C x dx M H0 ob fa fs (rem p H2) → H2 p = some u → (∀ q ∈ fb, Dv X.K (cut (p :: M) H2) q.1 q.2) → (u = .dK [] ∧ fb = []) → Q (.ref p) H2) : wE X (.Dict [] [] pos) σ H Q :=
  wE_of pe_dnewK fun p n => q p _ [] _ (newI_at n hR).1 (newI_at n hR).2 upd_same (fun _ h => by cases h) ⟨rfl, rfl⟩
end
end DV
namespace DV
open PySem PySem.Spec L2 Evl
open PyProof.Rows hiding St
section
variable {S : Type} {X : Cx} {M : List Addr} {R : S → Hp → Prop} {ρ : List Sl} {s s1 s2 : S} {e e' a b : Expr} {px px2 pos : Pos}
/-- the name in slot i -/
theorem v (i : Nat) {x : Str} {r : Sl} (hr : ρ[i]? = some r := by rfl) (hne : r ≠ .any := by exact fun h => by cases h) (hN : X.N[i]? = some x := by rfl) (hv : Vis X.env.scope x := by first | exact Or.inl rfl | exact Or.inr (Or.inl rfl) | exact Or.inr (Or.inr rfl))
    (hd : (x == ("__debug__" : Str)) = false := by decide) (hcd : (x == ("__classdict__" : Str)) = false := by decide) : Ev1 X M R ρ (.Name x pos) s r s := e_var i hr hne hN hv hd hcd
/-- a module's int -/
theorem gi {x : Str} {i : Int} (hm : ∃ t, X.mg x = some (.int i t)) (hg : Gl X x := by rfl) (hd : (x == ("__debug__" : Str)) = false := by decide) : Ev1 X M R ρ (.Name x pos) s (.dat (.int i)) s := by
  obtain ⟨t, hm⟩ := hm
  exact e_glob hg hm (v := .int i) ⟨t, rfl⟩ (fun H => Dv.int i) hd
/-- isinstance(e, T) -/
theorem isi {T : String} {x : Str} {d : PyData} {k : Bool} (hb : bootBuiltins x = some (.type T)) (hi : X.mg "isinstance" = none) (hx : X.mg x = none) (hk : kitB (dTy d) T = some k) (he : Ev1 X M R ρ e s (.dat d) s1) (hg : Gl X "isinstance" := by rfl) (hg2 : Gl X x := by rfl)
    (hn : x ≠ "__name__" := by decide) (hd : (x == ("__debug__" : Str)) = false := by decide) (h1 : starEach [e, .Name x px2] X.env = (false, eval e X.env) :: starEach [.Name x px2] X.env := by rfl) (h2 : starEach [.Name x px2] X.env = (false, eval (.Name x px2) X.env) :: starEach [] X.env := by rfl)
    (hpl : (backTo pos (starEach [.Name x px2] X.env)).any (·.1) = false := by rfl) : Ev1 X M R ρ (.Call (.Name "isinstance" px) [e, .Name x px2] [] pos) s (.dat (.bool k)) s1 :=
  e_isi hg hi hk (a_cons he (a_cons (e_bltn hg2 hx hb (v := .ty T) rfl hn hd) a_nil h2) h1) h1 hpl
end
/-- the built-in names that no global hides -/
structure Bl (mg : Str → Option Value) : Prop where
  isi : mg "isinstance" = none
  bool : mg "bool" = none
  int : mg "int" = none
  str : mg "str" = none
  tuple : mg "tuple" = none
  list : mg "list" = none
  len : mg "len" = none
  all : mg "all" = none
  max : mg "max" = none
  zip : mg "zip" = none
  range : mg "range" = none
theorem boot_all : bootBuiltins "all" = some (.builtin "all") := by decide +kernel
def isB : PyData → Bool
  | .bool _ => true
  | _ => false
def isI : PyData → Bool
  | .bool _ => true
  | .int _ => true
  | _ => false
def isS : PyData → Bool
  | .str _ => true
  | _ => false
def isT : PyData → Bool
  | .tuple _ => true
  | _ => false
def isL : PyData → Bool
  | .list _ => true
  | _ => false
theorem kit_bool (d : PyData) : kitB (dTy d) "bool" = some (isB d) := by
  cases d
  · exact (by decide +kernel : kitB "NoneType" "bool" = some false)
  · exact (by decide +kernel : kitB "bool" "bool" = some true)
  · exact (by decide +kernel : kitB "int" "bool" = some false)
  · exact (by decide +kernel : kitB "str" "bool" = some false)
  · exact (by decide +kernel : kitB "list" "bool" = some false)
  · exact (by decide +kernel : kitB "tuple" "bool" = some false)
  · exact (by decide +kernel : kitB "dict" "bool" = some false)
theorem kit_int (d : PyData) : kitB (dTy d) "int" = some (isI d) := by
  cases d
  · exact (by decide +kernel : kitB "NoneType" "int" = some false)
  · exact (by decide +kernel : kitB "bool" "int" = some true)
  · exact (by decide +kernel : kitB "int" "int" = some true)
  · exact (by decide +kernel : kitB "str" "int" = some false)
  · exact (by decide +kernel : kitB "list" "int" = some false)
  · exact (by decide +kernel : kitB "tuple" "int" = some false)
  · exact (by decide +kernel : kitB "dict" "int" = some false)
theorem kit_str (d : PyData) : kitB (dTy d) "str" = some (isS d) := by
  cases d
  · exact (by decide +kernel : kitB "NoneType" "str" = some false)
  · exact (by decide +kernel : kitB "bool" "str" = some false)
  · exact (by decide +kernel : kitB "int" "str" = some false)
  · exact (by decide +kernel : kitB "str" "str" = some true)
  · exact (by decide +kernel : kitB "list" "str" = some false)
  · exact (by decide +kernel : kitB "tuple" "str" = some false)
  · exact (by decide +kernel : kitB "dict" "str" = some false)
theorem kit_tuple (d : PyData) : kitB (dTy d) "tuple" = some (isT d) := by
  cases d
  · exact (by decide +kernel : kitB "NoneType" "tuple" = some false)
  · exact (by decide +kernel : kitB "bool" "tuple" = some false)
  · exact (by decide +kernel : kitB "int" "tuple" = some false)
  · exact (by decide +kernel : kitB "str" "tuple" = some false)
  · exact (by decide +kernel : kitB "list" "tuple" = some false)
  · exact (by decide +kernel : kitB "tuple" "tuple" = some true)
  · exact (by decide +kernel : kitB "dict" "tuple" = some false)
theorem kit_list (d : PyData) : kitB (dTy d) "list" = some (isL d) := by
  cases d
  · exact (by decide +kernel : kitB "NoneType" "list" = some false)
  · exact (by decide +kernel : kitB "bool" "list" = some false)
  · exact (by decide +kernel : kitB "int" "list" = some false)
  · exact (by decide +kernel : kitB "str" "list" = some false)
  · exact (by decide +kernel : kitB "list" "list" = some true)
  · exact (by decide +kernel : kitB "tuple" "list" = some false)
  · exact (by decide +kernel : kitB "dict" "list" = some false)
end DV
namespace K04
open PySem PySem.Spec L2 Evl DV LamX NdefX
open PyProof.Rows hiding St cutD
def topS (i : Nat) : Stmt := PySem.Challenge.pw_causalports_k04_one_site_step_by_step.main.body.getD i (.Pass ⟨0, 0, 0, 0⟩)
abbrev sWhole : Stmt := topS 2
abbrev sChkRules : Stmt := topS 24
abbrev sIsKey : Stmt := topS 25
abbrev sChkKey : Stmt := topS 26
abbrev sIsWorth : Stmt := topS 27
abbrev sPlace : Stmt := topS 28
abbrev sTurn : Stmt := topS 29
abbrev sCame : Stmt := topS 30
abbrev sFollowed : Stmt := topS 31
abbrev sSum : Stmt := topS 32
abbrev sMost : Stmt := topS 33
abbrev sLast : Stmt := topS 34
abbrev sAllH : Stmt := topS 35
abbrev sPlainly : Stmt := topS 37
abbrev sChkMany : Stmt := topS 42
abbrev sNothing : Stmt := topS 43
abbrev sIsTok : Stmt := topS 44
abbrev sIsTokOf : Stmt := topS 45
abbrev sStepped : Stmt := topS 46
abbrev sSite : Stmt := topS 50
abbrev sBegun : Stmt := topS 52
abbrev sTake : Stmt := topS 53
abbrev sAlike : Stmt := topS 54
abbrev sRules : Stmt := topS 55
abbrev sWorth : Stmt := topS 56
abbrev sLaw : Stmt := topS 57
abbrev sAll : Stmt := topS 0
abbrev sBadRules : Stmt := topS 0
abbrev sBadWants : Stmt := topS 0
abbrev sChkPair : Stmt := topS 0
abbrev sChkWants : Stmt := topS 0
abbrev sCompared : Stmt := topS 0
abbrev sJoined : Stmt := topS 0
abbrev sJudged : Stmt := topS 0
abbrev sLExch : Stmt := topS 0
abbrev sLHear : Stmt := topS 0
abbrev sLIsKept : Stmt := topS 0
abbrev sLIsMade : Stmt := topS 0
abbrev sLIsSite : Stmt := topS 0
abbrev sLPut : Stmt := topS 0
abbrev sLPutsOf : Stmt := topS 0
abbrev sLSend : Stmt := topS 0
abbrev sLTurn : Stmt := topS 0
abbrev sLWithin : Stmt := topS 0
abbrev sOrdered : Stmt := topS 0
abbrev sRead : Stmt := topS 0
abbrev sReadLog : Stmt := topS 0
abbrev sSession : Stmt := topS 0
abbrev sTold : Stmt := topS 0
abbrev sWithin : Stmt := topS 0
abbrev sWorld : Stmt := topS 0
abbrev sWritten : Stmt := topS 0
abbrev sWrittenLog : Stmt := topS 0
section
variable {P : Program} {w : World} {K : PySem.W.Frag} {mg : Str → Option Value} {base : Heap}
theorem exU {M : List Addr} {H H' : Hp} {b : Addr} {o : HO} (e : Ex (cut M H) (cut M H')) (m : b ∈ M) : Ex (cut M H) (cut M (upd H' b o)) := by rw [cut_upd_in m]; exact e
theorem at0 {α : Type} {x : α} {xs : List α} : atI (x :: xs) 0 = some x := atI_nat (j := 0) rfl
theorem ix0 {n : Nat} : ixN (n + 1) 0 = some 0 := by
  unfold ixN
  rw [if_pos (by omega), if_pos (by omega)]
  rfl
theorem seq0 {n : Nat} : seqIndex? 0 (n + 1) = some 0 := by
  unfold seqIndex?
  simp
theorem mem_b {b l : Addr} : b ∈ [b, l] := List.mem_cons_self
theorem mem_l {b l : Addr} : l ∈ [b, l] := List.mem_cons_of_mem _ List.mem_cons_self
theorem scTake : FnScope ["_law_box", "_law_many", "_law_number"] ["_law_box", "_law_many"] (defScope sTake) := ⟨rfl, rfl, rfl, by decide +kernel, rfl, by decide +kernel, by decide +kernel⟩
theorem c_take (d : Def K mg "_law_take" sTake ["_law_box", "_law_many"]) : Cal P w K mg base "_law_take" 1 spTake := by
  refine d.calW scTake (fun vs H Q E ⟨_, _, _, _, e, _⟩ => by rw [e]; rfl) ?_
  rintro f cdv A outer sh H vs Q E hr ⟨b, l, ⟨xs, t⟩, n, rfl, hn, hn2, bx, q⟩
  have hb : b ≠ l := bx.ne
  cases xs with
  | nil =>
    have hσ : ∀ {t : Int} {H1 : Hp}, BoxAt b l ([], t) H1 → Slots K H1 (L2.start ["_law_box", "_law_many", "_law_number"] [.ref b, .int n]) [.dat (boxD ([], t)), .dat (.int n), .any] := fun bx => ⟨⟨_, rfl, bx.dv⟩, ⟨_, rfl, .int n⟩, trivial, trivial⟩
    have hρ : ∀ {H1 : Hp}, Slots K H1 (L2.start ["_law_box", "_law_many", "_law_number"] [.ref b, .int n]) [.raw (.ref b), .any, .any] := ⟨rfl, trivial, trivial, trivial⟩
    refine b_if (et0 (k := true) (t_eqD (d1 := .list []) (d2 := .list []) hr.units (e_ixL (v 0) e_int rfl) (e_lst rg0 (ds := []) a_nil (by simp)) rfl rfl) (hσ bx) fun H1 e1 => ?_)
    rw [if_pos rfl]
    have b1 := bx.ex e1
    refine b_put (ev0 (e_mod (by decide) (e_mulR (by decide) (by decide) (e_ixL (v 0) e_int rfl) e_int) e_int) (hσ b1) fun x H2 e2 d2 => ?_)
    rw [sv_int d2]
    refine ev0 (v 0) hρ fun ov H3 e3 d3 => ev0 e_int hρ fun iv H4 e4 d4 => ?_
    have b4 := ((b1.ex e2).ex e3).ex e4
    refine ⟨b, _, 1, 1, d3, sv_int d4, b4.1, rfl, ?_⟩
    have b5 : BoxAt b l ([], t * 48271 % 2147483647) (upd H4 b (.lst ([V.ref l, .int t].set 1 (.int (t * 48271 % 2147483647))))) := ⟨upd_same, by rw [upd_ne hb.symm]; exact b4.2⟩
    refine b_ret (ev0 (e_mod hn (e_fdivW (wide_div (b := 3) (by decide) (by decide) (by decide) (by decide)) (e_ixL (v 0) e_int rfl) e_int) (v 1)) (hσ b5) fun x H5 e5 d5 => ?_)
    rw [sv_int d5]
    have e14 : Ex H H4 := e1.trans (e2.trans (e3.trans e4))
    exact q H5 ((exU (exCut e14) mem_b).trans (exCut e5)) (b5.ex e5)
  | cons x xs =>
    have hσ : ∀ {st : Bx} {H1 : Hp} {o : Option V} {r : Sl}, So K H1 r o → BoxAt b l st H1 → Slots K H1 [some (.ref b), some (.int n), o] [.dat (boxD st), .dat (.int n), r] := fun h bx => ⟨⟨_, rfl, bx.dv⟩, ⟨_, rfl, .int n⟩, h, trivial⟩
    have hρ : ∀ {H1 : Hp} {o : Option V}, Slots K H1 [some (.ref b), some (.int n), o] [.raw (.ref b), .any, .any] := ⟨rfl, trivial, trivial, trivial⟩
    refine b_if (et0 (k := false) (t_eqD (d1 := .list (.int x :: dI xs)) (d2 := .list []) hr.units (e_ixL (v 0) e_int rfl) (e_lst rg0 (ds := []) a_nil (by simp)) (shaped_lI (x :: xs)) rfl) (hσ (r := .any) trivial bx) fun H1 e1 => ?_)
    rw [if_neg Bool.false_ne_true]
    have b1 := bx.ex e1
    refine b_nil (b_set 2 (ev0 (e_ixL (e_ixL (ds := [.list (.int x :: dI xs), .int t]) (v 0) e_int rfl) e_int at0) (hσ (r := .any) (st := (x :: xs, t)) trivial b1) fun y H2 e2 d2 => ?_) scTake.nd rfl (Or.inl rfl))
    rw [sv_int d2]
    have b2 := b1.ex e2
    have sx : ∀ {H : Hp}, So K H (.dat (.int x)) (some (.int x)) := ⟨_, rfl, .int x⟩
    refine b_put (ev0 (e_fdivW ⟨hn, hn2⟩ (v 2) (v 1)) (hσ sx b2) fun y H3 e3 d3 => ?_)
    rw [sv_int d3]
    refine wE_of (pe_ix ix_list pe_w pe_w fun _ _ => rfl) (ev0 (v 0) hρ fun ov H4 e4 d4 => ev0 e_int hρ fun iv H5 e5 d5 => ?_)
    have b5 := (b2.ex e3).ex (e4.trans e5)
    refine ⟨b, _, 0, .ref l, d4, sv_int d5, sq_of b5.1, rfl, ?_⟩
    refine ev0 e_int hρ fun iv H6 e6 d6 => ?_
    have b6 := b5.ex e6
    refine ⟨l, _, 0, 0, rfl, sv_int d6, b6.2, ix0, ?_⟩
    have e16 : Ex H H6 := e1.trans (e2.trans (e3.trans (e4.trans (e5.trans e6))))
    have b7 : BoxAt b l (x / n :: xs, t) (upd H6 l (.lst (((x :: xs).map V.int).set 0 (.int (x / n))))) := ⟨by rw [upd_ne hb]; exact b6.1, upd_same⟩
    have x7 : Ex (cut [b, l] H) (cut [b, l] (upd H6 l (.lst (((x :: xs).map V.int).set 0 (.int (x / n)))))) := exU (exCut e16) mem_l
    refine b_if (et0 (t_w (w_or (t_eqD (d1 := .int (x / n)) (d2 := .int 0) hr.units (e_ixL (e_ixL (ds := [.list (.int (x / n) :: dI xs), .int t]) (v 0) e_int rfl) e_int at0) e_int rfl rfl)
      fun _ => w_or1 (t_eqD (d1 := .int (x / n)) (d2 := .int (-1)) hr.units (e_ixL (e_ixL (ds := [.list (.int (x / n) :: dI xs), .int t]) (v 0) e_int rfl) e_int at0) (e_neg e_int) rfl rfl))) (hσ (st := (x / n :: xs, t)) sx b7) fun H8 e8 => ?_)
    have b8 := b7.ex e8
    have x8 := x7.trans (exCut e8)
    have fin : ∀ {H9 : Hp}, Ex (cut [b, l] H) (cut [b, l] H9) → BoxAt b l (takeS (x :: xs, t) n) H9 → wB (dx P w K mg base ["_law_box", "_law_many", "_law_number"] "_law_take" sTake f cdv A outer sh H E) [defBody sTake |>.getD 4 (.Pass ⟨0, 0, 0, 0⟩)] { nx := fun _ H' => Q .non H', rt := Q } [some (.ref b), some (.int n), some (.int x)] H9 := fun {H9} x9 b9 =>
      b_ret (ev0 (ρ := [.any, .dat (.int n), .dat (.int x)]) (e_mod hn (v 2) (v 1)) ⟨trivial, ⟨_, rfl, .int n⟩, sx, trivial⟩ fun y H10 e10 d10 => by
        rw [sv_int d10]
        exact q H10 (x9.trans (exCut e10)) (b9.ex e10))
    by_cases hq : x / n = 0 ∨ x / n = -1
    · have hk : (PyData.eqv (.int (x / n)) (.int 0) || PyData.eqv (.int (x / n)) (.int (-1))) = true := by
        show ((x / n == 0) || (x / n == -1)) = true
        simpa using hq
      rw [if_pos hk]
      have es : takeS (x :: xs, t) n = (xs, t) := if_pos hq
      refine b_expr (wE_of (pe_bm PySem.F.plainAttrs_list PySem.F.slot_list_pop PySem.F.type_list_pop (mt_popAt : MtM _ _ _) (pe_ix ix_list pe_w pe_w fun _ _ => rfl) pa_w) (ev0 (v 0) hρ fun ov H9 e9 d9 => ev0 e_int hρ fun iv H10 e10 d10 => ?_))
      have b10 := b8.ex (e9.trans e10)
      refine ⟨b, _, 0, .ref l, d9, sv_int d10, sq_of b10.1, rfl, .inl ⟨rfl, _, sq_of b10.2⟩, ?_⟩
      refine wA_of (pa_cons pe_w pa_nil) (ev0 e_int hρ fun iv H11 e11 d11 => ?_)
      rw [sv_int d11]
      have b11 := b10.ex e11
      refine ⟨l, _, 0, 0, .int (x / n), rfl, rfl, b11.2, by decide, by decide, seq0, rfl, ?_⟩
      · refine b_nil (fin (exU (x8.trans (exCut (e9.trans (e10.trans e11)))) mem_l) ?_)
        rw [es]
        exact ⟨by rw [upd_ne hb]; exact b11.1, upd_same⟩
    · have hk : (PyData.eqv (.int (x / n)) (.int 0) || PyData.eqv (.int (x / n)) (.int (-1))) = false := by
        show ((x / n == 0) || (x / n == -1)) = false
        simpa using hq
      rw [hk, if_neg Bool.false_ne_true]
      have es : takeS (x :: xs, t) n = (x / n :: xs, t) := if_neg hq
      exact b_nil (fin x8 (by rw [es]; exact b8))
end
section
variable {P : Program} {w : World} {K : PySem.W.Frag} {mg : Str → Option Value} {base : Heap}
/-! is_whole -/
def wholeD (d : PyData) (lo hi : Int) : Bool := match d with
  | .int i => decide (lo ≤ i) && decide (i ≤ hi)
  | _ => false
def gWhole (rs : List Sl) (o : Out) : Prop := ∃ d lo hi, rs = [.dat d, .dat (.int lo), .dat (.int hi)] ∧ o = .ok (.dat (.bool (wholeD d lo hi)))
theorem scWhole : FnScope ["thing", "least", "most"] ["thing", "least", "most"] (defScope sWhole) := ⟨rfl, rfl, rfl, by decide +kernel, rfl, by decide +kernel, by decide +kernel⟩
theorem c_whole (B : Bl mg) (d : Def K mg "is_whole" sWhole ["thing", "least", "most"]) : Cal P w K mg base "is_whole" 1 (spS K gWhole) := by
  refine d.cal scWhole (fun rs o ⟨d, lo, hi, e, _⟩ => by rw [e]; rfl) ?_
  rintro rs o ⟨d, lo, hi, rfl, rfl⟩ f cdv A outer sh H E M R D hr g qr qn qe
  refine st_if (k := isB d || !isI d) (t_w (w_or (t_val (isi boot_bool B.isi B.bool (kit_bool d) (v 0))) fun _ => w_or1 (t_not (t_val (isi boot_int B.isi B.int (kit_int d) (v 0)))))) (fun h => ?_) (fun h => ?_)
  · refine st_ret e_bl fun v H' R' sv => qr _ v H' rfl R' ?_
    have e : wholeD d lo hi = false := by
      cases d <;> first | rfl | simp [isB, isI] at h
    rw [e]
    exact sv
  · refine st_thru ?_
    cases d with
    | int i =>
      refine st_ret (e_chain op_le op_le (v 1) (v 0) (v 2)) fun v H' R' sv => qr _ v H' rfl R' sv
    | _ => simp [isB, isI] at h
/-! _law_begun -/
def stir (ns : List Int) : Int := ns.foldl (fun t z => (t * 48271 + z * 69621 + 11) % 2147483647) 0
def begunS (ns : List Int) : Bx := (ns, stir ns * (if decide (2 < (ns.length : Int)) = true then 1 else 0))
def spBegun (K : PySem.W.Frag) : Sp := fun vs H Q _ => ∃ (a : Addr) (ns : List Int), vs = [.ref a] ∧ SqL K H a (ns.map V.int) ∧ ns.length ≤ 63 ∧ (∀ z ∈ ns, Builtin.Int.intBits z ≤ 1048576) ∧
  ∀ H' b l, Ex H H' → H b = none → H l = none → BoxAt b l (begunS ns) H' → Q (.ref b) H'
theorem stir_take {ns : List Int} {i : Nat} {z : Int} (h : ns[i]? = some z) : stir (ns.take (i + 1)) = (stir (ns.take i) * 48271 + z * 69621 + 11) % 2147483647 := by
  unfold stir
  rw [take_succ' h, List.foldl_append]
  rfl
theorem stir_range (ns : List Int) : 0 ≤ stir ns ∧ stir ns < 2147483647 := by
  have key : ∀ (ns : List Int) (t : Int), 0 ≤ t → t < 2147483647 → 0 ≤ ns.foldl (fun t z => (t * 48271 + z * 69621 + 11) % 2147483647) t ∧ ns.foldl (fun t z => (t * 48271 + z * 69621 + 11) % 2147483647) t < 2147483647 := by
    intro ns
    induction ns with
    | nil => exact fun t a b => ⟨a, b⟩
    | cons z ns ih => exact fun t _ _ => ih _ (Int.emod_nonneg _ (by decide)) (Int.emod_lt_of_pos _ (by decide))
  exact key ns 0 (by decide) (by decide)
theorem scBegun : FnScope ["_law_script", "_law_stirred", "_law_cell"] ["_law_script"] (defScope sBegun) := ⟨rfl, rfl, rfl, by decide +kernel, rfl, by decide +kernel, by decide +kernel⟩
theorem c_begun (B : Bl mg) (d : Def K mg "_law_begun" sBegun ["_law_script"]) : Cal P w K mg base "_law_begun" 1 (spBegun K) := by
  refine d.calW scBegun (fun vs H Q E ⟨_, _, e, _⟩ => by rw [e]; rfl) ?_
  rintro f cdv A outer sh H vs Q E hr ⟨a, ns, rfl, hS, hl, hbits, q⟩
  have hS' : ∀ H', Ex H H' → SqL K H' a (ns.map V.int) := fun H' e => ex_l e hS
  have main : St1 (dx P w K mg base ["_law_script", "_law_stirred", "_law_cell"] "_law_begun" sBegun f cdv A outer sh H E) [] (fun (_ : Unit) H' => Ex H H') [.raw (.ref a), .any, .any] (defBody sBegun) () { nx := fun _ H' => Q .non H', rt := Q } := by
    refine st_set 1 scBegun.nd rfl (Or.inl rfl) e_int ?_
    refine st_for rg0 (fun i ρ' _ => ∃ r, ρ' = [.raw (.ref a), .dat (.int (stir (ns.take i))), r]) (passes_of rfl) rfl (pg_name (i := 2) scBegun.nd rfl (Or.inl rfl)) (i_raw (ns := ns) (fun H' e => hS' H' e) (v 0) fun H1 H2 e1 e2 => hS' H2 (e1.trans (by rw [cut_nil, cut_nil] at e2; exact e2))) ⟨_, rfl⟩
      (fun i ρi si H1 hi hJ g1 => ?_) (fun ρ' s' hJ => ?_)
    · obtain ⟨r, rfl⟩ := hJ
      have hd : ns[i]? = some ns[i] := List.getElem?_eq_getElem hi
      have hd2 : (dI ns)[i]? = some (.int ns[i]) := by rw [List.getElem?_map, hd]; rfl
      refine ⟨_, tg0_name, fun N hN => ?_⟩
      rw [itD_lt hd2]
      have hb := hbits ns[i] (List.getElem_mem hi)
      have h69 : Builtin.Int.intBits 69621 ≤ 64 := by decide +kernel
      refine st_set 1 scBegun.nd rfl (Or.inl rfl) (e_mod (by decide) (e_add (e_add (e_mulR (by decide) (by decide) (v 1) e_int) (e_mulX (i := ns[i]) (j := 69621) (by show (_ : Int) + _ ≤ _; omega) (v 2) e_int)) e_int) e_int) ?_
      refine st_nil fun σ H2 hσ hR => hN σ H2 _ _ ⟨.dat (.int ns[i]), ?_⟩ hσ hR
      rw [stir_take hd]
      rfl
    · obtain ⟨r, rfl⟩ := hJ
      rw [List.take_length]
      intro σ H1 hσ e1
      rw [cut_nil] at hσ
      refine b_ret (wE_of (pe_lst (pa_cons pe_w (pa_cons pe_w pa_nil))) ?_)
      refine wE_of (pe_callTy call_list_of (by rfl) B.list boot_list pa_w) ?_
      refine wA_of (pa_cons pe_w pa_nil) (ev0 (v 0) hσ fun v1 H2 e2 d2 => ?_)
      have d2 : v1 = .ref a := d2
      subst d2
      refine ⟨a, _, rfl, .inl (hS' H2 (e1.trans e2)), fun l nl => ?_⟩
      have e2' : Ex H2 (upd H2 l (.lst (ns.map V.int))) := Ex.new nl
      refine ev0 (r := .dat (.int (begunS ns).2)) (H := upd H2 l (.lst (ns.map V.int))) (ρ := [.raw (.ref a), .dat (.int (stir ns)), r]) ?_ (hσ.ex (e2.trans e2')) fun v2 H3 e3 d3 => ?_
      · have hx : ∀ H', Ex (upd H2 l (.lst (ns.map V.int))) H' → SqL K H' a (ns.map V.int) := fun H' e => hS' H' (e1.trans (e2.trans (e2'.trans e)))
        have h1 := stir_range ns
        refine e_mulL (by omega) (by omega) (v 1) (e_intB (by rfl) B.int (a1 (e_gtI (e_lenR (ns := ns) (fun H' e => hx H' e) (by rfl) B.len (a1 (v 0))) e_int)))
      · rw [sv_int d3]
        refine ⟨by show 2 ≤ sizeLine; decide, fun b nb => ?_⟩
        have hbl : l ≠ b := ne_of_none (e3 _ _ (upd_same)) nb
        refine q _ b l ?_ ?_ ?_ ⟨upd_same, ?_⟩
        · exact e1.trans (e2.trans (e2'.trans (e3.trans (Ex.new nb))))
        · exact fresh_back (e1.trans (e2.trans (e2'.trans e3))) nb
        · exact fresh_back (e1.trans e2) nl
        · rw [upd_ne hbl]
          exact e3 _ _ upd_same
  exact main _ H (slots0 ⟨rfl, trivial, trivial, trivial⟩) (exId _)
/-! _law_alike, of two that are alike -/
def gAlike (n : Nat) (rs : List Sl) (o : Out) : Prop := ∃ d : PyData, rs = [.dat d, .dat d] ∧ okD d = true ∧ d.depth ≤ n ∧ o = .ok (.dat (.bool true))
theorem scAlike : FnScope ["_law_found", "_law_due", "_law_k"] ["_law_found", "_law_due"] (defScope sAlike) := ⟨rfl, rfl, rfl, by decide +kernel, rfl, by decide +kernel, by decide +kernel⟩
theorem b_alike (B : Bl mg) (d : Def K mg "_law_alike" sAlike ["_law_found", "_law_due"]) (n : Nat) (ih : n ≠ 0 → Cal P w K mg base "_law_alike" n (spS K (gAlike (n - 1)))) : Cal P w K mg base "_law_alike" (n + 1) (spS K (gAlike n)) := by
  refine d.cal scAlike (fun rs o ⟨_, e, _⟩ => by rw [e]; rfl) ?_
  rintro rs o ⟨d, rfl, hok, hdp, rfl⟩ f cdv A outer sh H E M R D hr g qr qn qe
  have qt : ∀ {b : Bool}, b = true → ∀ v H', R () H' → Sv K (cut M H') (.dat (.bool b)) v → D.rt v H' := fun hb v H' R' sv => qr _ v H' rfl R' (by rw [← hb]; exact sv)
  refine st_if (t_isN (v 1)) (fun h => st_ret (e_isN (v 0)) (qt h)) (fun h1 => st_thru ?_)
  refine st_if (t_val (isi boot_bool B.isi B.bool (kit_bool d) (v 1))) (fun h => ?_) (fun h2 => st_thru ?_)
  · cases d with
    | bool b => exact st_ret (e_and (isi boot_bool B.isi B.bool (kit_bool (.bool b)) (v 0)) fun _ => e_one (e_eqD hr.units (v 0) (v 1) rfl rfl)) (qt (by cases b <;> rfl))
    | _ => cases h
  refine st_if (t_val (isi boot_int B.isi B.int (kit_int d) (v 1))) (fun h => ?_) (fun h3 => st_thru ?_)
  · cases d with
    | int i => exact st_ret (e_and (isi boot_int B.isi B.int (kit_int (.int i)) (v 0)) fun _ => e_and (e_not (isi boot_bool B.isi B.bool (kit_bool (.int i)) (v 0))) fun _ => e_one (e_eqD hr.units (v 0) (v 1) rfl rfl)) (qt (by show (true && (true && (i == i))) = true; simp))
    | bool b => cases h2
    | _ => cases h
  refine st_if (t_val (isi boot_str B.isi B.str (kit_str d) (v 1))) (fun h => ?_) (fun h4 => st_thru ?_)
  · cases d with
    | str x =>
      have hx : SeqAt.shaped (.str x) = true := by
        show (PyData.canLay0 (.str x) && decide (0 ≤ 64)) = true
        rw [show PyData.canLay0 (.str x) = true from hok]
        rfl
      exact st_ret (e_and (isi boot_str B.isi B.str (kit_str (.str x)) (v 0)) fun _ => e_one (e_eqD hr.units (v 0) (v 1) hx hx)) (qt (by show (true && (x == x)) = true; simp))
    | _ => cases h
  have e2 : ∀ b : Bool, (!PyData.eqv (.bool b) (.bool b)) = false := fun b => by cases b <;> rfl
  refine st_if (t_w (w_or (t_neD hr.units (isi boot_tuple B.isi B.tuple (kit_tuple d) (v 1)) (isi boot_tuple B.isi B.tuple (kit_tuple d) (v 0)) rfl rfl)
    fun _ => w_or1 (t_neD hr.units (isi boot_list B.isi B.list (kit_list d) (v 1)) (isi boot_list B.isi B.list (kit_list d) (v 0)) rfl rfl))) (fun h => ?_) (fun h5 => st_thru ?_)
  · rw [e2, e2] at h
    cases h
  have e3 : ∀ i : Int, (!PyData.eqv (.int i) (.int i)) = false := fun i => by
    show (!(i == i)) = false
    simp
  cases d with
  | tuple ds =>
    have hk := Bool.and_eq_true_iff.mp (show (decide (ds.length ≤ 1000) && okAll ds) = true from hok)
    have hz : ds.length ≤ 1000 := of_decide_eq_true hk.1
    have hd : PyData.depthAll ds + 1 ≤ n := hdp
    refine st_if (t_neD hr.units (e_lenT (by rfl) B.len (a1 (v 0))) (e_lenT (by rfl) B.len (a1 (v 1))) rfl rfl) (fun h => ?_) (fun h6 => st_thru ?_)
    · rw [e3] at h
      cases h
    refine st_for g (fun i ρ' _ => ∃ r, ρ' = [.dat (.tuple ds), .dat (.tuple ds), r]) (passes_of rfl) rfl (pg_name (i := 2) scAlike.nd rfl (Or.inl rfl)) (i_rngN (n := ds.length) (by rfl) B.range (by omega) (a1 (e_lenT (by rfl) B.len (a1 (v 1))))) ⟨_, rfl⟩ (fun i ρi si H1 hi hJ g1 => ?_) (fun ρ' s' hJ => ?_)
    · obtain ⟨r, rfl⟩ := hJ
      have hg : ds[i]? = some ds[i] := List.getElem?_eq_getElem hi
      refine ⟨_, tg0_name, fun N hN => ?_⟩
      refine st_if (t_not (t_val (e_call g1 (ih (by omega)) hr (Nat.le_refl _) (by rfl) (r := .dat (.bool true)) ⟨ds[i], rfl, okAll_get hk.2 hg, Nat.le_trans (depth_get hg) (by omega), rfl⟩ (a_cons (e_ixT (v 0) (v 2) (atI_nat hg)) (a_cons (e_ixT (v 1) (v 2) (atI_nat hg)) a_nil))))) (fun h => by cases h) (fun _ => st_thru ?_)
      exact st_nil fun σ H2 hσ hR => hN σ H2 _ _ ⟨_, rfl⟩ hσ hR
    · obtain ⟨r, rfl⟩ := hJ
      exact st_ret e_bl (qt rfl)
  | list ds =>
    have hk := Bool.and_eq_true_iff.mp (show (decide (ds.length ≤ 1000) && okAll ds) = true from hok)
    have hz : ds.length ≤ 1000 := of_decide_eq_true hk.1
    have hd : PyData.depthAll ds + 1 ≤ n := hdp
    refine st_if (t_neD hr.units (e_lenL (by rfl) B.len (a1 (v 0))) (e_lenL (by rfl) B.len (a1 (v 1))) rfl rfl) (fun h => ?_) (fun h6 => st_thru ?_)
    · rw [e3] at h
      cases h
    refine st_for g (fun i ρ' _ => ∃ r, ρ' = [.dat (.list ds), .dat (.list ds), r]) (passes_of rfl) rfl (pg_name (i := 2) scAlike.nd rfl (Or.inl rfl)) (i_rngN (n := ds.length) (by rfl) B.range (by omega) (a1 (e_lenL (by rfl) B.len (a1 (v 1))))) ⟨_, rfl⟩ (fun i ρi si H1 hi hJ g1 => ?_) (fun ρ' s' hJ => ?_)
    · obtain ⟨r, rfl⟩ := hJ
      have hg : ds[i]? = some ds[i] := List.getElem?_eq_getElem hi
      refine ⟨_, tg0_name, fun N hN => ?_⟩
      refine st_if (t_not (t_val (e_call g1 (ih (by omega)) hr (Nat.le_refl _) (by rfl) (r := .dat (.bool true)) ⟨ds[i], rfl, okAll_get hk.2 hg, Nat.le_trans (depth_get hg) (by omega), rfl⟩ (a_cons (e_ixL (v 0) (v 2) (atI_nat hg)) (a_cons (e_ixL (v 1) (v 2) (atI_nat hg)) a_nil))))) (fun h => by cases h) (fun _ => st_thru ?_)
      exact st_nil fun σ H2 hσ hR => hN σ H2 _ _ ⟨_, rfl⟩ hσ hR
    · obtain ⟨r, rfl⟩ := hJ
      exact st_ret e_bl (qt rfl)
  | none => cases h1
  | bool b => cases h2
  | int i => cases h3
  | str x => cases h4
  | dict kvs => cases hok
theorem c_alike (B : Bl mg) (d : Def K mg "_law_alike" sAlike ["_law_found", "_law_due"]) : ∀ n : Nat, Cal P w K mg base "_law_alike" (n + 1) (spS K (gAlike n))
  | 0 => b_alike B d 0 fun h => absurd rfl h
  | n + 1 => b_alike B d (n + 1) fun _ => c_alike B d n
end
end K04
namespace K04
open PySem PySem.Spec L2 Evl DV LamX NdefX
open PyProof.Rows hiding St cutD
/-! ### puts -/
structure Pt where
  site : Nat
  num : Int
  past : List Int
  turn : Int
  key : Int
  worth : Int
deriving DecidableEq
def ptL (p : Pt) : List PyData := [.int p.site, .int p.num, .tuple (dI p.past), .int p.turn, .int p.key, .int p.worth]
def ptD (p : Pt) : PyData := .tuple (ptL p)
abbrev dP (ps : List Pt) : List PyData := ps.map ptD
theorem mem_dP {ps : List Pt} {d : PyData} (h : d ∈ dP ps) : ∃ p, d = ptD p ∧ p ∈ ps := by
  obtain ⟨p, hp, rfl⟩ := List.mem_map.mp h
  exact ⟨p, rfl, hp⟩
theorem shaped_pt (p : Pt) : SeqAt.shaped (ptD p) = true := by
  show ((true && (true && (PyData.canLayAll0 (dI p.past) && (true && (true && (true && true)))))) && decide (max 0 (max 0 (max (PyData.depthAll (dI p.past) + 1) (max 0 (max 0 (max 0 0))))) + 1 ≤ 64)) = true
  rw [lay_ints, depth_ints]
  rfl
theorem eqv_pt (p q : Pt) : PyData.eqv (ptD p) (ptD q) = decide (p = q) := by
  show (((p.site : Int) == (q.site : Int)) && ((p.num == q.num) && (PyData.eqvAll (dI p.past) (dI q.past) && ((p.turn == q.turn) && ((p.key == q.key) && ((p.worth == q.worth) && true)))))) = _
  rw [eqv_all_ints, Bool.eq_iff_iff]
  cases p
  cases q
  simp [Int.ofNat_inj]
/-- the module's numbers -/
structure Gk (mg : Str → Option Value) : Prop where
  site : ∃ t, mg "SITE" = some (.int 0 t)
  number : ∃ t, mg "NUMBER" = some (.int 1 t)
  past : ∃ t, mg "PAST" = some (.int 2 t)
  turn : ∃ t, mg "TURN" = some (.int 3 t)
  key : ∃ t, mg "KEY" = some (.int 4 t)
  worth : ∃ t, mg "WORTH" = some (.int 5 t)
  most : ∃ t, mg "MOST_KEYS" = some (.int 6 t)
  sum : mg "sum" = none
  sorted : mg "sorted" = none
section
variable {P : Program} {w : World} {K : PySem.W.Frag} {mg : Str → Option Value} {base : Heap}
/-! place_of -/
def gPlace (rs : List Sl) (o : Out) : Prop := ∃ p : Pt, rs = [.dat (ptD p)] ∧ o = .ok (.dat (.tuple [.int p.site, .int p.num]))
theorem scPlace : FnScope ["put"] ["put"] (defScope sPlace) := ⟨rfl, rfl, rfl, by decide +kernel, rfl, by decide +kernel, by decide +kernel⟩
theorem c_place (B : Bl mg) (k : Gk mg) (d : Def K mg "place_of" sPlace ["put"]) : Cal P w K mg base "place_of" 1 (DV.spS K gPlace) := by
  refine d.cal scPlace (fun rs o ⟨_, e, _⟩ => by rw [e]; rfl) ?_
  rintro rs o ⟨p, rfl, rfl⟩ f cdv A outer sh H E M R D hr g qr qn qe
  exact st_ret (e_tup g (ds := [.int p.site, .int p.num]) (a_cons (e_ixT (ds := ptL p) (v 0) (gi k.site) rfl) (a_cons (e_ixT (ds := ptL p) (v 0) (gi k.number) rfl) a_nil)) (by simp)) fun v H' R' sv => qr _ v H' rfl R' sv
theorem key_place (k : Gk mg) : KeyTxt mg sPlace "put" 0 1 := ⟨"SITE", "NUMBER", _, _, _, _, _, _, _, _, _, rfl, rfl, rfl, rfl, by decide, by decide, by decide, k.site, k.number⟩
theorem key_turn (k : Gk mg) : KeyTxt mg sTurn "put" 3 0 := ⟨"TURN", "SITE", _, _, _, _, _, _, _, _, _, rfl, rfl, rfl, rfl, by decide, by decide, by decide, k.turn, k.site⟩
/-! came_behind -/
def cameB (p q : Pt) : Bool := decide (q.num ≤ p.past.getD q.site 0)
def gCame (rs : List Sl) (o : Out) : Prop := ∃ p q : Pt, rs = [.dat (ptD p), .dat (ptD q)] ∧ q.site < p.past.length ∧ o = .ok (.dat (.bool (cameB p q)))
abbrev nCame : List Str := ["later", "earlier", "site", "number"]
theorem scCame : FnScope nCame ["later", "earlier"] (defScope sCame) := ⟨rfl, rfl, rfl, by decide +kernel, rfl, by decide +kernel, by decide +kernel⟩
theorem getD_ofI {xs : List Int} {j : Nat} (h : j < xs.length) : xs[j]? = some (xs.getD j 0) := by
  rw [List.getD_eq_getElem?_getD, List.getElem?_eq_getElem h]
  rfl
theorem ix_dI {xs : List Int} {j : Nat} (h : j < xs.length) : atI (dI xs) (j : Int) = some (.int (xs.getD j 0)) := atI_nat (by rw [List.getElem?_map, getD_ofI h]; rfl)
theorem c_came (B : Bl mg) (k : Gk mg) (cP : Cal P w K mg base "place_of" 1 (DV.spS K gPlace)) (d : Def K mg "came_behind" sCame ["later", "earlier"]) : Cal P w K mg base "came_behind" 2 (DV.spS K gCame) := by
  refine d.cal scCame (fun rs o ⟨_, _, e, _⟩ => by rw [e]; rfl) ?_
  rintro rs o ⟨p, q, rfl, hs, rfl⟩ f cdv A outer sh H E M R D hr g qr qn qe
  refine st_unp (i := 2) (j := 3) (d1 := .int q.site) (d2 := .int q.num) (s1 := ()) (pg_tup rfl (pgs_cons (pg_name (i := 2) scCame.nd rfl (Or.inl rfl)) (pgs_cons (pg_name (i := 3) scCame.nd rfl (Or.inl rfl)) pgs_nil))) (e_call g cP hr (Nat.le_refl _) (by rfl) ⟨q, rfl, rfl⟩ (a_cons (v 1) a_nil)) ?_
  exact st_ret (e_geI (e_ixT (e_ixT (ds := ptL p) (v 0) (gi k.past) rfl) (v 2) (ix_dI hs)) (v 3)) fun v H' R' sv => qr _ v H' rfl R' sv
/-! is_followed -/
def folB (p : Pt) (ps : List Pt) : Bool := ps.any fun q => (!decide (q = p)) && cameB q p
def gFol (rs : List Sl) (o : Out) : Prop := ∃ (p : Pt) (ps : List Pt), rs = [.dat (ptD p), .dat (.list (dP ps))] ∧ (∀ q ∈ ps, p.site < q.past.length) ∧ o = .ok (.dat (.bool (folB p ps)))
abbrev nFol : List Str := ["put", "puts", "other"]
theorem scFol : FnScope nFol ["put", "puts"] (defScope sFollowed) := ⟨rfl, rfl, rfl, by decide +kernel, rfl, by decide +kernel, by decide +kernel⟩
theorem any_take {α : Type} (f : α → Bool) : ∀ {l : List α}, (∀ (j : Nat) (x : α), l[j]? = some x → f x = false) → l.any f = false := fun {l} h => by
  rw [List.any_eq_false]
  intro x hx
  obtain ⟨j, hj⟩ := List.mem_iff_getElem?.mp hx
  rw [h j x hj]
  exact Bool.false_ne_true
theorem c_fol (B : Bl mg) (cC : Cal P w K mg base "came_behind" 2 (DV.spS K gCame)) (d : Def K mg "is_followed" sFollowed ["put", "puts"]) : Cal P w K mg base "is_followed" 3 (DV.spS K gFol) := by
  refine d.cal scFol (fun rs o ⟨_, _, e, _⟩ => by rw [e]; rfl) ?_
  rintro rs o ⟨p, ps, rfl, hs, rfl⟩ f cdv A outer sh H E M R D hr g qr qn qe
  refine st_for g (fun i ρ' _ => (∀ (j : Nat) (q : Pt), j < i → ps[j]? = some q → ((!decide (q = p)) && cameB q p) = false) ∧ ∃ r, ρ' = [.dat (ptD p), .dat (.list (dP ps)), r]) (passes_of rfl) rfl (pg_name (i := 2) scFol.nd rfl (Or.inl rfl)) (i_list (v 1)) ⟨fun j d hj => absurd hj (Nat.not_lt_zero _), _, rfl⟩ (fun i ρi si H1 hi hJ g1 => ?_) (fun ρ' s' hJ => ?_)
  · obtain ⟨hJ, r, rfl⟩ := hJ
    have hi' : i < ps.length := by rw [List.length_map] at hi; exact hi
    have hq : ps[i]? = some ps[i] := List.getElem?_eq_getElem hi'
    have hd : (dP ps)[i]? = some (ptD ps[i]) := by rw [List.getElem?_map, hq]; rfl
    refine ⟨_, tg0_name, fun N hN => ?_⟩
    rw [itD_lt hd]
    refine st_if (k := (!PyData.eqv (ptD ps[i]) (ptD p)) && cameB ps[i] p) (s1 := si) (t_w (w_and (t_neD hr.units (v 2) (v 0) (shaped_pt _) (shaped_pt _)) fun _ => w_and1 (t_val (e_call g1 cC hr (Nat.le_refl _) (by rfl) ⟨ps[i], p, rfl, hs _ (List.getElem_mem hi'), rfl⟩ (a_cons (v 2) (a_cons (v 0) a_nil)))))) (fun h => ?_) (fun h => ?_)
    · rw [eqv_pt] at h
      refine st_ret e_bl fun v H' R' sv => qr _ v H' rfl R'.1 ?_
      have e : folB p ps = true := List.any_eq_true.mpr ⟨ps[i], List.getElem_mem hi', h⟩
      rw [e]
      exact sv
    · rw [eqv_pt] at h
      refine st_thru (st_nil fun σ H hσ hR => hN σ H _ _ ⟨fun j q hj hjq => ?_, _, rfl⟩ hσ hR)
      by_cases hji : j < i
      · exact hJ j q hji hjq
      · have : j = i := by omega
        subst this
        rw [hq] at hjq
        cases hjq
        exact h
  · obtain ⟨hJ, r, rfl⟩ := hJ
    refine st_ret e_bl fun v H' R' sv => qr _ v H' rfl R' ?_
    have e : folB p ps = false := any_take _ fun j q hq => hJ j q (by
      have : j < ps.length := by
        by_cases z : j < ps.length
        · exact z
        · rw [List.getElem?_eq_none (by omega)] at hq; cases hq
      rw [List.length_map]
      exact this) hq
    rw [e]
    exact sv
end
end K04
namespace K04
open PySem PySem.Spec L2 Evl DV LamX NdefX
open PyProof.Rows hiding St cutD
section
variable {P : Program} {w : World} {K : PySem.W.Frag} {mg : Str → Option Value} {base : Heap}
/-! what a key holds -/
def wthD : PyData → PyData
  | .tuple xs => xs.getD 5 .none
  | _ => .none
theorem wth_map (ps : List Pt) : (dP ps).map wthD = dI (ps.map (·.worth)) := by
  show List.map wthD (List.map ptD ps) = List.map PyData.int (List.map _ ps)
  rw [List.map_map, List.map_map]
  rfl
def gSum (rs : List Sl) (o : Out) : Prop := ∃ ps : List Pt, rs = [.dat (.list (dP ps))] ∧ ps.length ≤ 100000 ∧ o = .ok (.dat (.int (ps.map (·.worth)).sum))
theorem scSum : FnScope ["puts", "put"] ["puts"] (defScope sSum) := ⟨rfl, rfl, rfl, by decide +kernel, rfl, by decide +kernel, by decide +kernel⟩
theorem c_sum (k : Gk mg) (d : Def K mg "held_by_sum" sSum ["puts"]) : Cal P w K mg base "held_by_sum" 1 (DV.spS K gSum) := by
  refine d.cal scSum (fun rs o ⟨_, e, _⟩ => by rw [e]; rfl) ?_
  rintro rs o ⟨ps, rfl, hz, rfl⟩ f cdv A outer sh H E M R D hr g qr qn qe
  refine st_ret (e_sum rfl (by rfl) k.sum (a1 ?_)) fun v H' R' sv => qr _ v H' rfl R' sv
  rw [← dI, ← wth_map]
  refine lc_map (own := [("put", 1)]) g (i := 1) wthD (i_list (v 0)) (by rw [List.length_map]; exact hz) (fun d hd sh Hh C cl fp D acc gD => ?_) rfl scSum.nd (blkOk_by (N := ["puts", "put"]) (sc := defScope sSum) (by decide +kernel)) (fun sh Hh C cl fp => pg_name (i := 1) scSum.nd rfl (Or.inl rfl)) (by simp)
  obtain ⟨p, rfl, _⟩ := mem_dP hd
  exact e_ixT (ds := ptL p) (v 1) (gi k.worth) rfl
def gMost (rs : List Sl) (o : Out) : Prop := ∃ ps : List Pt, rs = [.dat (.list (dP ps))] ∧ ps.length ≤ 100000 ∧ o = .ok (.dat (maxN (ps.map (·.worth))))
theorem scMost : FnScope ["puts", "put"] ["puts"] (defScope sMost) := ⟨rfl, rfl, rfl, by decide +kernel, rfl, by decide +kernel, by decide +kernel⟩
theorem c_most (B : Bl mg) (k : Gk mg) (d : Def K mg "held_by_most" sMost ["puts"]) : Cal P w K mg base "held_by_most" 1 (DV.spS K gMost) := by
  refine d.cal scMost (fun rs o ⟨_, e, _⟩ => by rw [e]; rfl) ?_
  rintro rs o ⟨ps, rfl, hz, rfl⟩ f cdv A outer sh H E M R D hr g qr qn qe
  refine st_ret (e_maxN rfl hr.units (by rfl) B.max (a1 ?_) e_non) fun v H' R' sv => qr _ v H' rfl R' sv
  rw [← wth_map]
  refine lc_map (own := [("put", 1)]) g (i := 1) wthD (i_list (v 0)) (by rw [List.length_map]; exact hz) (fun d hd sh Hh C cl fp D acc gD => ?_) rfl scMost.nd (blkOk_by (N := ["puts", "put"]) (sc := defScope sMost) (by decide +kernel)) (fun sh Hh C cl fp => pg_name (i := 1) scMost.nd rfl (Or.inl rfl)) (by simp)
  obtain ⟨p, rfl, _⟩ := mem_dP hd
  exact e_ixT (ds := ptL p) (v 1) (gi k.worth) rfl
theorem keyOk_turn (p : Pt) : KeyOk 3 0 (ptD p) := ⟨ptL p, p.turn, p.site, rfl, rfl, rfl⟩
theorem keyOk_place (p : Pt) : KeyOk 0 1 (ptD p) := ⟨ptL p, p.site, p.num, rfl, rfl, rfl⟩
theorem keyOks {i j : Nat} (h : ∀ p, KeyOk i j (ptD p)) {ps : List Pt} : ∀ d ∈ dP ps, KeyOk i j d := fun d hd => by
  obtain ⟨p, rfl, _⟩ := mem_dP hd
  exact h p
/-- the worth of the last -/
def lastW (ps : List Pt) : PyData := if ps = [] then .none else wthD (bestD 3 0 (dP ps))
theorem argBest_le (bt : Nat → Nat → Bool) : ∀ n, argBest bt n ≤ n
  | 0 => Nat.le_refl _
  | n + 1 => by
    have := argBest_le bt n
    show (if bt (n + 1) (argBest bt n) then n + 1 else argBest bt n) ≤ n + 1
    split <;> omega
theorem best_in {i j : Nat} {ps : List Pt} (h : ps ≠ []) : ∃ p ∈ ps, bestD i j (dP ps) = ptD p := by
  have hl : 0 < ps.length := by
    cases ps with
    | nil => exact absurd rfl h
    | cons _ _ => simp
  have hb : bestI i j (dP ps) < ps.length := by
    have := argBest_le (fun m n => PySem.W.dataLt (keyD i j ((dP ps).getD n .none)) (keyD i j ((dP ps).getD m .none))) ((dP ps).length - 1)
    unfold bestI
    have e : (dP ps).length = ps.length := List.length_map _
    rw [e] at this ⊢
    omega
  refine ⟨ps[bestI i j (dP ps)], List.getElem_mem hb, ?_⟩
  unfold bestD
  rw [List.getD_eq_getElem?_getD, List.getElem?_map, List.getElem?_eq_getElem hb]
  rfl
def gLast (rs : List Sl) (o : Out) : Prop := ∃ ps : List Pt, rs = [.dat (.list (dP ps))] ∧ o = .ok (.dat (lastW ps))
theorem scLast : FnScope ["puts"] ["puts"] (defScope sLast) := ⟨rfl, rfl, rfl, by decide +kernel, rfl, by decide +kernel, by decide +kernel⟩
theorem c_last {ft : Addr} (B : Bl mg) (k : Gk mg) (ht : mg "turn_of" = some (.ref ft)) (F : KeyRunX P w K mg ft 3 0) (d : Def K mg "held_by_last" sLast ["puts"]) : Cal P w K mg base "held_by_last" 3 (DV.spS K gLast) := by
  refine d.cal scLast (fun rs o ⟨_, e, _⟩ => by rw [e]; rfl) ?_
  rintro rs o ⟨ps, rfl, rfl⟩ f cdv A outer sh H E M R D hr g qr qn qe
  refine st_if (k := !(!(dP ps).isEmpty)) (s1 := ()) (t_not (t_list (v 0))) (fun h => ?_) (fun h => st_thru ?_)
  · refine st_ret e_non fun v H' R' sv => qr _ v H' rfl R' ?_
    have e : lastW ps = .none := if_pos (by cases ps with
      | nil => rfl
      | cons _ _ => cases h)
    rw [e]
    exact sv
  · have hne : ps ≠ [] := fun z => by rw [z] at h; cases h
    have e : lastW ps = wthD (bestD 3 0 (dP ps)) := if_neg hne
    rw [e] at qr
    obtain ⟨p, _, hb⟩ := best_in (i := 3) (j := 0) hne
    rw [hb] at qr
    refine st_ret (r := .dat (wthD (ptD p))) (e_ixT (ds := ptL p) ?_ (gi k.worth) rfl) fun v H' R' sv => qr _ v H' rfl R' sv
    have hb' : bestD 3 0 (dP ps) = .tuple (ptL p) := hb
    rw [← hb']
    exact e_maxK rfl hr F (keyOks keyOk_turn) (fun z => hne (List.map_eq_nil_iff.mp z)) (by rfl) B.max (a1 (v 0)) (e_glob (v := .ref ft) (by rfl) ht rfl (fun _ => rfl))
/-- the ends of a history, by sites and numbers -/
def leP (p q : Pt) : Bool := PySem.W.dataLe false (keyD 0 1) (ptD p) (ptD q)
def endsP (ps : List Pt) : List Pt := ps.filter fun p => !folB p ps
def allW (ps : List Pt) : List Int := ((endsP ps).mergeSort leP).map (·.worth)
def gAllH (rs : List Sl) (r : Sl) : Prop := ∃ ps : List Pt, rs = [.dat (.list (dP ps))] ∧ ps.length ≤ 100000 ∧ (∀ p ∈ ps, ∀ q ∈ ps, p.site < q.past.length) ∧ r = .dat (.list (dI (allW ps)))
abbrev nAllH : List Str := ["puts", "latest", "ends", "put"]
def leR (p q : Pt) : Bool := PySem.W.dataLe true (keyD 3 0) (ptD p) (ptD q)
theorem fol_perm {p : Pt} {ps qs : List Pt} (h : ps.Perm qs) : folB p ps = folB p qs := by
  unfold folB
  rw [Bool.eq_iff_iff, List.any_eq_true, List.any_eq_true]
  exact ⟨fun ⟨x, a, b⟩ => ⟨x, h.mem_iff.mp a, b⟩, fun ⟨x, a, b⟩ => ⟨x, h.mem_iff.mpr a, b⟩⟩
theorem scAllH : FnScope nAllH ["puts"] (defScope sAllH) := ⟨rfl, rfl, rfl, by decide +kernel, rfl, by decide +kernel, by decide +kernel⟩
theorem c_allH {fp ft : Addr} (k : Gk mg) (hp : mg "place_of" = some (.ref fp)) (F : KeyRunX P w K mg fp 0 1) (ht : mg "turn_of" = some (.ref ft)) (F2 : KeyRunX P w K mg ft 3 0) (cF : Cal P w K mg base "is_followed" 3 (DV.spS K gFol)) (d : Def K mg "held_by_all" sAllH ["puts"]) : Cal P w K mg base "held_by_all" 4 (spF K gAllH) := by
  refine d.calF scAllH (fun rs o ⟨_, e, _⟩ => by rw [e]; rfl) ?_
  rintro rs o ⟨ps, rfl, hz, hs, rfl⟩ f cdv A outer sh H E M R D hr g fr qr
  let fD : PyData → Bool := fun d => match ps.find? (fun p => PyData.eqv (ptD p) d) with
    | some p => !folB p ps
    | none => false
  have fD_is : ∀ p ∈ ps, fD (ptD p) = !folB p ps := fun p hp => by
    show (match ps.find? (fun q => PyData.eqv (ptD q) (ptD p)) with | some p => !folB p ps | none => false) = _
    cases hf : ps.find? (fun q => PyData.eqv (ptD q) (ptD p)) with
    | none =>
      have := List.find?_eq_none.mp hf p hp
      rw [eqv_pt] at this
      simp at this
    | some q =>
      have hq : PyData.eqv (ptD q) (ptD p) = true := List.find?_some (p := fun q => PyData.eqv (ptD q) (ptD p)) hf
      rw [eqv_pt] at hq
      rw [of_decide_eq_true hq]
  have em : ((dP ps).filter fD).map id = dP (endsP ps) := by
    rw [List.map_id]
    show (List.map ptD ps).filter fD = List.map ptD (ps.filter _)
    rw [List.filter_map]
    congr 1
    exact List.filter_congr fun p hp => fD_is p hp
  have el : (dP ps).mergeSort (PySem.W.dataLe true (keyD 3 0)) = dP (ps.mergeSort leR) := (List.map_mergeSort (f := ptD) (r := leR) (s := PySem.W.dataLe true (keyD 3 0)) (l := ps) fun _ _ _ _ => rfl).symm
  refine st_set 1 (r := .dat (.list (dP (ps.mergeSort leR)))) (s1 := ()) scAllH.nd rfl (Or.inr rfl) (by
    rw [← el]
    exact e_sortedKR g (hr.mono (by decide)) F2 (keyOks keyOk_turn) (by rfl) k.sorted (a1 (v 0)) (e_glob (v := .ref ft) (by rfl) ht rfl (fun _ => rfl)) e_bl) ?_
  refine st_lc g (i := 2) (own := [("put", 3)]) (gt := gName 3) (n := (dP ps).length) (it := itD (dP ps)) (ss := fun _ => ()) (outs := fun i => (((dP ps).take i).filter fD).map id) rfl scAllH.nd rfl rfl (sw_true rfl rfl rfl (by decide)) (blkOk_by (N := nAllH) (sc := defScope sAllH) (by decide +kernel)) (fun sh Hh C cl fp => pg_name (i := 3) scAllH.nd rfl (Or.inl rfl))
    (i_list (v 0)) rfl (len_filter fD id (by rw [List.length_map]; exact hz)) (steps_filter fD id (by simp) (fun d hd sh Hh C cl fp D acc gD => ?_) (fun d hd hp sh Hh C cl fp D acc gD => v 3)) ?_
  · obtain ⟨p, rfl, hp⟩ := mem_dP hd
    rw [fD_is p hp]
    exact t_not (t_val (e_call gD cF hr (Nat.le_refl _) (by rfl) ⟨p, ps.mergeSort leR, rfl, fun q hq => hs p hp q (List.mem_mergeSort.mp hq), by rw [fol_perm (List.mergeSort_perm ps leR)]⟩ (a_cons (v 3) (a_cons (v 1) a_nil))))
  · rw [List.take_length, em]
    have es : (dP (endsP ps)).mergeSort (PySem.W.dataLe false (keyD 0 1)) = dP ((endsP ps).mergeSort leP) := (List.map_mergeSort (f := ptD) (r := leP) (s := PySem.W.dataLe false (keyD 0 1)) (l := endsP ps) fun _ _ _ _ => rfl).symm
    have hz2 : ((endsP ps).mergeSort leP).length ≤ 100000 := by
      rw [List.length_mergeSort]
      exact Nat.le_trans (List.length_filter_le _ _) hz
    have ew : (((dP ((endsP ps).mergeSort leP)).take (dP ((endsP ps).mergeSort leP)).length).map wthD) = dI (allW ps) := by
      rw [List.take_length, wth_map]
      rfl
    refine st_retLc g (own := [("put", 3)]) (gt := gName 3) (n := (dP ((endsP ps).mergeSort leP)).length) (it := itD (dP ((endsP ps).mergeSort leP))) (ss := fun _ => ()) (outs := fun i => ((dP ((endsP ps).mergeSort leP)).take i).map wthD) rfl scAllH.nd (blkOk_by (N := nAllH) (sc := defScope sAllH) (by decide +kernel)) (fun sh Hh C cl fp => pg_name (i := 3) scAllH.nd rfl (Or.inl rfl))
      (i_list ?_) rfl (len_map wthD (by rw [List.length_map]; exact hz2)) (steps_map wthD (by simp) (fun d hd sh Hh C cl fp D acc gD => ?_)) (fun L H1 H' R1 n1 R' sv => ?_)
    · rw [← es]
      exact e_sortedK g (hr.mono (by decide)) F (keyOks keyOk_place) (by rfl) k.sorted (a1 (v 2)) (e_glob (v := .ref fp) (by rfl) hp rfl (fun _ => rfl))
    · obtain ⟨p, rfl, _⟩ := mem_dP hd
      exact e_ixT (ds := ptL p) (v 3) (gi k.worth) rfl
    · rw [ew] at sv
      exact qr _ H' R' sv fun p e => by
        cases e
        exact fr H1 _ R1 (cut_fresh n1 sv)
end
end K04
namespace K04
open PySem PySem.Spec L2 Evl DV LamX NdefX
open PyProof.Rows hiding St cutD
abbrev wordsL : List Str := ["sum", "most", "last", "all"]
theorem words_any {x : Str} (h : x ∈ wordsL) : ((wordsL.map PyData.str).any fun e => PyData.eqv e (.str x)) = true := by
  rw [List.any_eq_true]
  exact ⟨.str x, List.mem_map.mpr ⟨x, h, rfl⟩, by show (x == x) = true; simp⟩
section
variable {P : Program} {w : World} {K : PySem.W.Frag} {mg : Str → Option Value} {base : Heap}
/-! check_rules -/
def WordsAt (K : PySem.W.Frag) (mg : Str → Option Value) : Prop := ∃ W, mg "WORDS" = some (.ref W) ∧ ∀ H, Dv K H (.ref W) (.tuple (wordsL.map .str))
def okRules (ws : List Str) : Prop := 1 ≤ ws.length ∧ ws.length ≤ 6 ∧ ∀ x ∈ ws, x ∈ wordsL
def gChkR (rs : List Sl) (o : Out) : Prop := ∃ ws : List Str, rs = [.dat (.tuple (ws.map .str))] ∧ okRules ws ∧ o = .ok (.dat .none)
theorem scChkR : FnScope ["rules", "word"] ["rules"] (defScope sChkRules) := ⟨rfl, rfl, rfl, by decide +kernel, rfl, by decide +kernel, by decide +kernel⟩
theorem c_chkR (B : Bl mg) (k : Gk mg) (W : WordsAt K mg) (d : Def K mg "check_rules" sChkRules ["rules"]) : Cal P w K mg base "check_rules" 1 (DV.spS K gChkR) := by
  refine d.cal scChkR (fun rs o ⟨_, e, _⟩ => by rw [e]; rfl) ?_
  rintro rs o ⟨ws, rfl, ⟨h1, h6, hw⟩, rfl⟩ f cdv A outer sh H E M R D hr g qr qn qe
  obtain ⟨Wd, hW, dW⟩ := W
  have hl : ((ws.map PyData.str).length : Int) = ws.length := by rw [List.length_map]
  refine st_if (k := (!true) || !(decide ((1 : Int) ≤ (ws.map PyData.str).length) && decide (((ws.map PyData.str).length : Int) ≤ 6))) (s1 := ()) (t_w (w_or (t_not (t_val (isi boot_tuple B.isi B.tuple (kit_tuple (.tuple (ws.map .str))) (v 0)))) fun _ => w_or1 (t_not (t_chain op_le op_le e_int (e_lenT (by rfl) B.len (a1 (v 0))) (gi k.most))))) (fun h => ?_) (fun _ => st_thru ?_)
  · rw [hl, decide_eq_true (by omega), decide_eq_true (by omega)] at h
    cases h
  · refine st_for g (fun i ρ' _ => ∃ r, ρ' = [.dat (.tuple (ws.map .str)), r]) (passes_of rfl) rfl (pg_name (i := 1) scChkR.nd rfl (Or.inl rfl)) (i_tup (v 0)) ⟨_, rfl⟩ (fun i ρi si H1 hi hJ g1 => ?_) (fun ρ' s' hJ => ?_)
    · obtain ⟨r, rfl⟩ := hJ
      have hi' : i < ws.length := by rw [List.length_map] at hi; exact hi
      have hd : (ws.map PyData.str)[i]? = some (.str ws[i]) := by rw [List.getElem?_map, List.getElem?_eq_getElem hi']; rfl
      refine ⟨_, tg0_name, fun N hN => ?_⟩
      rw [itD_lt hd]
      refine st_if (s1 := si) (t_ninT (d := .str ws[i]) (ds := wordsL.map .str) (v 1) (e_glob (v := .ref Wd) (by rfl) hW rfl dW) rfl rfl) (fun h => ?_) (fun _ => st_thru (st_nil fun σ H hσ hR => hN σ H _ _ ⟨_, rfl⟩ hσ hR))
      rw [words_any (hw _ (List.getElem_mem hi'))] at h
      cases h
    · obtain ⟨r, rfl⟩ := hJ
      exact st_nil fun σ H _ R' => qn σ H rfl R'
/-! check_key -/
def gChkK (C : Addr) (rs : List Sl) (o : Out) : Prop := ∃ (d : PyData) (ws : List Str), rs = [.dat d, .dat (.tuple (ws.map .str))] ∧ ws.length ≤ 6 ∧ o = if wholeD d 0 ((ws.length : Int) - 1) then .ok (.dat .none) else .er (.ref C)
theorem scIsK : FnScope ["thing", "rules"] ["thing", "rules"] (defScope sIsKey) := ⟨rfl, rfl, rfl, by decide +kernel, rfl, by decide +kernel, by decide +kernel⟩
def gIsK (rs : List Sl) (o : Out) : Prop := ∃ (d : PyData) (ws : List Str), rs = [.dat d, .dat (.tuple (ws.map .str))] ∧ ws.length ≤ 6 ∧ o = .ok (.dat (.bool (wholeD d 0 ((ws.length : Int) - 1))))
theorem c_isK (B : Bl mg) (cW : Cal P w K mg base "is_whole" 1 (DV.spS K gWhole)) (d : Def K mg "is_key" sIsKey ["thing", "rules"]) : Cal P w K mg base "is_key" 2 (DV.spS K gIsK) := by
  refine d.cal scIsK (fun rs o ⟨_, _, e, _⟩ => by rw [e]; rfl) ?_
  rintro rs o ⟨dk, ws, rfl, h6, rfl⟩ f cdv A outer sh H E M R D hr g qr qn qe
  have hl : ((ws.map PyData.str).length : Int) = ws.length := by rw [List.length_map]
  have elen : ∀ {px pos pp : Pos}, Ev1 (dx P w K mg base ["thing", "rules"] "is_key" sIsKey f cdv A outer sh H E) M R (ini ["thing", "rules"] [.dat dk, .dat (.tuple (ws.map .str))]) (.Call (.Name "len" px) [.Name "rules" pp] [] pos) () (.dat (.int ws.length)) () := fun {px pos pp} => by
    rw [← hl]
    exact e_lenT (by rfl) B.len (a1 (v 1))
  exact st_ret (e_call g cW hr (Nat.le_refl _) (by rfl) ⟨dk, 0, _, rfl, rfl⟩ (a_cons (v 0) (a_cons e_int (a_cons (e_sub elen e_int) a_nil)))) fun v H' R' sv => qr _ v H' rfl R' sv
theorem scChkK : FnScope ["key", "rules"] ["key", "rules"] (defScope sChkKey) := ⟨rfl, rfl, rfl, by decide +kernel, rfl, by decide +kernel, by decide +kernel⟩
theorem c_chkK {C : Addr} (B : Bl mg) (n : DV.Exn K mg "BadKey" C) (cW : Cal P w K mg base "is_key" 2 (DV.spS K gIsK)) (d : Def K mg "check_key" sChkKey ["key", "rules"]) : Cal P w K mg base "check_key" 3 (DV.spS K (gChkK C)) := by
  refine d.cal scChkK (fun rs o ⟨_, _, e, _⟩ => by rw [e]; rfl) ?_
  rintro rs o ⟨dk, ws, rfl, h6, rfl⟩ f cdv A outer sh H E M R D hr g qr qn qe
  have hl : ((ws.map PyData.str).length : Int) = ws.length := by rw [List.length_map]
  have elen : ∀ {px pos pp : Pos}, Ev1 (dx P w K mg base ["key", "rules"] "check_key" sChkKey f cdv A outer sh H E) M R (ini ["key", "rules"] [.dat dk, .dat (.tuple (ws.map .str))]) (.Call (.Name "len" px) [.Name "rules" pp] [] pos) () (.dat (.int ws.length)) () := fun {px pos pp} => by
    rw [← hl]
    exact e_lenT (by rfl) B.len (a1 (v 1))
  refine st_if (k := !wholeD dk 0 ((ws.length : Int) - 1)) (s1 := ()) (t_not (t_val (e_call g cW hr (Nat.le_refl _) (by rfl) ⟨dk, ws, rfl, h6, rfl⟩ (a_cons (v 0) (a_cons (v 1) a_nil))))) (fun h => ?_) (fun h => st_thru ?_)
  · have hk : wholeD dk 0 ((ws.length : Int) - 1) = false := (Bool.not_eq_true' _).mp h
    rw [hk] at qe
    have l1 : ((ws.length : Int) - 1).natAbs.log2 < 1920 := by
      by_cases z : ws.length = 0
      · rw [z]; decide
      · exact log_small (by omega) (by omega)
    refine st_raise rfl n (takes_of rfl rfl rfl rfl) (by rfl) (a_cons (e_fstr (j_cons e_str (j_cons (e_fmtI l1 (e_sub elen e_int)) j_nil)) ?_) a_nil) (by simp) fun σ H' _ R' => qe _ H' rfl R'
    have z1 := fmt_len l1
    have z3 : (Str.ofString "a key is a number from 0 to ").length ≤ 1000 := by decide +kernel
    show _ + (_ + 0) ≤ 100000
    omega
  · have hk : wholeD dk 0 ((ws.length : Int) - 1) = true := (Bool.not_eq_false' _).mp h
    rw [hk] at qn
    exact st_nil fun σ H _ R' => qn σ H rfl R'
/-! plainly -/
def heldD (x : Str) (ps : List Pt) : PyData := if x = ("sum" : Str) then .int (ps.map (·.worth)).sum else if x = ("most" : Str) then maxN (ps.map (·.worth)) else if x = ("last" : Str) then lastW ps else .list (dI (allW ps))
def okPts (ps : List Pt) : Prop := ps.length ≤ 100000 ∧ ∀ p ∈ ps, ∀ q ∈ ps, p.site < q.past.length
def heldG (x : Str) (rs : List Sl) (r : Sl) : Prop := ∃ ps : List Pt, rs = [.dat (.list (dP ps))] ∧ okPts ps ∧ r = .dat (heldD x ps)
theorem held_sum (c : Cal P w K mg base "held_by_sum" 1 (DV.spS K gSum)) : Cal P w K mg base "held_by_sum" 4 (spF K (heldG "sum")) :=
  (c.imp (spF_of fun rs r ⟨ps, e1, hk, e2⟩ => ⟨⟨ps, e1, hk.1, by rw [e2]; rfl⟩, _, e2, rfl⟩)).mono (by decide)
theorem bare_maxN (ns : List Int) : bareD (maxN ns) = true := by cases ns <;> rfl
theorem held_most (c : Cal P w K mg base "held_by_most" 1 (DV.spS K gMost)) : Cal P w K mg base "held_by_most" 4 (spF K (heldG "most")) :=
  (c.imp (spF_of fun rs r ⟨ps, e1, hk, e2⟩ => by
    have e : heldD "most" ps = maxN (ps.map (·.worth)) := by
      unfold heldD
      rw [if_neg (by decide), if_pos rfl]
    rw [e] at e2
    exact ⟨⟨ps, e1, hk.1, by rw [e2]⟩, _, e2, bare_maxN _⟩)).mono (by decide)
theorem bare_last (ps : List Pt) : bareD (lastW ps) = true := by
  unfold lastW
  split
  · rfl
  · rename_i h
    obtain ⟨p, _, e⟩ := best_in (i := 3) (j := 0) h
    rw [e]
    rfl
theorem held_last (c : Cal P w K mg base "held_by_last" 3 (DV.spS K gLast)) : Cal P w K mg base "held_by_last" 4 (spF K (heldG "last")) :=
  (c.imp (spF_of fun rs r ⟨ps, e1, hk, e2⟩ => by
    have e : heldD "last" ps = lastW ps := by
      unfold heldD
      rw [if_neg (by decide), if_neg (by decide), if_pos rfl]
    rw [e] at e2
    exact ⟨⟨ps, e1, by rw [e2]⟩, _, e2, bare_last _⟩)).mono (by decide)
theorem spF_imp {G G' : List Sl → Sl → Prop} (h : ∀ rs r, G' rs r → G rs r) : ∀ vs H Q E, spF K G' vs H Q E → spF K G vs H Q E := by
  rintro vs H Q E ⟨M, rs, r, dom, sv, g, q⟩
  exact ⟨M, rs, r, dom, sv, h _ _ g, q⟩
theorem held_all (c : Cal P w K mg base "held_by_all" 4 (spF K gAllH)) : Cal P w K mg base "held_by_all" 4 (spF K (heldG "all")) :=
  c.imp (spF_imp fun rs r ⟨ps, e1, hk, e2⟩ => by
    have e : heldD "all" ps = .list (dI (allW ps)) := by
      unfold heldD
      rw [if_neg (by decide), if_neg (by decide), if_neg (by decide)]
    rw [e] at e2
    exact ⟨ps, e1, hk.1, hk.2, e2⟩)
/-- the dict of the ways to hold -/
def HeldBy (P : Program) (w : World) (K : PySem.W.Frag) (mg : Str → Option Value) (base : Heap) : Prop := ∃ Dk, mg "HELD_BY" = some (.ref Dk) ∧ ∀ x ∈ wordsL, ∃ (f : Addr) (y : Str), KDct K w Dk x (.ref f) ∧ mg y = some (.ref f) ∧ Cal P w K mg base y 4 (spF K (heldG x))
def ofKey (ps : List Pt) (key : Int) : List Pt := ps.filter fun p => decide (p.key = key)
theorem ok_ofKey {ps : List Pt} {key : Int} (h : okPts ps) : okPts (ofKey ps key) := ⟨Nat.le_trans (List.length_filter_le _ _) h.1, fun p hp q hq => h.2 p (List.mem_filter.mp hp).1 q (List.mem_filter.mp hq).1⟩
def gPlain (rs : List Sl) (r : Sl) : Prop := ∃ (ps : List Pt) (ws : List Str) (key : Nat), rs = [.dat (.list (dP ps)), .dat (.tuple (ws.map .str)), .dat (.int key)] ∧ okPts ps ∧ okRules ws ∧ key < ws.length ∧ r = .dat (heldD (ws.getD key Str.empty) (ofKey ps key))
abbrev nPl : List Str := ["puts", "rules", "key", "held", "put"]
theorem scPl : FnScope nPl ["puts", "rules", "key"] (defScope sPlainly) := ⟨rfl, rfl, rfl, by decide +kernel, rfl, by decide +kernel, by decide +kernel⟩
theorem c_plain {C : Addr} (k : Gk mg) (hB : HeldBy P w K mg base) (cR : Cal P w K mg base "check_rules" 1 (DV.spS K gChkR)) (cK : Cal P w K mg base "check_key" 3 (DV.spS K (gChkK C))) (d : Def K mg "plainly" sPlainly ["puts", "rules", "key"]) : Cal P w K mg base "plainly" 5 (spF K gPlain) := by
  refine d.calF scPl (fun rs r ⟨_, _, _, e, _⟩ => by rw [e]; rfl) ?_
  rintro rs r ⟨ps, ws, key, rfl, hok, hws, hk, rfl⟩ f cdv A outer sh H E M R D hr g fr qr
  obtain ⟨Dk, hDk, hh⟩ := hB
  have hwk : ws[key]? = some (ws.getD key Str.empty) := by rw [List.getD_eq_getElem?_getD, List.getElem?_eq_getElem hk]; rfl
  have hwm : ws.getD key Str.empty ∈ wordsL := hws.2.2 _ (List.mem_of_getElem? hwk)
  obtain ⟨fh, y, hkd, hmy, cy⟩ := hh _ hwm
  have hwhole : wholeD (.int key) 0 ((ws.length : Int) - 1) = true := by
    show (decide ((0 : Int) ≤ key) && decide ((key : Int) ≤ (ws.length : Int) - 1)) = true
    rw [decide_eq_true (by omega), decide_eq_true (by omega)]
    rfl
  refine st_expr (e_call g cR hr (by decide) (by rfl) (r := .dat .none) ⟨ws, rfl, hws, rfl⟩ (a_cons (v 1) a_nil)) ?_
  refine st_expr (e_call g cK hr (by decide) (by rfl) (r := .dat .none) ⟨.int key, ws, rfl, hws.2.1, by rw [hwhole]; rfl⟩ (a_cons (v 2) (a_cons (v 1) a_nil))) ?_
  refine st_set 3 (r := .raw (.ref fh)) (s1 := ()) scPl.nd rfl (Or.inl rfl) (e_ixKD hkd (e_glob (v := .ref Dk) (by rfl) hDk rfl (fun _ => rfl)) (e_ixT (ds := ws.map .str) (v 1) (v 2) (atI_nat (by rw [List.getElem?_map, hwk]; rfl)))) ?_
  intro σ H0 hσ hR
  obtain ⟨f', fd, qs, F, hm, hkp, hb⟩ := cy.ex
  rw [hmy] at hm
  cases hm
  obtain ⟨o, h3, z⟩ := hσ.get (i := 3) (r := .raw (.ref fh)) rfl
  have z : o = some (.ref fh) := z
  subst z
  refine b_ret (wE_of (pe_callL (i := 3) F hr rfl (Or.inl rfl) hkp hb .nil passL pa_w) ⟨h3, ?_⟩)
  have harg : EvA1 (dx P w K mg base nPl "plainly" sPlainly f cdv A outer sh H E) M R [.dat (.list (dP ps)), .dat (.tuple (ws.map .str)), .dat (.int key), .raw (.ref fh), .any]
      (match defBody sPlainly with | [_, _, _, .Return (some (.Call _ es _ _)) _] => es | _ => []) () [.dat (.list (dP (ofKey ps key)))] () := by
    let fD : PyData → Bool := fun d => match d with
      | .tuple xs => PyData.eqv (xs.getD 4 .none) (.int key)
      | _ => false
    have em : ((dP ps).filter fD).map id = dP (ofKey ps key) := by
      rw [List.map_id]
      show (List.map ptD ps).filter fD = List.map ptD (ps.filter _)
      rw [List.filter_map]
      congr 1
    refine a_cons ?_ a_nil
    rw [← em]
    refine lc_filter (own := [("put", 4)]) g (i := 4) fD id (i_list (v 0)) (by rw [List.length_map]; exact hok.1) (fun d hd sh Hh C cl fp D acc gD => ?_) (fun d hd hp sh Hh C cl fp D acc gD => v 4) rfl scPl.nd (blkOk_by (N := nPl) (sc := defScope sPlainly) (by decide +kernel)) (fun sh Hh C cl fp => pg_name (i := 4) scPl.nd rfl (Or.inl rfl)) (by simp)
    obtain ⟨p, rfl, hp⟩ := mem_dP hd
    exact t_eqD (d1 := .int p.key) (d2 := .int key) hr.units (e_ixT (ds := ptL p) (v 4) (gi k.key) rfl) (v 2) rfl rfl
  refine harg σ H0 _ hσ hR fun vs H1 e1 R1 d1 => ?_
  rw [List.append_nil]
  refine ⟨M, [.dat (.list (dP (ofKey ps key)))], .dat (heldD (ws.getD key Str.empty) (ofKey ps key)), fun a m => g.dom R1 m, d1, ⟨_, rfl, ok_ofKey hok, rfl⟩, fun u H' e2 sv hn => qr u H' (g.up R1 e2) sv fun p e => fr H1 p R1 (hn p e)⟩
/-- refused -/
def gPlainX (C : Addr) (rs : List Sl) (o : Out) : Prop := ∃ (ps : List Pt) (ws : List Str) (d : PyData), rs = [.dat (.list (dP ps)), .dat (.tuple (ws.map .str)), .dat d] ∧ okRules ws ∧ wholeD d 0 ((ws.length : Int) - 1) = false ∧ o = .er (.ref C)
theorem c_plainX {C : Addr} (cR : Cal P w K mg base "check_rules" 1 (DV.spS K gChkR)) (cK : Cal P w K mg base "check_key" 3 (DV.spS K (gChkK C))) (d : Def K mg "plainly" sPlainly ["puts", "rules", "key"]) : Cal P w K mg base "plainly" 4 (DV.spS K (gPlainX C)) := by
  refine d.cal scPl (fun rs r ⟨_, _, _, e, _⟩ => by rw [e]; rfl) ?_
  rintro rs o ⟨ps, ws, dk, rfl, hws, hk, rfl⟩ f cdv A outer sh H E M R D hr g qr qn qe
  refine st_expr (e_call g cR hr (by decide) (by rfl) (r := .dat .none) ⟨ws, rfl, hws, rfl⟩ (a_cons (v 1) a_nil)) ?_
  exact st_exprW fun σ H hσ hR => x_call g cK hr (by decide) (by rfl) (passes_call (takes_of rfl rfl rfl rfl) fun _ _ _ _ h => h) ⟨dk, ws, rfl, hws.2.1, by rw [hk]; rfl⟩ (a_cons (v 2) (a_cons (v 1) a_nil)) hσ hR fun H1 _ R1 => qe _ H1 rfl R1
end
end K04
namespace DV
open PySem PySem.Spec L2 Evl LamX NdefX
open PyProof.Rows hiding St cutD
/-! ### tuple.count of flat items -/
def rCntT (K : PySem.W.Frag) : V → List V → Hp → VK → Prop := fun x xs H Q => ∃ (p : Addr) (ys : List V) (y : V), x = .ref p ∧ xs = [y] ∧ SqT K H p ys ∧ flatV y = true ∧ ys.all flatV = true ∧ Q (.int (ys.countP (fun z => eqV z y) : Nat)) H
theorem mt_countT {X : Cx} : MtR X "tuple.count" (rCntT X.K) := by
  intro pins s σ H x xs v us Q I rx rxs h
  obtain ⟨p, ys, y, rfl, rfl, hs, fy, fys, q⟩ := h
  cases rx
  obtain ⟨u, rfl, ru⟩ := rxs.one
  obtain ⟨its, rv, ⟨⟨cls, dd, data, sl⟩, ho, hc, n, hd⟩, hlen⟩ := I.tuple hs
  simp only at hc hd
  subst hc hd
  refine call_meets PySem.F.slot_tuple_count ⟨_, ho, rfl⟩ PySem.F.entry_tuple_count (PySem.F.args_tuple_count_2 _ _)
    (SeqAt.tuple_countAt p its.toArray n dd sl u (eqU y)) ⟨ho, fun w hw => mem_eqAt ru fy rv fys w (by simpa using hw), ?_⟩
  have ec : its.toArray.toList.countP (eqU y) = ys.countP fun z => eqV z y := countP_eqU rv fys
  refine ⟨.int (ys.countP (fun z => eqV z y) : Nat), H, I.tok _, ⟨s.toks, ?_⟩, q⟩
  show Value.int ((its.toArray.toList.countP (eqU y) : Nat) : Int) s.toks = Value.int ((ys.countP (fun z => eqV z y) : Nat) : Int) s.toks
  rw [ec]
theorem count_dv {K : PySem.W.Frag} {H : Hp} {d : PyData} {v : V} (h : Dv K H v d) (f : flatD d = true) : ∀ {ds : List PyData} {vs : List V}, DvAll K H vs ds → ds.all flatD = true → vs.countP (fun z => eqV z v) = ds.countP fun e => PyData.eqv e d
  | [], _, g, _ => by cases g; rfl
  | e :: ds, _, g, fs => by
    cases g with
    | cons a b =>
      rw [List.all_cons, Bool.and_eq_true] at fs
      rw [List.countP_cons, List.countP_cons, count_dv h f b fs.2, eqv_flat a h fs.1 f]
section
variable {S : Type} {X : Cx} {M : List Addr} {R : S → Hp → Prop} {ρ : List Sl} {s s1 s2 : S} {a b o e e' : Expr} {px pos apos cpos : Pos}
/-- a tuple whose object is told to have no dict of its own -/
def PlT (K : PySem.W.Frag) (H : Hp) (v : V) : Prop := ∃ a o, v = .ref a ∧ o.dict = none ∧ ((∃ xs, H a = some (.frz o (.tup xs))) ∨ K.lookup a = some o)
theorem PlT.ex {K : PySem.W.Frag} {H H' : Hp} {v : V} (h : PlT K H v) (e : Ex H H') : PlT K H' v := by
  obtain ⟨a, o, h1, h2, h3⟩ := h
  exact ⟨a, o, h1, h2, h3.elim (fun ⟨xs, k⟩ => .inl ⟨xs, e _ _ k⟩) .inr⟩
theorem e_countT {ds : List PyData} {d : PyData} (fs : ds.all flatD = true) (f : flatD d = true) (ho : ∀ σ H (Q : VK), Slots X.K (cut M H) σ ρ → R s H → (∀ v H2, Ex (cut M H) (cut M H2) → R s1 H2 → Sv X.K (cut M H2) (.dat (.tuple ds)) v → PlT X.K (cut M H2) v → Q v H2) → wE X o σ H Q) (ha : EvA1 X M R ρ [e] s1 [.dat d] s2)
    (hbase : attributeBase o "count" X.env (eval o X.env) = eval o X.env := by rfl)
    (hfew : ((backTo cpos (starEach [e] X.env)).all (fun x => !x.1) && (backToKw cpos (keywordEach [] X.env)).all (fun x => x.1.isSome) && decide ([e].length + ([] : List Keyword).length + (if ([] : List Keyword).isEmpty then 0 else 1) < 30)) = true := by rfl)
    (hline : (apos.endLine == cpos.line) = true := by rfl) (hs : starEach [e] X.env = (false, eval e X.env) :: starEach [] X.env := by rfl) (hplain : (backTo cpos (starEach [] X.env)).any (·.1) = false := by rfl) :
    Ev1 X M R ρ (.Call (.Attribute o "count" apos) [e] [] cpos) s (.dat (.int (ds.countP fun z => PyData.eqv z d : Nat))) s2 := by
  intro σ H Q hσ hR q
  intro pins sh I
  have key : wE X o σ H fun v H1 => ∃ p xs, v = .ref p ∧ SqT X.K H1 p xs ∧ PlT X.K H1 v ∧ wA X [e] σ H1 fun vs H2 => rCntT X.K v vs H2 Q := by
    refine ho σ H _ hσ hR fun v H1 e1 R1 d1 pl => ?_
    obtain ⟨p, xs, rfl, hp, hd⟩ := sv_tup d1
    refine ⟨p, xs, rfl, ex_t ex_cut hp, pl.ex ex_cut, ?_⟩
    refine ha σ H1 _ (hσ.ex e1) R1 fun vs H2 e2 R2 d2 => ?_
    obtain ⟨w, rfl, h2⟩ := svall1 d2
    have hd2 := dpa_ex e2 _ _ hd
    refine ⟨p, _, _, rfl, rfl, ex_t ex_cut (ex_t e2 hp), flat_dv h2 f, flat_all hd2 fs, ?_⟩
    rw [count_dv h2 f hd2 fs]
    exact q _ H2 (e1.trans e2) R2 (.int _)
  refine wpAny_Call_method_late hbase hfew hline rfl (thn (key pins sh I) fun v s1 ⟨x, H1, I1, r1, p, xs, ex, hp, pl, q1⟩ => ?_)
  subst ex
  obtain rfl : v = Value.ref p := r1
  obtain ⟨its, rv, ⟨ob, hob, hcls, n, hdt⟩, hz⟩ := I1.tuple hp
  refine ⟨"tuple", "tuple.count", PySem.F.plainAttrs_tuple, PySem.F.slot_tuple_count, PySem.F.type_tuple_count, ⟨ob, hob, hcls⟩, fun a ea => ?_, ?_⟩
  · cases ea
    obtain ⟨a, o, e1, h2, h3⟩ := pl
    cases e1
    rcases h3 with ⟨ys, h3⟩ | h3
    · obtain ⟨h4, _⟩ := (show ObjOk X.prog X.w H1 s1.heap p (.frz o (.tup ys)) from I1.hok p _ h3)
      exact ⟨o, h4, h2⟩
    · exact ⟨o, I1.kIn p o h3, h2⟩
  · have hA := q1 cpos pins s1 I1
    rw [hs] at hA ⊢
    refine Calls.callWith_builtin (by show (false || (backTo cpos (starEach [] X.env)).any (·.1)) = false; rw [hplain] <;> rfl) (Calls.evalArgs_plain ?_)
    exact thn hA fun us s2 ⟨vs, H2, I2, r2, q2⟩ => mt_countT pins s2 σ H2 (.ref p) vs _ us Q I2 rfl r2 q2
/-- a written tuple, told so -/
theorem pe_tupZ {es : List Expr} {t : TA} {x1} (h : PA X es t) : PE X (.Tuple es x1 pos) fun σ H Q => t σ H fun xs H1 => xs.length ≤ sizeLine ∧ ∀ p, H1 p = none → ∀ o, o.dict = none → Q (.ref p) (upd H1 p (.frz o (.tup xs))) := by
  refine ⟨fun pins s σ H Q I hq => ?_⟩
  refine wpAny_Tuple_spliced (thn (h.run pos pins s σ H _ I hq) fun us s1 ⟨xs, H1, I1, r, z, q⟩ => ⟨by rw [← r.length]; exact z, ?_⟩)
  have hf : H1 s1.heap.objs.size = none := I1.hok.fresh (Nat.le_refl _)
  refine ⟨.ref s1.heap.objs.size, upd H1 s1.heap.objs.size (.frz _ (.tup xs)), I1.laid (t' := s1.toks) (fun b u e => Heap.get?_push_of_some _ e) (Nat.le_refl _) ⟨Heap.get?_push_size _ rfl, ?_⟩, rfl, q _ hf _ rfl⟩
  exact ⟨z, us, r, ⟨_, Heap.get?_push_size _ rfl, rfl, _, rfl⟩⟩
/-! anything, not in a tuple of flat data -/
theorem depth_flat : ∀ {ds : List PyData}, ds.all flatD = true → PyData.depthAll ds = 0
  | [], _ => rfl
  | d :: ds, h => by
    rw [List.all_cons, Bool.and_eq_true] at h
    show max d.depth (PyData.depthAll ds) = 0
    rw [depth_flat h.2]
    cases d <;> first | rfl | cases h.1
def rNinTD (K : PySem.W.Frag) : R2 := fun x y H Q => ∃ d ds, Dp K H x d ∧ Dp K H y (.tuple ds) ∧ d.canLay0 = true ∧ PyData.canLayAll0 ds = true ∧ ds.all flatD = true ∧ Q (.bl (!ds.any fun z => PyData.eqv z d)) H
theorem op_ninTD {X : Cx} (hu : X.A.units + 64 < cLine) : OpR X (compareOp .NotIn) (rNinTD X.K) := by
  intro pins s σ H x y v u Q I rx ry h
  obtain ⟨d, ds, hd, he, sd, se, sf, q⟩ := h
  obtain ⟨as, r1⟩ := Dp.reads I d x v hd rx
  obtain ⟨bs, r2⟩ := Dp.reads I (.tuple ds) y u he ry
  exact SeqAt.notIn_tuple_reads r2 r1 se sd (by rw [depth_flat sf, Nat.zero_min]; omega) ⟨.bl _, H, I, rfl, q⟩
theorem t_ninTD {d : PyData} {ds : List PyData} (hu : X.A.units + 64 < cLine) (ha : Ev1 X M R ρ a s (.dat d) s1) (hb : Ev1 X M R ρ b s1 (.dat (.tuple ds)) s2) (l : d.canLay0 = true) (ls : PyData.canLayAll0 ds = true) (fs : ds.all flatD = true) (hm : behindInMarks .NotIn b = false := by with_unfolding_all rfl) :
    EvT1 X M R ρ (.Compare a [.NotIn] [b] pos) s (!ds.any fun e => PyData.eqv e d) s2 :=
  t_cmp (op_ninTD hu) ha hb (fun x y H Q dx dy hR q => ⟨d, ds, dv_dp _ _ (dp_ex ex_cut _ _ dx), dv_dp _ _ (dp_ex ex_cut _ _ dy), l, ls, fs, q H (exId _) hR⟩) hm
end
end DV
namespace K04
open PySem PySem.Spec L2 Evl DV LamX NdefX
open PyProof.Rows hiding St cutD
/-- the module's other numbers -/
structure Gm (mg : Str → Option Value) : Prop where
  few : ∃ t, mg "FEWEST_SITES" = some (.int 2 t)
  many : ∃ t, mg "MOST_SITES" = some (.int 5 t)
  last : ∃ t, mg "LAST_MOMENT" = some (.int 1000000 t)
section
variable {S : Type} {X : Cx} {M : List Addr} {R : S → Hp → Prop} {ρ : List Sl} {s s1 s2 : S} {a b : Expr} {pos : Pos}
theorem e_repT (g : Rg M R) {ds : List PyData} {k : Int} (hne : ds ≠ []) (h2 : 2 ≤ k) (hk : k ≤ 1000) (hz : ds.length ≤ 1000) (ha : Ev1 X M R ρ a s (.dat (.tuple ds)) s1) (hb : Ev1 X M R ρ b s1 (.dat (.int k)) s2) : Ev1 X M R ρ (.BinOp a .Mult b pos) s (.dat (.tuple (List.replicate k.toNat ds).flatten)) s2 :=
  e_op op_repT ha hb fun x y H Q dx dy hR q => by
    obtain ⟨p, xs, rfl, hp, hd⟩ := sv_tup dx
    have hl := dpa_length hd
    exact ⟨p, k, xs, rfl, sv_int dy, ex_t ex_cut hp, fun z => hne (by rw [z] at hl; exact List.eq_nil_of_length_eq_zero hl.symm), h2, hk, by omega, fun p n => new_tup g hR n (dpa_rep hd k.toNat) q⟩
end
theorem rep0 (n : Nat) (d : PyData) : (List.replicate n [d]).flatten = List.replicate n d := by
  induction n with
  | zero => rfl
  | succ n ih => rw [List.replicate_succ, List.flatten_cons, ih]; rfl
def zerosD (m : Nat) : PyData := .tuple (List.replicate m (.int 0))
section
variable {P : Program} {w : World} {K : PySem.W.Frag} {mg : Str → Option Value} {base : Heap}
/-! check_many -/
def gMany (C : Addr) (rs : List Sl) (o : Out) : Prop := ∃ d, rs = [.dat d] ∧ o = if wholeD d 2 5 then .ok (.dat .none) else .er (.ref C)
theorem scMany : FnScope ["many"] ["many"] (defScope sChkMany) := ⟨rfl, rfl, rfl, by decide +kernel, rfl, by decide +kernel, by decide +kernel⟩
theorem c_many {C : Addr} (B : Bl mg) (k : Gm mg) (n : DV.Exn K mg "BadSite" C) (cW : Cal P w K mg base "is_whole" 1 (DV.spS K gWhole)) (d : Def K mg "check_many" sChkMany ["many"]) : Cal P w K mg base "check_many" 2 (DV.spS K (gMany C)) := by
  refine d.cal scMany (fun rs o ⟨_, e, _⟩ => by rw [e]; rfl) ?_
  rintro rs o ⟨dm, rfl, rfl⟩ f cdv A outer sh H E M R D hr g qr qn qe
  refine st_if (k := !wholeD dm 2 5) (s1 := ()) (t_not (t_val (e_call g cW hr (Nat.le_refl _) (by rfl) ⟨dm, 2, 5, rfl, rfl⟩ (a_cons (v 0) (a_cons (gi k.few) (a_cons (gi k.many) a_nil)))))) (fun h => ?_) (fun h => st_thru ?_)
  · have hk : wholeD dm 2 5 = false := (Bool.not_eq_true' _).mp h
    rw [hk] at qe
    refine st_raise rfl n (takes_of rfl rfl rfl rfl) (by rfl) (a_cons (e_fstr (j_cons e_str (j_cons (e_fmtI (log_small (by decide) (by decide)) (gi k.few)) (j_cons e_str (j_cons (e_fmtI (log_small (by decide) (by decide)) (gi k.many)) (j_cons e_str j_nil))))) ?_) a_nil) (by simp) fun σ H' _ R' => qe _ H' rfl R'
    decide +kernel
  · have hk : wholeD dm 2 5 = true := (Bool.not_eq_false' _).mp h
    rw [hk] at qn
    exact st_nil fun σ H _ R' => qn σ H rfl R'
/-! nothing -/
def gNothing (rs : List Sl) (o : Out) : Prop := ∃ m : Nat, rs = [.dat (.int m)] ∧ 2 ≤ m ∧ m ≤ 5 ∧ o = .ok (.dat (zerosD m))
theorem scNothing : FnScope ["many"] ["many"] (defScope sNothing) := ⟨rfl, rfl, rfl, by decide +kernel, rfl, by decide +kernel, by decide +kernel⟩
theorem c_nothing (d : Def K mg "nothing" sNothing ["many"]) : Cal P w K mg base "nothing" 1 (DV.spS K gNothing) := by
  refine d.cal scNothing (fun rs o ⟨_, e, _⟩ => by rw [e]; rfl) ?_
  rintro rs o ⟨m, rfl, h2, h5, rfl⟩ f cdv A outer sh H E M R D hr g qr qn qe
  have e : (.tuple ((List.replicate ((m : Nat) : Int).toNat [PyData.int 0]).flatten) : PyData) = zerosD m := by
    rw [rep0, Int.toNat_natCast]
    rfl
  refine st_ret (r := .dat (zerosD m)) (by rw [← e]; exact e_repT g (by simp) (by omega) (by omega) (by simp) (e_tup g (ds := [.int 0]) (a_cons e_int a_nil) (by simp)) (v 0)) fun v H' R' sv => qr _ v H' rfl R' sv
/-! check_rules, of anything -/
def wordD (d : PyData) : Bool := (wordsL.map PyData.str).any fun e => PyData.eqv e d
def rulesB : PyData → Bool
  | .tuple ds => (decide ((1 : Int) ≤ ds.length) && decide ((ds.length : Int) ≤ 6)) && ds.all wordD
  | _ => false
theorem rulesB_ok {ws : List Str} (h : okRules ws) : rulesB (.tuple (ws.map .str)) = true := by
  obtain ⟨h1, h6, hw⟩ := h
  show ((decide ((1 : Int) ≤ (ws.map PyData.str).length) && decide (((ws.map PyData.str).length : Int) ≤ 6)) && (ws.map PyData.str).all wordD) = true
  rw [List.length_map, decide_eq_true (by omega), decide_eq_true (by omega), Bool.true_and, Bool.true_and, List.all_eq_true]
  intro x hx
  obtain ⟨y, hy, rfl⟩ := List.mem_map.mp hx
  exact words_any (hw y hy)
def layTop : PyData → Bool
  | .tuple ds => PyData.canLayAll0 ds
  | _ => true
theorem lay_get : ∀ {ds : List PyData} {i : Nat} {d : PyData}, PyData.canLayAll0 ds = true → ds[i]? = some d → d.canLay0 = true
  | [], _, _, _, h => by simp at h
  | x :: _, 0, d, h, e => by
    have e : some x = some d := e
    cases e
    exact (Bool.and_eq_true _ _ ▸ h : _ ∧ _).1
  | x :: t, i + 1, d, h, e => lay_get (ds := t) (i := i) (Bool.and_eq_true _ _ ▸ h : _ ∧ _).2 (by simpa using e)
def gChkA (C : Addr) (rs : List Sl) (o : Out) : Prop := ∃ d, rs = [.dat d] ∧ layTop d = true ∧ o = if rulesB d then .ok (.dat .none) else .er (.ref C)
theorem c_chkA {C : Addr} (B : Bl mg) (k : Gk mg) (n : DV.Exn K mg "BadRules" C) (W : WordsAt K mg) (d : Def K mg "check_rules" sChkRules ["rules"]) : Cal P w K mg base "check_rules" 1 (DV.spS K (gChkA C)) := by
  refine d.cal scChkR (fun rs o ⟨_, e, _⟩ => by rw [e]; rfl) ?_
  rintro rs o ⟨dr, rfl, hlay, rfl⟩ f cdv A outer sh H E M R D hr g qr qn qe
  obtain ⟨Wd, hW, dW⟩ := W
  cases dr with
  | tuple ds =>
    refine st_if (k := (!true) || !(decide ((1 : Int) ≤ ds.length) && decide ((ds.length : Int) ≤ 6))) (s1 := ()) (t_w (w_or (t_not (t_val (isi boot_tuple B.isi B.tuple (kit_tuple (.tuple ds)) (v 0)))) fun _ => w_or1 (t_not (t_chain op_le op_le e_int (e_lenT (by rfl) B.len (a1 (v 0))) (gi k.most))))) (fun h => ?_) (fun h => st_thru ?_)
    · have hb : rulesB (.tuple ds) = false := by
        have h : (!(decide ((1 : Int) ≤ ds.length) && decide ((ds.length : Int) ≤ 6))) = true := h
        rw [Bool.not_eq_true'] at h
        show (_ && _) = false
        rw [h]; rfl
      rw [hb] at qe
      exact st_raise rfl n (takes_of rfl rfl rfl rfl) (by rfl) (a_cons e_str a_nil) (by simp) fun σ H' _ R' => qe _ H' rfl R'
    · have hlen : (decide ((1 : Int) ≤ ds.length) && decide ((ds.length : Int) ≤ 6)) = true := by
        have h : (!(decide ((1 : Int) ≤ ds.length) && decide ((ds.length : Int) ≤ 6))) = false := h
        rw [Bool.not_eq_false'] at h
        exact h
      refine st_for g (fun i ρ' _ => (∃ r, ρ' = [.dat (.tuple ds), r]) ∧ ∀ j, j < i → ∀ x, ds[j]? = some x → wordD x = true) (passes_of rfl) rfl (pg_name (i := 1) scChkR.nd rfl (Or.inl rfl)) (i_tup (v 0)) ⟨⟨_, rfl⟩, fun j hj => absurd hj (Nat.not_lt_zero _)⟩ (fun i ρi si H1 hi hJ g1 => ?_) (fun ρ' s' hJ => ?_)
      · obtain ⟨⟨r, rfl⟩, hw⟩ := hJ
        have hd : ds[i]? = some ds[i] := List.getElem?_eq_getElem hi
        refine ⟨_, tg0_name, fun N hN => ?_⟩
        rw [itD_lt hd]
        refine st_if (s1 := si) (k := !wordD ds[i]) (t_ninTD (d := ds[i]) (ds := wordsL.map .str) hr.units (v 1) (e_glob (v := .ref Wd) (by rfl) hW rfl dW) (lay_get hlay hd) (by decide +kernel) (by decide +kernel)) (fun h => ?_) (fun h => st_thru (st_nil fun σ H hσ hR => hN σ H _ _ ⟨⟨_, rfl⟩, ?_⟩ hσ hR))
        · have hb : rulesB (.tuple ds) = false := by
            show (_ && ds.all wordD) = false
            rw [Bool.and_eq_false_iff]
            right
            rw [List.all_eq_false]
            exact ⟨_, List.getElem_mem hi, by rw [(Bool.not_eq_true' _).mp h]; exact Bool.false_ne_true⟩
          rw [hb] at qe
          exact st_raise rfl n (takes_of rfl rfl rfl rfl) (by rfl) (a_cons e_str a_nil) (by simp) fun σ H' _ R' => qe _ H' rfl R'.1
        · intro j hj x hx
          by_cases z : j = i
          · subst z
            rw [hd] at hx
            cases hx
            exact (Bool.not_eq_false' _).mp h
          · exact hw j (by omega) x hx
      · obtain ⟨⟨r, rfl⟩, hw⟩ := hJ
        have hb : rulesB (.tuple ds) = true := by
          show (_ && ds.all wordD) = true
          rw [hlen, Bool.true_and, List.all_eq_true]
          intro x hx
          obtain ⟨j, hj⟩ := List.mem_iff_getElem?.mp hx
          have hl : j < ds.length := by
            by_cases z : j < ds.length
            · exact z
            · rw [List.getElem?_eq_none (by omega)] at hj; cases hj
          exact hw j hl x hj
        rw [hb] at qn
        exact st_nil fun σ H _ R' => qn σ H rfl R'
  | _ =>
    refine st_if (k := true) (s1 := ()) (t_w (w_orT (t_not (k := false) (t_val (isi boot_tuple B.isi B.tuple (kit_tuple _) (v 0)))))) (fun h => ?_) (fun h => by cases h)
    exact st_raise rfl n (takes_of rfl rfl rfl rfl) (by rfl) (a_cons e_str a_nil) (by simp) fun σ H' _ R' => qe _ H' rfl R'
end
end K04
namespace DV
open PySem PySem.Spec L2 Evl LamX NdefX
open PyProof.Rows hiding St cutD
/-! ### a site -/
structure Ad where
  x : Addr
  dx : Addr
  l : Addr
  wt : Addr
  kn : Addr
  hd : Addr
def Ad.m (a : Ad) : List Addr := [a.x, a.dx, a.l, a.wt, a.kn, a.hd]
structure SD where
  num : Int
  many : Nat
  rules : List Str
  now : Int
  log : List PyData
  app : List Int
  turn : Int
  waits : List (List L2.Key × PyData)
  known : List (L2.Key × PyData)
  heard : List (L2.Key × PyData)
def sF (ad : Ad) (S : SD) : List (Str × Sl) := [("_number", .dat (.int S.num)), ("_many", .dat (.int S.many)), ("_rules", .dat (.tuple (S.rules.map .str))), ("_now", .dat (.int S.now)), ("_log", .raw (.ref ad.l)),
  ("_applied", .dat (.tuple (dI S.app))), ("_turn", .dat (.int S.turn)), ("_waits", .raw (.ref ad.wt)), ("_known", .raw (.ref ad.kn)), ("_heard_at", .raw (.ref ad.hd))]
structure SiteAt (K : PySem.W.Frag) (C : Addr) (M : List Addr) (ad : Ad) (S : SD) (H : Hp) : Prop where
  own : H ad.dx = some (.own ad.x)
  ins : ∃ vs, H ad.x = some (.ins C ad.dx vs) ∧ TFs K (cut M H) (sF ad S) vs
  log : ∃ xs, H ad.l = some (.lst xs) ∧ DvAll K (cut M H) xs S.log
  wt : ∃ kvs, H ad.wt = some (.dT kvs) ∧ DkT K (cut M H) kvs S.waits
  kn : ∃ kvs, H ad.kn = some (.dK kvs) ∧ DkT K (cut M H) kvs S.known
  hd : ∃ kvs, H ad.hd = some (.dK kvs) ∧ DkT K (cut M H) kvs S.heard
  ne : ad.kn ≠ ad.hd
section
variable {K : PySem.W.Frag} {C : Addr} {M : List Addr} {ad : Ad} {S : SD} {H H' : Hp}
theorem SiteAt.up (h : SiteAt K C M ad S H) (e : Ex H H') : SiteAt K C M ad S H' := by
  obtain ⟨h1, ⟨vs, h2, h2'⟩, ⟨xs, h3, h3'⟩, ⟨k1, h4, h4'⟩, ⟨k2, h5, h5'⟩, ⟨k3, h6, h6'⟩, hne⟩ := h
  exact ⟨e _ _ h1, ⟨vs, e _ _ h2, h2'.ex (exCut e)⟩, ⟨xs, e _ _ h3, dpa_ex (exCut e) _ _ h3'⟩, ⟨k1, e _ _ h4, h4'.ex (exCut e)⟩, ⟨k2, e _ _ h5, h5'.ex (exCut e)⟩, ⟨k3, e _ _ h6, h6'.ex (exCut e)⟩, hne⟩
theorem SiteAt.dom (h : SiteAt K C M ad S H) {a : Addr} (m : a ∈ ad.m) : ∃ o, H a = some o := by
  obtain ⟨h1, ⟨vs, h2, h2'⟩, ⟨xs, h3, h3'⟩, ⟨k1, h4, h4'⟩, ⟨k2, h5, h5'⟩, ⟨k3, h6, h6'⟩, hne⟩ := h
  unfold Ad.m at m
  simp only [List.mem_cons, List.not_mem_nil, or_false] at m
  rcases m with rfl | rfl | rfl | rfl | rfl | rfl
  · exact ⟨_, h2⟩
  · exact ⟨_, h1⟩
  · exact ⟨_, h3⟩
  · exact ⟨_, h4⟩
  · exact ⟨_, h5⟩
  · exact ⟨_, h6⟩
/-- told of another heap where what is told is alike -/
theorem SiteAt.to {M' : List Addr} (h : SiteAt K C M ad S H) (e : ∀ a ∈ ad.m, ∀ o, H a = some o → H' a = some o) (ec : Ex (cut M H) (cut M' H')) : SiteAt K C M' ad S H' := by
  obtain ⟨h1, ⟨vs, h2, h2'⟩, ⟨xs, h3, h3'⟩, ⟨k1, h4, h4'⟩, ⟨k2, h5, h5'⟩, ⟨k3, h6, h6'⟩, hne⟩ := h
  unfold Ad.m at e
  simp only [List.mem_cons, List.not_mem_nil, or_false, forall_eq_or_imp, forall_eq] at e
  obtain ⟨e1, e2, e3, e4, e5, e6⟩ := e
  exact ⟨e2 _ h1, ⟨vs, e1 _ h2, h2'.ex ec⟩, ⟨xs, e3 _ h3, dpa_ex ec _ _ h3'⟩, ⟨k1, e4 _ h4, h4'.ex ec⟩, ⟨k2, e5 _ h5, h5'.ex ec⟩, ⟨k3, e6 _ h6, h6'.ex ec⟩, hne⟩
end
/-- a method's own state -/
def SiteR (K : PySem.W.Frag) (C : Addr) (M : List Addr) (ad : Ad) (H0 : Hp) : SD → Hp → Prop := fun S H => SiteAt K C M ad S H ∧ Ex (cut ad.m H0) (cut ad.m H)
theorem SiteR.rg {K : PySem.W.Frag} {C : Addr} {M : List Addr} {ad : Ad} {H0 : Hp} (dom : ∀ a ∈ M, ∃ o, H0 a = some o) : Rg M (SiteR K C M ad H0) :=
  ⟨fun ⟨h, e⟩ x => ⟨h.up x, e.trans (exCut x)⟩, fun {s H a} ⟨h, e⟩ m => by
    by_cases z : a ∈ ad.m
    · exact h.dom z
    · obtain ⟨o, ho⟩ := dom a m
      have := e a o (by rw [cut_out z]; exact ho)
      rw [cut_out z] at this
      exact ⟨o, this⟩⟩
def FinM (K : PySem.W.Frag) (C : Addr) (M : List Addr) (ad : Ad) (S' : SD) (H : Hp) (Q : VK) (E : XK) : Out → Prop
  | .ok r => ∀ v H', Ex (cut ad.m H) (cut ad.m H') → SiteAt K C M ad S' H' → Sv K (cut M H') r v → Q v H'
  | .er c => ∀ H', Ex (cut ad.m H) (cut ad.m H') → SiteAt K C M ad S' H' → E c none H'
/-- what a method promises: S as it is ahead, S' behind -/
def spM (K : PySem.W.Frag) (C : Addr) (G : SD → List Sl → Out → SD → Prop) : Sp := fun vs H Q E => ∃ (M : List Addr) (ad : Ad) (S S' : SD) (rs : List Sl) (o : Out), (∀ a ∈ ad.m, a ∈ M) ∧ (∀ a ∈ M, ∃ o, H a = some o) ∧ SiteAt K C M ad S H ∧
  SvAll K (cut M H) (.raw (.ref ad.x) :: rs) vs ∧ G S rs o S' ∧ FinM K C M ad S' H Q E o
/-- a state that has a site -/
structure SiteIn {T : Type} (K : PySem.W.Frag) (C : Addr) (M : List Addr) (R : T → Hp → Prop) (ad : Ad) (get : T → SD) (put : T → SD → T) : Prop where
  sub : ∀ a ∈ ad.m, a ∈ M
  at_ : ∀ {s : T} {H : Hp}, R s H → SiteAt K C M ad (get s) H
  to : ∀ {s : T} {H H' : Hp} {S' : SD}, R s H → Ex (cut ad.m H) (cut ad.m H') → SiteAt K C M ad S' H' → R (put s S') H'
theorem ex_sub {M N : List Addr} {H H' : Hp} (h : ∀ a ∈ N, a ∈ M) (e : Ex (cut N H) (cut N H')) : Ex (cut M H) (cut M H') := fun a o q => by
  obtain ⟨n, q⟩ := cut_some q
  have n2 : a ∉ N := fun z => n (h a z)
  have := e a o (by rw [cut_out n2]; exact q)
  rw [cut_out n2] at this
  rw [cut_out n]
  exact this
theorem SiteIn.own {K : PySem.W.Frag} {C : Addr} {M : List Addr} {ad : Ad} {H0 : Hp} (sub : ∀ a ∈ ad.m, a ∈ M) : SiteIn K C M (SiteR K C M ad H0) ad id (fun _ S => S) :=
  ⟨sub, fun h => h.1, fun h e s => ⟨s, h.2.trans e⟩⟩
theorem SiteIn.rd {T : Type} {K : PySem.W.Frag} {C : Addr} {M : List Addr} {R : T → Hp → Prop} {ad : Ad} {get : T → SD} {put : T → SD → T} (h : SiteIn K C M R ad get put) (D : Addr) (acc : List V) : SiteIn K C (D :: M) (RD R D acc) ad get put := by
  have nD : ∀ {s H}, RD R D acc s H → ∀ a ∈ ad.m, a ≠ D := fun {s H} q a m z => by
    obtain ⟨o, ho⟩ := (h.at_ q.1).dom m
    rw [z, rem_self] at ho
    cases ho
  refine ⟨fun a m => List.mem_cons_of_mem _ (h.sub a m), fun {s H} q => (h.at_ q.1).to (fun a m o e => (rem_some e).2) (by rw [cut_rem]; exact exId _), fun {s H H' S'} q e st => ?_⟩
  have nm : D ∉ ad.m := fun m => nD q D m rfl
  refine ⟨h.to q.1 (fun a o ha => ?_) (st.to (fun a m o e => by rw [rem_ne (nD q a m)]; exact e) (by rw [cut_rem]; exact exId _)), ?_⟩
  · obtain ⟨n, ha⟩ := cut_some ha
    obtain ⟨z, ha⟩ := rem_some ha
    have := e a o (by rw [cut_out n]; exact ha)
    rw [cut_out n] at this ⊢
    rw [rem_ne z]
    exact this
  · have := e D _ (by rw [cut_out nm]; exact q.2)
    rw [cut_out nm] at this
    exact this
theorem SiteIn.rx {T : Type} {K : PySem.W.Frag} {C : Addr} {M : List Addr} {R : T → Hp → Prop} {ad : Ad} {get : T → SD} {put : T → SD → T} (h : SiteIn K C M R ad get put) (H1 : Hp) : SiteIn K C M (RX R M H1) ad get put :=
  ⟨h.sub, fun q => h.at_ q.1, fun q e st => ⟨h.to q.1 e st, q.2.trans (ex_sub h.sub e)⟩⟩
section
variable {T : Type} {X : Cx} {M : List Addr} {R : T → Hp → Prop} {ρ : List Sl} {s s1 s2 s3 : T} {o e : Expr} {es : List Expr} {kws : List Keyword} {x m f : Str} {pos apos ppos : Pos} {rs zs : List Sl} {C : Addr} {n j k : Nat} {ks : List Str} {gV : List V → List V → List V} {E : XK} {ad : Ad} {get : T → SD} {put : T → SD → T} {G : SD → List Sl → Out → SD → Prop}
/-- o.f of a site -/
theorem e_sF {r : Sl} (I : SiteIn X.K C M R ad get put) (c : Cls X.K C) (na : NoAttr X.K C f) (ho : Ev1 X M R ρ o s (.raw (.ref ad.x)) s1) (h : (sF ad (get s1)).lookup f = some r)
    (hb : attributeBase o f X.env (eval o X.env) = eval o X.env := by rfl) : Ev1 X M R ρ (.Attribute o f pos) s r s1 :=
  e_fld c na ho (fun H hR => by
    obtain ⟨vs, h1, h2⟩ := (I.at_ hR).ins
    obtain ⟨v, h3, h4⟩ := h2.look h
    exact ⟨ad.dx, vs, v, h1, h3, h4⟩) hb
/-- o.f = e: a field that is no object of the site's own -/
theorem st_sF {r : Sl} {rest : List Stmt} {D : Ends} {S' : SD} (I : SiteIn X.K C M R ad get put) (c : Cls X.K C) (na : NoAttr X.K C f) (he : Ev1 X M R ρ e s r s1) (ho : Ev1 X M R ρ o s1 (.raw (.ref ad.x)) s2) (hS : putT f r (sF ad (get s2)) = sF ad S') (hd : S'.log = (get s2).log ∧ S'.waits = (get s2).waits ∧ S'.known = (get s2).known ∧ S'.heard = (get s2).heard)
    (hne : ∀ H, SiteAt X.K C M ad (get s2) H → ad.x ≠ ad.dx ∧ ad.x ≠ ad.l ∧ ad.x ≠ ad.wt ∧ ad.x ≠ ad.kn ∧ ad.x ≠ ad.hd)
    (k : St1 X M R ρ rest (put s2 S') D) (hs : swapsWith e (some (.Attribute o f ppos)) pos.line X.env = pure false := by rfl) : St1 X M R ρ (.Assign [.Attribute o f ppos] e pos :: rest) s D := by
  have mx : ad.x ∈ M := I.sub _ (by unfold Ad.m; exact List.mem_cons_self)
  refine st_fld (a := ad.x) (r := r) (s3 := put s2 S') c na he ho mx (fun H v hR hv => ?_) k hs
  have sa := I.at_ hR
  obtain ⟨n1, n2, n3, n4, n5⟩ := hne H sa
  obtain ⟨h1, ⟨vs, h2, h2'⟩, ⟨xs, h3, h3'⟩, ⟨k1, h4, h4'⟩, ⟨k2, h5, h5'⟩, ⟨k3, h6, h6'⟩, hnk⟩ := sa
  have hc : cut M (upd H ad.x (.ins C ad.dx (putF f v vs))) = cut M H := cut_upd_in mx
  refine ⟨ad.dx, vs, h2, by rw [h2'.len]; show 10 < 1000; decide, I.to hR (fun a u ha => ?_) ⟨?_, ⟨_, upd_same, ?_⟩, ⟨xs, ?_, ?_⟩, ⟨k1, ?_, ?_⟩, ⟨k2, ?_, ?_⟩, ⟨k3, ?_, ?_⟩, hnk⟩⟩
  · obtain ⟨n, ha⟩ := cut_some ha
    rw [cut_out n, upd_ne fun z => n (by rw [z]; unfold Ad.m; exact List.mem_cons_self)]
    exact ha
  · rw [upd_ne (Ne.symm n1)]; exact h1
  · rw [hc, ← hS]; exact h2'.put hv
  · rw [upd_ne (Ne.symm n2)]; exact h3
  · rw [hc, hd.1]; exact h3'
  · rw [upd_ne (Ne.symm n3)]; exact h4
  · rw [hc, hd.2.1]; exact h4'
  · rw [upd_ne (Ne.symm n4)]; exact h5
  · rw [hc, hd.2.2.1]; exact h5'
  · rw [upd_ne (Ne.symm n5)]; exact h6
  · rw [hc, hd.2.2.2]; exact h6'
theorem SiteAt.nex {K : PySem.W.Frag} {C : Addr} {M : List Addr} {ad : Ad} {S : SD} {H : Hp} (h : SiteAt K C M ad S H) : ad.x ≠ ad.dx ∧ ad.x ≠ ad.l ∧ ad.x ≠ ad.wt ∧ ad.x ≠ ad.kn ∧ ad.x ≠ ad.hd := by
  obtain ⟨h1, ⟨vs, h2, h2'⟩, ⟨xs, h3, h3'⟩, ⟨k1, h4, h4'⟩, ⟨k2, h5, h5'⟩, ⟨k3, h6, h6'⟩, hne⟩ := h
  refine ⟨fun z => ?_, fun z => ?_, fun z => ?_, fun z => ?_, fun z => ?_⟩
  · rw [z, h1] at h2; cases h2
  · rw [z, h3] at h2; cases h2
  · rw [z, h4] at h2; cases h2
  · rw [z, h5] at h2; cases h2
  · rw [z, h6] at h2; cases h2
/-- a method called -/
theorem w_sM {σ : St} {H : Hp} {Q : VK} {S' : SD} {u : Out} (g : Rg M R) (I : SiteIn X.K C M R ad get put) (c : Mth X.prog X.w X.K X.mg X.base C m n ks gV k (spM X.K C G)) (hr : Room j X.A) (hk : k ≤ j) (hx : Passes (L2.CX X.prog X.w) X E) (ho : Ev1 X M R ρ o s (.raw (.ref ad.x)) s1) (ha : EvA1 X M R ρ (e :: es) s1 rs s2) (hkw : EvK1 X M R ρ kws s2 zs s3) (hσ : Slots X.K (cut M H) σ ρ) (hR : R s H)
    (ln : rs.length = n) (lk : zs.length = ks.length) {rv : List Sl} (hrv : ∀ (H' : Hp) (vs us : List V), SvAll X.K H' rs vs → SvAll X.K H' zs us → SvAll X.K H' (.raw (.ref ad.x) :: rv) (gV (.ref ad.x :: vs) us)) (hG : G (get s3) rv u S') (hna : (sF ad (get s1)).lookup m = none)
    (h : ∀ r v H', u = .ok r → Ex (cut M H) (cut M H') → R (put s3 S') H' → Sv X.K (cut M H') r v → Q v H') (hE : ∀ cl H', u = .er cl → Ex (cut M H) (cut M H') → R (put s3 S') H' → E cl none H')
    (hall : (backToKw pos (keywordEach kws X.env)).all (·.1.isSome) = true := by rfl) (hks : (backToKw pos (keywordEach kws X.env)).filterMap (·.1) = ks := by rfl)
    (hst : starEach (e :: es) X.env = (false, eval e X.env) :: starEach es X.env := by rfl) (hpl : ((backTo pos (starEach (e :: es) X.env)).any (·.1) || (backToKw pos (keywordEach kws X.env)).any (·.1.isNone)) = false := by rfl) {pl : Sem Bool}
    (ht : eval (.Call (.Attribute o m apos) (e :: es) kws pos) X.env = (do
      let ov ← eval o X.env
      standAt apos.atName
      let (f, first) ← holding [ov] (getMethod ov m pl)
      callWith pos f first (backTo pos (starEach (e :: es) X.env)) (backToKw pos (keywordEach kws X.env))) := by rfl) : wE X (.Call (.Attribute o m apos) (e :: es) kws pos) σ H Q := by
  refine w_meth (pl := pl) c hr hk hx ho (fun H' hR' => ?_) ha hkw hσ hR ln lk (fun vs us H1 e1 d1 d2 R1 => ?_) hall hks hst hpl ht
  · obtain ⟨vs, h1, h2⟩ := (I.at_ hR').ins
    exact ⟨ad.dx, vs, h1, h2.look_none hna⟩
  · refine ⟨M, ad, get s3, S', rv, u, I.sub, fun a m => g.dom R1 m, I.at_ R1, hrv _ _ _ d1 d2, hG, ?_⟩
    cases u with
    | ok r => exact fun v H' e2 sa sv => h r v H' rfl (e1.trans (ex_sub I.sub e2)) (I.to R1 e2 sa) sv
    | er cl => exact fun H' e2 sa => hE cl H' rfl (e1.trans (ex_sub I.sub e2)) (I.to R1 e2 sa)
end
end DV
namespace DV
open PySem PySem.Spec L2 Evl LamX NdefX
open PyProof.Rows hiding St cutD
/-! ### methods of the text -/
structure MD (K : PySem.W.Frag) (C : Addr) (m qual : Str) (st : Stmt) (ps : List Str) : Prop where
  ex : ∃ (f : Addr) (fd : FuncData), L2.Fun K m qual st f fd ∧ Meth K C m f ∧ Binds K fd ps []
  cls : Cls K C
structure MI (K : PySem.W.Frag) (mg : Str → Option Value) (x : Str) (C : Addr) (qual : Str) (st : Stmt) (ps : List Str) : Prop where
  ex : ∃ (f : Addr) (fd : FuncData), L2.Fun K "__init__" qual st f fd ∧ Mk K C f ∧ Binds K fd ps []
  gC : mg x = some (.ref C)
/-- with names after the star, all of them with defaults -/
structure MK (K : PySem.W.Frag) (C : Addr) (m qual : Str) (st : Stmt) (ps : List Str) (n : Nat) (ks : List Str) (gV : List V → List V → List V) : Prop where
  ex : ∃ (f : Addr) (fd : FuncData) (kws : List (Str × V)) (g : List Value → List Value → List Value), FunD K m qual (defArgs st) (defBody st) (defScope st) [] kws f fd ∧ Meth K C m f ∧ KBn K fd ps (n + 1) ks g gV
  cls : Cls K C
section
variable {P : Program} {w : World} {K : PySem.W.Frag} {mg : Str → Option Value} {base : Heap} {C : Addr} {m qual : Str} {st : Stmt} {ps N : List Str} {k n : Nat} {sp : Sp}
theorem kbn_cast {fd : FuncData} {n n' : Nat} {ks : List Str} {g : List Value → List Value → List Value} {gV : List V → List V → List V} (h : KBn K fd ps n ks g gV) (e : n = n') : KBn K fd ps n' ks g gV := e ▸ h
theorem MD.mthW (d : MD K C m qual st ps) (S : FnScope N ps (defScope st)) (hn : ps.length = n + 1) (len : ∀ vs H Q E, sp vs H Q E → vs.length = ps.length)
    (hb : ∀ (f : Addr) (cdv : Value) (A : Around) (outer : List Env) (sh : Shared) (H : Hp) (vs : List V) (Q : VK) (E : XK), Room k (A.deeper (envOfC qual (defScope st) sh.heap.objs.size f cdv)) → sp vs H Q E →
      wB (dx P w K mg base N qual st f cdv A outer sh H E) (defBody st) { nx := fun _ H' => Q .non H', rt := Q } (L2.start N vs) H) : Mth P w K mg base C m n [] (fun us _ => us) (k + 1) sp := by
  obtain ⟨f, fd, F, hm, b⟩ := d.ex
  exact ⟨⟨f, fd, ps, _, F.okX S len fun cdv A outer s H vs Q E hr h => ⟨_, pss_w, hb f cdv A outer s H vs Q E hr h⟩, hm, kbn_cast (kbn_of b) hn⟩, d.cls⟩
theorem MI.mkW {x : Str} (d : MI K mg x C qual st ps) (S : FnScope N ps (defScope st)) (hn : ps.length = n + 1) (len : ∀ vs H Q E, sp vs H Q E → vs.length = ps.length)
    (hb : ∀ (f : Addr) (cdv : Value) (A : Around) (outer : List Env) (sh : Shared) (H : Hp) (vs : List V) (Q : VK) (E : XK), Room k (A.deeper (envOfC qual (defScope st) sh.heap.objs.size f cdv)) → sp vs H Q E →
      wB (dx P w K mg base N qual st f cdv A outer sh H E) (defBody st) { nx := fun _ H' => Q .non H', rt := Q } (L2.start N vs) H) : Mkr P w K mg base x C n [] (fun us _ => us) (k + 1) sp := by
  obtain ⟨f, fd, F, hm, b⟩ := d.ex
  exact ⟨⟨f, fd, ps, _, F.okX S len fun cdv A outer s H vs Q E hr h => ⟨_, pss_w, hb f cdv A outer s H vs Q E hr h⟩, hm, kbn_cast (kbn_of b) hn⟩, d.gC⟩
theorem MK.mthW {ks : List Str} {gV : List V → List V → List V} (d : MK K C m qual st ps n ks gV) (S : FnScope N ps (defScope st)) (len : ∀ vs H Q E, sp vs H Q E → vs.length = ps.length)
    (hb : ∀ (f : Addr) (cdv : Value) (A : Around) (outer : List Env) (sh : Shared) (H : Hp) (vs : List V) (Q : VK) (E : XK), Room k (A.deeper (envOfC qual (defScope st) sh.heap.objs.size f cdv)) → sp vs H Q E →
      wB (dx P w K mg base N qual st f cdv A outer sh H E) (defBody st) { nx := fun _ H' => Q .non H', rt := Q } (L2.start N vs) H) : Mth P w K mg base C m n ks gV (k + 1) sp := by
  obtain ⟨f, fd, kws, g, F, hm, b⟩ := d.ex
  exact ⟨⟨f, fd, ps, g, F.ok S len fun cdv A outer s H vs Q E hr h => ⟨_, pss_w, hb f cdv A outer s H vs Q E hr h⟩, hm, b⟩, d.cls⟩
/-- what a method's body is to show -/
def BodyM (P : Program) (w : World) (K : PySem.W.Frag) (mg : Str → Option Value) (base : Heap) (C : Addr) (N : List Str) (x : Str) (st : Stmt) (k : Nat) (S : SD) (rs : List Sl) (o : Out) (S' : SD) : Prop :=
  ∀ (f : Addr) (cdv : Value) (A : Around) (outer : List Env) (sh : Shared) (H : Hp) (E : XK) (M : List Addr) (ad : Ad) (R : SD → Hp → Prop) (D : Ends), Room k (A.deeper (envOfC x (defScope st) sh.heap.objs.size f cdv)) → Rg M R → SiteIn K C M R ad id (fun _ S => S) →
    (∀ r v H', o = .ok r → R S' H' → Sv K (cut M H') r v → D.rt v H') → (∀ σ H', o = .ok (.dat .none) → R S' H' → D.nx σ H') → (∀ c H', o = .er c → R S' H' → E c none H') →
    St1 (dx P w K mg base N x st f cdv A outer sh H E) M R (ini N (.raw (.ref ad.x) :: rs)) (defBody st) S D
theorem spM_body {G : SD → List Sl → Out → SD → Prop} (hb : ∀ S rs o S', G S rs o S' → BodyM P w K mg base C N qual st k S rs o S') (f : Addr) (cdv : Value) (A : Around) (outer : List Env) (sh : Shared) (H : Hp) (vs : List V) (Q : VK) (E : XK) (hr : Room k (A.deeper (envOfC qual (defScope st) sh.heap.objs.size f cdv)))
    (h : spM K C G vs H Q E) : wB (dx P w K mg base N qual st f cdv A outer sh H E) (defBody st) { nx := fun _ H' => Q .non H', rt := Q } (L2.start N vs) H := by
  obtain ⟨M, ad, S, S', rs, o, sub, dom, sa, sv, g, q⟩ := h
  refine hb S rs o S' g f cdv A outer sh H E M ad (SiteR K C M ad H) _ hr (SiteR.rg dom) (SiteIn.own sub) ?_ ?_ ?_ _ H (slots_ini sv) ⟨sa, exId _⟩
  · intro r v H' e h sv'
    subst e
    exact q v H' h.2 h.1 sv'
  · intro σ H' e h
    subst e
    exact q .non H' h.2 h.1 .non
  · intro c H' e h
    subst e
    exact q H' h.2 h.1
theorem spM_len {G : SD → List Sl → Out → SD → Prop} {j : Nat} (len : ∀ S rs o S', G S rs o S' → rs.length = j) {vs : List V} {H : Hp} {Q : VK} {E : XK} (h : spM K C G vs H Q E) : vs.length = j + 1 := by
  obtain ⟨M, ad, S, S', rs, o, sub, dom, sa, sv, g, q⟩ := h
  rw [sv.len, List.length_cons, len _ _ _ _ g]
theorem MD.mth {G : SD → List Sl → Out → SD → Prop} (d : MD K C m qual st ps) (S : FnScope N ps (defScope st)) (hn : ps.length = n + 1) (len : ∀ S rs o S', G S rs o S' → rs.length = n) (hb : ∀ S rs o S', G S rs o S' → BodyM P w K mg base C N qual st k S rs o S') : Mth P w K mg base C m n [] (fun us _ => us) (k + 1) (spM K C G) :=
  d.mthW S hn (fun vs H Q E h => by rw [spM_len len h, hn]) (spM_body hb)
theorem MK.mth {ks : List Str} {gV : List V → List V → List V} {G : SD → List Sl → Out → SD → Prop} {j : Nat} (d : MK K C m qual st ps n ks gV) (S : FnScope N ps (defScope st)) (hn : ps.length = j + 1) (len : ∀ S rs o S', G S rs o S' → rs.length = j) (hb : ∀ S rs o S', G S rs o S' → BodyM P w K mg base C N qual st k S rs o S') : Mth P w K mg base C m n ks gV (k + 1) (spM K C G) :=
  d.mthW S (fun vs H Q E h => by rw [spM_len len h, hn]) (spM_body hb)
end
section
variable {T : Type} {X : Cx} {M : List Addr} {R : T → Hp → Prop} {ρ : List Sl} {s s1 s2 s3 : T} {o e : Expr} {es : List Expr} {kws : List Keyword} {x m f : Str} {pos apos ppos : Pos} {rs zs : List Sl} {C : Addr} {n j k : Nat} {ks : List Str} {gV : List V → List V → List V} {E : XK} {ad : Ad} {get : T → SD} {put : T → SD → T} {G : SD → List Sl → Out → SD → Prop}
theorem w_sM0 {σ : St} {H : Hp} {Q : VK} {S' : SD} {u : Out} (g : Rg M R) (I : SiteIn X.K C M R ad get put) (c : Mth X.prog X.w X.K X.mg X.base C m 0 [] gV k (spM X.K C G)) (hr : Room j X.A) (hk : k ≤ j) (hx : Passes (L2.CX X.prog X.w) X E) (ho : Ev1 X M R ρ o s (.raw (.ref ad.x)) s1) (hσ : Slots X.K (cut M H) σ ρ) (hR : R s H)
    (hgv : gV [.ref ad.x] [] = [.ref ad.x]) (hG : G (get s1) [] u S') (hna : (sF ad (get s1)).lookup m = none)
    (h : ∀ r v H', u = .ok r → Ex (cut M H) (cut M H') → R (put s1 S') H' → Sv X.K (cut M H') r v → Q v H') (hE : ∀ cl H', u = .er cl → Ex (cut M H) (cut M H') → R (put s1 S') H' → E cl none H') {pl : Sem Bool}
    (ht : eval (.Call (.Attribute o m apos) [] [] pos) X.env = (do
      let ov ← eval o X.env
      standAt apos.atName
      let (f, first) ← holding [ov] (getMethod ov m pl)
      callWith pos f first (backTo pos (starEach [] X.env)) (backToKw pos (keywordEach [] X.env))) := by rfl) : wE X (.Call (.Attribute o m apos) [] [] pos) σ H Q := by
  refine w_meth0 (pl := pl) c hr hk hx ho (fun H' hR' => ?_) hσ hR (fun H1 e1 R1 => ?_) ht
  · obtain ⟨vs, h1, h2⟩ := (I.at_ hR').ins
    exact ⟨ad.dx, vs, h1, h2.look_none hna⟩
  · refine ⟨M, ad, get s1, S', [], u, I.sub, fun a m => g.dom R1 m, I.at_ R1, ?_, hG, ?_⟩
    · rw [hgv]; exact ⟨rfl, trivial⟩
    cases u with
    | ok r => exact fun v H' e2 sa sv => h r v H' rfl (e1.trans (ex_sub I.sub e2)) (I.to R1 e2 sa) sv
    | er cl => exact fun H' e2 sa => hE cl H' rfl (e1.trans (ex_sub I.sub e2)) (I.to R1 e2 sa)
theorem passL' {X : Cx} : Passes (L2.CX X.prog X.w) X fun _ _ _ => False := passL
/-- .. that raises nothing -/
theorem e_sM {r : Sl} {S' : SD} (g : Rg M R) (I : SiteIn X.K C M R ad get put) (c : Mth X.prog X.w X.K X.mg X.base C m n ks gV k (spM X.K C G)) (hr : Room j X.A) (hk : k ≤ j) (ho : Ev1 X M R ρ o s (.raw (.ref ad.x)) s1) (ha : EvA1 X M R ρ (e :: es) s1 rs s2) (hkw : EvK1 X M R ρ kws s2 zs s3)
    (ln : rs.length = n) (lk : zs.length = ks.length) {rv : List Sl} (hrv : ∀ (H' : Hp) (vs us : List V), SvAll X.K H' rs vs → SvAll X.K H' zs us → SvAll X.K H' (.raw (.ref ad.x) :: rv) (gV (.ref ad.x :: vs) us)) (hG : G (get s3) rv (.ok r) S') (hna : (sF ad (get s1)).lookup m = none)
    (hall : (backToKw pos (keywordEach kws X.env)).all (·.1.isSome) = true := by rfl) (hks : (backToKw pos (keywordEach kws X.env)).filterMap (·.1) = ks := by rfl)
    (hst : starEach (e :: es) X.env = (false, eval e X.env) :: starEach es X.env := by rfl) (hpl : ((backTo pos (starEach (e :: es) X.env)).any (·.1) || (backToKw pos (keywordEach kws X.env)).any (·.1.isNone)) = false := by rfl) {pl : Sem Bool}
    (ht : eval (.Call (.Attribute o m apos) (e :: es) kws pos) X.env = (do
      let ov ← eval o X.env
      standAt apos.atName
      let (f, first) ← holding [ov] (getMethod ov m pl)
      callWith pos f first (backTo pos (starEach (e :: es) X.env)) (backToKw pos (keywordEach kws X.env))) := by rfl) : Ev1 X M R ρ (.Call (.Attribute o m apos) (e :: es) kws pos) s r (put s3 S') := fun σ H Q hσ hR q =>
  w_sM (pl := pl) g I c hr hk passL ho ha hkw hσ hR ln lk hrv hG hna (fun r' v H' e2 e3 R3 sv => by cases e2; exact q v H' e3 R3 sv) (fun cl H' e2 => by cases e2) hall hks hst hpl ht
theorem e_sM0 {r : Sl} {S' : SD} (g : Rg M R) (I : SiteIn X.K C M R ad get put) (c : Mth X.prog X.w X.K X.mg X.base C m 0 [] gV k (spM X.K C G)) (hr : Room j X.A) (hk : k ≤ j) (ho : Ev1 X M R ρ o s (.raw (.ref ad.x)) s1) (hgv : gV [.ref ad.x] [] = [.ref ad.x]) (hG : G (get s1) [] (.ok r) S') (hna : (sF ad (get s1)).lookup m = none) {pl : Sem Bool}
    (ht : eval (.Call (.Attribute o m apos) [] [] pos) X.env = (do
      let ov ← eval o X.env
      standAt apos.atName
      let (f, first) ← holding [ov] (getMethod ov m pl)
      callWith pos f first (backTo pos (starEach [] X.env)) (backToKw pos (keywordEach [] X.env))) := by rfl) : Ev1 X M R ρ (.Call (.Attribute o m apos) [] [] pos) s r (put s1 S') := fun σ H Q hσ hR q =>
  w_sM0 (pl := pl) g I c hr hk passL ho hσ hR hgv hG hna (fun r' v H' e2 e3 R3 sv => by cases e2; exact q v H' e3 R3 sv) (fun cl H' e2 => by cases e2) ht
end
/-! ### a state and a site beside it -/
def RS {T : Type} (K : PySem.W.Frag) (C : Addr) (M : List Addr) (R : T → Hp → Prop) (ad : Ad) : T × SD → Hp → Prop := fun s H => R s.1 (cut ad.m H) ∧ SiteAt K C (ad.m ++ M) ad s.2 H
theorem RS.rg {T : Type} {K : PySem.W.Frag} {C : Addr} {M : List Addr} {R : T → Hp → Prop} {ad : Ad} (g : Rg M R) : Rg (ad.m ++ M) (RS K C M R ad) :=
  ⟨fun ⟨h, d⟩ e => ⟨g.up h (exCut e), d.up e⟩, fun ⟨h, d⟩ m => by
    rcases List.mem_append.mp m with m | m
    · exact d.dom m
    · obtain ⟨o, q⟩ := g.dom h m
      exact ⟨o, (cut_some q).2⟩⟩
theorem RS.site {T : Type} {K : PySem.W.Frag} {C : Addr} {M : List Addr} {R : T → Hp → Prop} {ad : Ad} (g : Rg M R) : SiteIn K C (ad.m ++ M) (RS K C M R ad) ad (·.2) (fun s S => (s.1, S)) :=
  ⟨fun a m => List.mem_append_left _ m, fun h => h.2, fun h e sa => ⟨g.up h.1 e, sa⟩⟩
/-- forgotten -/
theorem RS.drop {T : Type} {K : PySem.W.Frag} {C : Addr} {M : List Addr} {R : T → Hp → Prop} {ad : Ad} (g : Rg M R) {s : T × SD} {H : Hp} (h : RS K C M R ad s H) : R s.1 H := g.up h.1 ex_cut
theorem BoxIn.rs {T : Type} {K : PySem.W.Frag} {C : Addr} {M : List Addr} {R : T → Hp → Prop} {ad : Ad} {b l : Addr} {get : T → Bx} {put : T → Bx → T} (h : BoxIn M R b l get put) : BoxIn (ad.m ++ M) (RS K C M R ad) b l (fun s => get s.1) (fun s t => (put s.1 t, s.2)) := by
  refine ⟨List.mem_append_right _ h.mb, List.mem_append_right _ h.ml, fun ⟨q, _⟩ => (h.at_ q).ex ex_cut, fun {s H H' st} ⟨q, sa⟩ e bx => ?_⟩
  have b0 := h.at_ q
  have nb : b ∉ ad.m := (cut_some b0.1).1
  have nl : l ∉ ad.m := (cut_some b0.2).1
  have nm : ∀ a ∈ ad.m, a ∉ [b, l] := fun a m z => by
    rcases List.mem_cons.mp z with rfl | z
    · exact nb m
    · rcases List.mem_cons.mp z with rfl | z
      · exact nl m
      · cases z
  refine ⟨h.to q (fun a o ha => ?_) ⟨by rw [cut_out nb]; exact bx.1, by rw [cut_out nl]; exact bx.2⟩, sa.to (fun a m o ha => ?_) (ex_of_cut2 (List.mem_append_right _ h.mb) (List.mem_append_right _ h.ml) e)⟩
  · obtain ⟨n, ha⟩ := cut_some ha
    obtain ⟨nD, ha⟩ := cut_some ha
    have := e a o (by rw [cut_out n]; exact ha)
    rw [cut_out n] at this ⊢
    rw [cut_out nD]
    exact this
  · have := e a o (by rw [cut_out (nm a m)]; exact ha)
    rw [cut_out (nm a m)] at this
    exact this
end DV
namespace K04
open PySem PySem.Spec L2 Evl DV LamX NdefX
open PyProof.Rows hiding St cutD
def clsBody (st : Stmt) : List Stmt := match st with
  | .ClassDef _ _ _ b .. => b
  | _ => []
def siteM (i : Nat) : Stmt := (clsBody sSite).getD i (.Pass ⟨0, 0, 0, 0⟩)
def sessM (i : Nat) : Stmt := (clsBody sSession).getD i (.Pass ⟨0, 0, 0, 0⟩)
section
variable {P : Program} {w : World} {K : PySem.W.Frag} {mg : Str → Option Value} {base : Heap}
/-- a maker that changes nothing but what is new, or raises -/
theorem mkS {x : Str} {C : Addr} {qual : Str} {st : Stmt} {ps N : List Str} {k n : Nat} {G : List Sl → Out → Prop} (d : MI K mg x C qual st ps) (S : FnScope N ps (defScope st)) (hn : ps.length = n + 1) (len : ∀ rs o, G rs o → rs.length = ps.length)
    (hb : ∀ rs o, G rs o → Body P w K mg base N qual st k rs o) : Mkr P w K mg base x C n [] (fun us _ => us) (k + 1) (DV.spS K G) := by
  refine d.mkW S hn (fun vs H Q E ⟨M, rs, o, _, sv, g, _⟩ => by rw [sv.len, len rs o g]) fun f cdv A outer s H vs Q E hr ⟨M, rs, o, hM, sv, g, q⟩ => ?_
  refine hb rs o g f cdv A outer s H E M (fun _ H' => Ex H H') { nx := fun _ H' => Q .non H', rt := Q } hr (rg_pure hM) ?_ ?_ ?_ _ H (slots_ini sv) (exId _)
  · intro r v H' e h sv'
    subst e
    exact q v H' h sv'
  · intro σ H' e h
    subst e
    exact q .non H' h .non
  · intro c H' e h
    subst e
    exact q H' h
/-! Site(..) refused -/
inductive SiteEr (CS CR : Addr) : PyData → PyData → PyData → Addr → Prop
  | many {dn dm dr} : wholeD dm 2 5 = false → SiteEr CS CR dn dm dr CS
  | num {dn dr} {m : Nat} : 2 ≤ m → m ≤ 5 → wholeD dn 0 ((m : Int) - 1) = false → SiteEr CS CR dn (.int m) dr CS
  | rules {dn dr} {m : Nat} : 2 ≤ m → m ≤ 5 → wholeD dn 0 ((m : Int) - 1) = true → layTop dr = true → rulesB dr = false → SiteEr CS CR dn (.int m) dr CR
def gSiteX (CS CR : Addr) (rs : List Sl) (o : Out) : Prop := ∃ dn dm dr c, rs = [.any, .dat dn, .dat dm, .dat dr] ∧ SiteEr CS CR dn dm dr c ∧ o = .er (.ref c)
abbrev nSite : List Str := ["self", "number", "many", "rules", "other"]
theorem scSite : FnScope nSite ["self", "number", "many", "rules"] (defScope (siteM 0)) := ⟨rfl, rfl, rfl, by decide +kernel, rfl, by decide +kernel, by decide +kernel⟩
theorem many_ok {m : Nat} (h2 : 2 ≤ m) (h5 : m ≤ 5) : wholeD (.int m) 2 5 = true := by
  show (decide ((2 : Int) ≤ m) && decide ((m : Int) ≤ 5)) = true
  rw [decide_eq_true (by omega), decide_eq_true (by omega)]
  rfl
theorem mk_siteX {C CS CR : Addr} (nS : DV.Exn K mg "BadSite" CS) (cW : Cal P w K mg base "is_whole" 1 (DV.spS K gWhole)) (cM : Cal P w K mg base "check_many" 2 (DV.spS K (gMany CS))) (cA : Cal P w K mg base "check_rules" 1 (DV.spS K (gChkA CR)))
    (d : MI K mg "Site" C "Site.__init__" (siteM 0) ["self", "number", "many", "rules"]) : Mkr P w K mg base "Site" C 3 [] (fun us _ => us) 3 (DV.spS K (gSiteX CS CR)) := by
  refine mkS d scSite rfl (fun rs o ⟨_, _, _, _, e, _⟩ => by rw [e]; rfl) ?_
  rintro rs o ⟨dn, dm, dr, c, rfl, h, rfl⟩ f cdv A outer sh H E M R D hr g qr qn qe
  cases h with
  | many h =>
    exact st_exprW fun σ H hσ hR => x_call g cM hr (by decide) (by rfl) (passes_call (takes_of rfl rfl rfl rfl) fun _ _ _ _ h => h) ⟨dm, rfl, by rw [h]; rfl⟩ (a_cons (v 2) a_nil) hσ hR fun H1 _ R1 => qe _ H1 rfl R1
  | num h2 h5 h =>
    rename_i m
    refine st_expr (e_call g cM hr (by decide) (by rfl) (r := .dat .none) ⟨.int m, rfl, by rw [many_ok h2 h5]; rfl⟩ (a_cons (v 2) a_nil)) ?_
    refine st_if (k := !wholeD dn 0 ((m : Int) - 1)) (s1 := ()) (t_not (t_val (e_call g cW hr (by decide) (by rfl) ⟨dn, 0, _, rfl, rfl⟩ (a_cons (v 1) (a_cons e_int (a_cons (e_sub (v 2) e_int) a_nil)))))) (fun _ => ?_) (fun h' => by rw [h] at h'; cases h')
    have l1 : ((m : Int) - 1).natAbs.log2 < 1920 := log_small (by omega) (by omega)
    refine st_raise rfl nS (takes_of rfl rfl rfl rfl) (by rfl) (a_cons (e_fstr (j_cons e_str (j_cons (e_fmtI l1 (e_sub (v 2) e_int)) j_nil)) ?_) a_nil) (by simp) fun σ H' _ R' => qe _ H' rfl R'
    have z1 := fmt_len l1
    have z3 : (Str.ofString "a site is a number from 0 to ").length ≤ 1000 := by decide +kernel
    show _ + (_ + 0) ≤ 100000
    omega
  | rules h2 h5 h hl h' =>
    rename_i m
    refine st_expr (e_call g cM hr (by decide) (by rfl) (r := .dat .none) ⟨.int m, rfl, by rw [many_ok h2 h5]; rfl⟩ (a_cons (v 2) a_nil)) ?_
    refine st_if (k := !wholeD dn 0 ((m : Int) - 1)) (s1 := ()) (t_not (t_val (e_call g cW hr (by decide) (by rfl) ⟨dn, 0, _, rfl, rfl⟩ (a_cons (v 1) (a_cons e_int (a_cons (e_sub (v 2) e_int) a_nil)))))) (fun h' => by rw [h] at h'; cases h') (fun _ => st_thru ?_)
    exact st_exprW fun σ H hσ hR => x_call g cA hr (by decide) (by rfl) (passes_call (takes_of rfl rfl rfl rfl) fun _ _ _ _ h => h) ⟨dr, rfl, hl, by rw [h']; rfl⟩ (a_cons (v 3) a_nil) hσ hR fun H1 _ R1 => qe _ H1 rfl R1
/-! Site(..) made -/
def othersL (num : Int) (m : Nat) : List Nat := (List.range m).filter fun (j : Nat) => !decide ((j : Int) = num)
def knownD (num : Int) (m : Nat) (i : Nat) : List (L2.Key × PyData) := ((List.range i).filter fun (j : Nat) => !decide ((j : Int) = num)).map fun (j : Nat) => (.inl (j : Int), zerosD m)
def S0 (num : Int) (m : Nat) (ws : List Str) : SD := ⟨num, m, ws, 0, [], List.replicate m 0, 0, [], knownD num m m, []⟩
def spSite (K : PySem.W.Frag) (C : Addr) : Sp := fun vs H Q _ => ∃ (M0 : List Addr) (x dx : Addr) (num : Int) (m : Nat) (ws : List Str) (vr : V), vs = [.ref x, .int num, .int m, vr] ∧ H x = some (.ins C dx []) ∧ H dx = some (.own x) ∧ dx ≠ x ∧ (∀ a ∈ M0, ∃ o, H a = some o) ∧
  Dv K (cut (x :: dx :: M0) H) vr (.tuple (ws.map .str)) ∧ 2 ≤ m ∧ m ≤ 5 ∧ 0 ≤ num ∧ num < m ∧ okRules ws ∧
  ∀ (ad : Ad) (H' : Hp), ad.x = x → ad.dx = dx → (∀ a o, a ≠ x → H a = some o → H' a = some o) → (∀ a ∈ ad.m, a = x ∨ a = dx ∨ H a = none) → SiteAt K C (ad.m ++ M0) ad (S0 num m ws) H' → Q .non H'
theorem cut_congr {M N : List Addr} (h : ∀ a, a ∈ M ↔ a ∈ N) (H : Hp) : cut M H = cut N H := by
  funext a
  by_cases z : a ∈ M
  · rw [cut_in z, cut_in ((h a).mp z)]
  · rw [cut_out z, cut_out fun q => z ((h a).mpr q)]
theorem dI_zero (m : Nat) : zerosD m = .tuple (dI (List.replicate m 0)) := by
  show PyData.tuple _ = PyData.tuple (List.map _ _)
  rw [List.map_replicate]
theorem lay_words : ∀ {ws : List Str}, (∀ x ∈ ws, x ∈ wordsL) → PyData.canLayAll0 (ws.map .str) = true
  | [], _ => rfl
  | x :: t, h => by
    have h1 : PyData.canLay0 (.str x) = true := by
      have := h x List.mem_cons_self
      simp only [List.mem_cons, List.not_mem_nil, or_false] at this
      rcases this with rfl | rfl | rfl | rfl <;> decide +kernel
    show (PyData.canLay0 (.str x) && PyData.canLayAll0 (t.map .str)) = true
    rw [h1, lay_words fun y hy => h y (List.mem_cons_of_mem _ hy)]
    rfl
theorem known_len (num : Int) (m i : Nat) : (knownD num m i).length ≤ i := by
  unfold knownD
  rw [List.length_map]
  exact Nat.le_trans (List.length_filter_le _ _) (by rw [List.length_range]; exact Nat.le_refl _)
theorem known_val {num : Int} {m i : Nat} {p : L2.Key × PyData} (h : p ∈ knownD num m i) : p.2 = zerosD m := by
  unfold knownD at h
  obtain ⟨j, _, rfl⟩ := List.mem_map.mp h
  rfl
theorem known_succT {num : Int} {m i : Nat} (h : (!decide ((i : Int) = num)) = true) : knownD num m (i + 1) = knownD num m i ++ [(.inl (i : Int), zerosD m)] := by
  unfold knownD
  rw [List.range_succ, List.filter_append, List.map_append, List.filter_cons, if_pos h]
  rfl
theorem known_succF {num : Int} {m i : Nat} (h : (!decide ((i : Int) = num)) = false) : knownD num m (i + 1) = knownD num m i := by
  unfold knownD
  rw [List.range_succ, List.filter_append, List.map_append, List.filter_cons, if_neg (by rw [h]; exact Bool.false_ne_true)]
  exact List.append_nil _
theorem known_new {num : Int} {m i : Nat} : (Sum.inl (i : Int) : L2.Key) ∉ (knownD num m i).map (·.1) := by
  intro h
  obtain ⟨p, hp, e⟩ := List.mem_map.mp h
  unfold knownD at hp
  obtain ⟨j, hj, rfl⟩ := List.mem_map.mp hp
  have hj := List.mem_range.mp (List.mem_filter.mp hj).1
  have e : (Sum.inl (j : Int) : L2.Key) = Sum.inl (i : Int) := e
  have := Sum.inl.inj e
  omega
theorem dkt_all {K : PySem.W.Frag} {H : Hp} {z : PyData} : ∀ {a : List (L2.Key × V)} {b : List (L2.Key × PyData)}, DkT K H a b → (∀ p ∈ b, p.2 = z) → ∀ p ∈ a, Dv K H p.2 z
  | [], [], _, _, p, hp => by cases hp
  | (k, v) :: a, (l, d) :: b, ⟨_, h2, h3⟩, hz, p, hp => by
    rcases List.mem_cons.mp hp with rfl | hp
    · rw [← hz _ List.mem_cons_self]
      exact h2
    · exact dkt_all h3 (fun q hq => hz q (List.mem_cons_of_mem _ hq)) p hp
  | [], (_, _) :: _, h, _, _, _ => h.elim
  | (_, _) :: _, [], h, _, _, _ => h.elim
theorem dkt_of {K : PySem.W.Frag} {H : Hp} {z : PyData} : ∀ {a : List (L2.Key × V)} {b : List (L2.Key × PyData)}, a.map (·.1) = b.map (·.1) → (∀ p ∈ b, p.2 = z) → (∀ p ∈ a, Dv K H p.2 z) → DkT K H a b
  | [], [], _, _, _ => trivial
  | (k, v) :: a, (l, d) :: b, h1, h2, h3 => by
    rw [List.map_cons, List.map_cons] at h1
    obtain ⟨e1, e2⟩ := List.cons.inj h1
    refine ⟨e1, ?_, dkt_of e2 (fun q hq => h2 q (List.mem_cons_of_mem _ hq)) fun q hq => h3 q (List.mem_cons_of_mem _ hq)⟩
    have h4 : d = z := h2 (l, d) List.mem_cons_self
    rw [h4]
    exact h3 (k, v) List.mem_cons_self
  | [], (_, _) :: _, h, _, _ => by cases h
  | (_, _) :: _, [], h, _, _ => by cases h
theorem e_rawI {S : Type} {X : Cx} {M : List Addr} {R : S → Hp → Prop} {ρ : List Sl} {s s1 : S} {e : Expr} {i : Int} (h : Ev1 X M R ρ e s (.dat (.int i)) s1) : Ev1 X M R ρ e s (.raw (.int i)) s1 := fun σ H Q hσ hR q => h σ H Q hσ hR fun v H1 e1 R1 d1 => q v H1 e1 R1 (sv_int d1)
theorem mk_site {C CS CR : Addr} (B : Bl mg) (cl : Cls K C) (na : ∀ f ∈ ["_number", "_many", "_rules", "_now", "_log", "_applied", "_turn", "_waits", "_known", "_heard_at"], NoAttr K C (Str.ofString f)) (cW : Cal P w K mg base "is_whole" 1 (DV.spS K gWhole)) (cM : Cal P w K mg base "check_many" 2 (DV.spS K (gMany CS))) (cA : Cal P w K mg base "check_rules" 1 (DV.spS K (gChkA CR)))
    (cN : Cal P w K mg base "nothing" 1 (DV.spS K gNothing)) (d : MI K mg "Site" C "Site.__init__" (siteM 0) ["self", "number", "many", "rules"]) : Mkr P w K mg base "Site" C 3 [] (fun us _ => us) 3 (spSite K C) := by
  refine d.mkW scSite rfl (fun vs H Q E ⟨_, _, _, _, _, _, _, e, _⟩ => by rw [e]; rfl) ?_
  rintro f cdv A outer sh H vs Q E hr ⟨M0, x, dx, num, m, ws, vr, rfl, hx, hdx, ne, dom, dr, h2, h5, h0, hlt, hws, q⟩
  have hn : wholeD (.int num) 0 ((m : Int) - 1) = true := by
    show (decide ((0 : Int) ≤ num) && decide (num ≤ (m : Int) - 1)) = true
    rw [decide_eq_true h0, decide_eq_true (by omega)]
    rfl
  have R0 : RI K C x dx (x :: dx :: M0) H [] [] [] H := ⟨hdx, ⟨[], hx, trivial⟩, fun p hp => (by cases hp), fun p hp => (by cases hp), ne, fun a o _ h => h, List.mem_cons_self, fun a ma => by
    rcases List.mem_cons.mp ma with rfl | ma
    · exact .inl rfl
    · rcases List.mem_cons.mp ma with rfl | ma
      · exact .inr (.inl rfl)
      · exact .inr (.inr (.inr (dom a ma)))⟩
  have ho : ∀ (M' : List Addr) (R' : List (Str × Sl) → Hp → Prop) (fs' : List (Str × Sl)) {pp : Pos} {a1 a2 a3 a4 : Sl}, Ev1 (DV.dx P w K mg base nSite "Site.__init__" (siteM 0) f cdv A outer sh H E) M' R' [.raw (.ref x), a1, a2, a3, a4] (.Name "self" pp) fs' (.raw (.ref x)) fs' := fun M' R' fs' => v 0
  have main : St1 (DV.dx P w K mg base nSite "Site.__init__" (siteM 0) f cdv A outer sh H E) (x :: dx :: M0) (RI K C x dx (x :: dx :: M0) H [] []) [.raw (.ref x), .dat (.int num), .dat (.int m), .dat (.tuple (ws.map .str)), .any] (defBody (siteM 0)) [] { nx := fun _ H' => Q .non H', rt := Q } := by
    have g0 : Rg (x :: dx :: M0) (RI K C x dx (x :: dx :: M0) H [] []) := RI.rg
    refine st_expr (e_call g0 cM hr (by decide) (by rfl) (r := .dat .none) ⟨.int m, rfl, by rw [many_ok h2 h5]; rfl⟩ (a_cons (v 2) a_nil)) ?_
    refine st_if (k := !wholeD (.int num) 0 ((m : Int) - 1)) (s1 := []) (t_not (t_val (e_call g0 cW hr (by decide) (by rfl) ⟨.int num, 0, _, rfl, rfl⟩ (a_cons (v 1) (a_cons e_int (a_cons (e_sub (v 2) e_int) a_nil)))))) (fun h' => by rw [hn] at h'; cases h') (fun _ => st_thru ?_)
    refine st_expr (e_call g0 cA hr (by decide) (by rfl) (r := .dat .none) ⟨.tuple (ws.map .str), rfl, lay_words hws.2.2, by rw [rulesB_ok hws]; rfl⟩ (a_cons (v 3) a_nil)) ?_
    refine st_fldI cl (na _ (by decide)) (v 1) (ho _ _ _) ?_
    refine st_fldI cl (na _ (by decide)) (v 2) (ho _ _ _) ?_
    refine st_fldI cl (na _ (by decide)) (v 3) (ho _ _ _) ?_
    refine st_fldI cl (na _ (by decide)) e_int (ho _ _ _) ?_
    refine st_newI (fun u fb => u = .lst [] ∧ fb = []) cl (na _ (by decide)) (fun σ H Q _ hR q => newI_lst hR q) (fun _ _ _ => ho _ _ _) fun l u fb nl lx ⟨eu, ef⟩ => ?_
    subst eu ef
    refine st_fldI cl (na _ (by decide)) (e_call RI.rg cN hr (by decide) (by rfl) (r := .dat (zerosD m)) ⟨m, rfl, h2, h5, rfl⟩ (a_cons (v 2) a_nil)) (ho _ _ _) ?_
    refine st_fldI cl (na _ (by decide)) e_int (ho _ _ _) ?_
    refine st_newI (fun u fb => u = .dT [] ∧ fb = []) cl (na _ (by decide)) (fun σ H Q _ hR q => newI_dT hR q) (fun _ _ _ => ho _ _ _) fun wt u fb nw wx ⟨eu, ef⟩ => ?_
    subst eu ef
    refine st_newI (fun u fb => ∃ kvs, u = .dK kvs ∧ kvs.map (·.1) = (knownD num m m).map (·.1) ∧ fb = kvs.map fun kv => (kv.2, zerosD m)) cl (na _ (by decide)) (fun σ H Q hσ hR q => ?_) (fun _ _ _ => ho _ _ _) fun kn u fb nk kx ⟨kvs, eu, ek, ef⟩ => ?_
    · refine dcF (own := [("other", 4)]) (gt := gName 4) (n := m) (it := fun i => .dat (.int (i : Nat))) (outs := knownD num m) RI.rg rfl scSite.nd (blkOk_by (N := nSite) (sc := defScope (siteM 0)) (by decide +kernel)) (fun sh Hh C cl fp => pg_name (i := 4) scSite.nd rfl (Or.inl rfl)) (i_rngN (by rfl) B.range (by omega) (a1 (v 2))) rfl (fun i hi => ?_) (fun i hi => ⟨_, tg_name (by simp), fun D acc gD => ?_⟩) σ H Q hσ hR fun D H2 e2 _ rk => ?_
      · have := known_len num m i
        omega
      · refine ⟨!decide ((i : Int) = num), fun sh Hh C cl fp => ?_, fun hb => ⟨.inl (i : Int), zerosD m, known_succT hb, known_new, fun sh Hh C cl fp => ?_, fun sh Hh C cl fp => e_call gD cN hr (by decide) (by rfl) (r := .dat (zerosD m)) ⟨m, rfl, h2, h5, rfl⟩ (a_cons (v 2) a_nil)⟩, fun hb => known_succF hb⟩
        · exact t_neD (d1 := .int (i : Nat)) (d2 := .int num) hr.units (v 4) (v 1) rfl rfl
        · exact e_rawI (v 4)
      · obtain ⟨R2, kvs, hD, hk⟩ := rk
        exact q D _ (kvs.map fun kv => (kv.2, zerosD m)) H2 e2 R2 hD (fun p hp => by
          obtain ⟨kv, hkv, rfl⟩ := List.mem_map.mp hp
          exact dkt_all hk (fun p hp => known_val hp) kv hkv) ⟨kvs, rfl, hk.keys, rfl⟩
    subst eu ef
    refine st_newI (fun u fb => u = .dK [] ∧ fb = []) cl (na _ (by decide)) (fun σ H Q _ hR q => newI_dK hR q) (fun _ _ _ => ho _ _ _) fun hd u fb nh hx ⟨eu, ef⟩ => ?_
    subst eu ef
    refine st_nil fun σ H' hσ R' => ?_
    have hc : cut (hd :: kn :: wt :: l :: x :: dx :: M0) H' = cut ((⟨x, dx, l, wt, kn, hd⟩ : Ad).m ++ M0) H' := cut_congr (fun a => by
      show a ∈ hd :: kn :: wt :: l :: x :: dx :: M0 ↔ a ∈ x :: dx :: l :: wt :: kn :: hd :: M0
      simp only [List.mem_cons]
      constructor
      · rintro (h | h | h | h | h | h | h) <;> simp [h]
      · rintro (h | h | h | h | h | h | h) <;> simp [h]) H'
    refine q ⟨x, dx, l, wt, kn, hd⟩ H' rfl rfl R'.old (fun a ma => ?_) ⟨R'.own, ?_, ⟨[], (R'.obs (l, .lst []) (by simp)).2, .nil⟩, ⟨[], (R'.obs (wt, .dT []) (by simp)).2, trivial⟩, ⟨kvs, (R'.obs (kn, .dK kvs) (by simp)).2, ?_⟩, ⟨[], (R'.obs (hd, .dK []) (by simp)).2, trivial⟩, fun z => hx (by rw [← show kn = hd from z]; exact List.mem_cons_self)⟩
    · have ma : a ∈ [x, dx, l, wt, kn, hd] := ma
      simp only [List.mem_cons, List.not_mem_nil, or_false] at ma
      rcases ma with rfl | rfl | rfl | rfl | rfl | rfl
      · exact .inl rfl
      · exact .inr (.inl rfl)
      · exact .inr (.inr nl)
      · exact .inr (.inr nw)
      · exact .inr (.inr nk)
      · exact .inr (.inr nh)
    · obtain ⟨vs, h1, hT⟩ := R'.ins
      rw [hc, dI_zero] at hT
      exact ⟨vs, h1, hT⟩
    · rw [← hc]
      refine dkt_of ek (fun p hp => known_val hp) fun p hp => ?_
      exact R'.fac (p.2, zerosD m) (List.mem_append_right _ (List.mem_append_left _ (List.mem_map.mpr ⟨p, hp, rfl⟩)))
  exact main _ H ⟨rfl, ⟨_, rfl, .int _⟩, ⟨_, rfl, .int _⟩, ⟨_, rfl, dr⟩, trivial, trivial⟩ R0
end
end K04
namespace DV
open PySem PySem.Spec L2 Evl LamX NdefX
open PyProof.Rows hiding St cutD
/-! ### what may change, held still for a while -/
def rmA (l : Addr) (M : List Addr) : List Addr := M.filter fun a => !decide (a = l)
theorem mem_rmA {l a : Addr} {M : List Addr} : a ∈ rmA l M ↔ a ∈ M ∧ a ≠ l := by
  unfold rmA
  rw [List.mem_filter]
  simp
theorem cut_rmA {l : Addr} {M : List Addr} {H : Hp} : Ex (cut M H) (cut (rmA l M) H) := fun a o h => by
  obtain ⟨n, h⟩ := cut_some h
  rw [cut_out fun z => n (mem_rmA.mp z).1]
  exact h
mutual
def noL : PyData → Bool
  | .list _ | .dict _ => false
  | .tuple xs => noLs xs
  | _ => true
def noLs : List PyData → Bool
  | [] => true
  | x :: xs => noL x && noLs xs
end
mutual
theorem dv_noL {K : PySem.W.Frag} {M N : List Addr} {H : Hp} (hn : ∀ a u, a ∉ N → H a = some u → (∃ xs, u = .tup xs) ∨ (∃ o xs, u = .frz o (.tup xs)) → a ∉ M) : ∀ (d : PyData) (v : V), Dv K (cut N H) v d → noL d = true → Dv K (cut M H) v d
  | .none, _, h, _ => by cases h; exact .non
  | .bool b, _, h, _ => by cases h; exact .bl b
  | .int i, _, h, _ => by cases h; exact .int i
  | .str x, _, h, _ => by cases h; exact .str x
  | .list ds, _, h, q => by cases q
  | .tuple ds, _, h, q => by
    cases h with
    | tup hs ha =>
      refine .tup ?_ (dva_noL hn ds _ ha q)
      rcases hs with (hs | ⟨o, hs⟩) | hs
      · obtain ⟨n, hs⟩ := cut_some hs
        exact .inl (.inl (by rw [cut_out (hn _ _ n hs (.inl ⟨_, rfl⟩))]; exact hs))
      · obtain ⟨n, hs⟩ := cut_some hs
        exact .inl (.inr ⟨o, by rw [cut_out (hn _ _ n hs (.inr ⟨_, _, rfl⟩))]; exact hs⟩)
      · exact .inr hs
  | .dict _, _, h, _ => by cases h
theorem dva_noL {K : PySem.W.Frag} {M N : List Addr} {H : Hp} (hn : ∀ a u, a ∉ N → H a = some u → (∃ xs, u = .tup xs) ∨ (∃ o xs, u = .frz o (.tup xs)) → a ∉ M) : ∀ (ds : List PyData) (vs : List V), DvAll K (cut N H) vs ds → noLs ds = true → DvAll K (cut M H) vs ds
  | [], _, h, _ => by cases h; exact .nil
  | d :: ds, _, h, q => by
    have q : (noL d && noLs ds) = true := q
    rw [Bool.and_eq_true] at q
    cases h with
    | cons h1 h2 => exact .cons (dv_noL hn d _ h1 q.1) (dva_noL hn ds _ h2 q.2)
end
/-- a list held still -/
def RZ {S : Type} (K : PySem.W.Frag) (M : List Addr) (R : S → Hp → Prop) (l : Addr) (xs : List V) (ds : List PyData) : S → Hp → Prop := fun s H => R s H ∧ H l = some (.lst xs) ∧ DvAll K (cut (rmA l M) H) xs ds
theorem RZ.rg {S : Type} {K : PySem.W.Frag} {M : List Addr} {R : S → Hp → Prop} {l : Addr} {xs : List V} {ds : List PyData} (g : Rg M R) : Rg (rmA l M) (RZ K M R l xs ds) :=
  ⟨fun ⟨h, e, d⟩ x => ⟨g.up h x, x _ _ e, dpa_ex (exCut x) _ _ d⟩, fun ⟨h, _⟩ m => g.dom h (mem_rmA.mp m).1⟩
section
variable {S : Type} {X : Cx} {M : List Addr} {R : S → Hp → Prop} {ρ : List Sl} {s s1 : S} {e : Expr} {l : Addr}
/-- a new list of things that hold no list, made while l is still -/
theorem e_still {ds out : List PyData} (g : Rg M R) (hl : ∀ H, R s H → ∃ xs, H l = some (.lst xs) ∧ DvAll X.K (cut M H) xs ds) (h : ∀ xs, EvF1 X (rmA l M) (RZ X.K M R l xs ds) ρ e s out s1) (hn : noLs out = true) : Ev1 X M R ρ e s (.dat (.list out)) s1 := by
  intro σ H Q hσ hR q
  obtain ⟨xs, e1, d1⟩ := hl H hR
  refine h xs σ H _ (hσ.ex cut_rmA) ⟨hR, e1, dpa_ex cut_rmA _ _ d1⟩ fun L H2 e2 ⟨⟨r2, e3, d3⟩, ys, e4, d4⟩ => ?_
  have nL : L ≠ l := fun z => by
    rw [z, rem_self] at e3
    cases e3
  have hl2 : H2 l = some (.lst xs) := (rem_some e3).2
  have LM : L ∉ M := fun m => by
    obtain ⟨o, z⟩ := g.dom r2 m
    rw [rem_self] at z
    cases z
  refine q _ H2 (fun a o ha => ?_) (g.up r2 ex_rem) (.lst (by rw [cut_out LM]; exact e4) (dva_noL (fun a u na ha hu m => ?_) _ _ d4 hn))
  · obtain ⟨n, ha⟩ := cut_some ha
    have := e2 a o (by rw [cut_out fun z => n (mem_rmA.mp z).1]; exact ha)
    rw [cut_out n]
    exact (cut_some this).2
  · by_cases z : a = l
    · subst z
      rw [hl2] at ha
      cases ha
      rcases hu with ⟨_, hu⟩ | ⟨_, _, hu⟩ <;> cases hu
    · exact na (List.mem_cons_of_mem _ (mem_rmA.mpr ⟨m, z⟩))
/-- what is told as an address, told as a datum -/
theorem e_asD {a : Addr} {d : PyData} (h : Ev1 X M R ρ e s (.raw (.ref a)) s1) (hd : ∀ H, R s1 H → Dv X.K (cut M H) (.ref a) d) : Ev1 X M R ρ e s (.dat d) s1 := fun σ H Q hσ hR q => h σ H Q hσ hR fun v H1 e1 R1 d1 => q v H1 e1 R1 (by
  have d1 : v = .ref a := d1
  rw [d1]
  exact hd H1 R1)
theorem RZ.dv {K : PySem.W.Frag} {xs : List V} {ds : List PyData} {s : S} {H : Hp} (h : RZ K M R l xs ds s H) : Dv K (cut (rmA l M) H) (.ref l) (.list ds) := .lst (by rw [cut_out fun z => (mem_rmA.mp z).2 rfl]; exact h.2.1) h.2.2
end
/-! a dict held still -/
def RQ {S : Type} (R : S → Hp → Prop) (d : Addr) (od : Obj) (kvs : List (L2.Key × V)) : S → Hp → Prop := fun s H => H d = some (.frz od (.dK kvs)) ∧ R s (upd H d (.dK kvs))
theorem upd_ex {H H' : Hp} {d : Addr} {o : HO} (e : Ex H H') : Ex (upd H d o) (upd H' d o) := fun a u h => by
  by_cases z : a = d
  · subst z
    rw [upd_same] at h ⊢
    exact h
  · rw [upd_ne z] at h ⊢
    exact e _ _ h
theorem RQ.rg {S : Type} {M : List Addr} {R : S → Hp → Prop} {d : Addr} {od : Obj} {kvs : List (L2.Key × V)} (g : Rg M R) : Rg (rmA d M) (RQ R d od kvs) :=
  ⟨fun ⟨h, r⟩ x => ⟨x _ _ h, g.up r (upd_ex x)⟩, fun {s H a} ⟨h, r⟩ m => by
    obtain ⟨m, n⟩ := mem_rmA.mp m
    obtain ⟨o, q⟩ := g.dom r m
    rw [upd_ne n] at q
    exact ⟨o, q⟩⟩
mutual
theorem dv_unq {K : PySem.W.Frag} {M : List Addr} {H : Hp} {d : Addr} {od : Obj} {kvs : List (L2.Key × V)} (hd : H d = some (.frz od (.dK kvs))) : ∀ (x : PyData) (v : V), Dv K (cut (rmA d M) H) v x → Dv K (cut M (upd H d (.dK kvs))) v x
  | .none, _, h => by cases h; exact .non
  | .bool b, _, h => by cases h; exact .bl b
  | .int i, _, h => by cases h; exact .int i
  | .str x, _, h => by cases h; exact .str x
  | .list ds, _, h => by
    cases h with
    | lst hs ha =>
      obtain ⟨n, hs⟩ := cut_some hs
      refine .lst ?_ (dva_unq hd ds _ ha)
      have z : ∀ (a : Addr) (ys : List V), H a = some (.lst ys) → a ≠ d := fun a ys q z => (by rw [z, hd] at q; cases q)
      have z := z _ _ hs
      rw [cut_out fun m => n (mem_rmA.mpr ⟨m, z⟩), upd_ne z]
      exact hs
  | .tuple ds, _, h => by
    cases h with
    | tup hs ha =>
      refine .tup ?_ (dva_unq hd ds _ ha)
      rcases hs with (hs | ⟨o, hs⟩) | hs
      · obtain ⟨n, hs⟩ := cut_some hs
        have z : ∀ (a : Addr) (ys : List V), H a = some (.tup ys) → a ≠ d := fun a ys q z => (by rw [z, hd] at q; cases q)
        have z := z _ _ hs
        exact .inl (.inl (by rw [cut_out fun m => n (mem_rmA.mpr ⟨m, z⟩), upd_ne z]; exact hs))
      · obtain ⟨n, hs⟩ := cut_some hs
        have z : ∀ (a : Addr) (ys : List V), H a = some (.frz o (.tup ys)) → a ≠ d := fun a ys q z => (by rw [z, hd] at q; cases q)
        have z := z _ _ hs
        exact .inl (.inr ⟨o, by rw [cut_out fun m => n (mem_rmA.mpr ⟨m, z⟩), upd_ne z]; exact hs⟩)
      · exact .inr hs
  | .dict _, _, h => by cases h
theorem dva_unq {K : PySem.W.Frag} {M : List Addr} {H : Hp} {d : Addr} {od : Obj} {kvs : List (L2.Key × V)} (hd : H d = some (.frz od (.dK kvs))) : ∀ (xs : List PyData) (vs : List V), DvAll K (cut (rmA d M) H) vs xs → DvAll K (cut M (upd H d (.dK kvs))) vs xs
  | [], _, h => by cases h; exact .nil
  | x :: xs, _, h => by cases h with | cons h1 h2 => exact .cons (dv_unq hd x _ h1) (dva_unq hd xs _ h2)
end
section
variable {S : Type} {X : Cx} {M : List Addr} {R : S → Hp → Prop} {ρ : List Sl} {s s1 : S} {e : Expr} {d : Addr}
/-- an expression while the dict d is still -/
theorem e_lockQ {x : PyData} (dm : d ∈ M) (hk : ∀ H, R s H → ∃ kvs, H d = some (.dK kvs)) (h : ∀ od kvs, (∃ H, R s H ∧ H d = some (.dK kvs)) → Ev1 X (rmA d M) (RQ R d od kvs) ρ e s (.dat x) s1) : Ev1 X M R ρ e s (.dat x) s1 := by
  intro σ H Q hσ hR q
  obtain ⟨kvs, hd⟩ := hk H hR
  refine wE_of (pe_lock pe_w) ⟨d, .dK kvs, hd, trivial, fun od => ?_⟩
  have e0 : upd (upd H d (.frz od (.dK kvs))) d (.dK kvs) = H := by
    funext a
    by_cases z : a = d
    · subst z; rw [upd_same]; exact hd.symm
    · rw [upd_ne z, upd_ne z]
  have c0 : Ex (cut M H) (cut (rmA d M) (upd H d (.frz od (.dK kvs)))) := fun a o ha => by
    obtain ⟨n, ha⟩ := cut_some ha
    have z : a ≠ d := fun z => n (z ▸ dm)
    rw [cut_out fun q => n (mem_rmA.mp q).1, upd_ne z]
    exact ha
  refine h od kvs ⟨H, hR, hd⟩ σ _ _ (hσ.ex c0) ⟨upd_same, by rw [e0]; exact hR⟩ fun v H2 e2 ⟨h2, r2⟩ d2 => ⟨h2, q v _ (fun a o ha => ?_) r2 (dv_unq h2 _ _ d2)⟩
  have n := (cut_some ha).1
  have z : a ≠ d := fun z => n (z ▸ dm)
  have := e2 a o (c0 a o ha)
  rw [cut_out n, upd_ne z]
  exact (cut_some this).2
def itK {α : Type} (ks : List (L2.Key × α)) (i : Nat) : Sl := match ks[i]? with
  | some kv => .dat (keyDt kv.1)
  | none => .any
theorem dv_kV {K : PySem.W.Frag} {H : Hp} (k : L2.Key) : Dv K H (kV k) (keyDt k) := by
  cases k with
  | inl i => exact .int i
  | inr x => exact .str x
/-- its keys walked -/
theorem i_keysQ {tg : Expr} {od : Obj} {kvs : List (L2.Key × V)} (h : Ev1 X (rmA d M) (RQ R d od kvs) ρ e s (.raw (.ref d)) s1) : EvI1 X (rmA d M) (RQ R d od kvs) ρ tg e s kvs.length (itK kvs) s1 := by
  refine ⟨_, pi_keys pe_w, fun σ H k hσ hR q => ?_⟩
  refine h σ H _ hσ hR fun v H1 e1 R1 d1 => ?_
  have d1 : v = .ref d := d1
  subst d1
  refine ⟨d, od, rfl, .inl ⟨kvs, R1.1, q _ H1 e1 R1 ⟨fun H => H d = some (.frz od (.dK kvs)), fun H2 e2 => ?_, ?_⟩⟩⟩
  · have n : d ∉ rmA d M := fun z => (mem_rmA.mp z).2 rfl
    have := e2 d _ (by rw [cut_out n]; exact R1.1)
    rw [cut_out n] at this
    exact this
  · refine walk_keys.mono (fun _ h => h) fun i H2 x H' _ _ ⟨e, k, v, hk, hx⟩ M' em dm e2 => ?_
    subst e
    refine ⟨exId _, ?_⟩
    unfold itK
    rw [hk, hx]
    exact dv_kV k
end
/-! list(xs), xs a list that changes -/
section
variable {S : Type} {X : Cx} {M : List Addr} {R : S → Hp → Prop} {ρ : List Sl} {s s1 : S} {e : Expr} {px pos : Pos}
theorem e_listM (g : Rg M R) {l : Addr} {ds : List PyData} (hl : ∀ H, R s1 H → ∃ xs, H l = some (.lst xs) ∧ DvAll X.K (cut M H) xs ds) (hg : Gl X "list") (hm : X.mg "list" = none) (ha : EvA1 X M R ρ [e] s [.raw (.ref l)] s1) (he : starEach [e] X.env = (false, eval e X.env) :: starEach [] X.env := by rfl) (hpl : (backTo pos (starEach [] X.env)).any (·.1) = false := by rfl) : Ev1 X M R ρ (.Call (.Name "list" px) [e] [] pos) s (.dat (.list ds)) s1 := by
  intro σ H Q hσ hR q
  refine wE_of (pe_callTy call_list_of hg hm (by decide +kernel) pa_w (by decide) (by decide) he hpl) ?_
  refine ha σ H _ hσ hR fun vs H1 e1 R1 d1 => ?_
  obtain ⟨v, hv, h1⟩ := svall1 d1
  subst hv
  have h1 : v = .ref l := h1
  subst h1
  obtain ⟨xs, hp, hd⟩ := hl H1 R1
  exact ⟨l, xs, rfl, .inl (sq_of hp), fun p n => new_lst g R1 n hd fun v H2 e2 R2 d2 => q v H2 (e1.trans e2) R2 d2⟩
end
end DV
namespace DV
open PySem PySem.Spec L2 Evl LamX NdefX
open PyProof.Rows hiding St cutD
section
variable {S : Type} {X : Cx} {M : List Addr} {R : S → Hp → Prop} {ρ : List Sl} {s s1 s2 : S} {e o a b : Expr} {l d : Addr} {sts rest : List Stmt} {st : Stmt} {D : Ends} {px pos apos cpos : Pos}
/-- a list held still to the end -/
theorem st_still {ds : List PyData} (hl : ∀ H, R s H → ∃ xs, H l = some (.lst xs) ∧ DvAll X.K (cut M H) xs ds) (h : ∀ xs, St1 X (rmA l M) (RZ X.K M R l xs ds) ρ sts s D) : St1 X M R ρ sts s D := by
  intro σ H hσ hR
  obtain ⟨xs, e1, d1⟩ := hl H hR
  exact h xs σ H (hσ.ex cut_rmA) ⟨hR, e1, dpa_ex cut_rmA _ _ d1⟩
/-- what is handed back then -/
theorem still_back (g : Rg M R) {ds out : List PyData} {xs : List V} {H H' : Hp} {L : Addr} (hR : RZ X.K M R l xs ds s H) (hn : cut (rmA l M) H L = none) (hR' : RZ X.K M R l xs ds s1 H') (sv : Sv X.K (cut (rmA l M) H') (.dat (.list out)) (.ref L)) (hno : noLs out = true) : Sv X.K (cut M H') (.dat (.list out)) (.ref L) ∧ H L = none := by
  obtain ⟨a, ys, ea, ha, hd⟩ := sv_lst sv
  cases ea
  obtain ⟨nm, ha⟩ := cut_some ha
  have n0 : H L = none := by rw [cut_out nm] at hn; exact hn
  have nM : L ∉ M := fun m => by
    obtain ⟨o, ho⟩ := g.dom hR.1 m
    rw [n0] at ho
    cases ho
  refine ⟨.lst (by rw [cut_out nM]; exact ha) (dva_noL (fun a u na hu hk m => ?_) _ _ hd hno), n0⟩
  by_cases z : a = l
  · subst z
    rw [hR'.2.1] at hu
    cases hu
    rcases hk with ⟨_, hk⟩ | ⟨_, _, hk⟩ <;> cases hk
  · exact na (mem_rmA.mpr ⟨m, z⟩)
theorem so_unq {K : PySem.W.Frag} {H : Hp} {od : Obj} {kvs : List (L2.Key × V)} (hd : H d = some (.frz od (.dK kvs))) {r : Sl} {u : Option V} (h : So K (cut (rmA d M) H) r u) : So K (cut M (upd H d (.dK kvs))) r u := by
  cases r with
  | any => trivial
  | raw w => exact h
  | dat x =>
    obtain ⟨v, h1, h2⟩ := h
    exact ⟨v, h1, dv_unq hd x v h2⟩
theorem slots_unq {K : PySem.W.Frag} {H : Hp} {od : Obj} {kvs : List (L2.Key × V)} (hd : H d = some (.frz od (.dK kvs))) : ∀ {σ : St} {ρ : List Sl}, Slots K (cut (rmA d M) H) σ ρ → Slots K (cut M (upd H d (.dK kvs))) σ ρ
  | [], [], _ => trivial
  | _ :: _, _ :: _, ⟨a, b⟩ => ⟨so_unq hd a, slots_unq hd b⟩
  | [], _ :: _, h => h.elim
  | _ :: _, [], h => h.elim
/-- a statement while the dict d is still -/
theorem st_lockQ {ρ' : List Sl} (dm : d ∈ M) (hk : ∀ H, R s H → ∃ kvs, H d = some (.dK kvs)) (h : ∀ od kvs, (∃ H, R s H ∧ H d = some (.dK kvs)) → ∀ D' : Ends, (∀ σ H, Slots X.K (cut (rmA d M) H) σ ρ' → RQ R d od kvs s1 H → D'.nx σ H) → ∀ σ H, Slots X.K (cut (rmA d M) H) σ ρ → RQ R d od kvs s H → wS X st D' σ H) (k : St1 X M R ρ' rest s1 D) : St1 X M R ρ (st :: rest) s D := by
  intro σ H hσ hR
  obtain ⟨kvs, hd⟩ := hk H hR
  refine wB_cons (wS_of (ps_lock ps_w) ⟨d, .dK kvs, hd, trivial, fun od => ?_⟩)
  have e0 : upd (upd H d (.frz od (.dK kvs))) d (.dK kvs) = H := by
    funext a
    by_cases z : a = d
    · subst z; rw [upd_same]; exact hd.symm
    · rw [upd_ne z, upd_ne z]
  have c0 : Ex (cut M H) (cut (rmA d M) (upd H d (.frz od (.dK kvs)))) := fun a o ha => by
    obtain ⟨n, ha⟩ := cut_some ha
    have z : a ≠ d := fun z => n (z ▸ dm)
    rw [cut_out fun q => n (mem_rmA.mp q).1, upd_ne z]
    exact ha
  have key := fun D' hD => h od kvs ⟨H, hR, hd⟩ D' hD σ (upd H d (.frz od (.dK kvs))) (hσ.ex c0) ⟨upd_same, by rw [e0]; exact hR⟩
  refine key _ ?_
  rintro σ' H' hσ' ⟨h1, r1⟩
  exact ⟨h1, k σ' _ (slots_unq h1 hσ') r1⟩
/-- name = [..], the statement alone -/
theorem s_lc (g : Rg M R) {i : Nat} {y : Str} {elt tg iter : Expr} {ifs : List Expr} {scope : Scope} {own : List (Str × Nat)} {pos spos py : Pos} {gt : TG} {n : Nat} {it : Nat → Sl} {ss : Nat → S} {outs : Nat → List PyData} {D : Ends} (hc : X.calm = true) (hN : X.N.Nodup) (hy : X.N[i]? = some y) (hyl : X.env.scope.names.lookup y = some .local)
    (hsw : swapsWith (.ListComp elt [⟨tg, iter, ifs, 0⟩] scope pos) (some (.Name y py)) spos.line X.env = pure true) (ok : BlkOk X.N X.env.scope scope own) (hg : ∀ sh Hh C cl fp, PG (Bk X scope sh Hh C cl fp) tg gt) (hi : EvI1 X M R ρ tg iter s n it (ss 0)) (h0 : outs 0 = []) (hz : ∀ i, i < n → (outs i).length < 100000)
    (hs : ∀ i, i < n → ∃ ρ', Tg1 X.K gt (own.map (·.2)) (wipeR ρ (own.map (·.2))) (it i) ρ' ∧ Lc1 X scope M R ρ' ifs elt (ss i) (outs i) (outs (i + 1)) (ss (i + 1))) (k : ∀ σ H, Slots X.K (cut M H) σ (ρ.set i (.dat (.list (outs n)))) → R (ss n) H → D.nx σ H)
    (hfs : ∀ x, foldedSetIterable iter X.env x = pure x := by intro _; rfl) (σ : St) (H : Hp) (hσ : Slots X.K (cut M H) σ ρ) (hR : R s H) : wS X (.Assign [.Name y py] (.ListComp elt [⟨tg, iter, ifs, 0⟩] scope pos) spos) D σ H := by
  obtain ⟨wi, pwi, hwi⟩ := hi
  refine wS_of (ps_setLc (i := i) (te := wbE X scope elt) (tt := wbT X scope ifs) (g := gt) (own := own) hc hN hy hyl hsw pwi ok hg pts_w (fun sh Hh C cl fp => ⟨fun pins s σ H Q I h => h sh Hh C cl fp pins s I⟩) hfs) ?_
  refine lcT g hwi h0 hz hs σ H _ hσ hR fun L H2 e2 R2 _ d2 => ?_
  exact k _ H2 (Slots.set d2 i (hσ.ex e2)) R2
/-! in a list of flat data -/
theorem t_inL {x : PyData} {ds : List PyData} (ha : Ev1 X M R ρ a s (.dat x) s1) (hb : Ev1 X M R ρ b s1 (.dat (.list ds)) s2) (f : flatD x = true) (fs : ds.all flatD = true) (hm : behindInMarks .In b = false := by with_unfolding_all rfl) :
    EvT1 X M R ρ (.Compare a [.In] [b] pos) s (ds.any fun e => PyData.eqv e x) s2 :=
  t_cmp op_in_seq ha hb (fun x y H Q dx dy hR q => by
    obtain ⟨p, xs, rfl, hp, hd⟩ := sv_lst dy
    refine ⟨p, xs, rfl, .inl (sq_of (ex_cut _ _ hp)), flat_dv dx f, flat_all hd fs, ?_⟩
    rw [in_dv dx f hd fs]
    exact q H (exId _) hR) hm
/-! list(d.values()) -/
theorem e_listVals (g : Rg M R) {al : List (L2.Key × PyData)} (hg : Gl X "list") (hm : X.mg "list" = none) (hc : X.calm = true) (ho : Ev1 X M R ρ o s (.raw (.ref d)) s1) (hk : ∀ H, R s1 H → ∃ kvs, H d = some (.dK kvs) ∧ DkT X.K (cut M H) kvs al)
    (na : starEach [.Call (.Attribute o "values" apos) [] [] cpos] X.env = (false, eval (.Call (.Attribute o "values" apos) [] [] cpos) X.env) :: starEach [] X.env := by rfl)
    (hbase : attributeBase o "values" X.env (eval o X.env) = eval o X.env := by rfl) (hline : (apos.endLine == cpos.line) = true := by rfl) :
    Ev1 X M R ρ (.Call (.Name "list" px) [.Call (.Attribute o "values" apos) [] [] cpos] [] pos) s (.dat (.list (al.map (·.2)))) s1 := by
  intro σ H Q hσ hR q
  refine wE_of (pe_listVals hg hm hc pe_w na hbase hline) ?_
  refine ho σ H _ hσ hR fun v H1 e1 R1 d1 => ?_
  have d1 : v = .ref d := d1
  subst d1
  obtain ⟨kvs, h1, h2⟩ := hk H1 R1
  exact ⟨d, kvs, rfl, h1, fun l n => new_lst g R1 n h2.vals fun v H2 e2 R2 d2 => q v H2 (e1.trans e2) R2 d2⟩
/-- the steps of a comprehension over what is told by its place -/
theorem steps_ix {i : Nat} {elt : Expr} {scope : Scope} {own : List (Str × Nat)} {n : Nat} {it : Nat → PyData} (f : Nat → PyData) (hm : i ∈ own.map (·.2))
    (he : ∀ j, j < n → ∀ sh Hh C cl fp D acc, Rg (D :: M) (RD R D acc) → Ev1 (Bk X scope sh Hh C cl fp) (D :: M) (RD R D acc) ((wipeR ρ (own.map (·.2))).set i (.dat (it j))) elt s (.dat (f j)) s) :
    ∀ j, j < n → ∃ ρ', Tg1 X.K (gName i) (own.map (·.2)) (wipeR ρ (own.map (·.2))) (.dat (it j)) ρ' ∧ Lc1 X scope M R ρ' [] elt s ((List.range j).map f) ((List.range (j + 1)).map f) s := by
  intro j hj
  refine ⟨_, tg_name hm, fun D acc gD => ⟨true, s, ⟨rfl, rfl⟩, fun _ => ⟨f j, ?_, fun sh Hh C cl fp => he j hj sh Hh C cl fp D acc gD⟩, fun h => by cases h⟩⟩
  rw [List.range_succ, List.map_append]
  rfl
theorem len_ix (f : Nat → PyData) {n : Nat} (h : n ≤ 100000) : ∀ i, i < n → ((List.range i).map f).length < 100000 := fun i hi => by
  rw [List.length_map, List.length_range]
  omega
/-- d.get(k) -/
def lookD {κ : Type} [DecidableEq κ] (al : List (κ × PyData)) (k : κ) : Option PyData := (al.find? fun p => decide (p.1 = k)).map (·.2)
theorem dkt_get {κ : Type} [DecidableEq κ] {K : PySem.W.Frag} {H : Hp} {k : κ} : ∀ {a : List (κ × V)} {b : List (κ × PyData)}, DkT K H a b → Dv K H ((valV a k).getD .non) ((lookD b k).getD .none)
  | [], [], _ => .non
  | (k1, v1) :: a, (k2, d2) :: b, ⟨e, h2, h3⟩ => by
    subst e
    by_cases c : k1 = k
    · have e1 : valV ((k1, v1) :: a) k = some v1 := valV_pos (p := (k1, v1)) c
      have e2 : lookD ((k1, d2) :: b) k = some d2 := by unfold lookD; rw [List.find?_cons, decide_eq_true c]; rfl
      rw [e1, e2]
      exact h2
    · have e1 : valV ((k1, v1) :: a) k = valV a k := valV_neg (p := (k1, v1)) c
      have e2 : lookD ((k1, d2) :: b) k = lookD b k := by unfold lookD; rw [List.find?_cons, decide_eq_false c]
      rw [e1, e2]
      exact dkt_get h3
  | [], (_, _) :: _, h => h.elim
  | (_, _) :: _, [], h => h.elim
theorem e_getK {k : L2.Key} {al : List (L2.Key × PyData)} (hu : X.A.units + 1 < cLine) (ho : Ev1 X M R ρ o s (.raw (.ref d)) s) (hk : ∀ H, R s H → ∃ kvs, H d = some (.dK kvs) ∧ DkT X.K (cut M H) kvs al) (he : Ev1 X M R ρ e s (.dat (keyDt k)) s) (m : M1 X o "get" apos e cpos) :
    Ev1 X M R ρ (.Call (.Attribute o "get" apos) [e] [] cpos) s (.dat ((lookD al k).getD .none)) s := by
  intro σ H Q hσ hR q
  refine wE_of (pe_dget1 hu pe_w pe_w m) ?_
  refine ho σ H _ hσ hR fun v H1 e1 R1 d1 => ?_
  have d1 : v = .ref d := d1
  subst d1
  obtain ⟨kvs, h1, h2⟩ := hk H1 R1
  refine ⟨d, rfl, .inl ⟨kvs, .of h1⟩, ?_⟩
  refine he σ H1 _ (hσ.ex e1) R1 fun y H2 e2 R2 d2 => ?_
  obtain ⟨kvs2, h3, h4⟩ := hk H2 R2
  have ey : y = kV k := by
    cases k with
    | inl i => exact sv_int d2
    | inr x => exact sv_str d2
  subst ey
  exact ⟨_, .k h3, q _ H2 (e1.trans e2) R2 (dkt_get h4)⟩
end
end DV
namespace K04
open PySem PySem.Spec L2 Evl DV LamX NdefX
open PyProof.Rows hiding St cutD
abbrev fldsS : List String := ["_number", "_many", "_rules", "_now", "_log", "_applied", "_turn", "_waits", "_known", "_heard_at"]
structure SiteK (K : PySem.W.Frag) (C : Addr) : Prop where
  cls : Cls K C
  na : ∀ f ∈ fldsS, NoAttr K C (Str.ofString f)
section
variable {P : Program} {w : World} {K : PySem.W.Frag} {mg : Str → Option Value} {base : Heap} {C : Addr}
/-! what a site tells -/
def gApplied (S : SD) (rs : List Sl) (o : Out) (S' : SD) : Prop := rs = [] ∧ o = .ok (.dat (.tuple (dI S.app))) ∧ S' = S
theorem scApplied : FnScope ["self"] ["self"] (defScope (siteM 5)) := ⟨rfl, rfl, rfl, by decide +kernel, rfl, by decide +kernel, by decide +kernel⟩
theorem m_applied (k : SiteK K C) (d : MD K C "applied" "Site.applied" (siteM 5) ["self"]) : Mth P w K mg base C "applied" 0 [] (fun us _ => us) 1 (spM K C gApplied) := by
  refine d.mth scApplied rfl (fun S rs o S' ⟨e, _⟩ => by rw [e]; rfl) ?_
  rintro S rs o S' ⟨rfl, rfl, rfl⟩ f cdv A outer sh H E M ad R D hr g I qr qn qe
  exact st_ret (e_sF I k.cls (k.na "_applied" (by decide)) (v 0) (by rfl)) fun v H' R' sv => qr _ v H' rfl R' sv
/-! waiting, of a site where nothing waits -/
def gWaiting0 (S : SD) (rs : List Sl) (o : Out) (S' : SD) : Prop := rs = [] ∧ S.waits = [] ∧ o = .ok (.dat (.list [])) ∧ S' = S
theorem scWaiting : FnScope ["self"] ["self"] (defScope (siteM 6)) := ⟨rfl, rfl, rfl, by decide +kernel, rfl, by decide +kernel, by decide +kernel⟩
theorem m_waiting0 (k : SiteK K C) (hs : mg "sorted" = none) (d : MD K C "waiting" "Site.waiting" (siteM 6) ["self"]) : Mth P w K mg base C "waiting" 0 [] (fun us _ => us) 1 (spM K C gWaiting0) := by
  refine d.mth scWaiting rfl (fun S rs o S' ⟨e, _⟩ => by rw [e]; rfl) ?_
  rintro S rs o S' ⟨rfl, hw, rfl, rfl⟩ f cdv A outer sh H E M ad R D hr g I qr qn qe
  refine st_ret (s1 := S') (r := .dat (.list [])) ?_ fun v H' R' sv => qr _ v H' rfl R' sv
  refine e_callB (cr_sortedT1 rfl hr.units) (by rfl) hs DV.boot_sorted (a1 (e_sF (f := "_waits") (r := .raw (.ref ad.wt)) I k.cls (k.na "_waits" (by decide)) (v 0) (by rfl))) (fun vs H1 Q h hR q => ?_) (by decide) (by decide) (by rfl) (by rfl)
  obtain ⟨u, rfl, h1⟩ := svall1 h
  have h1 : u = .ref ad.wt := h1
  subst h1
  obtain ⟨kvs, h2, h3⟩ := (I.at_ hR).wt
  have ek : kvs = [] := by
    have := h3.len
    rw [show (id S').waits = [] from hw] at this
    exact List.eq_nil_of_length_eq_zero this
  subst ek
  exact ⟨M, ad.wt, [], rfl, h2, fun z => absurd rfl z, fun d h => (by cases h), Or.inr fun d h => (by cases h), fun ys p hy n => new_lst g hR n (ds := []) (by
    have em : (placesD ([] : List (List L2.Key × V))).mergeSort (PySem.W.dataLe false id) = [] := by
      show ([] : List PyData).mergeSort _ = []
      simp
    rw [em] at hy
    exact hy) q⟩
/-! log -/
def gLog (S : SD) (rs : List Sl) (o : Out) (S' : SD) : Prop := rs = [] ∧ o = .ok (.dat (.list S.log)) ∧ S' = S
theorem scLog : FnScope ["self"] ["self"] (defScope (siteM 7)) := ⟨rfl, rfl, rfl, by decide +kernel, rfl, by decide +kernel, by decide +kernel⟩
theorem m_log (B : Bl mg) (k : SiteK K C) (d : MD K C "log" "Site.log" (siteM 7) ["self"]) : Mth P w K mg base C "log" 0 [] (fun us _ => us) 1 (spM K C gLog) := by
  refine d.mth scLog rfl (fun S rs o S' ⟨e, _⟩ => by rw [e]; rfl) ?_
  rintro S rs o S' ⟨rfl, rfl, rfl⟩ f cdv A outer sh H E M ad R D hr g I qr qn qe
  exact st_ret (e_listM g (l := ad.l) (fun H hR => (I.at_ hR).log) (by rfl) B.list (a1 (e_sF I k.cls (k.na "_log" (by decide)) (v 0) (by rfl)))) fun v H' R' sv => qr _ v H' rfl R' sv
/-! _check_now -/
def okNow (n : Int) : Prop := 0 ≤ n ∧ n ≤ 1000000
def gNow (CN : Addr) (S : SD) (rs : List Sl) (o : Out) (S' : SD) : Prop := ∃ d, rs = [.dat d] ∧ okNow S.now ∧ S' = S ∧ o = if wholeD d S.now 1000000 then .ok (.dat .none) else .er (.ref CN)
theorem scNow : FnScope ["self", "now"] ["self", "now"] (defScope (siteM 10)) := ⟨rfl, rfl, rfl, by decide +kernel, rfl, by decide +kernel, by decide +kernel⟩
theorem m_now {CN : Addr} (k : SiteK K C) (gm : Gm mg) (n : DV.Exn K mg "BadNow" CN) (cW : Cal P w K mg base "is_whole" 1 (DV.spS K gWhole)) (d : MD K C "_check_now" "Site._check_now" (siteM 10) ["self", "now"]) : Mth P w K mg base C "_check_now" 1 [] (fun us _ => us) 2 (spM K C (gNow CN)) := by
  refine d.mth scNow rfl (fun S rs o S' ⟨_, e, _⟩ => by rw [e]; rfl) ?_
  rintro S rs o S' ⟨dn, rfl, ok, rfl, rfl⟩ f cdv A outer sh H E M ad R D hr g I qr qn qe
  have en : ∀ {pp p1 : Pos}, Ev1 (dx P w K mg base ["self", "now"] "Site._check_now" (siteM 10) f cdv A outer sh H E) M R (ini ["self", "now"] [.raw (.ref ad.x), .dat dn]) (.Attribute (.Name "self" p1) "_now" pp) S' (.dat (.int S'.now)) S' := fun {pp p1} => e_sF I k.cls (k.na "_now" (by decide)) (v 0) (by rfl)
  refine st_if (k := !wholeD dn S'.now 1000000) (s1 := S') (t_not (t_val (e_call g cW hr (Nat.le_refl _) (by rfl) ⟨dn, S'.now, 1000000, rfl, rfl⟩ (a_cons (v 1) (a_cons en (a_cons (gi gm.last) a_nil)))))) (fun h => ?_) (fun h => st_thru ?_)
  · have hk : wholeD dn S'.now 1000000 = false := (Bool.not_eq_true' _).mp h
    rw [hk] at qe
    have l1 : S'.now.natAbs.log2 < 1920 := by
      by_cases z : S'.now = 1000000
      · rw [z]; decide
      · exact log_small ok.1 (by have := ok.2; omega)
    refine st_raise rfl n (takes_of rfl rfl rfl rfl) (by rfl) (a_cons (e_fstr (j_cons e_str (j_cons (e_fmtI l1 en) (j_cons e_str (j_cons (e_fmtI (by decide) (gi gm.last)) j_nil)))) ?_) a_nil) (by simp) fun σ H' _ R' => qe _ H' rfl R'
    have z1 := fmt_len l1
    have z2 : (Str.ofString (toString (1000000 : Int))).length ≤ 10000 := fmt_len (by decide)
    have z3 : (Str.ofString "here a moment is a number from ").length ≤ 1000 := by decide +kernel
    have z4 : (Str.ofString " to ").length ≤ 1000 := by decide +kernel
    show _ + (_ + (_ + (_ + 0))) ≤ 100000
    omega
  · have hk : wholeD dn S'.now 1000000 = true := (Bool.not_eq_false' _).mp h
    rw [hk] at qn
    exact st_nil fun σ H _ R' => qn σ H rfl R'
/-! _check_token, of none -/
def gTok0 (S : SD) (rs : List Sl) (o : Out) (S' : SD) : Prop := rs = [.dat .none] ∧ S' = S ∧ o = .ok (.dat .none)
abbrev nTok : List Str := ["self", "token", "lacks", "site", "has"]
theorem scTok : FnScope nTok ["self", "token"] (defScope (siteM 11)) := ⟨rfl, rfl, rfl, by decide +kernel, rfl, by decide +kernel, by decide +kernel⟩
theorem m_tok0 (d : MD K C "_check_token" "Site._check_token" (siteM 11) ["self", "token"]) : Mth P w K mg base C "_check_token" 1 [] (fun us _ => us) 1 (spM K C gTok0) := by
  refine d.mth scTok rfl (fun S rs o S' ⟨e, _⟩ => by rw [e]; rfl) ?_
  rintro S rs o S' ⟨rfl, rfl, rfl⟩ f cdv A outer sh H E M ad R D hr g I qr qn qe
  exact st_if (k := true) (t_isN (d := .none) (v 1)) (fun _ => st_retN fun H' R' => qr _ .non H' rfl R' .non) (fun h => by cases h)
end
end K04
namespace K04
open PySem PySem.Spec L2 Evl DV LamX NdefX
open PyProof.Rows hiding St cutD
section
variable {P : Program} {w : World} {K : PySem.W.Frag} {mg : Str → Option Value} {base : Heap} {C : Addr}
/-! _stale_by, where some site was not heard -/
def momD (S : SD) (kv : L2.Key × PyData) : PyData := (lookD S.heard kv.1).getD .none
def momsD (S : SD) : List PyData := S.known.map (momD S)
def gStaleN (S : SD) (rs : List Sl) (o : Out) (S' : SD) : Prop := ∃ now : Int, rs = [.dat (.int now)] ∧ (momsD S).all flatD = true ∧ ((momsD S).any fun e => PyData.eqv e .none) = true ∧ S.known.length ≤ 100000 ∧ S' = S ∧ o = .ok (.dat .none)
abbrev nStale : List Str := ["self", "now", "moments", "other"]
theorem scStale : FnScope nStale ["self", "now"] (defScope (siteM 13)) := ⟨rfl, rfl, rfl, by decide +kernel, rfl, by decide +kernel, by decide +kernel⟩
theorem m_staleN (k : SiteK K C) (d : MD K C "_stale_by" "Site._stale_by" (siteM 13) ["self", "now"]) : Mth P w K mg base C "_stale_by" 1 [] (fun us _ => us) 1 (spM K C gStaleN) := by
  refine d.mth scStale rfl (fun S rs o S' ⟨_, e, _⟩ => by rw [e]; rfl) ?_
  rintro S rs o S' ⟨now, rfl, hf, hn, hz, rfl, rfl⟩ f cdv A outer sh H E M ad R D hr g I qr qn qe
  have kM : ad.kn ∈ M := I.sub _ (by unfold Ad.m; simp)
  refine st_lockQ (d := ad.kn) (s1 := S') (ρ' := [.raw (.ref ad.x), .dat (.int now), .dat (.list (momsD S')), .any]) kM (fun H hR => by
    obtain ⟨kvs, h1, _⟩ := (I.at_ hR).kn
    exact ⟨kvs, h1⟩) (fun od kvs hex D' hD => ?_) ?_
  · obtain ⟨H9, hR9, h9⟩ := hex
    have hkeys : kvs.map (·.1) = S'.known.map (·.1) := by
      obtain ⟨kvs', h1, h2⟩ := (I.at_ hR9).kn
      rw [h9] at h1
      cases h1
      exact h2.keys
    have hlen : kvs.length = S'.known.length := by
      have := congrArg List.length hkeys
      rw [List.length_map, List.length_map] at this
      exact this
    have gQ : Rg (rmA ad.kn M) (RQ R ad.kn od kvs) := RQ.rg g
    have fq : ∀ {f9 : Str} {r : Sl} {D9 : Addr} {acc9 : List V} {H : Hp}, (sF ad S').lookup f9 = some r → (∃ a, r = .raw (.ref a)) → (RQ R ad.kn od kvs S' H) → ∃ dx fs v, H ad.x = some (.ins C dx fs) ∧ fs.lookup f9 = some v ∧ Sv K (cut (rmA ad.kn M) H) r v := fun {f9 r D9 acc9 H} hl hr h => by
      have sa := I.at_ h.2
      obtain ⟨vs, h1, h2⟩ := sa.ins
      obtain ⟨v, h3, h4⟩ := h2.look hl
      have nk : ad.x ≠ ad.kn := sa.nex.2.2.2.1
      rw [upd_ne nk] at h1
      obtain ⟨a, rfl⟩ := hr
      exact ⟨_, vs, v, h1, h3, h4⟩
    refine s_lc gQ (i := 2) (own := [("other", 3)]) (gt := gName 3) (n := kvs.length) (it := itK kvs) (ss := fun _ => S') (outs := fun i => (S'.known.take i).map (momD S')) rfl scStale.nd rfl rfl (sw_true rfl rfl rfl (by decide)) (blkOk_by (N := nStale) (sc := defScope (siteM 13)) (by decide +kernel)) (fun sh Hh C cl fp => pg_name (i := 3) scStale.nd rfl (Or.inl rfl))
      (i_keysQ (e_fld k.cls (k.na "_known" (by decide)) (v 0) (fun H h => fq (D9 := 0) (acc9 := []) rfl ⟨_, rfl⟩ h))) rfl (fun i hi => by rw [List.length_map, List.length_take]; omega) (fun j hj => ?_) (fun σ H hσ hR => ?_)
    · have hj' : j < S'.known.length := by omega
      obtain ⟨kv, hkv⟩ : ∃ kv, S'.known[j]? = some kv := ⟨_, List.getElem?_eq_getElem hj'⟩
      have hk2 : ∃ v, kvs[j]? = some (kv.1, v) := by
        have e1 : (kvs.map (·.1))[j]? = some kv.1 := by rw [hkeys, List.getElem?_map, hkv]; rfl
        rw [List.getElem?_map] at e1
        cases e2 : kvs[j]? with
        | none => rw [e2] at e1; cases e1
        | some p =>
          rw [e2] at e1
          obtain ⟨p1, p2⟩ := p
          have e1 : some p1 = some kv.1 := e1
          cases e1
          exact ⟨p2, rfl⟩
      obtain ⟨v2, hk2⟩ := hk2
      have eit : itK kvs j = .dat (keyDt kv.1) := by unfold itK; rw [hk2]
      rw [eit]
      refine ⟨_, tg_name (by simp), fun D acc gD => ⟨true, S', ⟨rfl, rfl⟩, fun _ => ⟨momD S' kv, ?_, fun sh Hh C cl fp => ?_⟩, fun h => (by cases h)⟩⟩
      · rw [take_succ' hkv, List.map_append]
        rfl
      · refine e_getK (d := ad.hd) (al := S'.heard) (k := kv.1) (Nat.lt_of_le_of_lt (Nat.add_le_add_left (by decide : 1 ≤ 64) _) hr.units) (e_fld k.cls (k.na "_heard_at" (by decide)) (v 0) (fun H h => ?_)) (fun H h => ?_) (v 3) ⟨rfl, rfl, rfl, rfl⟩
        · have sa := I.at_ h.1.2
          obtain ⟨vs, h1, h2⟩ := sa.ins
          obtain ⟨v, h3, h4⟩ := h2.look (f := "_heard_at") (r := .raw (.ref ad.hd)) rfl
          rw [upd_ne sa.nex.2.2.2.1] at h1
          exact ⟨_, vs, v, (rem_some h1).2, h3, h4⟩
        · have sa := I.at_ h.1.2
          obtain ⟨kv3, h1, h2⟩ := sa.hd
          rw [upd_ne (Ne.symm sa.ne)] at h1
          refine ⟨kv3, (rem_some h1).2, h2.ex fun a o ha => ?_⟩
          obtain ⟨n, ha⟩ := cut_some ha
          have na : a ≠ ad.kn := fun z => n (z ▸ kM)
          rw [upd_ne na] at ha
          obtain ⟨nD, ha⟩ := rem_some ha
          rw [cut_out fun m => (List.mem_cons.mp m).elim nD fun m => n (mem_rmA.mp m).1]
          exact ha
    · rw [hlen, List.take_length] at hσ
      exact hD σ H hσ hR
  · refine st_if (k := true) (by rw [← hn]; exact t_inL (x := .none) e_non (v 2) rfl hf) (fun _ => st_ret e_non fun v H' R' sv => qr _ v H' rfl R' sv) (fun h => by cases h)
end
end K04
namespace DV
open PySem PySem.Spec L2 Evl LamX NdefX
open PyProof.Rows hiding St cutD
theorem dva_flat {K : PySem.W.Frag} {H H2 : Hp} : ∀ {ds : List PyData} {vs : List V}, DvAll K H vs ds → ds.all flatD = true → DvAll K H2 vs ds
  | [], _, h, _ => by cases h; exact .nil
  | d :: ds, _, h, q => by
    rw [List.all_cons, Bool.and_eq_true] at q
    cases h with
    | cons h1 h2 =>
      refine .cons ?_ (dva_flat h2 q.2)
      cases h1 <;> first | exact .non | exact .bl _ | exact .int _ | exact .str _ | (cases q.1; done)
def lowD : PyData → Bool
  | .list ds => ds.all flatD
  | d => flatD d
section
variable {S : Type} {X : Cx} {M : List Addr} {R : S → Hp → Prop} {ρ : List Sl} {s s1 : S} {x : Str} {e : Expr} {es : List Expr} {px pos : Pos} {rs rs' : List Sl} {j k : Nat}
theorem t_isNotN {a : Expr} {pos' : Pos} {d : PyData} {j} (h : Ev1 X M R ρ a s (.dat d) s1) : EvT1 X M R ρ (.Compare a [.IsNot] [.Constant .none j pos'] pos) s (!isN d) s1 := fun σ H Q hσ hR q =>
  wT_of (pt_cmp (pc_notN pe_w) rfl) (h σ H _ hσ hR fun v H1 e1 R1 d1 => ⟨_, rfl, by
    rw [dv_non (show Dv X.K (cut M H1) v d from d1)]
    exact q H1 e1 R1⟩)
/-- a call that reads what may change, and hands back something low and new -/
theorem e_callLow (g : Rg M R) {G : List Sl → Sl → Prop} {d : PyData} (c : Cal X.prog X.w X.K X.mg X.base x k (spF X.K G)) (hr : Room j X.A) (hk : k ≤ j) (hg : Gl X x) (hG : G rs' (.dat d)) (hl : lowD d = true) (ha : EvA1 X M R ρ (e :: es) s rs s1)
    (hrs : ∀ H1 vs, R s1 H1 → SvAll X.K (cut M H1) rs vs → SvAll X.K H1 rs' vs) (hdb : (x == ("__debug__" : Str)) = false := by decide)
    (he : starEach (e :: es) X.env = (false, eval e X.env) :: starEach es X.env := by rfl) (hpl : (backTo pos (starEach es X.env)).any (·.1) = false := by rfl) : Ev1 X M R ρ (.Call (.Name x px) (e :: es) [] pos) s (.dat d) s1 := by
  intro σ H Q hσ hR q
  refine w_call c hr hk hg passL ha hσ hR (fun vs H1 e1 d1 R1 => ?_) hdb he hpl
  refine ⟨[], rs', .dat d, fun a m => (by cases m), by rw [cut_nil]; exact hrs H1 vs R1 d1, hG, fun v H' e2 sv fr => q v H' (e1.trans (exCut e2)) (g.up R1 e2) ?_⟩
  rw [cut_nil] at sv
  cases d with
  | list ds =>
    obtain ⟨a, xs, rfl, ha, hd⟩ := sv_lst sv
    have nM : a ∉ M := fun m => by
      obtain ⟨o, ho⟩ := g.dom R1 m
      rw [fr a rfl] at ho
      cases ho
    exact .lst (by rw [cut_out nM]; exact ha) (dva_flat hd hl)
  | none => rw [sv_non sv]; exact .non
  | bool b => rw [sv_bl sv]; exact .bl b
  | int i => rw [sv_int sv]; exact .int i
  | str z => rw [sv_str sv]; exact .str z
  | tuple _ => cases hl
  | dict _ => cases hl
end
end DV
namespace K04
open PySem PySem.Spec L2 Evl DV LamX NdefX
open PyProof.Rows hiding St cutD
section
variable {P : Program} {w : World} {K : PySem.W.Frag} {mg : Str → Option Value} {base : Heap} {C : Addr}
def SD.at (S : SD) (t : Int) : SD := { S with now := t }
theorem whole_now {t lo : Int} (h1 : lo ≤ t) (h2 : t ≤ 1000000) : wholeD (.int t) lo 1000000 = true := by
  show (decide (lo ≤ t) && decide (t ≤ 1000000)) = true
  rw [decide_eq_true h1, decide_eq_true h2]
  rfl
theorem now_ok {CN : Addr} {t lo : Int} (h1 : lo ≤ t) (h2 : t ≤ 1000000) : Out.ok (.dat .none) = if wholeD (.int t) lo 1000000 = true then Out.ok (.dat .none) else Out.er (.ref CN) := by
  rw [whole_now h1 h2]
  rfl
/-! stale, where some site was not heard -/
def gStaleP (S : SD) (rs : List Sl) (o : Out) (S' : SD) : Prop := ∃ t : Int, rs = [.dat (.int t)] ∧ okNow S.now ∧ S.now ≤ t ∧ t ≤ 1000000 ∧ (momsD S).all flatD = true ∧ ((momsD S).any fun e => PyData.eqv e .none) = true ∧ S.known.length ≤ 100000 ∧ S' = SD.at S t ∧ o = .ok (.dat .none)
theorem scStaleP : FnScope ["self", "now"] ["self", "now"] (defScope (siteM 9)) := ⟨rfl, rfl, rfl, by decide +kernel, rfl, by decide +kernel, by decide +kernel⟩
theorem m_stale {CN : Addr} (k : SiteK K C) (cN : Mth P w K mg base C "_check_now" 1 [] (fun us _ => us) 2 (spM K C (gNow CN))) (cS : Mth P w K mg base C "_stale_by" 1 [] (fun us _ => us) 1 (spM K C gStaleN)) (d : MD K C "stale" "Site.stale" (siteM 9) ["self", "now"]) : Mth P w K mg base C "stale" 1 [] (fun us _ => us) 3 (spM K C gStaleP) := by
  refine d.mth scStaleP rfl (fun S rs o S' ⟨_, e, _⟩ => by rw [e]; rfl) ?_
  rintro S rs o S' ⟨t, rfl, ok, h1, h2, hf, hn, hz, rfl, rfl⟩ f cdv A outer sh H E M ad R D hr g I qr qn qe
  refine st_expr (e_sM (pl := _) (rv := [.dat (.int t)]) (r := .dat .none) g I cN hr (Nat.le_refl _) (v 0) (a_cons (v 1) a_nil) k_nil rfl rfl (fun H' vs us h1 _ => ⟨rfl, h1⟩) ⟨.int t, rfl, ok, rfl, now_ok h1 h2⟩ rfl) ?_
  refine st_sF (f := "_now") (S' := SD.at S t) I k.cls (k.na "_now" (by decide)) (v 1) (v 0) rfl ⟨rfl, rfl, rfl, rfl⟩ (fun H h => h.nex) ?_
  refine st_ret (e_sM (pl := _) (rv := [.dat (.int t)]) (r := .dat .none) (S' := SD.at S t) g I cS hr (by decide) (v 0) (a_cons (v 1) a_nil) k_nil rfl rfl (fun H' vs us h1 _ => ⟨rfl, h1⟩) ⟨t, rfl, hf, hn, hz, rfl, rfl⟩ rfl) fun v H' R' sv => qr _ v H' rfl R' sv
/-! look, by no token -/
def gLook0 (S : SD) (rs : List Sl) (o : Out) (S' : SD) : Prop := ∃ (t : Int) (key : Nat) (ps : List Pt), rs = [.dat (.int t), .dat (.int key), .dat .none, .dat .none] ∧ okNow S.now ∧ S.now ≤ t ∧ t ≤ 1000000 ∧ okRules S.rules ∧ key < S.rules.length ∧ S.log = dP ps ∧ okPts ps ∧
  S' = SD.at S t ∧ o = .ok (.dat (heldD (S.rules.getD key Str.empty) (ofKey ps key)))
abbrev nLook : List Str := ["self", "now", "key", "token", "within"]
theorem scLook : FnScope nLook nLook (defScope (siteM 2)) := ⟨rfl, rfl, rfl, by decide +kernel, rfl, by decide +kernel, by decide +kernel⟩
theorem flat_dI (ns : List Int) : (dI ns).all flatD = true := by
  rw [List.all_eq_true]
  intro x hx
  obtain ⟨i, _, rfl⟩ := List.mem_map.mp hx
  rfl
theorem low_held (x : Str) (ps : List Pt) (hx : x ∈ wordsL) : lowD (heldD x ps) = true := by
  unfold heldD
  by_cases h1 : x = ("sum" : Str)
  · rw [if_pos h1]; rfl
  · rw [if_neg h1]
    by_cases h2 : x = ("most" : Str)
    · rw [if_pos h2]
      cases ps with
      | nil => rfl
      | cons p t => rfl
    · rw [if_neg h2]
      by_cases h3 : x = ("last" : Str)
      · rw [if_pos h3]
        unfold lastW
        by_cases z : ps = []
        · rw [if_pos z]; rfl
        · rw [if_neg z]
          obtain ⟨p, _, e⟩ := best_in (i := 3) (j := 0) z
          rw [e]
          rfl
      · rw [if_neg h3]
        exact flat_dI _
theorem m_look0 {CN CK : Addr} {gV : List V → List V → List V} {n : Nat} {ks : List Str} (k : SiteK K C) (cN : Mth P w K mg base C "_check_now" 1 [] (fun us _ => us) 2 (spM K C (gNow CN))) (cT : Mth P w K mg base C "_check_token" 1 [] (fun us _ => us) 1 (spM K C gTok0)) (cK : Cal P w K mg base "check_key" 3 (DV.spS K (gChkK CK)))
    (cP : Cal P w K mg base "plainly" 5 (spF K gPlain)) (d : MK K C "look" "Site.look" (siteM 2) nLook n ks gV) : Mth P w K mg base C "look" n ks gV 6 (spM K C gLook0) := by
  refine d.mth (j := 4) scLook rfl (fun S rs o S' ⟨_, _, _, e, _⟩ => by rw [e]; rfl) ?_
  rintro S rs o S' ⟨t, key, ps, rfl, ok, h1, h2, hws, hkey, hlog, hok, rfl, rfl⟩ f cdv A outer sh H E M ad R D hr g I qr qn qe
  refine st_expr (e_sM (pl := _) (rv := [.dat (.int t)]) (r := .dat .none) g I cN hr (by decide) (v 0) (a_cons (v 1) a_nil) k_nil rfl rfl (fun H' vs us h1 _ => ⟨rfl, h1⟩) ⟨.int t, rfl, ok, rfl, now_ok h1 h2⟩ rfl) ?_
  have hwhole : wholeD (.int key) 0 ((S.rules.length : Int) - 1) = true := by
    show (decide ((0 : Int) ≤ key) && decide ((key : Int) ≤ (S.rules.length : Int) - 1)) = true
    rw [decide_eq_true (by omega), decide_eq_true (by omega)]
    rfl
  refine st_expr (e_call g cK hr (by decide) (by rfl) (r := .dat .none) ⟨.int key, S.rules, rfl, hws.2.1, by rw [hwhole]; rfl⟩ (a_cons (v 2) (a_cons (e_sF I k.cls (k.na "_rules" (by decide)) (v 0) (by rfl)) a_nil))) ?_
  refine st_expr (e_sM (pl := _) (rv := [.dat .none]) (r := .dat .none) g I cT hr (by decide) (v 0) (a_cons (v 3) a_nil) k_nil rfl rfl (fun H' vs us h1 _ => ⟨rfl, h1⟩) ⟨rfl, rfl, rfl⟩ rfl) ?_
  refine st_if (k := !isN .none) (t_isNotN (d := .none) (v 4)) (fun h => by cases h) (fun _ => st_thru ?_)
  refine st_sF (f := "_now") (S' := SD.at S t) I k.cls (k.na "_now" (by decide)) (v 1) (v 0) rfl ⟨rfl, rfl, rfl, rfl⟩ (fun H h => h.nex) ?_
  have hwk : S.rules[key]? = some (S.rules.getD key Str.empty) := by rw [List.getD_eq_getElem?_getD, List.getElem?_eq_getElem hkey]; rfl
  refine st_ret (s1 := SD.at S t) (r := .dat (heldD (S.rules.getD key Str.empty) (ofKey ps key))) (e_callLow (rs := [.raw (.ref ad.l), .dat (.tuple (S.rules.map .str)), .dat (.int key)]) (rs' := [.dat (.list (dP ps)), .dat (.tuple (S.rules.map .str)), .dat (.int key)]) g cP hr (Nat.le_refl _) (by rfl) ⟨ps, S.rules, key, rfl, hok, hws, hkey, rfl⟩ (low_held _ _ (hws.2.2 _ (List.mem_of_getElem? hwk)))
    (a_cons (e_sF I k.cls (k.na "_log" (by decide)) (v 0) (by rfl)) (a_cons (e_sF I k.cls (k.na "_rules" (by decide)) (v 0) (by rfl)) (a_cons (v 2) a_nil))) (fun H1 vs R1 sv => ?_)) fun v H' R' sv => qr _ v H' rfl R' sv
  obtain ⟨v1, v2, v3, rfl, d1, d2, d3⟩ := svall3 sv
  have d1 : v1 = .ref ad.l := d1
  subst d1
  obtain ⟨xs, hx, hd⟩ := (I.at_ R1).log
  have hd : DvAll K (cut M H1) xs S.log := hd
  rw [hlog] at hd
  exact ⟨.lst hx (dpa_ex ex_cut _ _ hd), dp_ex ex_cut _ _ d2, dp_ex ex_cut _ _ d3, trivial⟩
end
end K04
namespace K04
open PySem PySem.Spec L2 Evl DV LamX NdefX
open PyProof.Rows hiding St cutD
section
variable {P : Program} {w : World} {K : PySem.W.Frag} {mg : Str → Option Value} {base : Heap} {C : Addr}
abbrev KT := List (L2.Key × List Int)
def ktD (kt : KT) : List (L2.Key × PyData) := kt.map fun q => (q.1, .tuple (dI q.2))
/-- what all others are known to have of a site -/
def hadA (kt : KT) (j : Nat) : Int := minI (kt.map fun q => q.2.getD j 0)
def keptP (kt : KT) (ps : List Pt) : List Pt := ps.filter fun p => decide (hadA kt p.site < p.num)
theorem noLs_ints (ns : List Int) : noLs (dI ns) = true := by
  induction ns with
  | nil => rfl
  | cons n ns ih => exact ih
theorem noLs_dP (ps : List Pt) : noLs (dP ps) = true := by
  induction ps with
  | nil => rfl
  | cons p ps ih =>
    have h : noL (ptD p) = true := by
      show (true && (true && (noLs (dI p.past) && (true && (true && (true && true)))))) = true
      rw [noLs_ints]
      rfl
    show (noL (ptD p) && noLs (dP ps)) = true
    rw [h]
    exact ih
theorem ktD_rows (kt : KT) : (ktD kt).map (·.2) = (kt.map fun q => dI q.2).map PyData.tuple := by
  unfold ktD
  rw [List.map_map, List.map_map]
  rfl
theorem colD_ints {kt : KT} {m j : Nat} (h : ∀ q ∈ kt, q.2.length = m) (hj : j < m) : colD (kt.map fun q => dI q.2) j = .tuple (dI (kt.map fun q => q.2.getD j 0)) := by
  show PyData.tuple _ = PyData.tuple (List.map _ _)
  rw [List.map_map, List.map_map]
  congr 1
  refine List.map_congr_left fun q hq => ?_
  have hl := h q hq
  show (List.map PyData.int q.2).getD j .none = .int (q.2.getD j 0)
  rw [List.getD_eq_getElem?_getD, List.getElem?_map, List.getD_eq_getElem?_getD, List.getElem?_eq_getElem (by omega)]
  rfl
def gKeptP (S : SD) (rs : List Sl) (o : Out) (S' : SD) : Prop := ∃ (ps : List Pt) (kt : KT), rs = [] ∧ S.log = dP ps ∧ S.known = ktD kt ∧ 1 ≤ kt.length ∧ kt.length ≤ 4 ∧ (∀ q ∈ kt, q.2.length = S.many) ∧ (∀ p ∈ ps, p.site < S.many) ∧ S.many ≤ 5 ∧ ps.length ≤ 100000 ∧ S' = S ∧ o = .ok (.dat (.list (dP (keptP kt ps))))
abbrev nKeptP : List Str := ["self", "known", "had_by_all", "counts", "put"]
theorem scKeptP : FnScope nKeptP ["self"] (defScope (siteM 16)) := ⟨rfl, rfl, rfl, by decide +kernel, rfl, by decide +kernel, by decide +kernel⟩
theorem m_keptP (B : Bl mg) (gk : Gk mg) (hmin : mg "min" = none) (k : SiteK K C) (d : MD K C "_kept_puts" "Site._kept_puts" (siteM 16) ["self"]) : Mth P w K mg base C "_kept_puts" 0 [] (fun us _ => us) 1 (spM K C gKeptP) := by
  refine d.mth scKeptP rfl (fun S rs o S' ⟨_, _, e, _⟩ => by rw [e]; rfl) ?_
  rintro S rs o S' ⟨ps, kt, rfl, hlog, hkn, h1, h4, hlen, hsite, hm5, hz, rfl, rfl⟩ f cdv A outer sh H E M ad R D hr g I qr qn qe
  refine st_set 1 (r := .dat (.list ((kt.map fun q => dI q.2).map PyData.tuple))) (s1 := S') scKeptP.nd rfl (Or.inl rfl) (by
    rw [← ktD_rows, ← hkn]
    exact e_listVals g (d := ad.kn) (by rfl) B.list rfl (e_sF I k.cls (k.na "_known" (by decide)) (v 0) (by rfl)) (fun H hR => (I.at_ hR).kn)) ?_
  refine st_set 2 (r := .dat (.list ((List.range S'.many).map fun j => .int (hadA kt j)))) (s1 := S') scKeptP.nd rfl (Or.inr rfl) (e_lc (own := [("counts", 3)]) (gt := gName 3) (n := S'.many) (it := fun i => .dat (colD (kt.map fun q => dI q.2) i)) (ss := fun _ => S') (outs := fun i => (List.range i).map fun j => .int (hadA kt j)) g rfl scKeptP.nd (blkOk_by (N := nKeptP) (sc := defScope (siteM 16)) (by decide +kernel)) (fun sh Hh C cl fp => pg_name (i := 3) scKeptP.nd rfl (Or.inl rfl))
    (i_zipStar (by rw [List.length_map]; exact h1) (by rw [List.length_map]; exact h4) (fun r hr => by
      obtain ⟨q, hq, rfl⟩ := List.mem_map.mp hr
      show (List.map _ _).length = _
      rw [List.length_map, hlen q hq]) (by rfl) B.zip (v 1)) rfl (len_ix _ (by omega)) (steps_ix _ (by simp) (fun j hj sh Hh C cl fp D acc gD => ?_))) ?_
  · rw [colD_ints hlen hj]
    exact e_minT rfl hr.units (by
      intro z
      have := congrArg List.length z
      rw [List.length_map] at this
      have : kt.length = 0 := this
      omega) (by rfl) hmin (a1 (v 3))
  let fD : PyData → Bool := fun d => match d with
    | .tuple (.int s :: .int n :: _) => decide (hadA kt s.toNat < n)
    | _ => false
  have em : ((dP ps).filter fD).map id = dP (keptP kt ps) := by
    rw [List.map_id]
    show (List.map ptD ps).filter fD = List.map ptD (ps.filter _)
    rw [List.filter_map]
    congr 1
  refine st_still (l := ad.l) (ds := dP ps) (fun H hR => by rw [← hlog]; exact (I.at_ hR).log) fun xs => ?_
  have gZ : Rg (rmA ad.l M) (RZ K M R ad.l xs (dP ps)) := RZ.rg g
  refine st_retLc gZ (own := [("put", 4)]) (gt := gName 4) (n := (dP ps).length) (it := itD (dP ps)) (ss := fun _ => S') (outs := fun i => (((dP ps).take i).filter fD).map id) rfl scKeptP.nd (blkOk_by (N := nKeptP) (sc := defScope (siteM 16)) (by decide +kernel)) (fun sh Hh C cl fp => pg_name (i := 4) scKeptP.nd rfl (Or.inl rfl))
    (i_list (e_asD (a := ad.l) (e_fld k.cls (k.na "_log" (by decide)) (v 0) (fun H h => ?_)) (fun H h => RZ.dv h))) rfl (len_filter fD id (by rw [List.length_map]; exact hz)) (steps_filter fD id (by simp) (fun d hd sh Hh C cl fp D acc gD => ?_) (fun d hd hp sh Hh C cl fp D acc gD => v 4)) (fun L H H' hR hn hR' sv => ?_)
  · obtain ⟨vs, q1, q2⟩ := (I.at_ h.1).ins
    obtain ⟨v, q3, q4⟩ := q2.look (f := "_log") (r := .raw (.ref ad.l)) rfl
    exact ⟨_, vs, v, q1, q3, q4⟩
  · obtain ⟨p, rfl, hp⟩ := mem_dP hd
    have hs := hsite p hp
    have hx : ((List.range S'.many).map fun j => PyData.int (hadA kt j))[p.site]? = some (.int (hadA kt p.site)) := by rw [List.getElem?_map, List.getElem?_range hs]; rfl
    exact t_gtI (e_ixT (ds := ptL p) (v 4) (gi gk.number) rfl) (e_ixL (v 2) (e_ixT (ds := ptL p) (v 4) (gi gk.site) rfl) (atI_nat hx))
  · rw [List.take_length, em] at sv
    have := (still_back g hR hn hR' sv (noLs_dP _)).1
    exact qr _ _ H' rfl hR'.1 this
/-! kept -/
def gKept (S : SD) (rs : List Sl) (o : Out) (S' : SD) : Prop := ∃ (ps : List Pt) (kt : KT), rs = [] ∧ S.log = dP ps ∧ S.known = ktD kt ∧ 1 ≤ kt.length ∧ kt.length ≤ 4 ∧ (∀ q ∈ kt, q.2.length = S.many) ∧ (∀ p ∈ ps, p.site < S.many) ∧ S.many ≤ 5 ∧ ps.length ≤ 100000 ∧ S' = S ∧ o = .ok (.dat (.int ((keptP kt ps).length : Nat)))
theorem scKept : FnScope ["self"] ["self"] (defScope (siteM 8)) := ⟨rfl, rfl, rfl, by decide +kernel, rfl, by decide +kernel, by decide +kernel⟩
theorem m_kept (B : Bl mg) (k : SiteK K C) (cK : Mth P w K mg base C "_kept_puts" 0 [] (fun us _ => us) 1 (spM K C gKeptP)) (d : MD K C "kept" "Site.kept" (siteM 8) ["self"]) : Mth P w K mg base C "kept" 0 [] (fun us _ => us) 2 (spM K C gKept) := by
  refine d.mth scKept rfl (fun S rs o S' ⟨_, _, e, _⟩ => by rw [e]; rfl) ?_
  rintro S rs o S' ⟨ps, kt, rfl, hlog, hkn, h1, h4, hlen, hsite, hm5, hz, rfl, rfl⟩ f cdv A outer sh H E M ad R D hr g I qr qn qe
  have el : ((dP (keptP kt ps)).length : Int) = ((keptP kt ps).length : Nat) := by rw [List.length_map]
  refine st_ret (s1 := S') (r := .dat (.int ((keptP kt ps).length : Nat))) (by
    rw [← el]
    refine e_lenL (by rfl) B.len (a1 ?_)
    exact (e_sM0 (pl := _) (put := fun _ S => S) (get := id) (r := .dat (.list (dP (keptP kt ps)))) (S' := S') g I cK hr (Nat.le_refl _) (v 0) rfl ⟨ps, kt, rfl, hlog, hkn, h1, h4, hlen, hsite, hm5, hz, rfl, rfl⟩ rfl)) fun v H' R' sv => qr _ v H' rfl R' sv
end
end K04
namespace K04
open PySem PySem.Spec L2 Evl DV LamX NdefX
open PyProof.Rows hiding St cutD
section
variable {P : Program} {w : World} {K : PySem.W.Frag} {mg : Str → Option Value} {base : Heap}
def tokD : PyData → Bool
  | .tuple ds => (decide (2 ≤ (ds.length : Int)) && decide ((ds.length : Int) ≤ 5)) && ds.all fun d => wholeD d 0 999
  | _ => false
def gTok (rs : List Sl) (o : Out) : Prop := ∃ d, rs = [.dat d] ∧ o = .ok (.dat (.bool (tokD d)))
/-- the module's numbers -/
structure Nums (mg : Str → Option Value) : Prop where
  few : ∃ t, mg "FEWEST_SITES" = some (.int 2 t)
  most : ∃ t, mg "MOST_SITES" = some (.int 5 t)
  puts : ∃ t, mg "MOST_PUTS" = some (.int 999 t)
theorem scIsToken : FnScope ["thing", "count"] ["thing"] (defScope sIsTok) := ⟨rfl, rfl, rfl, by decide +kernel, rfl, by decide +kernel, by decide +kernel⟩
theorem c_isToken (B : Bl mg) (n : Nums mg) (cW : Cal P w K mg base "is_whole" 1 (DV.spS K gWhole)) (d : Def K mg "is_token" sIsTok ["thing"]) : Cal P w K mg base "is_token" 2 (DV.spS K gTok) := by
  refine d.cal scIsToken (fun rs o ⟨d, e, _⟩ => by rw [e]; rfl) ?_
  rintro rs o ⟨d, rfl, rfl⟩ f cdv A outer sh H E M R D hr g qr qn qe
  refine st_if (k := !isT d) (t_not (t_val (isi boot_tuple B.isi B.tuple (kit_tuple d) (v 0)))) (fun h => ?_) (fun h => ?_)
  · refine st_ret e_bl fun v H' R' sv => qr _ v H' rfl R' ?_
    have e : tokD d = false := by
      cases d <;> first | rfl | simp [isT] at h
    rw [e]
    exact sv
  · refine st_thru ?_
    cases d with
    | tuple ds =>
      refine st_if (k := !(decide (2 ≤ (ds.length : Int)) && decide ((ds.length : Int) ≤ 5))) (t_not (t_chain op_le op_le (gi n.few) (e_lenT (by rfl) B.len (a1 (v 0))) (gi n.most))) (fun h => ?_) (fun h => ?_)
      · refine st_ret e_bl fun v H' R' sv => qr _ v H' rfl R' ?_
        have e : tokD (.tuple ds) = false := by
          have h' : (decide (2 ≤ (ds.length : Int)) && decide ((ds.length : Int) ≤ 5)) = false := (Bool.not_eq_true' _).mp h
          show ((decide (2 ≤ (ds.length : Int)) && decide ((ds.length : Int) ≤ 5)) && ds.all fun d => wholeD d 0 999) = false
          rw [h']
          rfl
        rw [e]
        exact sv
      · refine st_thru ?_
        have h' : (decide (2 ≤ (ds.length : Int)) && decide ((ds.length : Int) ≤ 5)) = true := (Bool.not_eq_false' _).mp h
        have hz : ds.length ≤ 5 := by
          have := (Bool.and_eq_true_iff.mp h').2
          have := of_decide_eq_true this
          omega
        have e : (.dat (.bool (tokD (.tuple ds))) : Sl) = .dat (.bool ((ds.map fun d => wholeD d 0 999).all id)) := by
          show (.dat (.bool ((decide (2 ≤ (ds.length : Int)) && decide ((ds.length : Int) ≤ 5)) && ds.all fun d => wholeD d 0 999)) : Sl) = _
          rw [h', Bool.true_and, List.all_map]
          rfl
        rw [e] at qr
        refine st_ret (e_all rfl (by rfl) B.all (a1 ?_)) fun v H' R' sv => qr _ v H' rfl R' sv
        have em : (ds.map fun d => wholeD d 0 999).map PyData.bool = ds.map fun d => .bool (wholeD d 0 999) := by
          rw [List.map_map]
          rfl
        rw [em]
        refine lc_map (own := [("count", 1)]) g (i := 1) (fun d => .bool (wholeD d 0 999)) (i_tup (v 0)) (by omega) (fun d hd sh Hh C cl fp D acc gD => ?_) rfl scIsToken.nd (blkOk_by (N := ["thing", "count"]) (sc := defScope sIsTok) (by decide +kernel)) (fun sh Hh C cl fp => pg_name (i := 1) scIsToken.nd rfl (Or.inl rfl)) (by simp)
        exact e_call gD cW hr (Nat.le_refl _) (by rfl) ⟨d, 0, 999, rfl, rfl⟩ (a_cons (v 1) (a_cons e_int (a_cons (gi n.puts) a_nil)))
    | _ => simp [isT] at h
end
end K04
namespace DV
open PySem PySem.Spec L2 Evl LamX NdefX
open PyProof.Rows hiding St cutD
/-! a, *b, c = a list -/
def gStarL (K : PySem.W.Frag) (n i : Nat) (t : TGs) : TG := fun v σ H Q => ∃ a xs, v = .ref a ∧ SqL K H a xs ∧ i < n ∧ n ≤ xs.length + 1 ∧ xs.length ≤ 16384 ∧
  ∀ p, H p = none → t (xs.take i ++ [V.ref p] ++ (xs.drop i).drop (xs.length + 1 - n)) σ (upd H p (.lst ((xs.drop i).take (xs.length + 1 - n)))) Q
theorem vals_take : ∀ (n : Nat) {xs : List V} {us : List Value}, Vals xs us → Vals (xs.take n) (us.take n)
  | 0, _, _, _ => .nil
  | _ + 1, [], _, .nil => .nil
  | n + 1, _ :: _, _, .cons r t => .cons r (vals_take n t)
theorem vals_drop : ∀ (n : Nat) {xs : List V} {us : List Value}, Vals xs us → Vals (xs.drop n) (us.drop n)
  | 0, _, _, h => h
  | _ + 1, [], _, .nil => .nil
  | n + 1, _ :: _, _, .cons _ t => vals_drop n t
section
variable {X : Cx} {pos : Pos}
theorem pgs_star {e : Expr} {es : List Expr} {sp : Pos} {t : TG} {u : TGs} (h1 : PG X e t) (h2 : PGs X es u)
    (hs : (assignEach (.Starred e sp :: es) X.env).map (·.2) = assign e X.env :: (assignEach es X.env).map (·.2) := by rfl) : PGs X (.Starred e sp :: es) (gCons t u) := by
  refine ⟨fun pins s σ H vs us Q I r h => ?_⟩
  obtain ⟨v, vr, e1, h⟩ := h
  subst e1
  cases r with
  | cons r rr =>
    rw [hs]
    refine assignInOrder_cons (thn (h1.run pins s σ H _ _ _ I r h) fun _ s1 ⟨σ1, H1, I1, q1⟩ => ?_)
    exact h2.run pins s1 σ1 H1 _ _ Q I1 rr q1
theorem pg_starL {es : List Expr} {k : Nat} {t : TGs} {n i : Nat} (hc : X.calm = true) (h : PGs X es t)
    (hn : (assignEach es X.env).length = n := by rfl) (hst : (assignEach es X.env).findIdx? (·.1) = some i := by rfl) : PG X (.Tuple es k pos) (gStarL X.K n i t) := by
  refine ⟨fun pins s σ H v u Q I r hw => ?_⟩
  obtain ⟨a, xs, e1, hq, hi, hle, hz, hw⟩ := hw
  subst e1
  cases r
  obtain ⟨its, rv, pl, hz'⟩ := I.list hq
  have hl : s.heap.IsList a its.toArray := pl.isList
  have hlen : xs.length = its.length := rv.length
  have hsz : its.toArray.size = xs.length := by simp [hlen]
  have hlt : a ≠ s.heap.objs.size := by obtain ⟨o, ho, _⟩ := hl; exact Nat.ne_of_lt (Heap.lt_size ho)
  have hh := I.ok.hd hc
  rw [PyProof.Rows.assign_Tuple]
  refine wpAny_bind (wpAny_standAt ?_)
  unfold unpack
  rw [hn, hst]
  refine wpAny_bind (wpAny_holding ?_)
  unfold unpackItems
  refine wpAny_bind ?_
  unfold notIterableAtAll
  refine wpAny_bind (wpAny_specialOf hl.typeIs slot_list_iter.lookup ?_)
  refine wpAny_pure ?_
  simp only [Bool.false_eq_true, if_false]
  refine wpAny_bind (wpAny_holding (wpAny_pyIter_list hl ?_))
  refine wpAny_bind (wpAny_holding (PySem.W.kun_draw hlt i 0 _ _ ⟨_, Heap.get?_push_size _ rfl, rfl, rfl⟩ (hl.push _) (by omega) fun h₁ hit₁ hs₁ => ?_))
  have hl₁ : h₁.IsList a its.toArray := (hl.push _).extBut hs₁.extBut hlt
  rw [Nat.zero_add] at hit₁
  have hit₁' := hit₁
  obtain ⟨oi, hoi, _⟩ := hit₁'
  have hl₁' := hl₁
  obtain ⟨ol, hol, _⟩ := hl₁'
  rw [List.drop_zero]
  have hfl : (its.toArray.toList.take i).length = i := by rw [List.length_take, Array.length_toList]; omega
  rw [if_neg (show ¬ ((its.toArray.toList.take i).length < i) by rw [hfl]; omega)]
  refine wpAny_bind (wpAny_holding (PySem.W.kun_collect (s := { s with heap := h₁ }) (T := "list_iterator") (.inr (.inr (.inl rfl))) (Walks.list (A := X.A.in1) hh s.heap.objs.size a hlt its.toArray) (fun j u st => st.1.typeIs) (k := i) (by omega) ⟨hit₁, hl₁⟩ (Heap.lt_size hoi) (Heap.lt_size hol) (fun h₂ tk hk => ?_) (by rw [sizeLine_eq]; omega)))
  have hrl : (its.toArray.toList.drop i).length = its.toArray.size - i := by rw [List.length_drop, Array.length_toList]
  have hmid : (its.toArray.toList.drop i).length - (n - 1 - i) = xs.length + 1 - n := by rw [hrl]; omega
  show wpAny _ _ (if (its.toArray.toList.drop i).length < n - 1 - i then _ else _) _ _ _
  rw [if_neg (by rw [hrl]; omega)]
  show wpAny _ _ (newList ((its.toArray.toList.drop i).take ((its.toArray.toList.drop i).length - (n - 1 - i))) >>= fun d => pure (its.toArray.toList.take i ++ [d] ++ (its.toArray.toList.drop i).drop ((its.toArray.toList.drop i).length - (n - 1 - i)))) _ _ _
  rw [hmid]
  have he : Heap.ExtBut s.heap.objs.size s.heap h₂ := fun b o hb e => hk b o hb (hs₁.extBut b o hb (Heap.get?_push_of_some _ e))
  have I1 : Inv X pins σ H { s with heap := h₂, toks := tk } := I.kept (t' := tk) fun b o e => he b o (Nat.ne_of_lt (Heap.lt_size e)) e
  refine wpAny_bind (wpAny_newList ?_ (by rw [List.length_take, hrl, sizeLine_eq]; omega))
  have rm : Vals ((xs.drop i).take (xs.length + 1 - n)) ((its.toArray.toList.drop i).take (xs.length + 1 - n)) := vals_take _ (vals_drop _ (by simpa using rv))
  have I2 := I1.lnew (t' := tk) rm (by rw [List.length_take, List.length_drop, sizeLine_eq]; omega)
  refine wpAny_pure ?_
  refine h.run pins _ σ _ _ _ Q I2 ?_ (hw _ I1.fresh)
  have r1 : Vals (xs.take i) (its.toArray.toList.take i) := vals_take _ (by simpa using rv)
  have r3 : Vals ((xs.drop i).drop (xs.length + 1 - n)) ((its.toArray.toList.drop i).drop (xs.length + 1 - n)) := vals_drop _ (vals_drop _ (by simpa using rv))
  exact (r1.append (.cons (show RelV (.ref _) (.ref _) from rfl) .nil)).append r3
end
/-! names told one after another -/
def gNames : List Nat → TGs
  | [] => gNil
  | i :: is => gCons (gName i) (gNames is)
def setAll : List Sl → List Nat → List PyData → List Sl
  | ρ, i :: is, d :: ds => setAll (ρ.set i (.dat d)) is ds
  | ρ, _, _ => ρ
theorem names_run {K : PySem.W.Frag} {M : List Addr} {H : Hp} {Q : St → Hp → Prop} : ∀ {is : List Nat} {ds : List PyData} {xs : List V} {σ : St} {ρ : List Sl}, is.length = ds.length → DvAll K (cut M H) xs ds → Slots K (cut M H) σ ρ →
    (∀ σ2, Slots K (cut M H) σ2 (setAll ρ is ds) → Q σ2 H) → gNames is xs σ H Q
  | [], [], _, σ, ρ, _, .nil, hσ, q => ⟨rfl, q σ hσ⟩
  | [], _ :: _, _, _, _, hl, _, _, _ => by cases hl
  | _ :: _, [], _, _, _, hl, _, _, _ => by cases hl
  | i :: is, d :: ds, _, σ, ρ, hl, .cons h t, hσ, q => ⟨_, _, rfl, names_run (is := is) (ρ := ρ.set i (.dat d)) (by simpa using hl) t (Slots.set (r := .dat d) h i hσ) q⟩
/-- a target that may lay new objects -/
def Tg2 (K : PySem.W.Frag) (g : TG) (ρ : List Sl) (r : Sl) (ρ' : List Sl) : Prop :=
  ∀ (M : List Addr) (σ : St) (H : Hp) (v : V) (Q : St → Hp → Prop), (∀ a ∈ M, ∃ o, H a = some o) → Slots K (cut M H) σ ρ → Sv K (cut M H) r v → (∀ σ2 H2, Ex H H2 → Slots K (cut M H2) σ2 ρ' → Q σ2 H2) → g v σ H Q
theorem tg2_tup {K : PySem.W.Frag} {n : Nat} {is : List Nat} {ρ : List Sl} {ds : List PyData} (h1 : is.length = ds.length) (h2 : ds.length = n) : Tg2 K (gTup K n (gNames is)) ρ (.dat (.tuple ds)) (setAll ρ is ds) := fun M σ H v Q _ hσ hv q => by
  obtain ⟨a, xs, rfl, ha, hd⟩ := sv_tup hv
  exact ⟨a, xs, rfl, ex_t ex_cut ha, (dpa_length hd).trans h2, names_run h1 hd hσ fun σ2 h => q σ2 H (exId _) h⟩
theorem tg2_star {K : PySem.W.Frag} {n i : Nat} {is : List Nat} {ρ : List Sl} {ds : List PyData} (hl : is.length = n) (hi : i < n) (hle : n ≤ ds.length + 1) (hz : ds.length ≤ 16384) :
    Tg2 K (gStarL K n i (gNames is)) ρ (.dat (.list ds)) (setAll ρ is (ds.take i ++ [.list ((ds.drop i).take (ds.length + 1 - n))] ++ (ds.drop i).drop (ds.length + 1 - n))) := fun M σ H v Q dom hσ hv q => by
  obtain ⟨a, xs, rfl, ha, hd⟩ := sv_lst hv
  have ll := dpa_length hd
  refine ⟨a, xs, rfl, sq_of (ex_cut _ _ ha), hi, by omega, by omega, fun p np => ?_⟩
  have hp : p ∉ M := fun m => by
    obtain ⟨o, e⟩ := dom p m
    rw [np] at e
    cases e
  have e : Ex (cut M H) (cut M (upd H p (.lst ((xs.drop i).take (xs.length + 1 - n))))) := exCut (Ex.new np)
  rw [ll] at e ⊢
  refine names_run ?_ (dpa_app (dpa_app (dpa_ex e _ _ (dpa_take i hd)) (.cons (.lst (cut_upd hp) (dpa_ex e _ _ (dpa_take _ (dpa_drop _ hd)))) .nil)) (dpa_ex e _ _ (dpa_drop _ (dpa_drop _ hd)))) (hσ.ex e) fun σ2 h => q σ2 _ (Ex.new np) h
  rw [List.length_append, List.length_append, List.length_take, List.length_drop, List.length_drop]
  simp only [List.length_cons, List.length_nil]
  omega
section
variable {S : Type} {X : Cx} {M : List Addr} {R : S → Hp → Prop} {ρ ρ' : List Sl} {s s1 : S} {tg e : Expr} {rest : List Stmt} {pos : Pos} {D : Ends}
/-- target = e -/
theorem st_asg (g : Rg M R) {gt : TG} {r : Sl} (hg : PG X tg gt) (ht : Tg2 X.K gt ρ r ρ') (he : Ev1 X M R ρ e s r s1) (k : St1 X M R ρ' rest s1 D)
    (hs : swapsWithSole [tg] e pos.line X.env = pure false := by rfl) (hw : swappedStores [tg] e X.env = pure none := by rfl)
    (h1 : (assignEach [tg] X.env).map (·.2) = [assign tg X.env] := by rfl) : St1 X M R ρ (.Assign [tg] e pos :: rest) s D := by
  intro σ H hσ hR
  refine wB_cons (wS_of (ps_asg pe_w hg hs hw h1) ?_)
  refine he σ H _ hσ hR fun v H1 e1 R1 d1 => ?_
  exact ht M σ H1 v _ (fun a m => g.dom R1 m) (hσ.ex e1) d1 fun σ2 H2 x2 hσ2 => k σ2 H2 hσ2 (g.up R1 x2)
end
/-! enumerate -/
section
variable {S : Type} {X : Cx} {M : List Addr} {R : S → Hp → Prop} {ρ : List Sl} {s s1 : S} {e : Expr} {px pos : Pos}
def cntD (n : Nat) : List PyData := (List.range n).map fun i : Nat => .int i
theorem i_enumL {elts : List Expr} {kk : Nat} {tpos : Pos} {ds : List PyData} (hg : Gl X "enumerate") (hm : X.mg "enumerate" = none) (h : EvA1 X M R ρ [e] s [.dat (.list ds)] s1) (hs : starEach [e] X.env = [(false, eval e X.env)] := by rfl) :
    EvI1 X M R ρ (.Tuple elts kk tpos) (.Call (.Name "enumerate" px) [e] [] pos) s (cntD ds.length).length (itZ (cntD ds.length) ds) s1 := by
  refine ⟨_, pi_enum hg hm pa_w hs, fun σ H k hσ hR q => ?_⟩
  refine h σ H _ hσ hR fun vs H1 e1 R1 d1 => ?_
  obtain ⟨v, rfl, dv⟩ := svall1 d1
  obtain ⟨a, xs, rfl, ha, hd⟩ := sv_lst dv
  have ll := dpa_length hd
  have lc : (cntD ds.length).length = xs.length := by unfold cntD; rw [List.length_map, List.length_range, ll]
  refine ⟨a, xs, rfl, sq_of (ex_cut _ _ ha), q _ H1 e1 R1 ⟨fun H => SqL X.K H a xs, fun H2 e2 => sq_of (ex_cut _ _ (e2 _ _ ha)), ?_⟩⟩
  rw [lc]
  refine Walk.mono (walk_enum (K := X.K) (a := a) (xs := xs)) (fun H h => h) fun i H2 x H' hi hG hy => ?_
  intro M' em dm e2
  obtain ⟨T, x', y', rfl, hT, rfl, f1, f2⟩ := hy
  have hTM : T ∉ M' := fun m => by
    obtain ⟨o, eo⟩ := dm T m
    rw [hT] at eo
    cases eo
  rw [← em] at hd
  obtain ⟨d2, g2, h2⟩ := dpa_get (dpa_ex e2 _ _ hd) f2
  have g1 : (cntD ds.length)[i]? = some (.int (i : Nat)) := by
    unfold cntD
    rw [List.getElem?_map, List.getElem?_range (by omega)]
    rfl
  have f1 : some (V.int (i : Nat)) = some x' := f1
  cases f1
  refine ⟨Ex.new hT, ?_⟩
  unfold itZ
  rw [g1, g2]
  have ee : Ex (cut M' H2) (cut M' (upd H2 T (.tup [V.int (i : Nat), y']))) := exCut (Ex.new hT)
  exact Dv.tup (st_of (cut_upd hTM)) (.cons (.int _) (.cons (dp_ex ee _ _ h2) .nil))
end
end DV
/-! enumerate over a tuple -/
namespace EN
open PySem PySem.Spec PyProof.Rows L2
open PySem.Sem (wp)
open AutoSeq1 (wpAny_loadPart')
abbrev tItO (t : Addr) : Obj := { cls := .type "tuple_iterator", data := .fields #[.ref t, .int 0 0] }
abbrev enO (it : Addr) : Obj := { cls := .type "enumerate", data := .fields #[.none, .bool false, .ref it, rawInt 0, .none, .none] }
theorem meets_en (t : Addr) (its : Array Value) (n : Nat) (dx : Option Addr) (sl : Array (Option Value)) :
    Meets (Builtin.«enumerate.__new__» ⟨[.type "enumerate", .ref t], []⟩) (fun _ R s => s.heap.get? t = some { cls := .type "tuple", dict := dx, data := .seq its n, slots := sl } ∧
      R (.ok (.ret (.ref (s.heap.push (tItO t)).objs.size))) { s with heap := (s.heap.push (tItO t)).push (enO s.heap.objs.size) }) :=
  .of_wp fun prog w A R s h => by
    obtain ⟨hp, g, d, tk, os⟩ := s
    obtain ⟨ht, h⟩ := h
    have hsub := sub_enumerate
    have hT : Heap.IsTuple (Shared.heap ⟨hp, g, d, tk, os⟩) t its := ⟨_, ht, rfl, n, rfl⟩
    wp_walk using wpAny_loadPart' ht
    refine wpAny_stack_any fun st => wpAny_pure ?_
    split
    · rename_i c _ _ _ _ _
      cases (c == Value.type "enumerate") <;> (wp_walk using wpAny_loadPart' ht, wpAny_pyIter_tuple hT; exact ⟨_, rfl, h⟩)
    · wp_walk using wpAny_loadPart' ht, wpAny_pyIter_tuple hT
      exact ⟨_, rfl, h⟩
section
variable {prog : Program} {w : World} {A : Around} {E : Value → Shared → Prop} {s : Shared}
/-- enumerate(t) -/
theorem call_en {t : Addr} {its : Array Value} {Q : Value → Shared → Prop} (hT : s.heap.IsTuple t its)
    (q : ∀ h', IsEnum h' (s.heap.objs.size + 1) s.heap.objs.size 0 .none → h'.IsTupleIter s.heap.objs.size t 0 → (∀ b o, s.heap.get? b = some o → h'.get? b = some o) → Q (.ref (s.heap.objs.size + 1)) { s with heap := h' }) :
    wpAny (model prog w) A (call (.type "enumerate") [.ref t]) Q E s := by
  obtain ⟨⟨c, dx, dt, sl⟩, ht, hc, n, hd⟩ := hT
  have hc : c = .type "tuple" := hc
  have hd : dt = .seq its n := hd
  subst hc hd
  refine callType_new F.called_enumerate (by decide) (F.typeCall_enumerate_1 _) (F.newCall_enumerate_1 _) (fun obj => F.args_object_init_2 obj _) F.entry_enumerate_new (meets_en t its n dx sl) ⟨ht, ?_⟩
  have z1 : (s.heap.push (tItO t)).objs.size = s.heap.objs.size + 1 := Heap.size_push ..
  show _ ∧ _
  rw [z1]
  have he : IsEnum ((s.heap.push (tItO t)).push (enO s.heap.objs.size)) (s.heap.objs.size + 1) s.heap.objs.size 0 .none := by
    have := Heap.get?_push_size (s.heap.push (tItO t)) (o := enO s.heap.objs.size) rfl
    rw [z1] at this
    exact this
  exact ⟨⟨_, he, rfl⟩, q _ he ⟨_, Heap.get?_push_of_some _ (Heap.get?_push_size _ rfl), rfl, rfl⟩ fun b o x => Heap.get?_push_of_some _ (Heap.get?_push_of_some _ x)⟩
theorem it_up {h h' : Heap} {e it t : Addr} {i : Nat} (hs : Heap.SameBut e h h') (hi : h.IsTupleIter it t i) (ne : it ≠ e) : h'.IsTupleIter it t i := hi.at fun o k => hs.extBut _ o ne k
/-- a turn -/
theorem en_item {e it t : Addr} {i : Nat} {its : Array Value} {x old : Value} {Q : Value → Shared → Prop}
    (he : IsEnum s.heap e it i old) (hit : s.heap.IsTupleIter it t i) (ht : s.heap.IsTuple t its) (hx : its[i]? = some x) (ne : e ≠ it)
    (q : ∀ h', IsEnumOut h' e it ((i : Int) + 1) x s.heap.objs.size → h'.IsTupleIter it t (i + 1) → h'.get? s.heap.objs.size = some { cls := .type "tuple", data := .seq #[.int i s.toks, x] } →
      (∀ b o, b ≠ e → b ≠ it → s.heap.get? b = some o → h'.get? b = some o) → Q (.ref s.heap.objs.size) { s with heap := h', toks := s.toks + 1 }) :
    wpAny (model prog w) A (Builtin.«enumerate.__next__» ⟨[.ref e], []⟩) (fun fin s' => ∃ v, fin = .done (.ret v) ∧ Q v s') E s := by
  obtain ⟨hp, g, d, tk, os⟩ := s
  have hel : e < hp.objs.size := Heap.lt_size he
  show wpAny _ _ (field (Value.ref e) 2 >>= fun y => _) _ _ _
  refine wpAny_bind (wpAny_field he rfl (x := .ref it) rfl ?_)
  refine wpAny_bind (RZ.nextOf_tuple_item hit ht hx fun h1 it1 b1 => ?_)
  have b1 : Heap.SameBut it hp h1 := b1
  have e1 : IsEnum h1 e it i old := (b1.2 e ne).trans he
  show wpAny _ _ (field (Value.ref e) 3 >>= fun y => _) _ _ ⟨h1, g, d, tk, os⟩
  refine wpAny_bind (wpAny_field e1 rfl (x := rawInt i) rfl ?_)
  show wpAny _ _ (field (Value.ref e) 4 >>= fun y => _) _ _ ⟨h1, g, d, tk, os⟩
  refine wpAny_bind (wpAny_field e1 rfl (x := .none) rfl ?_)
  show wpAny _ _ (mkInt (i : Int) >>= fun y => _) _ _ ⟨h1, g, d, tk, os⟩
  refine wpAny_bind (wpAny_mkInt ?_)
  show wpAny _ _ (setField (Value.ref e) 3 (rawInt ((i : Int) + 1)) >>= fun y => _) _ _ ⟨h1, g, d, tk + 1, os⟩
  refine wpAny_bind (wpAny_setField_rec e1 (by simp) fun h2 e2 b2 => ?_)
  have b2 : Heap.SameBut e h1 h2 := b2
  have e2 : IsEnum h2 e it ((i : Int) + 1) old := e2
  show wpAny _ _ (setField (Value.ref e) 4 Value.none >>= fun y => _) _ _ ⟨h2, g, d, tk + 1, os⟩
  refine wpAny_bind (wpAny_setField_rec e2 (by simp) fun h3 e3 b3 => ?_)
  have b3 : Heap.SameBut e h2 h3 := b3
  have e3 : IsEnum h3 e it ((i : Int) + 1) old := e3
  show wpAny _ _ (newTuple [Value.int i tk, x] >>= fun y => _) _ _ ⟨h3, g, d, tk + 1, os⟩
  refine wpAny_bind (wpAny_newTuple ?_)
  have z3 : h3.objs.size = hp.objs.size := by rw [b3.1, b2.1, b1.1]
  obtain ⟨h4, hh⟩ : ∃ h4, h4 = h3.push { cls := .type "tuple", data := .seq #[.int i tk, x] } := ⟨_, rfl⟩
  have e4 : IsEnum h4 e it ((i : Int) + 1) old := by rw [hh]; exact Heap.get?_push_of_some _ e3
  have t4 : h4.get? hp.objs.size = some { cls := .type "tuple", data := .seq #[.int i tk, x] } := by rw [hh, ← z3]; exact Heap.get?_push_size _ rfl
  have k4 : ∀ b o, b ≠ e → b ≠ it → hp.get? b = some o → h4.get? b = some o := fun b o n1 n2 k => by
    rw [hh]
    exact Heap.get?_push_of_some _ (b3.extBut b o n1 (b2.extBut b o n1 (b1.extBut b o n2 k)))
  have i4 : h4.IsTupleIter it t (i + 1) := by
    rw [hh]
    exact (it_up b3 (it_up b2 it1 (Ne.symm ne)) (Ne.symm ne)).at fun o k => Heap.get?_push_of_some _ k
  show wpAny _ _ (Builtin.SmallTypes.ownedTupleIsFree (.ref e) >>= _) _ _ ⟨h3.push _, g, d, tk + 1, os⟩
  rw [z3, ← hh]
  refine wpAny_bind ?_
  unfold Builtin.SmallTypes.ownedTupleIsFree
  refine wpAny_bind (wpAny_field e4 rfl (x := .none) rfl (wpAny_pure ?_))
  simp only [if_true]
  refine wpAny_bind (wpAny_rule ?_)
  refine wpAny_bind (wpAny_field e4 rfl (x := old) rfl ?_)
  refine wpAny_bind (wpAny_setField_rec e4 (by simp) fun h5 e5 b5 => ?_)
  have b5 : Heap.SameBut e h4 h5 := b5
  have e5 : IsEnum h5 e it ((i : Int) + 1) x := e5
  show wpAny _ _ (Builtin.SmallTypes.ownedTupleHandOut (.ref e) (.ref hp.objs.size) >>= _) _ _ ⟨h5, g, d, tk + 1, os⟩
  refine wpAny_bind ?_
  unfold Builtin.SmallTypes.ownedTupleHandOut
  refine wpAny_bind (wpAny_setField_rec e5 (by simp) fun h6 e6 b6 => ?_)
  have b6 : Heap.SameBut e h5 h6 := b6
  have e6 : IsEnumOut h6 e it ((i : Int) + 1) x hp.objs.size := e6
  refine wpAny_setField_rec e6 (by simp) fun h7 e7 b7 => ?_
  have b7 : Heap.SameBut e h6 h7 := b7
  refine wpAny_bind (wpAny_letGo (wpAny_pure ⟨_, rfl, q h7 e7 ?_ ?_ ?_⟩))
  · exact it_up b7 (it_up b6 (it_up b5 i4 (Ne.symm ne)) (Ne.symm ne)) (Ne.symm ne)
  · exact b7.extBut _ _ (Nat.ne_of_gt hel) (b6.extBut _ _ (Nat.ne_of_gt hel) (b5.extBut _ _ (Nat.ne_of_gt hel) t4))
  · exact fun b o n1 n2 k => b7.extBut b o n1 (b6.extBut b o n1 (b5.extBut b o n1 (k4 b o n1 n2 k)))
theorem next_item {e it t : Addr} {i : Nat} {its : Array Value} {x old : Value} {Q : Option Value → Shared → Prop}
    (he : IsEnum s.heap e it i old) (hit : s.heap.IsTupleIter it t i) (ht : s.heap.IsTuple t its) (hx : its[i]? = some x) (ne : e ≠ it)
    (q : ∀ h', IsEnumOut h' e it ((i : Int) + 1) x s.heap.objs.size → h'.IsTupleIter it t (i + 1) → h'.get? s.heap.objs.size = some { cls := .type "tuple", data := .seq #[.int i s.toks, x] } →
      (∀ b o, b ≠ e → b ≠ it → s.heap.get? b = some o → h'.get? b = some o) → Q (some (.ref s.heap.objs.size)) { s with heap := h', toks := s.toks + 1 }) :
    wpAny (model prog w) A (pyNext (.ref e)) Q E s := by
  have hT : s.TypeIs (.ref e) "enumerate" := ⟨_, he, rfl⟩
  exact wpAny_bind (wpAny_attempt (wpAny_callSpecial?_slot (name := Str.ofString "__next__") hT F.slot_enumerate_next
    (wpAny_call_entry F.slot_enumerate_next hT F.entry_enumerate_next (en_item he hit ht hx ne fun h' a b c k => wpAny_pure (q h' a b c k)) (F.args_enumerate_next_1 _))))
theorem next_end {e it t : Addr} {i : Nat} {its : Array Value} {old : Value} {Q : Option Value → Shared → Prop} (hh : A.handled = none)
    (he : IsEnum s.heap e it i old) (hit : s.heap.IsTupleIter it t i) (ht : s.heap.IsTuple t its) (hx : its[i]? = none)
    (q : ∀ h', Heap.ExtBut it s.heap h' → Q none { s with heap := h' }) : wpAny (model prog w) A (pyNext (.ref e)) Q E s := by
  have hT : s.TypeIs (.ref e) "enumerate" := ⟨_, he, rfl⟩
  refine wpAny_bind (wpAny_attempt (wpAny_callSpecial?_slot (name := Str.ofString "__next__") hT F.slot_enumerate_next
    (wpAny_call_entry F.slot_enumerate_next hT F.entry_enumerate_next ?_ (F.args_enumerate_next_1 _))))
  show wpAny _ _ (field (Value.ref e) 2 >>= fun y => _) _ _ _
  refine wpAny_bind (wpAny_field he rfl (x := .ref it) rfl ?_)
  refine wpAny_bind (RZ.nextOf_tuple_end hh hit ht hx fun h' x k hk => ?_)
  obtain ⟨o, ho, hc⟩ := hk
  exact wpAny_bind (wpAny_isInstance (T := "StopIteration") (b := true) ⟨o, ho, hc⟩ isSubtype_stop (wpAny_pure (q _ k)))
end
end EN
namespace EN
open PySem PySem.Spec PyProof.Rows L2
/-- the tuple at a as it stands at each turn, each item in a new pair -/
def IteT (K : PySem.W.Frag) (a : Addr) : It where
  go i H := ∃ (ys : List V) (y : V), SqT K H a ys ∧ ys[i]? = some y
  yld i H v H' := ∃ T y, v = .ref T ∧ H T = none ∧ H' = upd H T (.tup [.int (i : Nat), y]) ∧ ∀ ys, SqT K H a ys → ys[i]? = some y
  stop i H := ∃ ys : List V, SqT K H a ys ∧ ys.length ≤ i
theorem turn_enT {P : Program} {w : World} {K : PySem.W.Frag} {elts : List Expr} {kk : Nat} {tpos : Pos} (a e it : Addr) :
    Turn P w K (.Tuple elts kk tpos) (IteT K a) [e, it] e (fun i h => (∃ old, IsEnum h e it ((i : Nat) : Int) old) ∧ h.IsTupleIter it a i ∧ e ≠ it) where
  mem := List.mem_cons_self
  obj := fun i h ⟨⟨old, he⟩, ⟨o, ho, hc, hd⟩, _⟩ b hb => by
    rcases List.mem_cons.mp hb with z | z
    · rw [z]
      exact ⟨_, he, fun v q => nomatch q⟩
    · rw [List.mem_singleton.mp z]
      exact ⟨o, ho, fun v q => by rw [hd] at q; cases q⟩
  keep := fun i h h' ⟨⟨old, he⟩, hi, hne⟩ k => ⟨⟨old, k e List.mem_cons_self _ he⟩, hi.at fun o q => k it (List.mem_cons_of_mem _ List.mem_cons_self) o q, hne⟩
  item := by
    intro X hP hw hK hc i pins s σ H E I hf ⟨⟨old, he⟩, hit, hne⟩ ⟨ys, y, hq, hy⟩
    subst hP hw hK
    obtain ⟨its, rv, p, hz⟩ := I.tuple hq
    obtain ⟨u, hu, ru⟩ := rv.get hy
    have le : e < s.heap.objs.size := Heap.lt_size he
    have li : it < s.heap.objs.size := by
      obtain ⟨_, q, _⟩ := hit
      exact Heap.lt_size q
    have both : ∀ b ∈ [e, it], b < s.heap.objs.size := fun b hb => by
      rcases List.mem_cons.mp hb with z | z
      · rw [z]; exact le
      · rw [List.mem_singleton.mp z]; exact li
    refine next_item he hit p (x := u) (by simpa using hu) hne fun h1 o1 i1 t1 k1 => ?_
    refine ⟨_, rfl, wpAny_letOwnedTupleGo_enum (s := { s with heap := h1, toks := s.toks + 1 }) o1 fun h2 e2 b2 => ?_⟩
    have t2 : h2.get? s.heap.objs.size = some { cls := .type "tuple", data := .seq #[.int i s.toks, u] } := (b2.2 _ (Nat.ne_of_gt le)).trans t1
    have nw : ObjOk X.prog X.w (upd H s.heap.objs.size (.tup [.int (i : Nat), y])) h2 s.heap.objs.size (.tup [.int (i : Nat), y]) :=
      ⟨by show 2 ≤ sizeLine; decide, [.int i s.toks, u], .cons ⟨_, rfl⟩ (.cons ru .nil), ⟨_, t2, rfl, _, rfl⟩⟩
    have I1 : Inv X pins σ (upd H s.heap.objs.size (.tup [.int (i : Nat), y])) { s with heap := h2, toks := s.toks + 1 } :=
      I.turnedNew (ch := [e, it]) (fun b o hb q => (b2.2 b (fun z => hb (z ▸ List.mem_cons_self))).trans (k1 b o (fun z => hb (z ▸ List.mem_cons_self)) (fun z => hb (z ▸ List.mem_cons_of_mem _ List.mem_cons_self)) q)) hf (Nat.le_refl _) nw
    refine ⟨.ref s.heap.objs.size, _, I1, rfl, ⟨_, y, rfl, I.hok.fresh (Nat.le_refl _), rfl, fun zs hzs => by rw [I.tuple_inj hzs hq]; exact hy⟩, ⟨⟨u, ?_⟩, i1.at fun o q => (b2.2 it (Ne.symm hne)).trans q, hne⟩, fun b hb => ?_⟩
    · rw [show ((i + 1 : Nat) : Int) = (i : Int) + 1 by omega]
      exact e2
    · rw [upd_ne (Nat.ne_of_lt (both b hb))]
      exact (hf b hb).1
  done := by
    intro X hP hw hK hc i pins s σ H E I hf ⟨⟨old, he⟩, hit, hne⟩ ⟨ys, hq, hy⟩
    subst hP hw hK
    obtain ⟨its, rv, p, hz⟩ := I.tuple hq
    obtain ⟨f0, f1, f2, f3, f4, f5⟩ := hf it (List.mem_cons_of_mem _ List.mem_cons_self)
    have hl := rv.length
    exact next_end (I.ok.hd hc) he hit p (by simp; omega) fun h' eb => ⟨rfl, I.turned (t' := s.toks) (fun b o hb q => eb b o hb q) f0 f1 f3 f4 f5⟩
  self := fun A i s Q E ⟨⟨_, he⟩, _⟩ h => wpAny_pyIter_enum he h
def iEnT (K : PySem.W.Frag) (ta : TA) : TI := fun σ H R => ta σ H fun vs H1 => ∃ a ys, vs = [.ref a] ∧ SqT K H1 a ys ∧ R (IteT K a) H1
theorem pi_enT {X : Cx} {e : Expr} {ta : TA} {p pos tpos : Pos} {elts : List Expr} {kk : Nat} (hg : Gl X "enumerate") (hm : X.mg "enumerate" = none) (ha : PA X [e] ta) (hs : starEach [e] X.env = [(false, eval e X.env)] := by rfl) :
    PI X (.Tuple elts kk tpos) (.Call (.Name "enumerate" p) [e] [] pos) (iEnT X.K ta) := by
  refine ⟨fun pins s σ H R I h => Call_ (ld_blt I hg hm boot_enumerate (PyProof.Rows.callWith_type1 (thn (ha.run pos pins s σ H _ I h) fun us s1 ⟨vs, H1, I1, r1, a, ys, ex, hq, q⟩ => ?_) hs rfl))⟩
  subst ex
  cases r1 with
  | cons r rr =>
    cases rr
    cases r
    obtain ⟨its, rv, p', hz⟩ := I1.tuple hq
    refine call_en p' fun h' he hit hk => wpAny_pyIter_enum he ?_
    have I2 : Inv X pins σ H1 { s1 with heap := h' } := I1.kept (t' := s1.toks) hk
    refine ⟨s1.heap.objs.size + 1, [s1.heap.objs.size + 1, s1.heap.objs.size], _, _, H1, rfl, I2, turn_enT a (s1.heap.objs.size + 1) s1.heap.objs.size, ⟨⟨.none, he⟩, hit, Nat.succ_ne_self _⟩, fun b hb => ?_, q⟩
    have hle : s1.heap.objs.size ≤ b := by
      rcases List.mem_cons.mp hb with z | z
      · rw [z]; exact Nat.le_add_right _ _
      · rw [List.mem_singleton.mp z]; exact Nat.le_refl _
    exact I1.fpOk hle (I1.hok.fresh hle)
theorem walk_enT {K : PySem.W.Frag} {a : Addr} {ys : List V} : Walk (IteT K a) ys.length (fun H => SqT K H a ys) (YPair (fun i => some (.int (i : Nat))) (fun i => ys[i]?)) :=
  ⟨fun i _ hi q => ⟨ys, ys[i], q, by simp [hi]⟩, fun _ q => ⟨ys, q, Nat.le_refl _⟩, fun i H v H' _ q ⟨T, y, h1, h2, h3, h4⟩ => ⟨T, .int (i : Nat), y, h1, h2, h3, rfl, h4 ys q⟩⟩
end EN
namespace DV
open PySem PySem.Spec L2 Evl LamX NdefX
open PyProof.Rows hiding St cutD
section
variable {S : Type} {X : Cx} {M : List Addr} {R : S → Hp → Prop} {ρ : List Sl} {s s1 : S} {e : Expr} {px pos : Pos}
theorem i_enumT {elts : List Expr} {kk : Nat} {tpos : Pos} {ds : List PyData} (hg : Gl X "enumerate") (hm : X.mg "enumerate" = none) (h : EvA1 X M R ρ [e] s [.dat (.tuple ds)] s1) (hs : starEach [e] X.env = [(false, eval e X.env)] := by rfl) :
    EvI1 X M R ρ (.Tuple elts kk tpos) (.Call (.Name "enumerate" px) [e] [] pos) s (cntD ds.length).length (itZ (cntD ds.length) ds) s1 := by
  refine ⟨_, EN.pi_enT hg hm pa_w hs, fun σ H k hσ hR q => ?_⟩
  refine h σ H _ hσ hR fun vs H1 e1 R1 d1 => ?_
  obtain ⟨v, rfl, dv⟩ := svall1 d1
  obtain ⟨a, xs, rfl, ha, hd⟩ := sv_tup dv
  have ll := dpa_length hd
  have lc : (cntD ds.length).length = xs.length := by unfold cntD; rw [List.length_map, List.length_range, ll]
  refine ⟨a, xs, rfl, ex_t ex_cut ha, q _ H1 e1 R1 ⟨fun H => SqT X.K H a xs, fun H2 e2 => ex_t ex_cut (ex_t e2 ha), ?_⟩⟩
  rw [lc]
  refine Walk.mono (EN.walk_enT (K := X.K) (a := a) (ys := xs)) (fun H h => h) fun i H2 x H' hi hG hy => ?_
  intro M' em dm e2
  obtain ⟨T, x', y', rfl, hT, rfl, f1, f2⟩ := hy
  have hTM : T ∉ M' := fun m => by
    obtain ⟨o, eo⟩ := dm T m
    rw [hT] at eo
    cases eo
  rw [← em] at hd
  obtain ⟨d2, g2, h2⟩ := dpa_get (dpa_ex e2 _ _ hd) f2
  have g1 : (cntD ds.length)[i]? = some (.int (i : Nat)) := by
    unfold cntD
    rw [List.getElem?_map, List.getElem?_range (by omega)]
    rfl
  have f1 : some (V.int (i : Nat)) = some x' := f1
  cases f1
  refine ⟨Ex.new hT, ?_⟩
  unfold itZ
  rw [g1, g2]
  have ee : Ex (cut M' H2) (cut M' (upd H2 T (.tup [V.int (i : Nat), y']))) := exCut (Ex.new hT)
  exact Dv.tup (st_of (cut_upd hTM)) (.cons (.int _) (.cons (dp_ex ee _ _ h2) .nil))
end
end DV
namespace K04
open PySem PySem.Spec L2 Evl DV LamX NdefX
open PyProof.Rows hiding St cutD
structure Gw (mg : Str → Option Value) : Prop where
  worth : ∃ t, mg "MOST_WORTH" = some (.int 999 t)
  puts : ∃ t, mg "MOST_PUTS" = some (.int 999 t)
theorem cut_lo {ds : List PyData} {j : Nat} (h : j ≤ ds.length) : DV.cutD ds none (some (j : Int)) = ds.take j := by
  unfold DV.cutD
  rw [HT.sIx_nat, HT.sIx_none, Nat.sub_zero, List.drop_zero, Nat.min_eq_left h]
theorem cut_hi {ds : List PyData} {j : Nat} (h : j ≤ ds.length) : DV.cutD ds (some (j : Int)) none = ds.drop j := by
  unfold DV.cutD
  rw [HT.sIx_nat, HT.sIx_none, Nat.min_eq_left h]
  exact List.take_of_length_le (by rw [List.length_drop]; exact Nat.le_refl _)
theorem set_parts {α : Type} (x d : α) : ∀ (l : List α) (j : Nat), j < l.length → (l.take j ++ [x]) ++ l.drop (j + 1) = l.set j x
  | [], _, h => by cases h
  | y :: l, 0, _ => rfl
  | y :: l, j + 1, h => by
    have := set_parts x d l j (by simpa using h)
    show y :: (l.take j ++ [x] ++ l.drop (j + 1)) = y :: l.set j x
    rw [this]
def mxI (i j : Int) : Int := if j > i then j else i
section
variable {P : Program} {w : World} {K : PySem.W.Frag} {mg : Str → Option Value} {base : Heap} {C : Addr}
/-! is_worth -/
def gIsWorth (rs : List Sl) (o : Out) : Prop := ∃ d, rs = [.dat d] ∧ o = .ok (.dat (.bool (wholeD d (-999) 999)))
theorem scIsWorth : FnScope ["thing"] ["thing"] (defScope sIsWorth) := ⟨rfl, rfl, rfl, by decide +kernel, rfl, by decide +kernel, by decide +kernel⟩
theorem c_isWorth (gw : Gw mg) (cW : Cal P w K mg base "is_whole" 1 (DV.spS K gWhole)) (d : Def K mg "is_worth" sIsWorth ["thing"]) : Cal P w K mg base "is_worth" 2 (DV.spS K gIsWorth) := by
  refine d.cal scIsWorth (fun rs o ⟨_, e, _⟩ => by rw [e]; rfl) ?_
  rintro rs o ⟨dk, rfl, rfl⟩ f cdv A outer sh H E M R D hr g qr qn qe
  exact st_ret (e_call g cW hr (Nat.le_refl _) (by rfl) ⟨dk, -999, 999, rfl, rfl⟩ (a_cons (v 0) (a_cons (e_neg (gi gw.worth)) (a_cons (gi gw.worth) a_nil)))) fun v H' R' sv => qr _ v H' rfl R' sv
/-! is_token_of -/
def lenD : PyData → Int
  | .tuple ds => ds.length
  | _ => 0
def gTokOf (rs : List Sl) (o : Out) : Prop := ∃ d m, rs = [.dat d, .dat (.int m)] ∧ o = .ok (.dat (.bool (tokD d && PyData.eqv (.int (lenD d)) (.int m))))
theorem scTokOf : FnScope ["thing", "many"] ["thing", "many"] (defScope sIsTokOf) := ⟨rfl, rfl, rfl, by decide +kernel, rfl, by decide +kernel, by decide +kernel⟩
theorem c_tokOf (B : Bl mg) (cT : Cal P w K mg base "is_token" 2 (DV.spS K gTok)) (d : Def K mg "is_token_of" sIsTokOf ["thing", "many"]) : Cal P w K mg base "is_token_of" 3 (DV.spS K gTokOf) := by
  refine d.cal scTokOf (fun rs o ⟨_, _, e, _⟩ => by rw [e]; rfl) ?_
  rintro rs o ⟨dk, m, rfl, rfl⟩ f cdv A outer sh H E M R D hr g qr qn qe
  refine st_ret (e_and (j := tokD dk) (k := PyData.eqv (.int (lenD dk)) (.int m)) (e_call g cT hr (Nat.le_refl _) (by rfl) ⟨dk, rfl, rfl⟩ (a_cons (v 0) a_nil)) fun h => e_one ?_) fun v H' R' sv => qr _ v H' rfl R' sv
  cases dk with
  | tuple ds => exact e_eqD (d1 := .int ds.length) (d2 := .int m) hr.units (e_lenT (by rfl) B.len (a1 (v 0))) (v 1) rfl rfl
  | _ => cases h
/-! stepped -/
def gStepped (rs : List Sl) (o : Out) : Prop := ∃ (xs : List Int) (j : Nat), rs = [.dat (.tuple (dI xs)), .dat (.int j)] ∧ j < xs.length ∧ xs.length ≤ 1000 ∧ o = .ok (.dat (.tuple (dI (xs.set j (xs.getD j 0 + 1)))))
theorem scStepped : FnScope ["token", "site"] ["token", "site"] (defScope sStepped) := ⟨rfl, rfl, rfl, by decide +kernel, rfl, by decide +kernel, by decide +kernel⟩
theorem step_eq {xs : List Int} {j : Nat} {y : Int} (h : j < xs.length) : (DV.cutD (dI xs) none (some (j : Int)) ++ [.int y]) ++ DV.cutD (dI xs) (some ((j : Int) + 1)) none = dI (xs.set j y) := by
  have hl : (dI xs).length = xs.length := List.length_map _
  rw [cut_lo (by omega), show ((j : Int) + 1) = ((j + 1 : Nat) : Int) by omega, cut_hi (by omega), set_parts (.int y) (.int 0) (dI xs) j (by omega)]
  show (List.map PyData.int xs).set j (.int y) = List.map PyData.int (xs.set j y)
  rw [List.map_set]
theorem c_stepped (d : Def K mg "stepped" sStepped ["token", "site"]) : Cal P w K mg base "stepped" 1 (DV.spS K gStepped) := by
  refine d.cal scStepped (fun rs o ⟨_, _, e, _⟩ => by rw [e]; rfl) ?_
  rintro rs o ⟨xs, j, rfl, hj, hz, rfl⟩ f cdv A outer sh H E M R D hr g qr qn qe
  have hl : (dI xs).length = xs.length := List.length_map _
  have hx : atI (dI xs) (j : Int) = some (.int (xs.getD j 0)) := atI_nat (by rw [List.getElem?_map, getD_ofI hj]; rfl)
  have l1 : (DV.cutD (dI xs) none (some (j : Int))).length ≤ 1000 := by rw [cut_lo (by omega), List.length_take]; omega
  have l2 : (DV.cutD (dI xs) (some ((j : Int) + 1)) none).length ≤ 1000 := by rw [show ((j : Int) + 1) = ((j + 1 : Nat) : Int) by omega, cut_hi (by omega), List.length_drop]; omega
  refine st_ret (r := .dat (.tuple (dI (xs.set j (xs.getD j 0 + 1))))) ?_ fun v H' R' sv => qr _ v H' rfl R' sv
  rw [← step_eq hj]
  refine e_catT g (by rw [List.length_append]; show _ + 1 + _ ≤ _; omega) (e_catT g (by show _ + 1 ≤ _; omega) (e_slT g (v 0) ⟨rfl, rfl⟩ ⟨_, rfl, v 1⟩) (e_tup g (ds := [.int (xs.getD j 0 + 1)]) (a_cons (e_add (e_ixT (ds := dI xs) (v 0) (v 1) hx) e_int) a_nil) (by simp))) (e_slT g (v 0) ⟨_, rfl, e_add (v 1) e_int⟩ ⟨rfl, rfl⟩)
/-! _check_token, let by -/
/-- what a token lacks here -/
def lackD (app tok : List Int) (i : Nat) : List PyData := ((List.range i).filter fun j => decide (app.getD j 0 < tok.getD j 0)).map fun j => .tuple [.int (j : Nat), .int (app.getD j 0 + 1)]
theorem lack_T {app tok : List Int} {i : Nat} (h : decide (app.getD i 0 < tok.getD i 0) = true) : lackD app tok (i + 1) = lackD app tok i ++ [.tuple [.int (i : Nat), .int (app.getD i 0 + 1)]] := by
  unfold lackD
  rw [List.range_succ, List.filter_append, List.filter_cons, if_pos h, List.map_append]
  rfl
theorem lack_F {app tok : List Int} {i : Nat} (h : decide (app.getD i 0 < tok.getD i 0) = false) : lackD app tok (i + 1) = lackD app tok i := by
  unfold lackD
  rw [List.range_succ, List.filter_append, List.filter_cons, if_neg (by rw [h]; exact Bool.false_ne_true), List.filter_nil, List.append_nil]
theorem lack_len (app tok : List Int) (i : Nat) : (lackD app tok i).length ≤ i := by
  unfold lackD
  rw [List.length_map]
  exact Nat.le_trans (List.length_filter_le _ _) (by rw [List.length_range]; exact Nat.le_refl _)
theorem lack_none {app tok : List Int} (h : ∀ j, tok.getD j 0 ≤ app.getD j 0) (i : Nat) : lackD app tok i = [] := by
  unfold lackD
  have : (List.range i).filter (fun j => decide (app.getD j 0 < tok.getD j 0)) = [] := by
    rw [List.filter_eq_nil_iff]
    intro j _ hd
    have := of_decide_eq_true hd
    have := h j
    omega
  rw [this]
  rfl
theorem eqv_int (i j : Int) : PyData.eqv (.int i) (.int j) = decide (i = j) := by
  show (i == j) = decide (i = j)
  rw [Bool.eq_iff_iff]
  simp
/-- a token that is let by here -/
def okTok (S : SD) (d : PyData) : Prop := d = .none ∨ ∃ tok : List Int, d = .tuple (dI tok) ∧ tokD d = true ∧ tok.length = S.many ∧ ∀ j, tok.getD j 0 ≤ S.app.getD j 0
def gTokL (S : SD) (rs : List Sl) (o : Out) (S' : SD) : Prop := ∃ d, rs = [.dat d] ∧ okTok S d ∧ S.app.length = S.many ∧ S.many ≤ 5 ∧ S' = S ∧ o = .ok (.dat .none)
theorem m_tokL (B : Bl mg) (hen : mg "enumerate" = none) (k : SiteK K C) (cT : Cal P w K mg base "is_token_of" 3 (DV.spS K gTokOf)) (d : MD K C "_check_token" "Site._check_token" (siteM 11) ["self", "token"]) : Mth P w K mg base C "_check_token" 1 [] (fun us _ => us) 4 (spM K C gTokL) := by
  refine d.mth scTok rfl (fun S rs o S' ⟨_, e, _⟩ => by rw [e]; rfl) ?_
  rintro S rs o S' ⟨dt, rfl, hok, hl, h5, rfl, rfl⟩ f cdv A outer sh H E M ad R D hr g I qr qn qe
  rcases hok with rfl | ⟨tok, rfl, htok, htl, hle⟩
  · exact st_if (k := true) (t_isN (d := .none) (v 1)) (fun _ => st_retN fun H' R' => qr _ .non H' rfl R' .non) (fun h => by cases h)
  · have hk : (tokD (.tuple (dI tok)) && PyData.eqv (.int (lenD (.tuple (dI tok)))) (.int S'.many)) = true := by
      rw [htok, Bool.true_and, eqv_int]
      refine decide_eq_true ?_
      show ((dI tok).length : Int) = _
      rw [List.length_map, htl]
    refine st_if (k := false) (t_isN (d := .tuple (dI tok)) (v 1)) (fun h => by cases h) (fun _ => st_thru ?_)
    refine st_if (k := false) (s1 := S') (t_not (k := true) (t_val (by rw [← hk]; exact e_call g cT hr (Nat.le_refl _) (by rfl) ⟨.tuple (dI tok), S'.many, rfl, rfl⟩ (a_cons (v 1) (a_cons (e_sF I k.cls (k.na "_many" (by decide)) (v 0) (by rfl)) a_nil))))) (fun h => by cases h) (fun _ => st_thru ?_)
    have hn : (cntD (dI S'.app).length).length = S'.app.length := by unfold cntD; rw [List.length_map, List.length_range, List.length_map]
    refine st_lc g (i := 2) (own := [("site", 3), ("has", 4)]) (gt := gTup K 2 (gCons (gName 3) (gCons (gName 4) gNil))) (n := (cntD (dI S'.app).length).length) (it := itZ (cntD (dI S'.app).length) (dI S'.app)) (ss := fun _ => S') (outs := fun i => lackD S'.app tok i) rfl scTok.nd rfl rfl (sw_true rfl rfl rfl (by decide)) (blkOk_by (N := nTok) (sc := defScope (siteM 11)) (by decide +kernel))
      (fun sh Hh C cl fp => pg_tup rfl (pgs_cons (pg_name (i := 3) scTok.nd rfl (Or.inl rfl)) (pgs_cons (pg_name (i := 4) scTok.nd rfl (Or.inl rfl)) pgs_nil))) (i_enumT (by rfl) hen (a1 (e_sF I k.cls (k.na "_applied" (by decide)) (v 0) (by rfl)))) rfl (fun i hi => by have := lack_len S'.app tok i; omega) (fun j hj => ?_) ?_
    · have hj' : j < S'.app.length := by omega
      have h1 : (cntD (dI S'.app).length)[j]? = some (.int (j : Nat)) := by unfold cntD; rw [List.getElem?_map, List.getElem?_range (by rw [List.length_map]; exact hj')]; rfl
      have h2 : (dI S'.app)[j]? = some (.int (S'.app.getD j 0)) := by rw [List.getElem?_map, getD_ofI hj']; rfl
      have h3 : atI (dI tok) (j : Int) = some (.int (tok.getD j 0)) := atI_nat (by rw [List.getElem?_map, getD_ofI (by omega)]; rfl)
      rw [itZ_lt h1 h2]
      refine ⟨_, tg_pair (by simp) (by simp), fun D acc gD => ⟨decide (S'.app.getD j 0 < tok.getD j 0), S', fun sh Hh C cl fp => t_gtI (e_ixT (ds := dI tok) (v 1) (v 3) h3) (v 4), fun hp => ⟨_, lack_T hp, fun sh Hh C cl fp => ?_⟩, fun hp => ⟨lack_F hp, rfl⟩⟩⟩
      exact e_tup gD (ds := [.int (j : Nat), .int (S'.app.getD j 0 + 1)]) (a_cons (v 3) (a_cons (e_add (v 4) e_int) a_nil)) (by simp)
    · rw [lack_none hle]
      exact st_if (k := false) (s1 := S') (t_list (ds := []) (v 2)) (fun h => by cases h) (fun _ => st_thru (st_nil fun σ H _ R' => qn σ H rfl R'))
/-! _apply -/
theorem SiteAt.nel {M : List Addr} {ad : Ad} {S : SD} {H : Hp} (h : SiteAt K C M ad S H) : ad.l ≠ ad.x ∧ ad.l ≠ ad.dx ∧ ad.l ≠ ad.wt ∧ ad.l ≠ ad.kn ∧ ad.l ≠ ad.hd := by
  obtain ⟨h1, ⟨vs, h2, h2'⟩, ⟨xs, h3, h3'⟩, ⟨k1, h4, h4'⟩, ⟨k2, h5, h5'⟩, ⟨k3, h6, h6'⟩, hne⟩ := h
  refine ⟨fun z => ?_, fun z => ?_, fun z => ?_, fun z => ?_, fun z => ?_⟩
  · rw [z, h2] at h3; cases h3
  · rw [z, h1] at h3; cases h3
  · rw [z, h4] at h3; cases h3
  · rw [z, h5] at h3; cases h3
  · rw [z, h6] at h3; cases h3
theorem mem_l' {ad : Ad} : ad.l ∈ ad.m := List.mem_cons_of_mem _ (List.mem_cons_of_mem _ List.mem_cons_self)
theorem SiteIn.logL {T : Type} {M : List Addr} {R : T → Hp → Prop} {ad : Ad} {get : T → SD} {put : T → SD → T} (I : SiteIn K C M R ad get put) : ListIn K M R ad.l (fun s => (get s).log) (fun s d => put s { get s with log := d }) where
  mem := I.sub _ mem_l'
  at_ h := (I.at_ h).log
  to {s H ys ds} h hd := by
    have sa := I.at_ h
    obtain ⟨n1, n2, n3, n4, n5⟩ := SiteAt.nel sa
    obtain ⟨h1, ⟨vs, h2, h2'⟩, ⟨xs, h3, h3'⟩, ⟨k1, h4, h4'⟩, ⟨k2, h5, h5'⟩, ⟨k3, h6, h6'⟩, hnk⟩ := sa
    have hc : cut M (upd H ad.l (.lst ys)) = cut M H := cut_upd_in (I.sub _ mem_l')
    have hc2 : cut ad.m (upd H ad.l (.lst ys)) = cut ad.m H := cut_upd_in mem_l'
    refine I.to h (by rw [hc2]; exact exId _) ⟨by rw [upd_ne (Ne.symm n2)]; exact h1, ⟨vs, by rw [upd_ne (Ne.symm n1)]; exact h2, by rw [hc]; exact h2'⟩, ⟨ys, upd_same, by rw [hc]; exact hd⟩, ⟨k1, by rw [upd_ne (Ne.symm n3)]; exact h4, by rw [hc]; exact h4'⟩, ⟨k2, by rw [upd_ne (Ne.symm n4)]; exact h5, by rw [hc]; exact h5'⟩, ⟨k3, by rw [upd_ne (Ne.symm n5)]; exact h6, by rw [hc]; exact h6'⟩, hnk⟩
def applyS (S : SD) (p : Pt) : SD := { S with log := S.log ++ [ptD p], app := S.app.set p.site (S.app.getD p.site 0 + 1), turn := mxI S.turn p.turn }
def gApply (S : SD) (rs : List Sl) (o : Out) (S' : SD) : Prop := ∃ p : Pt, rs = [.dat (ptD p)] ∧ p.site < S.app.length ∧ S.app.length ≤ 1000 ∧ S.log.length < 100000 ∧ S' = applyS S p ∧ o = .ok (.dat .none)
theorem scApply : FnScope ["self", "put"] ["self", "put"] (defScope (siteM 14)) := ⟨rfl, rfl, rfl, by decide +kernel, rfl, by decide +kernel, by decide +kernel⟩
theorem m_apply (B : Bl mg) (gk : Gk mg) (k : SiteK K C) (cS : Cal P w K mg base "stepped" 1 (DV.spS K gStepped)) (d : MD K C "_apply" "Site._apply" (siteM 14) ["self", "put"]) : Mth P w K mg base C "_apply" 1 [] (fun us _ => us) 2 (spM K C gApply) := by
  refine d.mth scApply rfl (fun S rs o S' ⟨_, e, _⟩ => by rw [e]; rfl) ?_
  rintro S rs o S' ⟨p, rfl, hs, hz, hlz, rfl, rfl⟩ f cdv A outer sh H E M ad R D hr g I qr qn qe
  refine st_app (d := ptD p) (s1 := S) (s2 := S) (SiteIn.logL I) (e_sF I k.cls (k.na "_log" (by decide)) (v 0) (by rfl)) (v 1) hlz ?_
  refine st_sF (f := "_applied") (s1 := { S with log := S.log ++ [ptD p] }) (s2 := { S with log := S.log ++ [ptD p] }) (S' := { S with log := S.log ++ [ptD p], app := S.app.set p.site (S.app.getD p.site 0 + 1) }) I k.cls (k.na "_applied" (by decide)) (e_call g cS hr (Nat.le_refl _) (by rfl) ⟨S.app, p.site, rfl, hs, hz, rfl⟩ (a_cons (e_sF I k.cls (k.na "_applied" (by decide)) (v 0) (by rfl)) (a_cons (e_ixT (ds := ptL p) (v 1) (gi gk.site) rfl) a_nil))) (v 0) rfl ⟨rfl, rfl, rfl, rfl⟩ (fun H h => h.nex) ?_
  refine st_sF (f := "_turn") (s1 := { S with log := S.log ++ [ptD p], app := S.app.set p.site (S.app.getD p.site 0 + 1) }) (s2 := { S with log := S.log ++ [ptD p], app := S.app.set p.site (S.app.getD p.site 0 + 1) }) (S' := applyS S p) I k.cls (k.na "_turn" (by decide)) (e_max2 rfl (by rfl) B.max (a_cons (e_sF I k.cls (k.na "_turn" (by decide)) (v 0) (by rfl)) (a_cons (e_ixT (ds := ptL p) (v 1) (gi gk.turn) rfl) a_nil))) (v 0) rfl ⟨rfl, rfl, rfl, rfl⟩ (fun H h => h.nex) ?_
  exact st_nil fun σ H _ R' => qn σ H rfl R'
end
end K04
namespace DV
open PySem PySem.Spec L2 Evl LamX NdefX
open PyProof.Rows hiding St cutD
/-! ### what is handed back new, and may be changed -/
/-- the worth is a datum; where it is an object, it is newer than the heap H1 between -/
def EvN {S : Type} (X : Cx) (M : List Addr) (R : S → Hp → Prop) (ρ : List Sl) (e : Expr) (s : S) (d : PyData) (s' : S) : Prop :=
  ∀ σ H (Q : VK), Slots X.K (cut M H) σ ρ → R s H → (∀ v H1 H', Ex (cut M H) (cut M H1) → R s' H1 → Ex (cut M H1) (cut M H') → R s' H' → Sv X.K (cut M H') (.dat d) v → (∀ p, v = .ref p → H1 p = none) → Q v H') → wE X e σ H Q
/-- a state keeps where a list changes that it holds nothing of -/
def FrameG {S : Type} (M : List Addr) (R : S → Hp → Prop) (G : S → Prop) : Prop := ∀ (st : S) (H1 H : Hp) (p : Addr) (xs ys : List V), G st → R st H1 → H1 p = none → R st H → Ex (cut M H1) (cut M H) → p ∉ M → H p = some (.lst xs) → R st (upd H p (.lst ys))
theorem FrameG.of {S : Type} {M : List Addr} {R : S → Hp → Prop} (h : Frame M R) (G : S → Prop) : FrameG M R G := fun st H1 H p xs ys _ => h st H1 H p xs ys
theorem FrameG.rx {S : Type} {M : List Addr} {R : S → Hp → Prop} {G : S → Prop} (h : FrameG M R G) (H0 : Hp) : FrameG M (RX R M H0) G := fun st H1 H p xs ys hg r1 n r e nm hp => ⟨h st H1 H p xs ys hg r1.1 n r.1 e nm hp, ex_upd r1.2 n e⟩
section
variable {S : Type} {X : Cx} {M : List Addr} {R : S → Hp → Prop} {ρ : List Sl} {s s1 s2 : S} {x : Str} {e o : Expr} {es : List Expr} {px apos cpos pos : Pos} {rs : List Sl} {j k : Nat} {d : PyData} {rest : List Stmt} {D : Ends} {G : S → Prop}
theorem EvN.ev (h : EvN X M R ρ e s d s1) : Ev1 X M R ρ e s (.dat d) s1 := fun σ H Q hσ hR q => h σ H Q hσ hR fun v H1 H' e1 _ e2 r2 sv _ => q v H' (e1.trans e2) r2 sv
theorem n_call (g : Rg M R) {GG : List Sl → Sl → Prop} (c : Cal X.prog X.w X.K X.mg X.base x k (spF X.K GG)) (hr : Room j X.A) (hk : k ≤ j) (hg : Gl X x) (hG : GG rs (.dat d)) (ha : EvA1 X M R ρ (e :: es) s rs s1) (hdb : (x == ("__debug__" : Str)) = false := by decide)
    (he : starEach (e :: es) X.env = (false, eval e X.env) :: starEach es X.env := by rfl) (hpl : (backTo pos (starEach es X.env)).any (·.1) = false := by rfl) : EvN X M R ρ (.Call (.Name x px) (e :: es) [] pos) s d s1 := by
  intro σ H Q hσ hR q
  refine w_call c hr hk hg passL ha hσ hR (fun vs H1 e1 d1 R1 => ?_) hdb he hpl
  exact ⟨M, rs, .dat d, fun a m => g.dom R1 m, d1, hG, fun v H' e2 d2 fr => q v H1 H' e1 R1 (exCut e2) (g.up R1 e2) d2 fr⟩
/-- list(xs), xs a list that changes -/
theorem n_listM (g : Rg M R) {l : Addr} {ds : List PyData} (hl : ∀ H, R s1 H → ∃ xs, H l = some (.lst xs) ∧ DvAll X.K (cut M H) xs ds) (hg : Gl X "list") (hm : X.mg "list" = none) (ha : EvA1 X M R ρ [e] s [.raw (.ref l)] s1) (he : starEach [e] X.env = (false, eval e X.env) :: starEach [] X.env := by rfl) (hpl : (backTo pos (starEach [] X.env)).any (·.1) = false := by rfl) : EvN X M R ρ (.Call (.Name "list" px) [e] [] pos) s (.list ds) s1 := by
  intro σ H Q hσ hR q
  refine wE_of (pe_callTy call_list_of hg hm (by decide +kernel) pa_w (by decide) (by decide) he hpl) ?_
  refine ha σ H _ hσ hR fun vs H1 e1 R1 d1 => ?_
  obtain ⟨v, hv, h1⟩ := svall1 d1
  subst hv
  have h1 : v = .ref l := h1
  subst h1
  obtain ⟨xs, hp, hd⟩ := hl H1 R1
  exact ⟨l, xs, rfl, .inl (sq_of hp), fun p n => q (.ref p) H1 (upd H1 p (.lst xs)) e1 R1 (exCut (Ex.new n)) (g.up R1 (Ex.new n)) (.lst (cut_upd (g.fresh R1 n)) (dpa_ex (exCut (Ex.new n)) _ _ hd)) fun p' z => by cases z; exact n⟩
/-- return e -/
theorem st_retNew (he : EvN X M R ρ e s d s1) (k : ∀ v H1 H', R s1 H1 → R s1 H' → Ex (cut M H1) (cut M H') → Sv X.K (cut M H') (.dat d) v → (∀ p, v = .ref p → H1 p = none) → D.rt v H') : St1 X M R ρ (.Return (some e) pos :: rest) s D := fun σ H hσ hR =>
  wB_cons (wS_of (ps_ret pe_w) (he σ H _ hσ hR fun v H1 H' _ R1 e2 R2 sv fr => k v H1 H' R1 R2 e2 sv fr))
/-- o.clear(), o a new list -/
theorem e_clearN (g : Rg M R) {ds : List PyData} (F : FrameG M R G) (hs : G s1) (ho : EvN X M R ρ o s (.list ds) s1)
    (hbase : attributeBase o "clear" X.env (eval o X.env) = eval o X.env := by rfl) (hline : (apos.endLine == cpos.line) = true := by rfl) : Ev1 X M R ρ (.Call (.Attribute o "clear" apos) [] [] cpos) s (.dat .none) s1 := by
  intro σ H Q hσ hR q
  refine wE_of (pe_bm0 PySem.F.plainAttrs_list PySem.F.slot_list_clear PySem.F.type_list_clear (mt_clear : MtM _ _ _) pe_w hbase hline) ?_
  refine ho σ H _ hσ hR fun v H1 H2 e1 R1 e2 R2 sv fr => ?_
  obtain ⟨p, xs, rfl, hp, hd⟩ := sv_lst sv
  obtain ⟨nm, hp⟩ := cut_some hp
  have n1 := fr p rfl
  exact ⟨.inl ⟨rfl, _, sq_of hp⟩, p, xs, rfl, rfl, hp, q .non _ (ex_upd e1 n1 e2) (F s1 H1 H2 p xs [] hs R1 n1 R2 e2 nm hp) .non⟩
end
/-! ### methods that hand back something new -/
def spMN (K : PySem.W.Frag) (C : Addr) (G : SD → List Sl → PyData → SD → Prop) : Sp := fun vs H Q E => ∃ (M : List Addr) (ad : Ad) (S S' : SD) (rs : List Sl) (d : PyData), (∀ a ∈ ad.m, a ∈ M) ∧ (∀ a ∈ M, ∃ o, H a = some o) ∧ SiteAt K C M ad S H ∧
  SvAll K (cut M H) (.raw (.ref ad.x) :: rs) vs ∧ G S rs d S' ∧ ∀ v H1 H', Ex (cut ad.m H) (cut ad.m H1) → SiteAt K C M ad S' H1 → Ex (cut M H1) (cut M H') → Ex (cut ad.m H) (cut ad.m H') → SiteAt K C M ad S' H' → Sv K (cut M H') (.dat d) v → (∀ p, v = .ref p → H1 p = none) → Q v H'
theorem spMN.m {K : PySem.W.Frag} {C : Addr} {G : SD → List Sl → PyData → SD → Prop} {G2 : SD → List Sl → Out → SD → Prop} (h : ∀ S rs o S', G2 S rs o S' → ∃ d, o = .ok (.dat d) ∧ G S rs d S') : ∀ vs H Q E, spM K C G2 vs H Q E → spMN K C G vs H Q E := by
  rintro vs H Q E ⟨M, ad, S, S', rs, o, sub, dom, sa, sv, g, q⟩
  obtain ⟨d, rfl, hg⟩ := h _ _ _ _ g
  exact ⟨M, ad, S, S', rs, d, sub, dom, sa, sv, hg, fun v H1 H' _ _ _ e sa' sv' _ => q v H' e sa' sv'⟩
section
variable {P : Program} {w : World} {K : PySem.W.Frag} {mg : Str → Option Value} {base : Heap} {C : Addr} {m qual : Str} {st : Stmt} {ps N : List Str} {k n : Nat}
def BodyN (P : Program) (w : World) (K : PySem.W.Frag) (mg : Str → Option Value) (base : Heap) (C : Addr) (N : List Str) (x : Str) (st : Stmt) (k : Nat) (S : SD) (rs : List Sl) (d : PyData) (S' : SD) : Prop :=
  ∀ (f : Addr) (cdv : Value) (A : Around) (outer : List Env) (sh : Shared) (H : Hp) (E : XK) (M : List Addr) (ad : Ad) (R : SD → Hp → Prop) (D : Ends), Room k (A.deeper (envOfC x (defScope st) sh.heap.objs.size f cdv)) → Rg M R → SiteIn K C M R ad id (fun _ S => S) →
    (∀ v H1 H', R S' H1 → R S' H' → Ex (cut M H1) (cut M H') → Sv K (cut M H') (.dat d) v → (∀ p, v = .ref p → H1 p = none) → D.rt v H') →
    St1 (dx P w K mg base N x st f cdv A outer sh H E) M R (ini N (.raw (.ref ad.x) :: rs)) (defBody st) S D
theorem spMN_body {G : SD → List Sl → PyData → SD → Prop} (hb : ∀ S rs d S', G S rs d S' → BodyN P w K mg base C N qual st k S rs d S') (f : Addr) (cdv : Value) (A : Around) (outer : List Env) (sh : Shared) (H : Hp) (vs : List V) (Q : VK) (E : XK) (hr : Room k (A.deeper (envOfC qual (defScope st) sh.heap.objs.size f cdv)))
    (h : spMN K C G vs H Q E) : wB (dx P w K mg base N qual st f cdv A outer sh H E) (defBody st) { nx := fun _ H' => Q .non H', rt := Q } (L2.start N vs) H := by
  obtain ⟨M, ad, S, S', rs, d, sub, dom, sa, sv, g, q⟩ := h
  refine hb S rs d S' g f cdv A outer sh H E M ad (SiteR K C M ad H) _ hr (SiteR.rg dom) (SiteIn.own sub) ?_ _ H (slots_ini sv) ⟨sa, exId _⟩
  intro v H1 H' r1 r2 e sv' fr
  exact q v H1 H' r1.2 r1.1 e r2.2 r2.1 sv' fr
theorem spMN_len {G : SD → List Sl → PyData → SD → Prop} {j : Nat} (len : ∀ S rs d S', G S rs d S' → rs.length = j) {vs : List V} {H : Hp} {Q : VK} {E : XK} (h : spMN K C G vs H Q E) : vs.length = j + 1 := by
  obtain ⟨M, ad, S, S', rs, d, sub, dom, sa, sv, g, q⟩ := h
  rw [sv.len, List.length_cons, len _ _ _ _ g]
theorem MD.mthN {G : SD → List Sl → PyData → SD → Prop} (d : MD K C m qual st ps) (S : FnScope N ps (defScope st)) (hn : ps.length = n + 1) (len : ∀ S rs o S', G S rs o S' → rs.length = n) (hb : ∀ S rs o S', G S rs o S' → BodyN P w K mg base C N qual st k S rs o S') : Mth P w K mg base C m n [] (fun us _ => us) (k + 1) (spMN K C G) :=
  d.mthW S hn (fun vs H Q E h => by rw [spMN_len len h, hn]) (spMN_body hb)
theorem MK.mthN {ks : List Str} {gV : List V → List V → List V} {G : SD → List Sl → PyData → SD → Prop} {j : Nat} (d : MK K C m qual st ps n ks gV) (S : FnScope N ps (defScope st)) (hn : ps.length = j + 1) (len : ∀ S rs o S', G S rs o S' → rs.length = j) (hb : ∀ S rs o S', G S rs o S' → BodyN P w K mg base C N qual st k S rs o S') : Mth P w K mg base C m n ks gV (k + 1) (spMN K C G) :=
  d.mthW S (fun vs H Q E h => by rw [spMN_len len h, hn]) (spMN_body hb)
end
section
variable {T : Type} {X : Cx} {M : List Addr} {R : T → Hp → Prop} {ρ : List Sl} {s s1 s2 s3 : T} {o e : Expr} {es : List Expr} {kws : List Keyword} {x m f : Str} {pos apos ppos : Pos} {rs zs : List Sl} {C : Addr} {n j k : Nat} {ks : List Str} {gV : List V → List V → List V} {E : XK} {ad : Ad} {get : T → SD} {put : T → SD → T} {G : SD → List Sl → PyData → SD → Prop} {d : PyData}
theorem n_sM {S' : SD} (g : Rg M R) (I : SiteIn X.K C M R ad get put) (c : Mth X.prog X.w X.K X.mg X.base C m n ks gV k (spMN X.K C G)) (hr : Room j X.A) (hk : k ≤ j) (ho : Ev1 X M R ρ o s (.raw (.ref ad.x)) s1) (ha : EvA1 X M R ρ (e :: es) s1 rs s2) (hkw : EvK1 X M R ρ kws s2 zs s3)
    (ln : rs.length = n) (lk : zs.length = ks.length) {rv : List Sl} (hrv : ∀ (H' : Hp) (vs us : List V), SvAll X.K H' rs vs → SvAll X.K H' zs us → SvAll X.K H' (.raw (.ref ad.x) :: rv) (gV (.ref ad.x :: vs) us)) (hG : G (get s3) rv d S') (hna : (sF ad (get s1)).lookup m = none)
    (hall : (backToKw pos (keywordEach kws X.env)).all (·.1.isSome) = true := by rfl) (hks : (backToKw pos (keywordEach kws X.env)).filterMap (·.1) = ks := by rfl)
    (hst : starEach (e :: es) X.env = (false, eval e X.env) :: starEach es X.env := by rfl) (hpl : ((backTo pos (starEach (e :: es) X.env)).any (·.1) || (backToKw pos (keywordEach kws X.env)).any (·.1.isNone)) = false := by rfl) {pl : Sem Bool}
    (ht : eval (.Call (.Attribute o m apos) (e :: es) kws pos) X.env = (do
      let ov ← eval o X.env
      standAt apos.atName
      let (f, first) ← holding [ov] (getMethod ov m pl)
      callWith pos f first (backTo pos (starEach (e :: es) X.env)) (backToKw pos (keywordEach kws X.env))) := by rfl) : EvN X M R ρ (.Call (.Attribute o m apos) (e :: es) kws pos) s d (put s3 S') := by
  intro σ H Q hσ hR q
  refine w_meth (pl := pl) c hr hk passL ho (fun H' hR' => ?_) ha hkw hσ hR ln lk (fun vs us H1 e1 d1 d2 R1 => ?_) hall hks hst hpl ht
  · obtain ⟨vs, h1, h2⟩ := (I.at_ hR').ins
    exact ⟨ad.dx, vs, h1, h2.look_none hna⟩
  · exact ⟨M, ad, get s3, S', rv, d, I.sub, fun a m => g.dom R1 m, I.at_ R1, hrv _ _ _ d1 d2, hG, fun v H2 H3 e2 sa e3 e4 sa' sv fr => q v H2 H3 (e1.trans (ex_sub I.sub e2)) (I.to R1 e2 sa) e3 (I.to R1 e4 sa') sv fr⟩
theorem n_sM0 {S' : SD} (g : Rg M R) (I : SiteIn X.K C M R ad get put) (c : Mth X.prog X.w X.K X.mg X.base C m 0 [] gV k (spMN X.K C G)) (hr : Room j X.A) (hk : k ≤ j) (ho : Ev1 X M R ρ o s (.raw (.ref ad.x)) s1) (hgv : gV [.ref ad.x] [] = [.ref ad.x]) (hG : G (get s1) [] d S') (hna : (sF ad (get s1)).lookup m = none) {pl : Sem Bool}
    (ht : eval (.Call (.Attribute o m apos) [] [] pos) X.env = (do
      let ov ← eval o X.env
      standAt apos.atName
      let (f, first) ← holding [ov] (getMethod ov m pl)
      callWith pos f first (backTo pos (starEach [] X.env)) (backToKw pos (keywordEach [] X.env))) := by rfl) : EvN X M R ρ (.Call (.Attribute o m apos) [] [] pos) s d (put s1 S') := by
  intro σ H Q hσ hR q
  refine w_meth0 (pl := pl) c hr hk passL ho (fun H' hR' => ?_) hσ hR (fun H1 e1 R1 => ?_) ht
  · obtain ⟨vs, h1, h2⟩ := (I.at_ hR').ins
    exact ⟨ad.dx, vs, h1, h2.look_none hna⟩
  · exact ⟨M, ad, get s1, S', [], d, I.sub, fun a m => g.dom R1 m, I.at_ R1, by rw [hgv]; exact ⟨rfl, trivial⟩, hG, fun v H2 H3 e2 sa e3 e4 sa' sv fr => q v H2 H3 (e1.trans (ex_sub I.sub e2)) (I.to R1 e2 sa) e3 (I.to R1 e4 sa') sv fr⟩
end
/-! ### a site's data hold no list -/
structure NoL (S : SD) : Prop where
  log : noLs S.log = true
  wt : noLs (S.waits.map (·.2)) = true
  kn : noLs (S.known.map (·.2)) = true
  hd : noLs (S.heard.map (·.2)) = true
theorem dkt_noL {κ : Type} {K : PySem.W.Frag} {M N : List Addr} {H : Hp} (hn : ∀ a u, a ∉ N → H a = some u → (∃ xs, u = .tup xs) ∨ (∃ o xs, u = .frz o (.tup xs)) → a ∉ M) : ∀ {a : List (κ × V)} {b : List (κ × PyData)}, DkT K (cut N H) a b → noLs (b.map (·.2)) = true → DkT K (cut M H) a b
  | [], [], _, _ => trivial
  | (_, _) :: _, (_, d) :: b, ⟨h1, h2, h3⟩, q => by
    have q : (noL d && noLs (b.map (·.2))) = true := q
    rw [Bool.and_eq_true] at q
    exact ⟨h1, dv_noL hn d _ h2 q.1, dkt_noL hn h3 q.2⟩
  | [], (_, _) :: _, h, _ => h.elim
  | (_, _) :: _, [], h, _ => h.elim
theorem tfs_noL {K : PySem.W.Frag} {M N : List Addr} {H : Hp} (hn : ∀ a u, a ∉ N → H a = some u → (∃ xs, u = .tup xs) ∨ (∃ o xs, u = .frz o (.tup xs)) → a ∉ M) : ∀ {a : List (Str × Sl)} {b : List (Str × V)}, TFs K (cut N H) a b → (∀ f d, (f, Sl.dat d) ∈ a → noL d = true) → TFs K (cut M H) a b
  | [], [], _, _ => trivial
  | (f, r) :: a, (_, v) :: b, ⟨h1, h2, h3⟩, q => by
    refine ⟨h1, ?_, tfs_noL hn h3 fun f d m => q f d (List.mem_cons_of_mem _ m)⟩
    cases r with
    | any => trivial
    | raw u => exact h2
    | dat d => exact dv_noL hn d v h2 (q f d List.mem_cons_self)
  | [], (_, _) :: _, h, _ => h.elim
  | (_, _) :: _, [], h, _ => h.elim
theorem noLs_I (ns : List Int) : noLs (dI ns) = true := by
  induction ns with
  | nil => rfl
  | cons n ns ih => exact ih
theorem noLs_S (ws : List Str) : noLs (ws.map PyData.str) = true := by
  induction ws with
  | nil => rfl
  | cons n ns ih => exact ih
theorem sF_noL {ad : Ad} {S : SD} {f : Str} {d : PyData} (h : (f, Sl.dat d) ∈ sF ad S) : noL d = true := by
  unfold sF at h
  simp only [List.mem_cons, List.not_mem_nil, or_false, Prod.mk.injEq, Sl.dat.injEq, reduceCtorEq, and_false, false_or] at h
  rcases h with ⟨_, rfl⟩ | ⟨_, rfl⟩ | ⟨_, rfl⟩ | ⟨_, rfl⟩ | ⟨_, rfl⟩ | ⟨_, rfl⟩
  · rfl
  · rfl
  · exact noLs_S _
  · rfl
  · exact noLs_I _
  · rfl
theorem site_upd {K : PySem.W.Frag} {C : Addr} {M : List Addr} {ad : Ad} {S : SD} {H : Hp} {p : Addr} {xs ys : List V} (hn : NoL S) (sub : ∀ a ∈ ad.m, a ∈ M) (h : SiteAt K C M ad S H) (nm : p ∉ M) (hp : H p = some (.lst xs)) : SiteAt K C M ad S (upd H p (.lst ys)) := by
  have key : ∀ a u, a ∉ M → H a = some u → (∃ xs, u = .tup xs) ∨ (∃ o xs, u = .frz o (.tup xs)) → a ∉ p :: M := fun a u na ha hu m => by
    rcases List.mem_cons.mp m with z | m
    · rw [z, hp] at ha
      cases ha
      rcases hu with ⟨_, hu⟩ | ⟨_, _, hu⟩ <;> cases hu
    · exact na m
  have ec : Ex (cut (p :: M) H) (cut M (upd H p (.lst ys))) := fun a o ha => by
    obtain ⟨n, ha⟩ := cut_some ha
    rw [cut_out fun z => n (List.mem_cons_of_mem _ z), upd_ne (fun z : a = p => n (by rw [z]; exact List.mem_cons_self))]
    exact ha
  obtain ⟨h1, ⟨vs, h2, h2'⟩, ⟨zs, h3, h3'⟩, ⟨k1, h4, h4'⟩, ⟨k2, h5, h5'⟩, ⟨k3, h6, h6'⟩, hne⟩ := h
  have np : ∀ a ∈ ad.m, a ≠ p := fun a m z => nm (z ▸ sub a m)
  unfold Ad.m at np
  simp only [List.mem_cons, List.not_mem_nil, or_false, forall_eq_or_imp, forall_eq] at np
  obtain ⟨n1, n2, n3, n4, n5, n6⟩ := np
  exact ⟨by rw [upd_ne n2]; exact h1, ⟨vs, by rw [upd_ne n1]; exact h2, (tfs_noL key h2' fun f d m => sF_noL m).ex ec⟩, ⟨zs, by rw [upd_ne n3]; exact h3, dpa_ex ec _ _ (dva_noL key _ _ h3' hn.log)⟩, ⟨k1, by rw [upd_ne n4]; exact h4, (dkt_noL key h4' hn.wt).ex ec⟩, ⟨k2, by rw [upd_ne n5]; exact h5, (dkt_noL key h5' hn.kn).ex ec⟩, ⟨k3, by rw [upd_ne n6]; exact h6, (dkt_noL key h6' hn.hd).ex ec⟩, hne⟩
theorem FrameG.rs {T : Type} {K : PySem.W.Frag} {C : Addr} {M : List Addr} {R : T → Hp → Prop} {ad : Ad} {G : T → Prop} (h : FrameG M R G) : FrameG (ad.m ++ M) (RS K C M R ad) (fun s => G s.1 ∧ NoL s.2) := by
  intro st H1 H p xs ys ⟨hg, hn⟩ ⟨r1, s1⟩ n ⟨r, sa⟩ e nm hp
  have n1 : p ∉ ad.m := fun m => nm (List.mem_append_left _ m)
  have n2 : p ∉ M := fun m => nm (List.mem_append_right _ m)
  have ec : cut ad.m (upd H p (.lst ys)) = upd (cut ad.m H) p (.lst ys) := by
    funext a
    by_cases m : a ∈ ad.m
    · rw [cut_in m, upd_ne (fun z : a = p => n1 (by rw [← z]; exact m)), cut_in m]
    · by_cases z : a = p
      · rw [z, cut_out n1, upd_same, upd_same]
      · rw [cut_out m, upd_ne z, upd_ne z, cut_out m]
  have e2 : ∀ H : Hp, cut M (cut ad.m H) = cut (ad.m ++ M) H := fun H => by
    funext a
    by_cases m : a ∈ M
    · rw [cut_in m, cut_in (List.mem_append_right _ m)]
    · by_cases m2 : a ∈ ad.m
      · rw [cut_out m, cut_in m2, cut_in (List.mem_append_left _ m2)]
      · rw [cut_out m, cut_out m2, cut_out fun z => (List.mem_append.mp z).elim m2 m]
  refine ⟨?_, site_upd hn (fun a m => List.mem_append_left _ m) sa nm hp⟩
  show R st.1 (cut ad.m (upd H p (.lst ys)))
  rw [ec]
  exact h st.1 (cut ad.m H1) (cut ad.m H) p xs ys hg r1 (by rw [cut_out n1]; exact n) r (by rw [e2, e2]; exact e) n2 (by rw [cut_out n1]; exact hp)
end DV
namespace K04
open PySem PySem.Spec L2 Evl DV LamX NdefX
open PyProof.Rows hiding St cutD
section
variable {P : Program} {w : World} {K : PySem.W.Frag} {mg : Str → Option Value} {base : Heap} {C : Addr}
theorem BodyN.m {N : List Str} {x : Str} {st : Stmt} {k : Nat} {S S' : SD} {rs : List Sl} {d : PyData} (h : BodyN P w K mg base C N x st k S rs d S') : True := trivial
/-! log, told as new -/
def gLogN (S : SD) (rs : List Sl) (d : PyData) (S' : SD) : Prop := rs = [] ∧ d = .list S.log ∧ S' = S
theorem m_logN (B : Bl mg) (k : SiteK K C) (d : MD K C "log" "Site.log" (siteM 7) ["self"]) : Mth P w K mg base C "log" 0 [] (fun us _ => us) 1 (spMN K C gLogN) := by
  refine d.mthN scLog rfl (fun S rs o S' ⟨e, _⟩ => by rw [e]; rfl) ?_
  rintro S rs o S' ⟨rfl, rfl, rfl⟩ f cdv A outer sh H E M ad R D hr g I qr
  exact st_retNew (n_listM g (l := ad.l) (fun H hR => (I.at_ hR).log) (by rfl) B.list (a1 (e_sF I k.cls (k.na "_log" (by decide)) (v 0) (by rfl)))) qr
/-! look, by a token that is let by -/
def gLookL (S : SD) (rs : List Sl) (d : PyData) (S' : SD) : Prop := ∃ (t : Int) (key : Nat) (dt : PyData) (ps : List Pt), rs = [.dat (.int t), .dat (.int key), .dat dt, .dat .none] ∧ okNow S.now ∧ S.now ≤ t ∧ t ≤ 1000000 ∧ okTok S dt ∧ S.app.length = S.many ∧ S.many ≤ 5 ∧ okRules S.rules ∧ key < S.rules.length ∧ S.log = dP ps ∧ okPts ps ∧
  S' = SD.at S t ∧ d = heldD (S.rules.getD key Str.empty) (ofKey ps key)
/-- a call that reads what may change, and hands back something low and new -/
theorem n_callLow {T : Type} {X : Cx} {M : List Addr} {R : T → Hp → Prop} {ρ : List Sl} {s s1 : T} {x : Str} {e : Expr} {es : List Expr} {px pos : Pos} {rs rs' : List Sl} {j k : Nat} (g : Rg M R) {G : List Sl → Sl → Prop} {d : PyData} (c : Cal X.prog X.w X.K X.mg X.base x k (spF X.K G)) (hr : Room j X.A) (hk : k ≤ j) (hg : Gl X x) (hG : G rs' (.dat d)) (hl : lowD d = true) (ha : EvA1 X M R ρ (e :: es) s rs s1)
    (hrs : ∀ H1 vs, R s1 H1 → SvAll X.K (cut M H1) rs vs → SvAll X.K H1 rs' vs) (hdb : (x == ("__debug__" : Str)) = false := by decide)
    (he : starEach (e :: es) X.env = (false, eval e X.env) :: starEach es X.env := by rfl) (hpl : (backTo pos (starEach es X.env)).any (·.1) = false := by rfl) : EvN X M R ρ (.Call (.Name x px) (e :: es) [] pos) s d s1 := by
  intro σ H Q hσ hR q
  refine w_call c hr hk hg passL ha hσ hR (fun vs H1 e1 d1 R1 => ?_) hdb he hpl
  refine ⟨[], rs', .dat d, fun a m => (by cases m), by rw [cut_nil]; exact hrs H1 vs R1 d1, hG, fun v H' e2 sv fr => q v H1 H' e1 R1 (exCut e2) (g.up R1 e2) ?_ fr⟩
  rw [cut_nil] at sv
  cases d with
  | list ds =>
    obtain ⟨a, xs, rfl, ha, hd⟩ := sv_lst sv
    have nM : a ∉ M := fun m => by
      obtain ⟨o, ho⟩ := g.dom R1 m
      rw [fr a rfl] at ho
      cases ho
    exact .lst (by rw [cut_out nM]; exact ha) (dva_flat hd hl)
  | none => rw [sv_non sv]; exact .non
  | bool b => rw [sv_bl sv]; exact .bl b
  | int i => rw [sv_int sv]; exact .int i
  | str z => rw [sv_str sv]; exact .str z
  | tuple _ => cases hl
  | dict _ => cases hl
theorem m_lookL {CN CK : Addr} {gV : List V → List V → List V} {n : Nat} {ks : List Str} (k : SiteK K C) (cN : Mth P w K mg base C "_check_now" 1 [] (fun us _ => us) 2 (spM K C (gNow CN))) (cT : Mth P w K mg base C "_check_token" 1 [] (fun us _ => us) 4 (spM K C gTokL)) (cK : Cal P w K mg base "check_key" 3 (DV.spS K (gChkK CK)))
    (cP : Cal P w K mg base "plainly" 5 (spF K gPlain)) (d : MK K C "look" "Site.look" (siteM 2) nLook n ks gV) : Mth P w K mg base C "look" n ks gV 6 (spMN K C gLookL) := by
  refine d.mthN (j := 4) scLook rfl (fun S rs o S' ⟨_, _, _, _, e, _⟩ => by rw [e]; rfl) ?_
  rintro S rs o S' ⟨t, key, dt, ps, rfl, ok, h1, h2, htok, hal, hm5, hws, hkey, hlog, hok, rfl, rfl⟩ f cdv A outer sh H E M ad R D hr g I qr
  refine st_expr (e_sM (pl := _) (rv := [.dat (.int t)]) (r := .dat .none) g I cN hr (by decide) (v 0) (a_cons (v 1) a_nil) k_nil rfl rfl (fun H' vs us h1 _ => ⟨rfl, h1⟩) ⟨.int t, rfl, ok, rfl, now_ok h1 h2⟩ rfl) ?_
  have hwhole : wholeD (.int key) 0 ((S.rules.length : Int) - 1) = true := by
    show (decide ((0 : Int) ≤ key) && decide ((key : Int) ≤ (S.rules.length : Int) - 1)) = true
    rw [decide_eq_true (by omega), decide_eq_true (by omega)]
    rfl
  refine st_expr (e_call g cK hr (by decide) (by rfl) (r := .dat .none) ⟨.int key, S.rules, rfl, hws.2.1, by rw [hwhole]; rfl⟩ (a_cons (v 2) (a_cons (e_sF I k.cls (k.na "_rules" (by decide)) (v 0) (by rfl)) a_nil))) ?_
  refine st_expr (e_sM (pl := _) (rv := [.dat dt]) (r := .dat .none) g I cT hr (by decide) (v 0) (a_cons (v 3) a_nil) k_nil rfl rfl (fun H' vs us h1 _ => ⟨rfl, h1⟩) ⟨dt, rfl, htok, hal, hm5, rfl, rfl⟩ rfl) ?_
  refine st_if (k := !isN .none) (t_isNotN (d := .none) (v 4)) (fun h => by cases h) (fun _ => st_thru ?_)
  refine st_sF (f := "_now") (S' := SD.at S t) I k.cls (k.na "_now" (by decide)) (v 1) (v 0) rfl ⟨rfl, rfl, rfl, rfl⟩ (fun H h => h.nex) ?_
  have hwk : S.rules[key]? = some (S.rules.getD key Str.empty) := by rw [List.getD_eq_getElem?_getD, List.getElem?_eq_getElem hkey]; rfl
  refine st_retNew (s1 := SD.at S t) (n_callLow (rs := [.raw (.ref ad.l), .dat (.tuple (S.rules.map .str)), .dat (.int key)]) (rs' := [.dat (.list (dP ps)), .dat (.tuple (S.rules.map .str)), .dat (.int key)]) g cP hr (Nat.le_refl _) (by rfl) ⟨ps, S.rules, key, rfl, hok, hws, hkey, rfl⟩ (low_held _ _ (hws.2.2 _ (List.mem_of_getElem? hwk)))
    (a_cons (e_sF I k.cls (k.na "_log" (by decide)) (v 0) (by rfl)) (a_cons (e_sF I k.cls (k.na "_rules" (by decide)) (v 0) (by rfl)) (a_cons (v 2) a_nil))) (fun H1 vs R1 sv => ?_)) qr
  obtain ⟨v1, v2, v3, rfl, d1, d2, d3⟩ := svall3 sv
  have d1 : v1 = .ref ad.l := d1
  subst d1
  obtain ⟨xs, hx, hd⟩ := (I.at_ R1).log
  have hd : DvAll K (cut M H1) xs S.log := hd
  rw [hlog] at hd
  exact ⟨.lst hx (dpa_ex ex_cut _ _ hd), dp_ex ex_cut _ _ d2, dp_ex ex_cut _ _ d3, trivial⟩
/-! put, let by -/
/-- the put that a site makes next -/
def nextP (S : SD) (num : Nat) (key : Nat) (worth : Int) : Pt := ⟨num, S.app.getD num 0 + 1, S.app, S.turn + 1, key, worth⟩
def putS (S : SD) (num : Nat) (t : Int) (key : Nat) (worth : Int) : SD := applyS (SD.at S t) (nextP S num key worth)
def gPutL (S : SD) (rs : List Sl) (o : Out) (S' : SD) : Prop := ∃ (t : Int) (key num : Nat) (worth : Int) (dt : PyData), rs = [.dat (.int t), .dat (.int key), .dat (.int worth), .dat dt] ∧ okNow S.now ∧ S.now ≤ t ∧ t ≤ 1000000 ∧ okTok S dt ∧ S.app.length = S.many ∧ S.many ≤ 5 ∧ okRules S.rules ∧ key < S.rules.length ∧ wholeD (.int worth) (-999) 999 = true ∧
  S.num = num ∧ num < S.many ∧ S.app.getD num 0 ≠ 999 ∧ S.log.length < 100000 ∧ S' = putS S num t key worth ∧ o = .ok (.dat (.tuple (dI (putS S num t key worth).app)))
abbrev nPut : List Str := ["self", "now", "key", "worth", "token", "made"]
theorem scPut : FnScope nPut ["self", "now", "key", "worth", "token"] (defScope (siteM 1)) := ⟨rfl, rfl, rfl, by decide +kernel, rfl, by decide +kernel, by decide +kernel⟩
theorem m_putL {CN CK : Addr} {gV : List V → List V → List V} {n : Nat} {ks : List Str} (gw : Gw mg) (k : SiteK K C) (cN : Mth P w K mg base C "_check_now" 1 [] (fun us _ => us) 2 (spM K C (gNow CN))) (cT : Mth P w K mg base C "_check_token" 1 [] (fun us _ => us) 4 (spM K C gTokL)) (cK : Cal P w K mg base "check_key" 3 (DV.spS K (gChkK CK)))
    (cW : Cal P w K mg base "is_worth" 2 (DV.spS K gIsWorth)) (cA : Mth P w K mg base C "_apply" 1 [] (fun us _ => us) 2 (spM K C gApply)) (d : MK K C "put" "Site.put" (siteM 1) ["self", "now", "key", "worth", "token"] n ks gV) : Mth P w K mg base C "put" n ks gV 5 (spM K C gPutL) := by
  refine d.mth (j := 4) scPut rfl (fun S rs o S' ⟨_, _, _, _, _, e, _⟩ => by rw [e]; rfl) ?_
  rintro S rs o S' ⟨t, key, num, worth, dt, rfl, ok, h1, h2, htok, hal, hm5, hws, hkey, hwo, hnum, hnm, h9, hlz, rfl, rfl⟩ f cdv A outer sh H E M ad R D hr g I qr qn qe
  refine st_expr (e_sM (pl := _) (rv := [.dat (.int t)]) (r := .dat .none) g I cN hr (by decide) (v 0) (a_cons (v 1) a_nil) k_nil rfl rfl (fun H' vs us h1 _ => ⟨rfl, h1⟩) ⟨.int t, rfl, ok, rfl, now_ok h1 h2⟩ rfl) ?_
  have hwhole : wholeD (.int key) 0 ((S.rules.length : Int) - 1) = true := by
    show (decide ((0 : Int) ≤ key) && decide ((key : Int) ≤ (S.rules.length : Int) - 1)) = true
    rw [decide_eq_true (by omega), decide_eq_true (by omega)]
    rfl
  refine st_expr (e_call g cK hr (by decide) (by rfl) (r := .dat .none) ⟨.int key, S.rules, rfl, hws.2.1, by rw [hwhole]; rfl⟩ (a_cons (v 2) (a_cons (e_sF I k.cls (k.na "_rules" (by decide)) (v 0) (by rfl)) a_nil))) ?_
  refine st_if (k := !wholeD (.int worth) (-999) 999) (s1 := S) (t_not (t_val (e_call g cW hr (by decide) (by rfl) ⟨.int worth, rfl, rfl⟩ (a_cons (v 3) a_nil)))) (fun h => by rw [hwo] at h; cases h) (fun _ => st_thru ?_)
  refine st_expr (e_sM (pl := _) (rv := [.dat dt]) (r := .dat .none) g I cT hr (by decide) (v 0) (a_cons (v 4) a_nil) k_nil rfl rfl (fun H' vs us h1 _ => ⟨rfl, h1⟩) ⟨dt, rfl, htok, hal, hm5, rfl, rfl⟩ rfl) ?_
  have hx : atI (dI S.app) (S.num : Int) = some (.int (S.app.getD num 0)) := by
    rw [hnum]
    exact atI_nat (by rw [List.getElem?_map, getD_ofI (by omega)]; rfl)
  refine st_set 5 (r := .dat (.int (S.app.getD num 0))) (s1 := S) scPut.nd rfl (Or.inl rfl) (e_ixT (ds := dI S.app) (e_sF I k.cls (k.na "_applied" (by decide)) (v 0) (by rfl)) (e_sF I k.cls (k.na "_number" (by decide)) (v 0) (by rfl)) hx) ?_
  refine st_if (k := PyData.eqv (.int (S.app.getD num 0)) (.int 999)) (s1 := S) (t_eqD (d1 := .int (S.app.getD num 0)) (d2 := .int 999) hr.units (v 5) (gi gw.puts) rfl rfl) (fun h => ?_) (fun _ => st_thru ?_)
  · rw [eqv_int] at h
    exact absurd (of_decide_eq_true h) h9
  refine st_sF (f := "_now") (S' := SD.at S t) I k.cls (k.na "_now" (by decide)) (v 1) (v 0) rfl ⟨rfl, rfl, rfl, rfl⟩ (fun H h => h.nex) ?_
  have e6 : (ptL (nextP S num key worth)) = [.int S.num, .int (S.app.getD num 0 + 1), .tuple (dI S.app), .int (S.turn + 1), .int key, .int worth] := by
    rw [hnum]
    rfl
  refine st_expr (s1 := putS S num t key worth) (e_sM (pl := _) (put := fun _ S => S) (get := id) (s1 := SD.at S t) (s3 := SD.at S t) (rv := [.dat (ptD (nextP S num key worth))]) (r := .dat .none) (S' := putS S num t key worth) g I cA hr (by decide) (v 0) (a_cons (s1 := SD.at S t) (r := .dat (ptD (nextP S num key worth))) ?_ a_nil) k_nil rfl rfl (fun H' vs us h1 _ => ⟨rfl, h1⟩) ⟨nextP S num key worth, rfl, by show num < S.app.length; omega, by show S.app.length ≤ 1000; omega, hlz, rfl, rfl⟩ rfl) ?_
  · show Ev1 _ _ _ _ _ _ (.dat (.tuple (ptL (nextP S num key worth)))) _
    rw [e6]
    exact e_tup g (ds := [.int S.num, .int (S.app.getD num 0 + 1), .tuple (dI S.app), .int (S.turn + 1), .int key, .int worth]) (a_cons (e_sF I k.cls (k.na "_number" (by decide)) (v 0) (by rfl)) (a_cons (e_add (v 5) e_int) (a_cons (e_sF I k.cls (k.na "_applied" (by decide)) (v 0) (by rfl)) (a_cons (e_add (e_sF I k.cls (k.na "_turn" (by decide)) (v 0) (by rfl)) e_int) (a_cons (v 2) (a_cons (v 3) a_nil)))))) (by simp)
  exact st_ret (s1 := putS S num t key worth) (e_sF I k.cls (k.na "_applied" (by decide)) (v 0) (by rfl)) fun v H' R' sv => qr _ v H' rfl R' sv
end
end K04
namespace K04
open PySem PySem.Spec L2 Evl DV LamX NdefX
open PyProof.Rows hiding St cutD
section
variable {P : Program} {w : World} {K : PySem.W.Frag} {mg : Str → Option Value} {base : Heap}
/-! _law_rules -/
abbrev kindsL : List Str := ["last", "all", "sum", "most"]
def rulN (st : Bx) : Nat := (1 + takeV st 6).toNat
def rulS (st : Bx) : Nat → Bx
  | 0 => st
  | j + 1 => takeS (rulS st j) 4
def rulV (st : Bx) (n : Nat) : List Str := (List.range n).map fun j => kindsL.getD (takeV (rulS st j) 4).toNat Str.empty
theorem rulN_is (st : Bx) : (1 + takeV st 6 : Int) = rulN st ∧ 1 ≤ rulN st ∧ rulN st ≤ 6 := by
  have h0 := takeV_nonneg (st := st) (n := 6) (by decide)
  have h1 := takeV_lt (st := st) (n := 6) (by decide)
  unfold rulN
  omega
theorem kind_in {st : Bx} : ∃ x, kindsL[(takeV st 4).toNat]? = some x ∧ kindsL.getD (takeV st 4).toNat Str.empty = x ∧ x ∈ wordsL := by
  have h0 := takeV_nonneg (st := st) (n := 4) (by decide)
  have h1 := takeV_lt (st := st) (n := 4) (by decide)
  have h : takeV st 4 = 0 ∨ takeV st 4 = 1 ∨ takeV st 4 = 2 ∨ takeV st 4 = 3 := by omega
  rcases h with h | h | h | h <;> rw [h]
  · exact ⟨"last", rfl, rfl, by simp⟩
  · exact ⟨"all", rfl, rfl, by simp⟩
  · exact ⟨"sum", rfl, rfl, by simp⟩
  · exact ⟨"most", rfl, rfl, by simp⟩
theorem rul_ok (st st' : Bx) : okRules (rulV st' (rulN st)) := by
  obtain ⟨_, h1, h6⟩ := rulN_is st
  have hl : (rulV st' (rulN st)).length = rulN st := by unfold rulV; rw [List.length_map, List.length_range]
  refine ⟨by rw [hl]; exact h1, by rw [hl]; exact h6, fun x hx => ?_⟩
  obtain ⟨j, _, rfl⟩ := List.mem_map.mp hx
  obtain ⟨x, _, e, hm⟩ := kind_in (st := rulS st' j)
  rw [e]
  exact hm
def gRules (rs : List Sl) (st : Bx) (r : Sl) (st' : Bx) : Prop := rs = [] ∧ r = .dat (.tuple ((rulV (takeS st 6) (rulN st)).map .str)) ∧ st' = rulS (takeS st 6) (rulN st)
theorem scRules : FnScope ["_law_box", "_law_k"] ["_law_box"] (defScope sRules) := ⟨rfl, rfl, rfl, by decide +kernel, rfl, by decide +kernel, by decide +kernel⟩
theorem c_rules (B : Bl mg) (cT : Cal P w K mg base "_law_take" 1 spTake) (d : Def K mg "_law_rules" sRules ["_law_box"]) : Cal P w K mg base "_law_rules" 2 (spB K gRules) := by
  refine d.calB scRules (fun rs bs r bs' ⟨e, _⟩ => by rw [e]; rfl) ?_
  rintro rs bs r bs' ⟨rfl, rfl, rfl⟩ f cdv A outer sh H E M R D b l hr g BI q
  obtain ⟨hn, h1, h6⟩ := rulN_is bs
  refine st_ret (e_tupleL g (by rfl) B.tuple (a1 ?_)) q
  have em : (rulV (takeS bs 6) (rulN bs)).map PyData.str = (List.range (rulN bs)).map fun j => PyData.str (kindsL.getD (takeV (rulS (takeS bs 6) j) 4).toNat Str.empty) := by
    unfold rulV
    rw [List.map_map]
    rfl
  rw [em]
  refine lc_rng (own := [("_law_k", 1)]) g (i := 1) (n := rulN bs) (ss := rulS (takeS bs 6)) _ (i_rngN (by rfl) B.range (by omega) (a1 (s1 := takeS bs 6) (by rw [← hn]; exact e_add e_int (e_take BI cT hr (Nat.le_refl _) (by rfl) (by decide) (by decide) (a_cons (v 0) (a_cons e_int a_nil)))))) (by omega)
    (fun j hj sh Hh C cl fp D acc gD => ?_) rfl scRules.nd (blkOk_by (N := ["_law_box", "_law_k"]) (sc := defScope sRules) (by decide +kernel)) (fun sh Hh C cl fp => pg_name (i := 1) scRules.nd rfl (Or.inl rfl)) (by simp)
  obtain ⟨x, hx, e, _⟩ := kind_in (st := rulS (takeS bs 6) j)
  have h0 := takeV_nonneg (st := rulS (takeS bs 6) j) (n := 4) (by decide)
  refine e_ixL (ds := kindsL.map .str) (e_lst gD (ds := kindsL.map .str) (a_cons e_str (a_cons e_str (a_cons e_str (a_cons e_str a_nil)))) (by simp)) (e_take (BI.rd D acc) cT hr (Nat.le_refl _) (by rfl) (by decide) (by decide) (a_cons (v 0) (a_cons e_int a_nil))) ?_
  have hi : takeV (rulS (takeS bs 6) j) 4 = (((takeV (rulS (takeS bs 6) j) 4).toNat : Nat) : Int) := by omega
  show atI _ (takeV (rulS (takeS bs 6) j) 4) = _
  rw [hi]
  refine atI_nat ?_
  rw [List.getElem?_map, hx, Int.toNat_natCast, e]
  rfl
end
end K04
namespace K04
open PySem PySem.Spec L2 Evl DV LamX NdefX
open PyProof.Rows hiding St cutD
theorem t_cast' {S : Type} {X : Cx} {M : List Addr} {R : S → Hp → Prop} {ρ : List Sl} {s s' : S} {e : Expr} {k k' : Bool} (h : EvT1 X M R ρ e s k s') (q : k = k') : EvT1 X M R ρ e s k' s' := by
  subst q
  exact h
theorem eqv_strs (a b : Str) : PyData.eqv (.str a) (.str b) = decide (a = b) := by
  show (a == b) = decide (a = b)
  rw [Bool.eq_iff_iff]
  simp
theorem words_shp {x : Str} (h : x ∈ wordsL) : SeqAt.shaped (.str x) = true := by
  simp only [List.mem_cons, List.not_mem_nil, or_false] at h
  rcases h with rfl | rfl | rfl | rfl <;> decide +kernel
theorem lay_dP : ∀ ps : List Pt, PyData.canLayAll0 (dP ps) = true
  | [] => rfl
  | p :: ps => by
    show ((ptD p).canLay0 && PyData.canLayAll0 (dP ps)) = true
    rw [lay_dP ps, Bool.and_true]
    exact (Bool.and_eq_true_iff.mp (shaped_pt p)).1
theorem depth_pt (p : Pt) : (ptD p).depth = 2 := by
  show max 0 (max 0 (max (PyData.depthAll (dI p.past) + 1) (max 0 (max 0 (max 0 0))))) + 1 = 2
  rw [depth_ints]
  rfl
theorem depth_dP : ∀ ps : List Pt, PyData.depthAll (dP ps) ≤ 2
  | [] => Nat.zero_le _
  | p :: ps => by
    show max (ptD p).depth (PyData.depthAll (dP ps)) ≤ 2
    rw [depth_pt]
    exact Nat.max_le.mpr ⟨Nat.le_refl _, depth_dP ps⟩
theorem shaped_dP (ps : List Pt) : SeqAt.shaped (.list (dP ps)) = true := by
  show (PyData.canLayAll0 (dP ps) && decide (PyData.depthAll (dP ps) + 1 ≤ 64)) = true
  rw [lay_dP, decide_eq_true (by have := depth_dP ps; omega)]
  rfl
theorem eqv_empty (ds : List PyData) : PyData.eqv (.list ds) (.list []) = ds.isEmpty := by cases ds <;> rfl
theorem alike_pts (ps : List Pt) : PySem.W.AllAlike (dP ps) := PySem.W.AllAlike.of fun p q => by
  show PySem.W.alikeAll (ptL p) (ptL q) = true
  unfold ptL
  simp only [PySem.W.alikeAll, PySem.W.alike, Bool.true_and, Bool.and_true]
  exact PySem.W.alike_ints _ _
theorem sortable_pts (ps : List Pt) : PySem.W.Sortable (dP ps) := PySem.W.Sortable.tuples fun p => ⟨_, _, rfl⟩
theorem depthLe_pts (ps : List Pt) : depthLe 60 (dP ps) := fun d hd => by
  obtain ⟨p, rfl, _⟩ := mem_dP hd
  rw [depth_pt]
  decide
def lePt (p q : Pt) : Bool := PySem.W.dataLe false id (ptD p) (ptD q)
theorem sort_pts (ps : List Pt) : (dP ps).mergeSort (PySem.W.dataLe false id) = dP (ps.mergeSort lePt) := (List.map_mergeSort (f := ptD) (r := lePt) (s := PySem.W.dataLe false id) (l := ps) fun _ _ _ _ => rfl).symm
/-! rows of turns -/
def rowD (p : Pt) : PyData := .tuple [.int p.turn, .int p.site, .int p.worth]
def leRow (p q : Pt) : Bool := PySem.W.dataLe false id (rowD p) (rowD q)
theorem sort_rows (ps : List Pt) : (ps.map rowD).mergeSort (PySem.W.dataLe false id) = (ps.mergeSort leRow).map rowD := (List.map_mergeSort (f := rowD) (r := leRow) (s := PySem.W.dataLe false id) (l := ps) fun _ _ _ _ => rfl).symm
def lawLast (ps : List Pt) : PyData := match (ps.mergeSort leRow).getLast? with
  | some p => .int p.worth
  | none => .none
def okOver (ps : List Pt) (p : Pt) : Bool := (ps.filter fun q => decide (p.num ≤ q.past.getD p.site 0)).isEmpty
def lawAll (ps : List Pt) : List Int := ((ps.mergeSort lePt).filter (okOver ps)).map (·.worth)
def lawD (x : Str) (ps : List Pt) : PyData := if x = ("sum" : Str) then .int (ps.map (·.worth)).sum else if x = ("most" : Str) then maxN (ps.map (·.worth)) else if x = ("last" : Str) then lawLast ps else .list (dI (lawAll ps))
theorem shaped_rows (ps : List Pt) : SeqAt.shaped (.list (ps.map rowD)) = true := by
  have l : ∀ ps : List Pt, PyData.canLayAll0 (ps.map rowD) = true := by
    intro ps
    induction ps with
    | nil => rfl
    | cons p ps ih =>
      show (true && PyData.canLayAll0 (ps.map rowD)) = true
      rw [ih]
      rfl
  have d : ∀ ps : List Pt, PyData.depthAll (ps.map rowD) ≤ 1 := by
    intro ps
    induction ps with
    | nil => exact Nat.zero_le _
    | cons p ps ih => exact Nat.max_le.mpr ⟨Nat.le_refl 1, ih⟩
  show (PyData.canLayAll0 (ps.map rowD) && decide (PyData.depthAll (ps.map rowD) + 1 ≤ 64)) = true
  rw [l, decide_eq_true (by have := d ps; omega)]
  rfl
section
variable {P : Program} {w : World} {K : PySem.W.Frag} {mg : Str → Option Value} {base : Heap}
/-! _law_worth -/
def gWorth (rs : List Sl) (o : Out) : Prop := ∃ (ps : List Pt) (x : Str), rs = [.dat (.list (dP ps)), .dat (.str x)] ∧ x ∈ wordsL ∧ okPts ps ∧ o = .ok (.dat (lawD x ps))
abbrev nWorth : List Str := ["_law_puts", "_law_rule", "_law_worths", "_law_rows", "_law_found", "_law_put", "_law_other"]
theorem scWorth : FnScope nWorth ["_law_puts", "_law_rule"] (defScope sWorth) := ⟨rfl, rfl, rfl, by decide +kernel, rfl, by decide +kernel, by decide +kernel⟩
theorem c_worth (B : Bl mg) (k : Gk mg) (d : Def K mg "_law_worth" sWorth ["_law_puts", "_law_rule"]) : Cal P w K mg base "_law_worth" 1 (DV.spS K gWorth) := by
  refine d.cal scWorth (fun rs o ⟨_, _, e, _⟩ => by rw [e]; rfl) ?_
  rintro rs o ⟨ps, x, rfl, hx, hok, rfl⟩ f cdv A outer sh H E M R D hr g qr qn qe
  have lp : (dP ps).length ≤ 100000 := by rw [List.length_map]; exact hok.1
  refine st_lc g (i := 2) (own := [("_law_put", 5)]) (gt := gName 5) (n := (dP ps).length) (it := itD (dP ps)) (ss := fun _ => ()) (outs := fun i => ((dP ps).take i).map wthD) rfl scWorth.nd rfl rfl (sw_true rfl rfl rfl (by decide)) (blkOk_by (N := nWorth) (sc := defScope sWorth) (by decide +kernel)) (fun sh Hh C cl fp => pg_name (i := 5) scWorth.nd rfl (Or.inl rfl))
    (i_list (v 0)) rfl (len_map wthD lp) (steps_map wthD (by simp) (fun d hd sh Hh C cl fp D acc gD => ?_)) ?_
  · obtain ⟨p, rfl, _⟩ := mem_dP hd
    exact e_ixT (ds := ptL p) (v 5) e_int rfl
  rw [List.take_length, wth_map]
  refine st_if (s1 := ()) (t_eqD (d1 := .str x) (d2 := .str "sum") hr.units (v 1) e_str (words_shp hx) (by decide +kernel)) (fun h => ?_) (fun h1 => st_thru ?_)
  · rw [eqv_strs] at h
    have ex := of_decide_eq_true h
    subst ex
    exact st_ret (e_sum rfl (by rfl) k.sum (a1 (v 2))) fun v H' R' sv => qr _ v H' rfl R' sv
  rw [eqv_strs] at h1
  have n1 := of_decide_eq_false h1
  refine st_if (s1 := ()) (t_eqD (d1 := .str x) (d2 := .str "most") hr.units (v 1) e_str (words_shp hx) (by decide +kernel)) (fun h => ?_) (fun h2 => st_thru ?_)
  · rw [eqv_strs] at h
    have ex := of_decide_eq_true h
    have el : lawD x ps = maxN (ps.map (·.worth)) := by
      unfold lawD
      rw [if_neg n1, if_pos ex]
    rw [el] at qr
    refine st_ret ?_ fun v H' R' sv => qr _ v H' rfl R' sv
    cases hw : ps.map (·.worth) with
    | nil => exact e_ifF (s1 := ()) (t_neD (d1 := .list (dI [])) (d2 := .list []) hr.units (v 2) (e_lst g (ds := []) a_nil (by simp)) rfl rfl) e_non
    | cons n ns => exact e_ifT (s1 := ()) (t_neD (d1 := .list (dI (n :: ns))) (d2 := .list []) hr.units (v 2) (e_lst g (ds := []) a_nil (by simp)) (shaped_lI _) rfl) (e_maxI rfl hr.units (by simp) (by rfl) B.max (a1 (v 2)))
  rw [eqv_strs] at h2
  have n2 := of_decide_eq_false h2
  refine st_if (s1 := ()) (t_eqD (d1 := .str x) (d2 := .str "last") hr.units (v 1) e_str (words_shp hx) (by decide +kernel)) (fun h => ?_) (fun h3 => st_thru ?_)
  · rw [eqv_strs] at h
    have ex := of_decide_eq_true h
    have el : lawD x ps = lawLast ps := by
      unfold lawD
      rw [if_neg n1, if_neg n2, if_pos ex]
    rw [el] at qr
    let fR : PyData → PyData := fun d => match d with
      | .tuple xs => .tuple [xs.getD 3 .none, xs.getD 0 .none, xs.getD 5 .none]
      | _ => .none
    have em : (dP ps).map fR = ps.map rowD := by
      show List.map fR (List.map ptD ps) = _
      rw [List.map_map]
      rfl
    refine st_set 3 (r := .dat (.list ((ps.mergeSort leRow).map rowD))) (s1 := ()) scWorth.nd rfl (Or.inl rfl) ?_ ?_
    · rw [← sort_rows]
      refine e_sortedD g hr.units (PySem.W.AllAlike.of fun p q => rfl) (PySem.W.Sortable.tuples fun p => ⟨_, _, rfl⟩) (fun d hd => ?_) (by rfl) k.sorted (a1 ?_)
      · obtain ⟨p, _, rfl⟩ := List.mem_map.mp hd
        show 1 ≤ 60
        decide
      · rw [← em]
        refine lc_map (own := [("_law_put", 5)]) g (i := 5) fR (i_list (v 0)) lp (fun d hd sh Hh C cl fp D acc gD => ?_) rfl scWorth.nd (blkOk_by (N := nWorth) (sc := defScope sWorth) (by decide +kernel)) (fun sh Hh C cl fp => pg_name (i := 5) scWorth.nd rfl (Or.inl rfl)) (by simp)
        obtain ⟨p, rfl, _⟩ := mem_dP hd
        exact e_tup gD (ds := [.int p.turn, .int p.site, .int p.worth]) (a_cons (e_ixT (ds := ptL p) (v 5) e_int rfl) (a_cons (e_ixT (ds := ptL p) (v 5) e_int rfl) (a_cons (e_ixT (ds := ptL p) (v 5) e_int rfl) a_nil))) (by simp)
    · refine st_ret ?_ fun v H' R' sv => qr _ v H' rfl R' sv
      have hsh := shaped_rows (ps.mergeSort leRow)
      unfold lawLast
      cases hl : (ps.mergeSort leRow).getLast? with
      | none =>
        have e0 := List.getLast?_eq_none_iff.mp hl
        rw [e0]
        exact e_ifF (s1 := ()) (t_neD (d1 := .list []) (d2 := .list []) hr.units (v 3) (e_lst g (ds := []) a_nil (by simp)) rfl rfl) e_non
      | some p =>
        obtain ⟨ys, hy⟩ := List.getLast?_eq_some_iff.mp hl
        rw [hy] at hsh ⊢
        have en : PyData.eqv (.list ((ys ++ [p]).map rowD)) (.list []) = false := by
          rw [eqv_empty]
          cases ys <;> rfl
        refine e_ifT (s1 := ()) (t_cast' (t_neD (d1 := .list ((ys ++ [p]).map rowD)) (d2 := .list []) hr.units (v 3) (e_lst g (ds := []) a_nil (by simp)) hsh rfl) (by rw [en]; rfl)) ?_
        refine e_ixT (ds := [.int p.turn, .int p.site, .int p.worth]) (e_ixL (ds := (ys ++ [p]).map rowD) (v 3) (e_neg e_int) ?_) e_int rfl
        rw [List.map_append]
        exact atI_last _ _
  rw [eqv_strs] at h3
  have n3 := of_decide_eq_false h3
  have el : lawD x ps = .list (dI (lawAll ps)) := by
    unfold lawD
    rw [if_neg n1, if_neg n2, if_neg n3]
  rw [el] at qr
  refine st_newL 4 (ds := []) scWorth.nd rfl (Or.inl rfl) (f_lst a_nil (by simp)) fun L => ?_
  have g1 := RL.rg (K := K) (L := L) g
  have I1 := RL.list (K := K) (L := L) g
  have lq : (dP (ps.mergeSort lePt)).length ≤ 100000 := by rw [List.length_map, List.length_mergeSort]; exact hok.1
  refine st_for g1 (fun i ρ' s' => s'.2 = dI ((((ps.mergeSort lePt).take i).filter (okOver ps)).map (·.worth)) ∧ ∃ r, ρ' = [.dat (.list (dP ps)), .dat (.str x), .dat (.list (dI (ps.map (·.worth)))), .any, .raw (.ref L), r, .any]) (passes_of rfl) rfl (pg_name (i := 5) scWorth.nd rfl (Or.inr rfl))
    (i_list (ds := dP (ps.mergeSort lePt)) (s1 := ((), [])) (by rw [← sort_pts]; exact e_sortedD g1 hr.units (alike_pts ps) (sortable_pts ps) (depthLe_pts ps) (by rfl) k.sorted (a1 (v 0)))) ⟨rfl, _, rfl⟩ (fun i ρi si H1 hi hJ gx => ?_) (fun ρ' s' hJ => ?_)
  · obtain ⟨hs, r, rfl⟩ := hJ
    have hi' : i < (ps.mergeSort lePt).length := by rw [List.length_map] at hi; exact hi
    have hq : (ps.mergeSort lePt)[i]? = some (ps.mergeSort lePt)[i] := List.getElem?_eq_getElem hi'
    have hd : (dP (ps.mergeSort lePt))[i]? = some (ptD (ps.mergeSort lePt)[i]) := by rw [List.getElem?_map, hq]; rfl
    have hp : (ps.mergeSort lePt)[i] ∈ ps := List.mem_mergeSort.mp (List.getElem_mem hi')
    refine ⟨_, tg0_name, fun N hN => ?_⟩
    rw [itD_lt hd]
    have htk := take_succ' hq
    generalize (ps.mergeSort lePt)[i] = p at hp htk ⊢
    let fQ : PyData → Bool := fun d => match d with
      | .tuple xs => match xs.getD 2 .none with
        | .tuple ys => match ys.getD p.site .none with
          | .int z => decide (p.num ≤ z)
          | _ => false
        | _ => false
      | _ => false
    have fQ_is : ∀ q ∈ ps, fQ (ptD q) = decide (p.num ≤ q.past.getD p.site 0) := fun q hq => by
      have hl := hok.2 p hp q hq
      show (match (dI q.past).getD p.site .none with | .int z => decide (p.num ≤ z) | _ => false) = _
      rw [List.getD_eq_getElem?_getD, List.getElem?_map, getD_ofI hl]
      rfl
    have em : ((dP ps).filter fQ).map id = dP (ps.filter fun q => decide (p.num ≤ q.past.getD p.site 0)) := by
      rw [List.map_id]
      show (List.map ptD ps).filter fQ = List.map ptD (ps.filter _)
      rw [List.filter_map]
      congr 1
      exact List.filter_congr fun q hq => fQ_is q hq
    refine st_if (k := okOver ps p) (s1 := si) (t_cast' (t_eqD (d1 := .list (dP (ps.filter fun q => decide (p.num ≤ q.past.getD p.site 0)))) (d2 := .list []) hr.units ?_ (e_lst gx (ds := []) a_nil (by simp)) (shaped_dP _) rfl) ?_) (fun h => ?_) (fun h => ?_)
    · rw [← em]
      refine lc_filter (own := [("_law_other", 6)]) gx (i := 6) fQ id (i_list (v 0)) lp (fun d hd sh Hh C cl fp D acc gD => ?_) (fun d hd hp sh Hh C cl fp D acc gD => v 6) rfl scWorth.nd (blkOk_by (N := nWorth) (sc := defScope sWorth) (by decide +kernel)) (fun sh Hh C cl fp => pg_name (i := 6) scWorth.nd rfl (Or.inl rfl)) (by simp)
      obtain ⟨q, rfl, hq⟩ := mem_dP hd
      rw [fQ_is q hq]
      exact t_geI (e_ixT (e_ixT (ds := ptL q) (v 6) e_int rfl) (e_ixT (ds := ptL p) (v 5) e_int rfl) (ix_dI (hok.2 p hp q hq))) (e_ixT (ds := ptL p) (v 5) e_int rfl)
    · rw [eqv_empty]
      unfold okOver
      cases ps.filter fun q => decide (p.num ≤ q.past.getD p.site 0) <;> rfl
    · refine st_app (I1.rx H1) (v 4) (e_ixT (ds := ptL p) (v 5) e_int rfl) ?_ (st_thru (st_nil fun σ H2 hσ hR => hN σ H2 _ _ ⟨?_, _, rfl⟩ hσ hR))
      · show si.2.length < 100000
        have h1 := List.length_filter_le (okOver ps) ((ps.mergeSort lePt).take i)
        rw [hs, List.length_map, List.length_map]
        rw [List.length_take] at h1
        rw [List.length_mergeSort] at hi'
        have := hok.1
        omega
      · show si.2 ++ [.int p.worth] = _
        rw [hs, htk, List.filter_append, List.filter_cons, if_pos h, List.map_append]
        show List.map _ _ ++ _ = List.map _ _
        rw [List.map_append]
        rfl
    · refine st_thru (st_nil fun σ H2 hσ hR => hN σ H2 _ _ ⟨?_, _, rfl⟩ hσ hR)
      rw [hs, htk, List.filter_append, List.filter_cons, if_neg (by rw [h]; exact Bool.false_ne_true), List.filter_nil, List.append_nil]
  · obtain ⟨hs, r, rfl⟩ := hJ
    obtain ⟨u, ds⟩ := s'
    have hs : ds = _ := hs
    subst hs
    refine st_ret (r := .raw (.ref L)) (s1 := _) (v 4) fun v H' R' sv => ?_
    have sv : v = .ref L := sv
    subst sv
    obtain ⟨R2, sv2⟩ := RL.dat g R'
    rw [List.length_map, List.take_length] at sv2
    exact qr _ _ H' rfl R2 sv2
end
end K04
namespace K04
open PySem PySem.Spec L2 Evl DV LamX NdefX
open PyProof.Rows hiding St cutD
/-! ### what holds of lists of puts -/
def Rs (p q : Pt) : Prop := p.site = q.site → p.turn < q.turn ∧ p.num < q.num
theorem pw_or {α : Type} {R : α → α → Prop} : ∀ {l : List α}, l.Pairwise R → ∀ {p q : α}, p ∈ l → q ∈ l → p = q ∨ R p q ∨ R q p
  | [], _, _, _, hp, _ => by cases hp
  | x :: l, h, p, q, hp, hq => by
    obtain ⟨h1, h2⟩ := List.pairwise_cons.mp h
    rcases List.mem_cons.mp hp with z | z <;> rcases List.mem_cons.mp hq with y | y
    · exact .inl (z.trans y.symm)
    · rw [z]; exact .inr (.inl (h1 _ y))
    · rw [y]; exact .inr (.inr (h1 _ z))
    · exact pw_or h2 z y
theorem uq_turn {l : List Pt} (h : l.Pairwise Rs) {p q : Pt} (hp : p ∈ l) (hq : q ∈ l) (e1 : p.turn = q.turn) (e2 : p.site = q.site) : p = q := by
  rcases pw_or h hp hq with z | z | z
  · exact z
  · have := z e2; omega
  · have := z e2.symm; omega
theorem uq_num {l : List Pt} (h : l.Pairwise Rs) {p q : Pt} (hp : p ∈ l) (hq : q ∈ l) (e1 : p.num = q.num) (e2 : p.site = q.site) : p = q := by
  rcases pw_or h hp hq with z | z | z
  · exact z
  · have := z e2; omega
  · have := z e2.symm; omega
/-! sums and greatest of a permutation -/
theorem sum_perm {a b : List Int} (h : a.Perm b) : a.sum = b.sum := by
  induction h with
  | nil => rfl
  | cons x _ ih => rw [List.sum_cons, List.sum_cons, ih]
  | swap x y l => rw [List.sum_cons, List.sum_cons, List.sum_cons, List.sum_cons]; omega
  | trans _ _ i1 i2 => exact i1.trans i2
theorem foldl_max : ∀ (l : List Int) (a : Int), (a ≤ l.foldl max a ∧ ∀ x ∈ l, x ≤ l.foldl max a) ∧ (l.foldl max a = a ∨ l.foldl max a ∈ l)
  | [], a => ⟨⟨Int.le_refl _, fun x hx => by cases hx⟩, .inl rfl⟩
  | y :: l, a => by
    obtain ⟨⟨h1, h2⟩, h3⟩ := foldl_max l (max a y)
    rw [List.foldl_cons]
    refine ⟨⟨by omega, fun x hx => ?_⟩, ?_⟩
    · rcases List.mem_cons.mp hx with z | z
      · rw [z]; omega
      · exact h2 x z
    · rcases h3 with z | z
      · rw [z]
        by_cases q : a ≤ y
        · exact .inr (by rw [show max a y = y by omega]; exact List.mem_cons_self)
        · exact .inl (by omega)
      · exact .inr (List.mem_cons_of_mem _ z)
theorem maxI_is {l : List Int} (h : l ≠ []) : maxI l ∈ l ∧ ∀ x ∈ l, x ≤ maxI l := by
  cases l with
  | nil => exact absurd rfl h
  | cons y l =>
    obtain ⟨⟨h1, h2⟩, h3⟩ := foldl_max l y
    refine ⟨?_, fun x hx => ?_⟩
    · rcases h3 with z | z
      · show l.foldl max y ∈ _
        rw [z]
        exact List.mem_cons_self
      · exact List.mem_cons_of_mem _ z
    · rcases List.mem_cons.mp hx with z | z
      · rw [z]; exact h1
      · exact h2 x z
theorem maxN_perm {a b : List Int} (h : a.Perm b) : maxN a = maxN b := by
  cases a with
  | nil => rw [List.nil_perm.mp h]
  | cons x a =>
    cases b with
    | nil => exact absurd h (by intro z; have := z.length_eq; simp at this)
    | cons y b =>
      have h1 := maxI_is (l := x :: a) (by simp)
      have h2 := maxI_is (l := y :: b) (by simp)
      have e1 := h2.2 _ (h.mem_iff.mp h1.1)
      have e2 := h1.2 _ (h.mem_iff.mpr h2.1)
      show PyData.int _ = PyData.int _
      rw [show maxI (x :: a) = maxI (y :: b) by omega]
/-! orders -/
theorem lt_head (x y : Int) (xs ys : List PyData) : PySem.W.dataLt (.tuple (.int x :: xs)) (.tuple (.int y :: ys)) = if x = y then PySem.W.dataLt (.tuple xs) (.tuple ys) else decide (x < y) := by
  rw [PySem.W.dataLt_tuple, PySem.W.dataLt_cons (by simp [PySem.W.alike]), PySem.W.dataLt_tuple, PySem.W.dataLt_int]
  by_cases h : x = y
  · rw [if_pos h, if_pos (by rw [h]; show (y == y) = true; simp)]
  · rw [if_neg h, if_neg (by show ¬ (x == y) = true; simpa using h)]
def bySite (p q : Pt) : Prop := p.site < q.site ∨ (p.site = q.site ∧ p.num ≤ q.num)
def byTurn (p q : Pt) : Prop := p.turn < q.turn ∨ (p.turn = q.turn ∧ p.site ≤ q.site)
theorem lePt_le {p q : Pt} (h : lePt p q = true) : bySite p q := by
  have h : (!PySem.W.dataLt (ptD q) (ptD p)) = true := h
  rw [Bool.not_eq_true'] at h
  unfold ptD ptL at h
  rw [lt_head] at h
  unfold bySite
  split at h
  · rename_i e
    rw [lt_head] at h
    split at h
    · omega
    · have := of_decide_eq_false h
      omega
  · have := of_decide_eq_false h
    omega
theorem leRow_le {p q : Pt} (h : leRow p q = true) : byTurn p q := by
  have h : (!PySem.W.dataLt (rowD q) (rowD p)) = true := h
  rw [Bool.not_eq_true'] at h
  unfold rowD at h
  rw [lt_head] at h
  unfold byTurn
  split at h
  · rename_i e
    rw [lt_head] at h
    split at h
    · omega
    · have := of_decide_eq_false h
      omega
  · have := of_decide_eq_false h
    omega
theorem leP_le {p q : Pt} (h : leP p q = true) : bySite p q := by
  have h : (!PySem.W.dataLt (.tuple [.int q.site, .int q.num]) (.tuple [.int p.site, .int p.num])) = true := h
  rw [Bool.not_eq_true', PySem.W.dataLt_ii] at h
  have := of_decide_eq_false h
  unfold bySite
  omega
theorem tot_pt : PySem.W.TotalLe lePt := ⟨fun a b c => (PySem.W.sortLe_total (listOrd itemOrd) false fun b => PySem.W.keyToks (ptD b)).trans a b c, fun a b => (PySem.W.sortLe_total (listOrd itemOrd) false fun b => PySem.W.keyToks (ptD b)).total a b⟩
theorem tot_row : PySem.W.TotalLe leRow := ⟨fun a b c => (PySem.W.sortLe_total (listOrd itemOrd) false fun b => PySem.W.keyToks (rowD b)).trans a b c, fun a b => (PySem.W.sortLe_total (listOrd itemOrd) false fun b => PySem.W.keyToks (rowD b)).total a b⟩
theorem tot_P : PySem.W.TotalLe leP := ⟨fun a b c => (PySem.W.sortLe_total (listOrd itemOrd) false fun b => PySem.W.keyToks (keyD 0 1 (ptD b))).trans a b c, fun a b => (PySem.W.sortLe_total (listOrd itemOrd) false fun b => PySem.W.keyToks (keyD 0 1 (ptD b))).total a b⟩
/-! the last -/
theorem argBest_is (T S : Nat → Int) (bt : Nat → Nat → Bool) (N : Nat) (hb : ∀ m n, m ≤ N → n ≤ N → bt m n = decide (T n < T m ∨ (T n = T m ∧ S n < S m))) : ∀ n, n ≤ N → ∀ j, j ≤ n → ¬ (T (argBest bt n) < T j ∨ (T (argBest bt n) = T j ∧ S (argBest bt n) < S j))
  | 0, _, j, hj => by
    have : j = 0 := by omega
    subst this
    show ¬ (T 0 < T 0 ∨ (T 0 = T 0 ∧ S 0 < S 0))
    omega
  | n + 1, hn, j, hj => by
    have ih := argBest_is T S bt N hb n (by omega)
    have hl := argBest_le bt n
    have e := hb (n + 1) (argBest bt n) hn (by omega)
    show ¬ (T (if bt (n + 1) (argBest bt n) then n + 1 else argBest bt n) < T j ∨ (T (if bt (n + 1) (argBest bt n) then n + 1 else argBest bt n) = T j ∧ S (if bt (n + 1) (argBest bt n) then n + 1 else argBest bt n) < S j))
    cases hx : bt (n + 1) (argBest bt n) with
    | true =>
      rw [hx] at e
      have e := of_decide_eq_true e.symm
      rw [if_pos rfl]
      by_cases z : j = n + 1
      · rw [z]; omega
      · have := ih j (by omega)
        omega
    | false =>
      rw [hx] at e
      have e := of_decide_eq_false e.symm
      rw [if_neg Bool.false_ne_true]
      by_cases z : j = n + 1
      · rw [z]; exact e
      · exact ih j (by omega)
theorem best_is {ps : List Pt} (h : ps ≠ []) : ∃ p ∈ ps, bestD 3 0 (dP ps) = ptD p ∧ ∀ q ∈ ps, byTurn q p := by
  have hl : 0 < ps.length := List.length_pos_iff.mpr h
  let d0 : Pt := ⟨0, 0, [], 0, 0, 0⟩
  have hg : ∀ n, n ≤ (dP ps).length - 1 → (dP ps).getD n .none = ptD (ps.getD n d0) := fun n hn => by
    have e : (dP ps).length = ps.length := List.length_map _
    have hn : n < ps.length := by omega
    rw [List.getD_eq_getElem?_getD, List.getElem?_map, List.getElem?_eq_getElem hn, List.getD_eq_getElem?_getD, List.getElem?_eq_getElem hn]
    rfl
  have hb : ∀ m n, m ≤ (dP ps).length - 1 → n ≤ (dP ps).length - 1 → PySem.W.dataLt (keyD 3 0 ((dP ps).getD n .none)) (keyD 3 0 ((dP ps).getD m .none)) = decide ((ps.getD n d0).turn < (ps.getD m d0).turn ∨ ((ps.getD n d0).turn = (ps.getD m d0).turn ∧ ((ps.getD n d0).site : Int) < ((ps.getD m d0).site : Int))) := fun m n hm hn => by
    rw [hg m hm, hg n hn]
    exact PySem.W.dataLt_ii _ _ _ _
  have hmax := argBest_is (fun n => (ps.getD n d0).turn) (fun n => ((ps.getD n d0).site : Int)) (fun m n => PySem.W.dataLt (keyD 3 0 ((dP ps).getD n .none)) (keyD 3 0 ((dP ps).getD m .none))) _ hb _ (Nat.le_refl _)
  have e : (dP ps).length = ps.length := List.length_map _
  have hk := argBest_le (fun m n => PySem.W.dataLt (keyD 3 0 ((dP ps).getD n .none)) (keyD 3 0 ((dP ps).getD m .none))) ((dP ps).length - 1)
  have hB : bestI 3 0 (dP ps) ≤ (dP ps).length - 1 := hk
  have hlt : bestI 3 0 (dP ps) < ps.length := by omega
  have em : ∀ n (hn : n < ps.length), ps.getD n d0 = ps[n] := fun n hn => by rw [List.getD_eq_getElem?_getD, List.getElem?_eq_getElem hn]; rfl
  refine ⟨ps.getD (bestI 3 0 (dP ps)) d0, by rw [em _ hlt]; exact List.getElem_mem _, hg _ hB, fun q hq => ?_⟩
  obtain ⟨j, hj, rfl⟩ := List.getElem_of_mem hq
  have := hmax j (by omega)
  have this : ¬ ((ps.getD (bestI 3 0 (dP ps)) d0).turn < (ps.getD j d0).turn ∨ ((ps.getD (bestI 3 0 (dP ps)) d0).turn = (ps.getD j d0).turn ∧ ((ps.getD (bestI 3 0 (dP ps)) d0).site : Int) < ((ps.getD j d0).site : Int))) := this
  rw [em j hj] at this
  unfold byTurn
  omega
theorem last_eq {l ms : List Pt} (hp : ms.Perm l) (hR : l.Pairwise Rs) : lastW ms = lawLast l := by
  by_cases hm : ms = []
  · subst hm
    have : l = [] := List.nil_perm.mp hp
    subst this
    have e : lawLast [] = .none := by
      unfold lawLast
      rw [List.mergeSort_nil]
      rfl
    rw [e]
    exact if_pos rfl
  · have hl : l ≠ [] := fun z => hm (by rw [z] at hp; exact List.perm_nil.mp hp)
    obtain ⟨p, hpm, e, hmax⟩ := best_is hm
    have e1 : lastW ms = .int p.worth := by
      unfold lastW
      rw [if_neg hm, e]
      rfl
    have hs := PySem.W.sort_pairwise tot_row l
    have hperm := List.mergeSort_perm l leRow
    have hne : l.mergeSort leRow ≠ [] := fun z => hl (by rw [z] at hperm; exact List.nil_perm.mp hperm)
    obtain ⟨q, hq⟩ : ∃ q, (l.mergeSort leRow).getLast? = some q := ⟨_, List.getLast?_eq_some_getLast hne⟩
    have e2 : lawLast l = .int q.worth := by
      unfold lawLast
      rw [hq]
    obtain ⟨ys, hy⟩ := List.getLast?_eq_some_iff.mp hq
    rw [hy] at hs hperm
    have hql : q ∈ l := hperm.mem_iff.mp (List.mem_append_right _ (List.mem_singleton.mpr rfl))
    have hpl := hp.mem_iff.mp hpm
    have h1 := hmax q (hp.mem_iff.mpr hql)
    have h2 : byTurn p q ∨ p = q := by
      rcases List.mem_append.mp (hperm.mem_iff.mpr hpl) with z | z
      · exact .inl (leRow_le ((List.pairwise_append.mp hs).2.2 p z q (List.mem_singleton.mpr rfl)))
      · exact .inr (List.mem_singleton.mp z)
    have epq : p = q := by
      rcases h2 with h2 | h2
      · unfold byTurn at h1 h2
        exact uq_turn hR hpl hql (by omega) (by omega)
      · exact h2
    rw [e1, e2, epq]
/-! all -/
theorem ok_over {l ms : List Pt} (hp : ms.Perm l) (hown : ∀ p ∈ l, p.past.getD p.site 0 < p.num) {p : Pt} (hpl : p ∈ l) : (!folB p ms) = okOver l p := by
  rw [Bool.eq_iff_iff]
  unfold okOver folB
  rw [Bool.not_eq_true', List.isEmpty_iff, List.filter_eq_nil_iff, List.any_eq_false]
  constructor
  · intro h q hq hd
    by_cases z : q = p
    · rw [z] at hd
      have := of_decide_eq_true hd
      have := hown p hpl
      omega
    · refine h q (hp.mem_iff.mpr hq) ?_
      rw [decide_eq_false z]
      exact hd
  · intro h q hq hd
    rw [Bool.and_eq_true] at hd
    exact h q (hp.mem_iff.mp hq) hd.2
theorem all_eq {l ms : List Pt} (hp : ms.Perm l) (hR : l.Pairwise Rs) (hown : ∀ p ∈ l, p.past.getD p.site 0 < p.num) : allW ms = lawAll l := by
  unfold allW lawAll
  have ha : endsP ms = ms.filter (okOver l) := List.filter_congr fun p hpm => ok_over hp hown (hp.mem_iff.mp hpm)
  have h1 : ((endsP ms).mergeSort leP).Perm (l.filter (okOver l)) := by
    rw [ha]
    exact (List.mergeSort_perm _ _).trans (hp.filter _)
  have h2 : ((l.mergeSort lePt).filter (okOver l)).Perm (l.filter (okOver l)) := (List.mergeSort_perm _ _).filter _
  have e : (endsP ms).mergeSort leP = (l.mergeSort lePt).filter (okOver l) := by
    refine List.Perm.eq_of_pairwise (le := bySite) (fun a b h3 h4 h5 h6 => ?_) ((PySem.W.sort_pairwise tot_P _).imp fun h => leP_le h) (((PySem.W.sort_pairwise tot_pt _).imp fun h => lePt_le h).filter _) (h1.trans h2.symm)
    have a1 := (List.mem_filter.mp (h1.mem_iff.mp h3)).1
    have a2 := (List.mem_filter.mp (h2.mem_iff.mp h4)).1
    unfold bySite at h5 h6
    exact uq_num hR a1 a2 (by omega) (by omega)
  rw [e]
theorem ok_allI : ∀ ns : List Int, okAll (dI ns) = true
  | [] => rfl
  | n :: ns => by
    show (true && okAll (dI ns)) = true
    rw [ok_allI ns]
    rfl
/-- what is told of a key is small -/
def SmallD (d : PyData) : Prop := okD d = true ∧ d.depth ≤ 1
theorem law_small {ps : List Pt} (hl : ps.length ≤ 1000) (x : Str) : SmallD (lawD x ps) := by
  unfold lawD
  split
  · exact ⟨rfl, Nat.zero_le _⟩
  · split
    · cases ps.map (·.worth) <;> exact ⟨rfl, Nat.zero_le _⟩
    · split
      · unfold lawLast
        split <;> exact ⟨rfl, Nat.zero_le _⟩
      · have hz : (lawAll ps).length ≤ 1000 := by
          unfold lawAll
          rw [List.length_map]
          refine Nat.le_trans (List.length_filter_le _ _) ?_
          rw [(List.mergeSort_perm _ _).length_eq]
          exact hl
        have hz' : (dI (lawAll ps)).length ≤ 1000 := by
          rw [List.length_map]
          exact hz
        refine ⟨?_, ?_⟩
        · show (decide ((dI (lawAll ps)).length ≤ 1000) && okAll (dI (lawAll ps))) = true
          rw [ok_allI, decide_eq_true hz']
          rfl
        · show PyData.depthAll (dI (lawAll ps)) + 1 ≤ 1
          rw [show dI (lawAll ps) = (lawAll ps).map PyData.int from rfl, PySem.W.depth_ints]
          exact Nat.le_refl _
theorem held_law {l ms : List Pt} (hp : ms.Perm l) (hR : l.Pairwise Rs) (hown : ∀ p ∈ l, p.past.getD p.site 0 < p.num) (x : Str) : heldD x ms = lawD x l := by
  unfold heldD lawD
  rw [sum_perm (hp.map (·.worth)), maxN_perm (hp.map (·.worth)), last_eq hp hR, all_eq hp hR hown]
end K04
namespace DV
open PySem PySem.Spec L2 Evl LamX NdefX
open PyProof.Rows hiding St cutD
/-! ### the box alone -/
def RB (b l : Addr) : Bx → Hp → Prop := fun st H => BoxAt b l st H
theorem RB.rg {b l : Addr} : Rg [b, l] (RB b l) :=
  ⟨fun h e => BoxAt.ex h e, fun h m => by
    rcases List.mem_cons.mp m with z | m
    · rw [z]; exact ⟨_, h.1⟩
    · rw [List.mem_singleton.mp m]; exact ⟨_, h.2⟩⟩
theorem RB.box {b l : Addr} : BoxIn [b, l] (RB b l) b l id (fun _ t => t) := ⟨List.mem_cons_self, List.mem_cons_of_mem _ List.mem_cons_self, fun h => h, fun _ _ bx => bx⟩
theorem RB.frame {b l : Addr} : FrameG [b, l] (RB b l) (fun _ => True) := fun st H1 H p xs ys _ r1 n r e nm hp => by
  simp only [List.mem_cons, List.not_mem_nil, or_false, not_or] at nm
  exact ⟨by rw [upd_ne (Ne.symm nm.1)]; exact r.1, by rw [upd_ne (Ne.symm nm.2)]; exact r.2⟩
/-! ### a site and a new list -/
theorem SiteIn.rl {T : Type} {K : PySem.W.Frag} {C : Addr} {M : List Addr} {R : T → Hp → Prop} {ad : Ad} {get : T → SD} {put : T → SD → T} (h : SiteIn K C M R ad get put) (L : Addr) : SiteIn K C (L :: M) (RL K M R L) ad (fun s => get s.1) (fun s S => (put s.1 S, s.2)) := by
  have nD : ∀ {s H}, RL K M R L s H → ∀ a ∈ ad.m, a ≠ L := fun {s H} q a m z => by
    obtain ⟨o, ho⟩ := (h.at_ q.1).dom m
    rw [z, rem_self] at ho
    cases ho
  refine ⟨fun a m => List.mem_cons_of_mem _ (h.sub a m), fun {s H} q => (h.at_ q.1).to (fun a m o e => (rem_some e).2) (by rw [cut_rem]; exact exId _), fun {s H H' S'} q e st => ?_⟩
  have nm : L ∉ ad.m := fun m => nD q L m rfl
  obtain ⟨q1, xs, q2, q3⟩ := q
  refine ⟨h.to q1 (fun a o ha => ?_) (st.to (fun a m o e => by rw [rem_ne (nD ⟨q1, xs, q2, q3⟩ a m)]; exact e) (by rw [cut_rem]; exact exId _)), xs, ?_, dpa_ex (ex_sub (fun a m => List.mem_cons_of_mem _ (h.sub a m)) e) _ _ q3⟩
  · obtain ⟨n, ha⟩ := cut_some ha
    obtain ⟨z, ha⟩ := rem_some ha
    have := e a o (by rw [cut_out n]; exact ha)
    rw [cut_out n] at this ⊢
    rw [rem_ne z]
    exact this
  · have := e L _ (by rw [cut_out nm]; exact q2)
    rw [cut_out nm] at this
    exact this
theorem FrameG.rl {T : Type} {K : PySem.W.Frag} {M : List Addr} {R : T → Hp → Prop} {G : T → Prop} (h : FrameG M R G) (L : Addr) : FrameG (L :: M) (RL K M R L) (fun s => G s.1 ∧ noLs s.2 = true) := by
  rintro ⟨st, ds⟩ H1 H p xs ys ⟨hg, hn⟩ ⟨r1, zs1, l1, d1⟩ n ⟨r, zs, l, d⟩ e nm hp
  have hn : noLs ds = true := hn
  have nL : p ≠ L := fun z => nm (by rw [z]; exact List.mem_cons_self)
  have nM : p ∉ M := fun m => nm (List.mem_cons_of_mem _ m)
  have er : rem L (upd H p (.lst ys)) = upd (rem L H) p (.lst ys) := by
    funext a
    by_cases z : a = L
    · rw [z, rem_self, upd_ne (Ne.symm nL), rem_self]
    · by_cases y : a = p
      · rw [y, rem_ne nL, upd_same, upd_same]
      · rw [rem_ne z, upd_ne y, upd_ne y, rem_ne z]
  refine ⟨?_, zs, by rw [upd_ne (Ne.symm nL)]; exact l, ?_⟩
  · show R st (rem L (upd H p (.lst ys)))
    rw [er]
    exact h st (rem L H1) (rem L H) p xs ys hg r1 (by rw [rem_ne nL]; exact n) r (by rw [cut_rem, cut_rem]; exact e) nM (by rw [rem_ne nL]; exact hp)
  · have key : ∀ a u, a ∉ L :: M → H a = some u → (∃ xs, u = .tup xs) ∨ (∃ o xs, u = .frz o (.tup xs)) → a ∉ p :: L :: M := fun a u na ha hu m => by
      rcases List.mem_cons.mp m with z | m
      · rw [z, hp] at ha
        cases ha
        rcases hu with ⟨_, hu⟩ | ⟨_, _, hu⟩ <;> cases hu
      · exact na m
    refine dpa_ex (fun a o ha => ?_) _ _ (dva_noL key _ _ d hn)
    obtain ⟨n, ha⟩ := cut_some ha
    rw [cut_out fun z => n (List.mem_cons_of_mem _ z), upd_ne (fun z : a = p => n (by rw [z]; exact List.mem_cons_self))]
    exact ha
/-! ### a call whose second argument reads a list that changes -/
section
variable {S : Type} {X : Cx} {M : List Addr} {R : S → Hp → Prop} {ρ : List Sl} {s s1 s2 : S} {x : Str} {e e' : Expr} {px pos : Pos} {j k : Nat} {L : Addr}
theorem e_callZ (g : Rg M R) {G : List Sl → Out → Prop} {d1 d2 d : PyData} {ds : List PyData} (c : Cal X.prog X.w X.K X.mg X.base x k (DV.spS X.K G)) (hr : Room j X.A) (hk : k ≤ j) (hg : Gl X x) (hG : G [.dat d1, .dat d2] (.ok (.dat d))) (hb : bareD d = true) (h1 : Ev1 X M R ρ e s (.dat d1) s1)
    (hl : ∀ H, R s1 H → ∃ xs, H L = some (.lst xs) ∧ DvAll X.K (cut M H) xs ds) (h2 : ∀ xs, Ev1 X (rmA L M) (RZ X.K M R L xs ds) ρ e' s1 (.dat d2) s2) (hdb : (x == ("__debug__" : Str)) = false := by decide)
    (he : starEach [e, e'] X.env = (false, eval e X.env) :: starEach [e'] X.env := by rfl) (he2 : starEach [e'] X.env = (false, eval e' X.env) :: starEach [] X.env := by rfl) (hpl : (backTo pos (starEach [e'] X.env)).any (·.1) = false := by rfl) : Ev1 X M R ρ (.Call (.Name x px) [e, e'] [] pos) s (.dat d) s2 := by
  intro σ H Q hσ hR q
  obtain ⟨f, fd, ps, F, hm, hkp, hb2⟩ := c.ex
  refine wE_of (pe_call F (hr.mono hk) hg hm hkp hb2 .nil passL (pa_cons pe_w (pa_cons pe_w pa_nil he2) he) hdb he hpl) ?_
  refine h1 σ H _ hσ hR fun v1 H1 e1 R1 dv1 => ?_
  obtain ⟨xs, hx, hd⟩ := hl H1 R1
  refine h2 xs σ H1 _ ((hσ.ex e1).ex cut_rmA) ⟨R1, hx, dpa_ex cut_rmA _ _ hd⟩ fun v2 H2 e2 R2 dv2 => ?_
  have gz : Rg (rmA L M) (RZ X.K M R L xs ds) := RZ.rg g
  have back : ∀ {Ha Hb : Hp}, Ex (cut (rmA L M) Ha) (cut (rmA L M) Hb) → Ex (cut M Ha) (cut M Hb) := fun {Ha Hb} e a o ha => by
    obtain ⟨n, ha⟩ := cut_some ha
    have := e a o (by rw [cut_out fun z => n (mem_rmA.mp z).1]; exact ha)
    rw [cut_out n]
    exact (cut_some this).2
  have d1' : Dv X.K (cut (rmA L M) H2) v1 d1 := dp_ex e2 _ _ (dp_ex cut_rmA _ _ dv1)
  refine ⟨rmA L M, [.dat d1, .dat d2], .ok (.dat d), fun a m => gz.dom R2 m, ⟨d1', dv2, trivial⟩, hG, fun v H3 e3 sv => ?_⟩
  refine q v H3 (e1.trans (back (e2.trans (exCut e3)))) (gz.up R2 e3).1 ?_
  cases d with
  | none => rw [sv_non sv]; exact .non
  | bool b => rw [sv_bl sv]; exact .bl b
  | int i => rw [sv_int sv]; exact .int i
  | str z => rw [sv_str sv]; exact .str z
  | tuple _ => cases hb
  | list _ => cases hb
  | dict _ => cases hb
end
end DV
namespace K04
open PySem PySem.Spec L2 Evl DV LamX NdefX
open PyProof.Rows hiding St cutD
/-! ### the puts of one site -/
def single (m me : Nat) (n : Int) : List Int := (List.range m).map fun k => if k = me then n else 0
theorem single_len (m me : Nat) (n : Int) : (single m me n).length = m := by unfold single; rw [List.length_map, List.length_range]
theorem single_get {m me k : Nat} {n : Int} (h : k < m) : (single m me n).getD k 0 = if k = me then n else 0 := by
  unfold single
  rw [List.getD_eq_getElem?_getD, List.getElem?_map, List.getElem?_range h]
  rfl
theorem single_out {m me k : Nat} {n : Int} (h : m ≤ k) : (single m me n).getD k 0 = 0 := by
  rw [List.getD_eq_getElem?_getD, List.getElem?_eq_none (by rw [single_len]; exact h)]
  rfl
theorem single_le {m me : Nat} {a b : Int} (h : a ≤ b) (j : Nat) : (single m me a).getD j 0 ≤ (single m me b).getD j 0 := by
  by_cases z : j < m
  · rw [single_get z, single_get z]
    split
    · exact h
    · exact Int.le_refl _
  · rw [single_out (by omega), single_out (by omega)]
    exact Int.le_refl _
theorem single_set {m me : Nat} {n k : Int} (h : me < m) : (single m me n).set me k = single m me k := by
  apply List.ext_getElem?
  intro j
  by_cases z : j < m
  · unfold single
    rw [List.getElem?_map, List.getElem?_range z]
    by_cases y : me = j
    · subst y
      rw [List.getElem?_set_self (by rw [List.length_map, List.length_range]; exact h)]
      simp
    · rw [List.getElem?_set_ne y, List.getElem?_map, List.getElem?_range z]
      simp [Ne.symm y]
  · rw [List.getElem?_eq_none (by rw [List.length_set, single_len]; omega), List.getElem?_eq_none (by rw [single_len]; omega)]
theorem single_tok {m me : Nat} {n : Int} (h2 : 2 ≤ m) (h5 : m ≤ 5) (h0 : 0 ≤ n) (h9 : n ≤ 999) : tokD (.tuple (dI (single m me n))) = true := by
  show ((decide (2 ≤ ((dI (single m me n)).length : Int)) && decide (((dI (single m me n)).length : Int) ≤ 5)) && (dI (single m me n)).all fun d => wholeD d 0 999) = true
  rw [List.length_map, single_len, decide_eq_true (by omega), decide_eq_true (by omega), Bool.true_and, Bool.true_and, List.all_eq_true]
  intro d hd
  obtain ⟨i, rfl, hi⟩ := mem_dI hd
  obtain ⟨k, _, rfl⟩ := List.mem_map.mp hi
  show (decide ((0 : Int) ≤ _) && decide (_ ≤ (999 : Int))) = true
  split
  · rw [decide_eq_true h0, decide_eq_true h9]; rfl
  · rfl
def nthP (m me i : Nat) (key worth : Int) : Pt := ⟨me, (i : Int) + 1, single m me i, (i : Int) + 1, key, worth⟩
def Ch (m me : Nat) (ps : List Pt) : Prop := ∀ i p, ps[i]? = some p → ∃ key worth, p = nthP m me i key worth
theorem ch_nil (m me : Nat) : Ch m me [] := fun i p h => by simp at h
theorem ch_app {m me : Nat} {ps : List Pt} (h : Ch m me ps) (key worth : Int) : Ch m me (ps ++ [nthP m me ps.length key worth]) := fun i p hp => by
  by_cases z : i < ps.length
  · rw [List.getElem?_append_left z] at hp
    exact h i p hp
  · rw [List.getElem?_append_right (by omega)] at hp
    by_cases y : i = ps.length
    · subst y
      rw [Nat.sub_self] at hp
      have hp : some _ = some p := hp
      cases hp
      exact ⟨_, _, rfl⟩
    · rw [List.getElem?_eq_none (by simp; omega)] at hp
      cases hp
theorem ch_mem {m me : Nat} {ps : List Pt} (h : Ch m me ps) {p : Pt} (hp : p ∈ ps) : ∃ (i : Nat) (key worth : Int), i < ps.length ∧ p = nthP m me i key worth := by
  obtain ⟨i, hi⟩ := List.mem_iff_getElem?.mp hp
  obtain ⟨key, worth, e⟩ := h i p hi
  obtain ⟨b, _⟩ := List.getElem?_eq_some_iff.mp hi
  exact ⟨i, key, worth, b, e⟩
theorem ch_ok {m me : Nat} {ps : List Pt} (h : Ch m me ps) (hm : me < m) (hl : ps.length ≤ 100000) : okPts ps := ⟨hl, fun p hp q hq => by
  obtain ⟨i, k1, w1, _, rfl⟩ := ch_mem h hp
  obtain ⟨j, k2, w2, _, rfl⟩ := ch_mem h hq
  show me < (single m me j).length
  rw [single_len]
  exact hm⟩
theorem ch_pw {m me : Nat} {ps : List Pt} (h : Ch m me ps) : ps.Pairwise Rs := List.pairwise_iff_getElem.mpr fun i j hi hj hij => by
  obtain ⟨k1, w1, e1⟩ := h i _ (List.getElem?_eq_getElem hi)
  obtain ⟨k2, w2, e2⟩ := h j _ (List.getElem?_eq_getElem hj)
  rw [e1, e2]
  intro _
  show (i : Int) + 1 < (j : Int) + 1 ∧ (i : Int) + 1 < (j : Int) + 1
  omega
theorem ch_own {m me : Nat} {ps : List Pt} (h : Ch m me ps) (hm : me < m) : ∀ p ∈ ps, p.past.getD p.site 0 < p.num := fun p hp => by
  obtain ⟨i, k1, w1, _, rfl⟩ := ch_mem h hp
  show (single m me i).getD me 0 < (i : Int) + 1
  rw [single_get hm, if_pos rfl]
  omega
theorem ch_held {m me : Nat} {ps : List Pt} (h : Ch m me ps) (hm : me < m) (x : Str) (key : Int) : heldD x (ofKey ps key) = lawD x (ofKey ps key) :=
  held_law (List.Perm.refl _) ((ch_pw h).filter _) (fun p hp => ch_own h hm p (List.mem_filter.mp hp).1) x
theorem ch_kept {m me : Nat} {ps : List Pt} {kt : KT} (h : Ch m me ps) (hk : kt ≠ []) (hz : ∀ q ∈ kt, ∀ j, q.2.getD j 0 = 0) : keptP kt ps = ps := by
  unfold keptP
  rw [List.filter_eq_self]
  intro p hp
  obtain ⟨i, k1, w1, _, rfl⟩ := ch_mem h hp
  refine decide_eq_true ?_
  have e : ∀ j, hadA kt j = 0 := fun j => by
    unfold hadA
    have hall : ∀ x ∈ kt.map (fun q => q.2.getD j 0), x = 0 := fun x hx => by
      obtain ⟨q, hq, rfl⟩ := List.mem_map.mp hx
      exact hz q hq j
    have hne : kt.map (fun q => q.2.getD j 0) ≠ [] := fun z => hk (List.map_eq_nil_iff.mp z)
    generalize kt.map (fun q => q.2.getD j 0) = l at hall hne
    cases l with
    | nil => exact absurd rfl hne
    | cons a t =>
      have ha := hall a List.mem_cons_self
      subst ha
      show t.foldl min 0 = 0
      have : ∀ (t : List Int), (∀ x ∈ t, x = 0) → t.foldl min 0 = 0 := fun t => by
        induction t with
        | nil => intro _; rfl
        | cons y t ih =>
          intro hy
          rw [List.foldl_cons, hy y List.mem_cons_self]
          exact ih fun x hx => hy x (List.mem_cons_of_mem _ hx)
      exact this t fun x hx => hall x (List.mem_cons_of_mem _ hx)
  rw [e]
  show (0 : Int) < (i : Int) + 1
  omega
/-! what the site is like -/
structure Sok (m me : Nat) (ws : List Str) (ps : List Pt) (t : Int) (S : SD) : Prop where
  num : S.num = me
  many : S.many = m
  rules : S.rules = ws
  now : okNow S.now
  le : S.now ≤ t
  log : S.log = dP ps
  app : S.app = single m me ps.length
  turn : S.turn = ps.length
  waits : S.waits = []
  known : S.known = knownD me m m
  heard : S.heard = []
theorem sok_0 {m me : Nat} {ws : List Str} {t : Int} (h0 : 0 ≤ t) : Sok m me ws [] t (S0 me m ws) := ⟨rfl, rfl, rfl, ⟨Int.le_refl _, (by decide : (0 : Int) ≤ 1000000)⟩, h0, rfl, by
  show List.replicate m (0 : Int) = single m me 0
  unfold single
  apply List.ext_getElem?
  intro j
  by_cases z : j < m
  · rw [List.getElem?_map, List.getElem?_range z, List.getElem?_replicate, if_pos z]
    simp
  · rw [List.getElem?_eq_none (by simp; omega), List.getElem?_eq_none (by simp; omega)], rfl, rfl, rfl, rfl⟩
theorem noLs_zero (m n : Nat) : noLs (List.replicate n (.tuple (List.replicate m (.int 0)))) = true := by
  have h1 : ∀ m : Nat, noLs (List.replicate m (.int 0)) = true := fun m => by
    induction m with
    | zero => rfl
    | succ m ih => rw [List.replicate_succ]; exact ih
  induction n with
  | zero => rfl
  | succ n ih =>
    rw [List.replicate_succ]
    show (noLs (List.replicate m (.int 0)) && _) = true
    rw [h1, ih]
    rfl
theorem known_vals (num : Int) (m i : Nat) : ∃ n, (knownD num m i).map (·.2) = List.replicate n (zerosD m) := by
  refine ⟨((knownD num m i).map (·.2)).length, List.eq_replicate_iff.mpr ⟨rfl, fun d hd => ?_⟩⟩
  obtain ⟨p, hp, rfl⟩ := List.mem_map.mp hd
  exact known_val hp
theorem sok_noL {m me : Nat} {ws : List Str} {ps : List Pt} {t : Int} {S : SD} (h : Sok m me ws ps t S) : NoL S := by
  obtain ⟨n, hn⟩ := known_vals me m m
  exact ⟨by rw [h.log]; exact noLs_dP ps, by rw [h.waits]; rfl, by rw [h.known, hn]; exact noLs_zero m n, by rw [h.heard]; rfl⟩
theorem sok_at {m me : Nat} {ws : List Str} {ps : List Pt} {t u : Int} {S : SD} (h : Sok m me ws ps t S) (h1 : t ≤ u) (h2 : u ≤ 1000000) : Sok m me ws ps u (SD.at S u) :=
  ⟨h.num, h.many, h.rules, ⟨by have := h.now.1; have := h.le; show 0 ≤ u; omega, h2⟩, Int.le_refl _, h.log, h.app, h.turn, h.waits, h.known, h.heard⟩
theorem sok_le {m me : Nat} {ws : List Str} {ps : List Pt} {t u : Int} {S : SD} (h : Sok m me ws ps t S) (h1 : t ≤ u) : Sok m me ws ps u S :=
  ⟨h.num, h.many, h.rules, h.now, Int.le_trans h.le h1, h.log, h.app, h.turn, h.waits, h.known, h.heard⟩
theorem next_is {m me : Nat} {ws : List Str} {ps : List Pt} {t : Int} {S : SD} (h : Sok m me ws ps t S) (hm : me < m) (key : Nat) (worth : Int) : nextP S me key worth = nthP m me ps.length key worth := by
  unfold nextP nthP
  rw [h.app, h.turn, single_get hm, if_pos rfl]
theorem sok_put {m me : Nat} {ws : List Str} {ps : List Pt} {t : Int} {S : SD} (h : Sok m me ws ps t S) (hm : me < m) (h2 : t ≤ 1000000) (key : Nat) (worth : Int) : Sok m me ws (ps ++ [nthP m me ps.length key worth]) t (putS S me t key worth) := by
  have e := next_is h hm key worth
  have ha := sok_at h (Int.le_refl _) h2
  have el : ((ps ++ [nthP m me ps.length key worth]).length : Int) = (ps.length : Int) + 1 := by rw [List.length_append]; rfl
  refine ⟨h.num, h.many, h.rules, ha.now, Int.le_refl _, ?_, ?_, ?_, h.waits, h.known, h.heard⟩
  · show S.log ++ [ptD (nextP S me key worth)] = dP (ps ++ [_])
    rw [e, h.log]
    show dP ps ++ [_] = List.map ptD (ps ++ [_])
    rw [List.map_append]
    rfl
  · show S.app.set me (S.app.getD me 0 + 1) = single m me _
    rw [h.app, single_get hm, if_pos rfl, single_set hm, el]
  · show mxI S.turn (S.turn + 1) = _
    rw [el, h.turn]
    unfold mxI
    rw [if_pos (by omega)]
end K04
namespace K04
open PySem PySem.Spec L2 Evl DV LamX NdefX
open PyProof.Rows hiding St cutD
abbrev nLaw : List Str := ["_law_script", "_law_box", "_law_many", "_law_rules_here", "_law_me", "_law_site", "_law_puts", "_law_now", "_law_turn", "_law_key", "_law_ticket", "_law_less", "_law_some", "_law_worth_here", "_law_told", "_law_due", "_law_again", "_law_found", "_law_k", "_law_put"]
theorem scLaw : FnScope nLaw ["_law_script"] (defScope sLaw) := ⟨rfl, rfl, rfl, by decide +kernel, rfl, by decide +kernel, by decide +kernel⟩
abbrev bodyL : List Stmt := match defBody sLaw with | [_, _, _, _, .For _ _ body _ _, _] => body | _ => []
abbrev T4 := (Bx × SD) × List PyData
structure W4 (K : PySem.W.Frag) (C : Addr) (M : List Addr) (R : T4 → Hp → Prop) (b l : Addr) (ad : Ad) (L : Addr) : Prop where
  g : Rg M R
  bi : BoxIn M R b l (fun s => s.1.1) (fun s t => ((t, s.1.2), s.2))
  si : SiteIn K C M R ad (fun s => s.1.2) (fun s S => ((s.1.1, S), s.2))
  li : ListIn K M R L (fun s => s.2) (fun s d => (s.1, d))
  fr : FrameG M R (fun s => NoL s.1.2 ∧ noLs s.2 = true)
theorem W4.rx {K : PySem.W.Frag} {C : Addr} {M : List Addr} {R : T4 → Hp → Prop} {b l : Addr} {ad : Ad} {L : Addr} (h : W4 K C M R b l ad L) (H1 : Hp) : W4 K C M (RX R M H1) b l ad L :=
  ⟨RX.rg h.g H1, h.bi.rx H1, h.si.rx H1, h.li.rx H1, h.fr.rx H1⟩
abbrev ρ4 (b adx L : Addr) (m me : Nat) (ws : List Str) (t : Int) (r0 r8 r9 r10 r11 r12 r13 r14 r15 r16 r17 r18 r19 : Sl) : List Sl :=
  [r0, .raw (.ref b), .dat (.int m), .dat (.tuple (ws.map .str)), .dat (.int me), .raw (.ref adx), .raw (.ref L), .dat (.int t), r8, r9, r10, r11, r12, r13, r14, r15, r16, r17, r18, r19]
structure Cals (P : Program) (w : World) (K : PySem.W.Frag) (mg : Str → Option Value) (base : Heap) (C : Addr) : Prop where
  begun : Cal P w K mg base "_law_begun" 1 (spBegun K)
  take : Cal P w K mg base "_law_take" 1 spTake
  rules : Cal P w K mg base "_law_rules" 2 (spB K gRules)
  worth : Cal P w K mg base "_law_worth" 1 (DV.spS K gWorth)
  alike : Cal P w K mg base "_law_alike" 5 (DV.spS K (gAlike 4))
  site : Mkr P w K mg base "Site" C 3 [] (fun us _ => us) 3 (spSite K C)
  putT : Mth P w K mg base C "put" 3 ["token"] (fun us zs => us ++ zs) 5 (spM K C gPutL)
  put0 : Mth P w K mg base C "put" 3 [] (fun us _ => us ++ [.non]) 5 (spM K C gPutL)
  look : Mth P w K mg base C "look" 2 ["token"] (fun us zs => us ++ (zs ++ [.non])) 6 (spMN K C gLookL)
  log : Mth P w K mg base C "log" 0 [] (fun us _ => us) 1 (spMN K C gLogN)
  kept : Mth P w K mg base C "kept" 0 [] (fun us _ => us) 2 (spM K C gKept)
  wait : Mth P w K mg base C "waiting" 0 [] (fun us _ => us) 1 (spM K C gWaiting0)
theorem single_D (m me : Nat) (n : Int) : (List.range m).map (fun j : Nat => PyData.int (n * (if PyData.eqv (.int j) (.int me) then 1 else 0))) = dI (single m me n) := by
  show _ = List.map PyData.int (List.map _ _)
  rw [List.map_map]
  refine List.map_congr_left fun j _ => ?_
  show PyData.int (n * (if PyData.eqv (.int j) (.int me) = true then 1 else 0)) = PyData.int (if j = me then n else 0)
  rw [eqv_int]
  by_cases z : j = me
  · rw [decide_eq_true (by omega), if_pos rfl, if_pos z, Int.mul_one]
  · rw [decide_eq_false (by omega), if_neg Bool.false_ne_true, if_neg z, Int.mul_zero]
theorem ev_r {S : Type} {X : Cx} {M : List Addr} {R : S → Hp → Prop} {ρ : List Sl} {e : Expr} {s s1 : S} {r r' : Sl} (h : Ev1 X M R ρ e s r s1) (q : r = r') : Ev1 X M R ρ e s r' s1 := by
  rw [← q]
  exact h
def someL (m me : Nat) (n x : Int) : List PyData := [.tuple (dI (single m me n)), .none, .tuple (dI (single m me x))]
section
variable {P : Program} {w : World} {K : PySem.W.Frag} {mg : Str → Option Value} {base : Heap} {C : Addr}
/-- a turn: what is drawn -/
theorem turn1 (B : Bl mg) (G : Cals P w K mg base C) {f : Addr} {cdv : Value} {A : Around} {outer : List Env} {sh : Shared} {H : Hp} {E : XK} {M : List Addr} {R : T4 → Hp → Prop} {D : Ends} {b l : Addr} {ad : Ad} {L : Addr} {bx : Bx} {S : SD} {ps : List Pt} {m me : Nat} {ws : List Str} {t : Int} {r0 r8 r9 r10 r11 r12 r13 r14 r15 r16 r17 r18 r19 : Sl}
    (hr : Room 7 (A.deeper (envOfC "law" (defScope sLaw) sh.heap.objs.size f cdv))) (W : W4 K C M R b l ad L) (hm : m ≤ 5) (hn : ps.length ≤ 40) (hws : okRules ws)
    (k : ∀ (bx' : Bx) (key x i : Nat) (t' : Int), key < ws.length → t ≤ t' → t' ≤ t + 8 → x ≤ ps.length → i < 3 → St1 (dx P w K mg base nLaw "law" sLaw f cdv A outer sh H E) M R
      (ρ4 b ad.x L m me ws t' r0 r8 (.dat (.int key)) (.dat (.tuple (dI (single m me ps.length)))) (.dat (.int x)) (.dat ((someL m me ps.length x).getD i .none)) r13 r14 r15 r16 r17 r18 r19) (bodyL.drop 4) ((bx', S), dP ps) D) :
    St1 (dx P w K mg base nLaw "law" sLaw f cdv A outer sh H E) M R (ρ4 b ad.x L m me ws t r0 r8 r9 r10 r11 r12 r13 r14 r15 r16 r17 r18 r19) bodyL ((bx, S), dP ps) D := by
  have g := W.g
  have l1 : (dP ps).length = ps.length := List.length_map _
  have lw : (ws.map PyData.str).length = ws.length := List.length_map _
  have hk0 : 0 < ws.length := hws.1
  have hk6 : ws.length ≤ 6 := hws.2.1
  have tk : ∀ (s : Bx) (n : Nat), 0 < n → ∃ j : Nat, takeV s n = j ∧ j < n := fun s n hn => by
    have a := takeV_nonneg (st := s) (n := (n : Int)) (by omega)
    have b := takeV_lt (st := s) (n := (n : Int)) (by omega)
    exact ⟨(takeV s n).toNat, by omega, by omega⟩
  obtain ⟨key, ek, hkey⟩ := tk bx ws.length hk0
  refine st_unp (i := 9) (j := 10) (d1 := .int (key : Nat)) (d2 := .tuple (dI (single m me ps.length))) (s1 := ((takeS bx ws.length, S), dP ps)) (pg_tup rfl (pgs_cons (pg_name (i := 9) scLaw.nd rfl (Or.inr rfl)) (pgs_cons (pg_name (i := 10) scLaw.nd rfl (Or.inl rfl)) pgs_nil)))
    (e_tup g (ds := [.int (key : Nat), .tuple (dI (single m me ps.length))]) (a_cons (s1 := ((takeS bx ws.length, S), dP ps)) ?_ (a_cons ?_ a_nil)) (by simp)) ?_
  · rw [← ek]
    refine e_take (get := fun s : T4 => s.1.1) (put := fun (s : T4) t => ((t, s.1.2), s.2)) (s1 := ((bx, S), dP ps)) W.bi G.take hr (by decide) (by rfl) (by omega) (by have := log_small (i := (ws.length : Int)) (by omega) (by omega); omega) (a_cons (v 1) (a_cons ?_ a_nil))
    rw [← lw]
    exact e_lenT (by rfl) B.len (a1 (v 3))
  · rw [← single_D]
    refine e_tupleL g (by rfl) B.tuple (a1 ?_)
    refine lc_rng (own := [("_law_k", 18)]) (ss := fun _ => ((takeS bx ws.length, S), dP ps)) g (i := 18) (fun j : Nat => PyData.int ((ps.length : Int) * (if PyData.eqv (.int j) (.int me) then 1 else 0))) (i_rngN (n := m) (by rfl) B.range (by omega) (a1 (v 2))) (by omega) (fun j hj sh Hh C cl fp D acc gD => ?_) rfl scLaw.nd (blkOk_by (N := nLaw) (sc := defScope sLaw) (by decide +kernel)) (fun sh Hh C cl fp => pg_name (i := 18) scLaw.nd rfl (Or.inl rfl)) (by simp)
    refine e_mulR (by split <;> decide) (by split <;> decide) ?_ (e_intB (by rfl) B.int (a1 (e_eqD (d1 := .int j) (d2 := .int me) hr.units (v 18) (v 4) rfl rfl)))
    exact ev_r (e_lenM (get := fun s : T4 => s.2) (s1 := ((takeS bx ws.length, S), dP ps)) (W.li.rd D acc) (by rfl) B.len (a1 (v 6))) (by rw [← l1])
  generalize takeS bx ws.length = b1
  obtain ⟨q9, e9, h9⟩ := tk b1 9 (by decide)
  obtain ⟨q2, e2, h2⟩ := tk (takeS b1 9) 2 (by decide)
  have hnow : ∃ z : Int, atI [PyData.int 0, PyData.int (q9 : Int)] (q2 : Int) = some (.int z) ∧ 0 ≤ z ∧ z ≤ 8 := by
    have h : q2 = 0 ∨ q2 = 1 := by omega
    rcases h with rfl | rfl
    · exact ⟨0, atI_nat (by rfl), by omega, by omega⟩
    · exact ⟨q9, atI_nat (by rfl), by omega, by omega⟩
  obtain ⟨z, ez, hz0, hz8⟩ := hnow
  refine st_set 7 (r := .dat (.int (t + z))) (s1 := ((takeS (takeS b1 9) 2, S), dP ps)) scLaw.nd rfl (Or.inl rfl) (e_add (v 7) (e_ixL (ds := [.int 0, .int (q9 : Int)]) (i := (q2 : Int)) (s1 := ((takeS b1 9, S), dP ps)) (e_lst g (ds := [.int 0, .int (q9 : Int)]) (a_cons e_int (a_cons (by
      rw [← e9]
      exact e_take (get := fun s : T4 => s.1.1) (put := fun (s : T4) t => ((t, s.1.2), s.2)) (s1 := ((b1, S), dP ps)) W.bi G.take hr (by decide) (by rfl) (by decide) (by decide) (a_cons (v 1) (a_cons e_int a_nil))) a_nil)) (by simp)) (by
      rw [← e2]
      exact e_take (get := fun s : T4 => s.1.1) (put := fun (s : T4) t => ((t, s.1.2), s.2)) (s1 := ((takeS b1 9, S), dP ps)) W.bi G.take hr (by decide) (by rfl) (by decide) (by decide) (a_cons (v 1) (a_cons e_int a_nil))) ez)) ?_
  generalize takeS (takeS b1 9) 2 = b2
  obtain ⟨x, ex, hx⟩ := tk b2 (ps.length + 1) (by omega)
  refine st_set 11 (r := .dat (.int (x : Nat))) (s1 := ((takeS b2 ((ps.length + 1 : Nat) : Int), S), dP ps)) scLaw.nd rfl (Or.inr rfl) ?_ ?_
  · rw [← ex]
    refine e_take (get := fun s : T4 => s.1.1) (put := fun (s : T4) t => ((t, s.1.2), s.2)) (s1 := ((b2, S), dP ps)) W.bi G.take hr (by decide) (by rfl) (by omega) (by have := log_small (i := ((ps.length + 1 : Nat) : Int)) (by omega) (by omega); omega) (a_cons (v 1) (a_cons ?_ a_nil))
    exact ev_r (e_add (e_lenM (get := fun s : T4 => s.2) (s1 := ((b2, S), dP ps)) W.li (by rfl) B.len (a1 (v 6))) e_int) (by
      show Sl.dat (.int (((dP ps).length : Int) + 1)) = _
      rw [l1]
      rfl)
  generalize takeS b2 ((ps.length + 1 : Nat) : Int) = b3
  obtain ⟨i, ei, hi⟩ := tk b3 3 (by decide)
  have hix : atI (someL m me ps.length x) (i : Int) = some ((someL m me ps.length x).getD i .none) := atI_nat (by
    rw [List.getD_eq_getElem?_getD, List.getElem?_eq_getElem (by show i < 3; exact hi)]
    rfl)
  refine st_set 12 (r := .dat ((someL m me ps.length x).getD i .none)) (s1 := ((takeS b3 3, S), dP ps)) scLaw.nd rfl (Or.inl rfl) (e_ixL (ds := someL m me ps.length x) (i := (i : Int)) (s1 := ((b3, S), dP ps)) (e_lst g (ds := someL m me ps.length x) (a_cons (v 10) (a_cons e_non (a_cons ?_ a_nil))) (by show 3 ≤ 100000; decide)) (by
      rw [← ei]
      exact e_take (get := fun s : T4 => s.1.1) (put := fun (s : T4) t => ((t, s.1.2), s.2)) (s1 := ((b3, S), dP ps)) W.bi G.take hr (by decide) (by rfl) (by decide) (by decide) (a_cons (v 1) (a_cons e_int a_nil))) hix) ?_
  · show Ev1 _ _ _ _ _ _ (.dat (.tuple (dI (single m me x)))) _
    rw [← single_D m me (x : Int)]
    refine e_tupleL g (by rfl) B.tuple (a1 ?_)
    refine lc_rng (own := [("_law_k", 18)]) (ss := fun _ => ((b3, S), dP ps)) g (i := 18) (fun j : Nat => PyData.int ((x : Int) * (if PyData.eqv (.int j) (.int me) then 1 else 0))) (i_rngN (n := m) (by rfl) B.range (by omega) (a1 (v 2))) (by omega) (fun j hj sh Hh C cl fp D acc gD => ?_) rfl scLaw.nd (blkOk_by (N := nLaw) (sc := defScope sLaw) (by decide +kernel)) (fun sh Hh C cl fp => pg_name (i := 18) scLaw.nd rfl (Or.inl rfl)) (by simp)
    exact e_mulR (by split <;> decide) (by split <;> decide) (v 11) (e_intB (by rfl) B.int (a1 (e_eqD (d1 := .int j) (d2 := .int me) hr.units (v 18) (v 4) rfl rfl)))
  exact k _ key x i (t + z) hkey (by omega) (by omega) (by omega) hi
end
end K04
namespace K04
open PySem PySem.Spec L2 Evl DV LamX NdefX
open PyProof.Rows hiding St cutD
abbrev putB : List Stmt := match bodyL with | [_, _, _, _, .If _ a _ _, _, _] => a | _ => []
abbrev lookB : List Stmt := match bodyL with | [_, _, _, _, .If _ _ a _, _, _] => a | _ => []
theorem svall_app {K : PySem.W.Frag} {H : Hp} : ∀ {rs zs : List Sl} {vs us : List V}, SvAll K H rs vs → SvAll K H zs us → SvAll K H (rs ++ zs) (vs ++ us)
  | [], _, [], _, _, h => h
  | _ :: _, _, _ :: _, _, ⟨h1, h2⟩, h => ⟨h1, svall_app h2 h⟩
  | [], _, _ :: _, _, h, _ => h.elim
  | _ :: _, _, [], _, h, _ => h.elim
theorem some_ok {m me : Nat} {ws : List Str} {ps : List Pt} {t : Int} {S : SD} {x i : Nat} (h : Sok m me ws ps t S) (h2 : 2 ≤ m) (h5 : m ≤ 5) (hn : ps.length ≤ 40) (hx : x ≤ ps.length) (hi : i < 3) : okTok S ((someL m me ps.length x).getD i .none) := by
  have h3 : i = 0 ∨ i = 1 ∨ i = 2 := by omega
  rcases h3 with rfl | rfl | rfl
  · exact .inr ⟨_, rfl, single_tok h2 h5 (by omega) (by omega), by rw [single_len, h.many], by rw [h.app]; exact fun j => Int.le_refl _⟩
  · exact .inl rfl
  · exact .inr ⟨_, rfl, single_tok h2 h5 (by omega) (by omega), by rw [single_len, h.many], by rw [h.app]; exact fun j => single_le (by omega) j⟩
theorem low_single (m me : Nat) (n : Int) (h : m ≤ 5) : okD (.tuple (dI (single m me n))) = true ∧ (PyData.tuple (dI (single m me n))).depth ≤ 4 := by
  refine ⟨?_, ?_⟩
  · show (decide ((dI (single m me n)).length ≤ 1000) && okAll (dI (single m me n))) = true
    rw [ok_allI, List.length_map, single_len, decide_eq_true (by omega)]
    rfl
  · show PyData.depthAll (dI (single m me n)) + 1 ≤ 4
    rw [show dI (single m me n) = (single m me n).map PyData.int from rfl, PySem.W.depth_ints]
    decide
section
variable {P : Program} {w : World} {K : PySem.W.Frag} {mg : Str → Option Value} {base : Heap} {C : Addr}
/-- a put -/
theorem turnP (B : Bl mg) (G : Cals P w K mg base C) {f : Addr} {cdv : Value} {A : Around} {outer : List Env} {sh : Shared} {H : Hp} {E : XK} {M : List Addr} {R : T4 → Hp → Prop} {D : Ends} {b l : Addr} {ad : Ad} {L : Addr} {bx : Bx} {S : SD} {ps : List Pt} {m me key x i : Nat} {ws : List Str} {t : Int} {r0 r8 r13 r14 r15 r16 r17 r18 r19 : Sl} {rest : List Stmt}
    (hr : Room 7 (A.deeper (envOfC "law" (defScope sLaw) sh.heap.objs.size f cdv))) (W : W4 K C M R b l ad L) (h2 : 2 ≤ m) (hm : m ≤ 5) (hme : me < m) (hn : ps.length ≤ 40) (hws : okRules ws) (hkey : key < ws.length) (hx : x ≤ ps.length) (hi : i < 3) (ht : t ≤ 1000000) (hS : Sok m me ws ps t S)
    (k : ∀ (bx' : Bx) (S' : SD) (worth : Int) (r13' r14' : Sl), Sok m me ws (ps ++ [nthP m me ps.length key worth]) t S' → St1 (dx P w K mg base nLaw "law" sLaw f cdv A outer sh H E) M R
      (ρ4 b ad.x L m me ws t r0 r8 (.dat (.int key)) (.dat (.tuple (dI (single m me ps.length)))) (.dat (.int x)) (.dat ((someL m me ps.length x).getD i .none)) r13' r14' r15 r16 r17 r18 r19) rest ((bx', S'), dP (ps ++ [nthP m me ps.length key worth])) D) :
    St1 (dx P w K mg base nLaw "law" sLaw f cdv A outer sh H E) M R (ρ4 b ad.x L m me ws t r0 r8 (.dat (.int key)) (.dat (.tuple (dI (single m me ps.length)))) (.dat (.int x)) (.dat ((someL m me ps.length x).getD i .none)) r13 r14 r15 r16 r17 r18 r19) putB ((bx, S), dP ps) { D with nx := wB (dx P w K mg base nLaw "law" sLaw f cdv A outer sh H E) rest D } := by
  have g := W.g
  have l1 : (dP ps).length = ps.length := List.length_map _
  have tk : ∀ (s : Bx) (n : Nat), 0 < n → ∃ j : Nat, takeV s n = j ∧ j < n := fun s n hn => by
    have a := takeV_nonneg (st := s) (n := (n : Int)) (by omega)
    have b := takeV_lt (st := s) (n := (n : Int)) (by omega)
    exact ⟨(takeV s n).toNat, by omega, by omega⟩
  obtain ⟨q7, e7, h7⟩ := tk bx 7 (by decide)
  obtain ⟨q9, e9, h9⟩ := tk (takeS bx 7) 1999 (by decide)
  obtain ⟨q2, e2, hq2⟩ := tk (takeS (takeS bx 7) 1999) 2 (by decide)
  obtain ⟨wv, ew, hw⟩ : ∃ z : Int, atI [PyData.int (q7 : Int), PyData.int ((q9 : Int) - 999)] (q2 : Int) = some (.int z) ∧ wholeD (.int z) (-999) 999 = true := by
    have h : q2 = 0 ∨ q2 = 1 := by omega
    rcases h with rfl | rfl
    · exact ⟨q7, atI_nat (by rfl), by show (decide ((-999 : Int) ≤ q7) && decide ((q7 : Int) ≤ 999)) = true; rw [decide_eq_true (by omega), decide_eq_true (by omega)]; rfl⟩
    · exact ⟨(q9 : Int) - 999, atI_nat (by rfl), by show (decide ((-999 : Int) ≤ (q9 : Int) - 999) && decide ((q9 : Int) - 999 ≤ 999)) = true; rw [decide_eq_true (by omega), decide_eq_true (by omega)]; rfl⟩
  refine st_set 13 (r := .dat (.int wv)) (s1 := ((takeS (takeS (takeS bx 7) 1999) 2, S), dP ps)) scLaw.nd rfl (Or.inl rfl) (e_ixL (ds := [.int (q7 : Int), .int ((q9 : Int) - 999)]) (i := (q2 : Int)) (s1 := ((takeS (takeS bx 7) 1999, S), dP ps)) (e_lst g (ds := [.int (q7 : Int), .int ((q9 : Int) - 999)]) (a_cons (s1 := ((takeS bx 7, S), dP ps)) (by
      rw [← e7]
      exact e_take (get := fun s : T4 => s.1.1) (put := fun (s : T4) t => ((t, s.1.2), s.2)) (s1 := ((bx, S), dP ps)) W.bi G.take hr (by decide) (by rfl) (by decide) (by decide) (a_cons (v 1) (a_cons e_int a_nil))) (a_cons (e_sub (by
      rw [← e9]
      exact e_take (get := fun s : T4 => s.1.1) (put := fun (s : T4) t => ((t, s.1.2), s.2)) (s1 := ((takeS bx 7, S), dP ps)) W.bi G.take hr (by decide) (by rfl) (by decide) (by decide) (a_cons (v 1) (a_cons e_int a_nil))) e_int) a_nil)) (by simp)) (by
      rw [← e2]
      exact e_take (get := fun s : T4 => s.1.1) (put := fun (s : T4) t => ((t, s.1.2), s.2)) (s1 := ((takeS (takeS bx 7) 1999, S), dP ps)) W.bi G.take hr (by decide) (by rfl) (by decide) (by decide) (a_cons (v 1) (a_cons e_int a_nil))) ew) ?_
  generalize takeS (takeS (takeS bx 7) 1999) 2 = b3
  have hok := some_ok hS h2 hm hn hx hi
  have hS' := sok_put hS hme ht key wv
  have happ : (putS S me t key wv).app = single m me ((ps.length : Int) + 1) := by
    rw [hS'.app, List.length_append]
    rfl
  have gP : gPutL S [.dat (.int t), .dat (.int key), .dat (.int wv), .dat ((someL m me ps.length x).getD i .none)] (.ok (.dat (.tuple (dI (single m me ((ps.length : Int) + 1)))))) (putS S me t key wv) :=
    ⟨t, key, me, wv, _, rfl, hS.now, hS.le, ht, hok, by rw [hS.app, single_len, hS.many], by rw [hS.many]; exact hm, by rw [hS.rules]; exact hws, by rw [hS.rules]; exact hkey, hw, hS.num, by rw [hS.many]; exact hme, by rw [hS.app, single_get hme, if_pos rfl]; omega, by rw [hS.log, l1]; omega, rfl, by rw [happ]⟩
  refine st_set 14 (r := .dat (.tuple (dI (single m me ((ps.length : Int) + 1))))) (s1 := ((b3, putS S me t key wv), dP ps)) scLaw.nd rfl (Or.inl rfl) (e_if (k := !isN ((someL m me ps.length x).getD i .none)) (s1 := ((b3, S), dP ps)) (t_isNotN (v 12)) (fun h => ?_) (fun h => ?_)) ?_
  · exact e_sM (pl := _) (get := fun s : T4 => s.1.2) (put := fun (s : T4) S => ((s.1.1, S), s.2)) (s1 := ((b3, S), dP ps)) (s3 := ((b3, S), dP ps)) (rv := [.dat (.int t), .dat (.int key), .dat (.int wv), .dat ((someL m me ps.length x).getD i .none)]) g W.si G.putT hr (by decide) (v 5) (a_cons (v 7) (a_cons (v 9) (a_cons (v 13) a_nil))) (k_cons (v 12) k_nil) rfl rfl (fun H' vs us h1 h2 => svall_app (rs := [.raw (.ref ad.x), .dat (.int t), .dat (.int key), .dat (.int wv)]) (zs := [.dat ((someL m me ps.length x).getD i .none)]) ⟨rfl, h1⟩ h2) gP rfl
  · have hi1 : (someL m me ps.length x).getD i .none = .none := by
      cases hd : (someL m me ps.length x).getD i .none <;> rw [hd] at h <;> first | rfl | cases h
    rw [hi1] at gP
    exact e_sM (pl := _) (get := fun s : T4 => s.1.2) (put := fun (s : T4) S => ((s.1.1, S), s.2)) (s1 := ((b3, S), dP ps)) (s3 := ((b3, S), dP ps)) (rv := [.dat (.int t), .dat (.int key), .dat (.int wv), .dat .none]) g W.si G.put0 hr (by decide) (v 5) (a_cons (v 7) (a_cons (v 9) (a_cons (v 13) a_nil))) k_nil rfl rfl (fun H' vs us h1 h2 => svall_app (rs := [.raw (.ref ad.x), .dat (.int t), .dat (.int key), .dat (.int wv)]) (zs := [.dat .none]) ⟨rfl, h1⟩ ⟨.non, trivial⟩) gP rfl
  generalize putS S me t key wv = S2 at hS' ⊢
  have elen : ∀ {px pos pp : Pos} {ρ : List Sl}, ρ[6]? = some (.raw (.ref L)) → Ev1 (dx P w K mg base nLaw "law" sLaw f cdv A outer sh H E) M R ρ (.Call (.Name "len" px) [.Name "_law_puts" pp] [] pos) ((b3, S2), dP ps) (.dat (.int ps.length)) ((b3, S2), dP ps) := fun {px pos pp ρ} h => ev_r (e_lenM (get := fun s : T4 => s.2) (s1 := ((b3, S2), dP ps)) W.li (by rfl) B.len (a1 (v 6 h))) (by rw [← l1])
  have el2 : ((dP ps).length : Int) + 1 = (ps.length : Int) + 1 := by rw [l1]
  refine st_app (d := ptD (nthP m me ps.length key wv)) (s1 := ((b3, S2), dP ps)) (s2 := ((b3, S2), dP ps)) W.li (v 6) (e_tup g (ds := ptL (nthP m me ps.length key wv)) (a_cons (v 4) (a_cons (e_add (elen rfl) e_int) (a_cons (v 10) (a_cons (e_add (elen rfl) e_int) (a_cons (v 9) (a_cons (v 13) a_nil)))))) (by show 6 ≤ 100000; decide)) (by show (dP ps).length < 100000; omega) ?_
  have eP : dP ps ++ [ptD (nthP m me ps.length key wv)] = dP (ps ++ [nthP m me ps.length key wv]) := by
    show _ = List.map ptD _
    rw [List.map_append]
    rfl
  show St1 _ _ _ _ _ ((b3, S2), dP ps ++ [ptD (nthP m me ps.length key wv)]) _
  rw [eP]
  have l3 : (dP (ps ++ [nthP m me ps.length key wv])).length = ps.length + 1 := by rw [List.length_map, List.length_append]; rfl
  obtain ⟨hk1, hk2⟩ := low_single m me ((ps.length : Int) + 1) hm
  refine st_if (k := false) (s1 := ((b3, S2), dP (ps ++ [nthP m me ps.length key wv]))) (t_not (k := true) (t_val (e_call g G.alike hr (by decide) (by rfl) (r := .dat (.bool true)) ⟨_, rfl, hk1, hk2, rfl⟩ (a_cons (s1 := ((b3, S2), dP (ps ++ [nthP m me ps.length key wv]))) (v 14) (a_cons ?_ a_nil))))) (fun h => by cases h) (fun _ => st_thru (st_thru (k _ _ _ _ _ hS')))
  show Ev1 _ _ _ _ _ _ (.dat (.tuple (dI (single m me ((ps.length : Int) + 1))))) _
  rw [← single_D m me ((ps.length : Int) + 1)]
  refine e_tupleL g (by rfl) B.tuple (a1 ?_)
  refine lc_rng (own := [("_law_k", 18)]) (ss := fun _ => ((b3, S2), dP (ps ++ [nthP m me ps.length key wv]))) g (i := 18) (fun j : Nat => PyData.int (((ps.length : Int) + 1) * (if PyData.eqv (.int j) (.int me) then 1 else 0))) (i_rngN (n := m) (by rfl) B.range (by omega) (a1 (v 2))) (by omega) (fun j hj sh Hh C cl fp D acc gD => ?_) rfl scLaw.nd (blkOk_by (N := nLaw) (sc := defScope sLaw) (by decide +kernel)) (fun sh Hh C cl fp => pg_name (i := 18) scLaw.nd rfl (Or.inl rfl)) (by simp)
  refine e_mulR (by split <;> decide) (by split <;> decide) ?_ (e_intB (by rfl) B.int (a1 (e_eqD (d1 := .int j) (d2 := .int me) hr.units (v 18) (v 4) rfl rfl)))
  exact ev_r (e_lenM (get := fun s : T4 => s.2) (s1 := ((b3, S2), dP (ps ++ [nthP m me ps.length key wv]))) (W.li.rd D acc) (by rfl) B.len (a1 (v 6))) (by
    show Sl.dat (.int ((dP (ps ++ [nthP m me ps.length key wv])).length : Int)) = _
    rw [l3]
    rfl)
end
end K04
namespace K04
open PySem PySem.Spec L2 Evl DV LamX NdefX
open PyProof.Rows hiding St cutD
theorem law_flat {x : Str} {ps : List Pt} : noL (lawD x ps) = true ∨ ∃ ds, lawD x ps = .list ds ∧ ds.length ≤ ps.length := by
  unfold lawD
  split
  · exact .inl rfl
  · split
    · left
      cases ps.map (·.worth) <;> rfl
    · split
      · left
        unfold lawLast
        split <;> rfl
      · right
        refine ⟨_, rfl, ?_⟩
        rw [List.length_map]
        unfold lawAll
        rw [List.length_map]
        refine Nat.le_trans (List.length_filter_le _ _) ?_
        rw [List.length_mergeSort]
        exact Nat.le_refl _
theorem evf_r {S : Type} {X : Cx} {M : List Addr} {R : S → Hp → Prop} {ρ : List Sl} {e : Expr} {s s1 : S} {ds ds' : List PyData} (h : EvF1 X M R ρ e s ds s1) (q : ds = ds') : EvF1 X M R ρ e s ds' s1 := by
  rw [← q]
  exact h
theorem evn_use {S : Type} {X : Cx} {M : List Addr} {R : S → Hp → Prop} {ρ : List Sl} {e : Expr} {s s' : S} {d : PyData} {σ : St} {H : Hp} {Q : VK} (h : EvN X M R ρ e s d s') (hσ : Slots X.K (cut M H) σ ρ) (hR : R s H)
    (q : ∀ v H1 H', Ex (cut M H) (cut M H1) → R s' H1 → Ex (cut M H1) (cut M H') → R s' H' → Sv X.K (cut M H') (.dat d) v → (∀ p, v = .ref p → H1 p = none) → Q v H') : wE X e σ H Q := h σ H Q hσ hR q
section
variable {P : Program} {w : World} {K : PySem.W.Frag} {mg : Str → Option Value} {base : Heap} {C : Addr}
/-- a look -/
theorem turnL (B : Bl mg) (G : Cals P w K mg base C) {f : Addr} {cdv : Value} {A : Around} {outer : List Env} {sh : Shared} {H : Hp} {E : XK} {M : List Addr} {R : T4 → Hp → Prop} {D : Ends} {b l : Addr} {ad : Ad} {L : Addr} {bx : Bx} {S : SD} {ps : List Pt} {m me key x i : Nat} {ws : List Str} {t : Int} {r0 r8 r13 r14 r15 r16 r17 r18 r19 : Sl} {rest : List Stmt}
    (hr : Room 7 (A.deeper (envOfC "law" (defScope sLaw) sh.heap.objs.size f cdv))) (W : W4 K C M R b l ad L) (h2 : 2 ≤ m) (hm : m ≤ 5) (hme : me < m) (hn : ps.length ≤ 40) (hws : okRules ws) (hkey : key < ws.length) (hx : x ≤ ps.length) (hi : i < 3) (ht : t ≤ 1000000) (hC : Ch m me ps) (hS : Sok m me ws ps t S)
    (k : ∀ (S' : SD) (r15' r16' r17' : Sl), Sok m me ws ps t S' → St1 (dx P w K mg base nLaw "law" sLaw f cdv A outer sh H E) M R
      (ρ4 b ad.x L m me ws t r0 r8 (.dat (.int key)) (.dat (.tuple (dI (single m me ps.length)))) (.dat (.int x)) (.dat ((someL m me ps.length x).getD i .none)) r13 r14 r15' r16' r17' r18 r19) rest ((bx, S'), dP ps) D) :
    St1 (dx P w K mg base nLaw "law" sLaw f cdv A outer sh H E) M R (ρ4 b ad.x L m me ws t r0 r8 (.dat (.int key)) (.dat (.tuple (dI (single m me ps.length)))) (.dat (.int x)) (.dat ((someL m me ps.length x).getD i .none)) r13 r14 r15 r16 r17 r18 r19) lookB ((bx, S), dP ps) { D with nx := wB (dx P w K mg base nLaw "law" sLaw f cdv A outer sh H E) rest D } := by
  have g := W.g
  have l1 : (dP ps).length = ps.length := List.length_map _
  have hwk : ws[key]? = some (ws.getD key Str.empty) := by rw [List.getD_eq_getElem?_getD, List.getElem?_eq_getElem hkey]; rfl
  have hwm : ws.getD key Str.empty ∈ wordsL := hws.2.2 _ (List.mem_of_getElem? hwk)
  have hix : atI (ws.map PyData.str) (key : Int) = some (.str (ws.getD key Str.empty)) := atI_nat (by rw [List.getElem?_map, hwk]; rfl)
  have hop : okPts ps := ch_ok hC hme (by omega)
  have hheld := ch_held hC hme (ws.getD key Str.empty) key
  have lK : (ofKey ps key).length ≤ 40 := Nat.le_trans (List.length_filter_le _ _) hn
  have hsm := law_small (x := ws.getD key Str.empty) (ps := ofKey ps key) (by omega)
  obtain ⟨fD, em, hf⟩ : ∃ fD : PyData → Bool, (((dP ps).filter fD).map id = dP (ofKey ps key)) ∧ ∀ p ∈ ps, fD (ptD p) = PyData.eqv (.int p.key) (.int key) := by
    refine ⟨fun d => match d with
      | .tuple xs => PyData.eqv (xs.getD 4 .none) (.int key)
      | _ => false, ?_, fun p _ => rfl⟩
    rw [List.map_id]
    show (List.map ptD ps).filter _ = List.map ptD (ps.filter _)
    rw [List.filter_map]
    congr 1
  refine st_set 15 (r := .dat (lawD (ws.getD key Str.empty) (ofKey ps key))) (s1 := ((bx, S), dP ps)) scLaw.nd rfl (Or.inl rfl) (e_call g G.worth hr (by decide) (by rfl) (r := .dat (lawD (ws.getD key Str.empty) (ofKey ps key))) ⟨ofKey ps key, ws.getD key Str.empty, rfl, hwm, ok_ofKey hop, rfl⟩ (a_cons (s1 := ((bx, S), dP ps)) (e_still (l := L) (ds := dP ps) g (fun H hR => W.li.at_ hR) (fun xs => ?_) (noLs_dP _)) (a_cons (e_ixT (ds := ws.map PyData.str) (v 3) (v 9) hix) a_nil))) ?_
  · rw [← em]
    have gZ : Rg (rmA L M) (RZ K M R L xs (dP ps)) := RZ.rg g
    refine evf_r (f_lc (own := [("_law_put", 19)]) (gt := gName 19) (n := (dP ps).length) (it := itD (dP ps)) (ss := fun _ => ((bx, S), dP ps)) (outs := fun i => (((dP ps).take i).filter fD).map id) gZ rfl scLaw.nd (blkOk_by (N := nLaw) (sc := defScope sLaw) (by decide +kernel)) (fun sh Hh C cl fp => pg_name (i := 19) scLaw.nd rfl (Or.inl rfl)) (i_list (e_asD (v 6) (fun H h => RZ.dv h))) rfl (len_filter fD id (by omega)) (steps_filter fD id (by simp) (fun d hd sh Hh C cl fp D acc gD => ?_) (fun d hd hp sh Hh C cl fp D acc gD => v 19))) (by rw [List.take_length])
    obtain ⟨p, rfl, hp⟩ := mem_dP hd
    rw [hf p hp]
    exact t_eqD (d1 := .int p.key) (d2 := .int key) hr.units (e_ixT (ds := ptL p) (v 19) e_int rfl) (v 9) rfl rfl
  generalize hdue : lawD (ws.getD key Str.empty) (ofKey ps key) = due at hsm hheld ⊢
  refine st_for g (fun j ρ' s' => ∃ (S' : SD) (r16' r17' : Sl), s' = ((bx, S'), dP ps) ∧ Sok m me ws ps t S' ∧ ρ' = ρ4 b ad.x L m me ws t r0 r8 (.dat (.int key)) (.dat (.tuple (dI (single m me ps.length)))) (.dat (.int x)) (.dat ((someL m me ps.length x).getD i .none)) r13 r14 (.dat due) r16' r17' r18 r19) (passes_of rfl) rfl (pg_name (i := 16) scLaw.nd rfl (Or.inl rfl))
    (i_rngN (n := 2) (by rfl) B.range (by decide) (a1 e_int)) ⟨S, r16, r17, rfl, hS, rfl⟩ (fun again ρj sj H2 hj hJ2 g2 => ?_) (fun ρ' s' hJ2 => ?_)
  · obtain ⟨S1, r16', r17', rfl, hS1, rfl⟩ := hJ2
    have W2 := W.rx H2
    have hok := some_ok hS1 h2 hm hn hx hi
    have hat : Sok m me ws ps t (SD.at S1 t) := sok_at (sok_le hS1 (Int.le_refl t)) (Int.le_refl t) ht
    refine ⟨_, tg0_name, fun N2 hN2 => ?_⟩
    intro σ H3 hσ hR
    have gL : gLookL S1 [.dat (.int t), .dat (.int key), .dat ((someL m me ps.length x).getD i .none), .dat .none] due (SD.at S1 t) :=
      ⟨t, key, _, ps, rfl, hS1.now, hS1.le, ht, hok, by rw [hS1.app, single_len, hS1.many], by rw [hS1.many]; exact hm, by rw [hS1.rules]; exact hws, by rw [hS1.rules]; exact hkey, hS1.log, hop, rfl, by rw [hS1.rules]; exact hheld.symm⟩
    refine b_set 17 (evn_use (n_sM (pl := _) (d := due) (get := fun s : T4 => s.1.2) (put := fun (s : T4) S => ((s.1.1, S), s.2)) (s := ((bx, S1), dP ps)) (s1 := ((bx, S1), dP ps)) (s3 := ((bx, S1), dP ps)) (S' := SD.at S1 t) (rv := [.dat (.int t), .dat (.int key), .dat ((someL m me ps.length x).getD i .none), .dat .none]) (X := dx P w K mg base nLaw "law" sLaw f cdv A outer sh H E) g2 W2.si G.look hr (by decide)
      (ρ := ρ4 b ad.x L m me ws t r0 r8 (.dat (.int key)) (.dat (.tuple (dI (single m me ps.length)))) (.dat (.int x)) (.dat ((someL m me ps.length x).getD i .none)) r13 r14 (.dat due) (.dat (.int again)) r17' r18 r19)
      (v 5) (a_cons (v 7) (a_cons (v 9) a_nil)) (k_cons (v 12) k_nil) rfl rfl (fun H' vs us h1 h2 => svall_app (rs := [.raw (.ref ad.x), .dat (.int t), .dat (.int key)]) (zs := [.dat ((someL m me ps.length x).getD i .none), .dat .none]) ⟨rfl, h1⟩ (svall_app (rs := [.dat ((someL m me ps.length x).getD i .none)]) (zs := [.dat .none]) h2 ⟨.non, trivial⟩)) gL rfl) hσ hR fun u H4 H5 e4 R4 e5 R5 sv fr => ?_) scLaw.nd rfl (Or.inl rfl)
    have σ5 := Slots.set (r := .dat due) (v := u) sv 17 (hσ.ex (e4.trans e5))
    refine b_ifE (s := ((bx, SD.at S1 t), dP ps)) (s1 := ((bx, SD.at S1 t), dP ps)) (k := false)
      (ρ := ρ4 b ad.x L m me ws t r0 r8 (.dat (.int key)) (.dat (.tuple (dI (single m me ps.length)))) (.dat (.int x)) (.dat ((someL m me ps.length x).getD i .none)) r13 r14 (.dat due) (.dat (.int again)) (.dat due) r18 r19)
      (t_not (k := true) (t_val (e_call g2 G.alike hr (by decide) (by rfl) (r := .dat (.bool true)) ⟨due, rfl, hsm.1, by have := hsm.2; omega, rfl⟩ (a_cons (v 17) (a_cons (v 15) a_nil))))) σ5 R5 fun H6 e6 R6 => ?_
    rw [if_neg (by decide)]
    refine b_nil ?_
    have σ6 := σ5.ex e6
    refine b_ifE (s := ((bx, SD.at S1 t), dP ps)) (s1 := ((bx, SD.at S1 t), dP ps)) (k := isL due)
      (ρ := ρ4 b ad.x L m me ws t r0 r8 (.dat (.int key)) (.dat (.tuple (dI (single m me ps.length)))) (.dat (.int x)) (.dat ((someL m me ps.length x).getD i .none)) r13 r14 (.dat due) (.dat (.int again)) (.dat due) r18 r19)
      (t_val (isi boot_list B.isi B.list (kit_list _) (v 17))) σ6 R6 fun H7 e7 R7 => ?_
    have σ7 := σ6.ex e7
    cases hL : isL due with
    | false =>
      rw [if_neg Bool.false_ne_true]
      exact b_nil (b_nil (hN2 _ H7 _ _ ⟨_, _, _, rfl, hat, rfl⟩ σ7 R7))
    | true =>
      rw [if_pos rfl]
      obtain ⟨ds, hds⟩ : ∃ ds, due = .list ds := by
        cases due <;> first | exact ⟨_, rfl⟩ | cases hL
      have hlen0 : ds.length ≤ 40 := by
        rcases law_flat (x := ws.getD key Str.empty) (ps := ofKey ps key) with z | ⟨ds', z, zl⟩
        · rw [hdue, hds] at z
          cases z
        · rw [hdue, hds] at z
          cases z
          omega
      have sv7 := (sv.ex e6).ex e7
      rw [hds] at sv7
      obtain ⟨p, xs, rfl, hp, hxs⟩ := sv_lst sv7
      obtain ⟨nm, hp7⟩ := cut_some hp
      have x47 := e5.trans (e6.trans e7)
      have h17 : (σ.set 17 (some (V.ref p)))[17]? = some (some (.ref p)) := by
        obtain ⟨o, ho, z⟩ := Slots.get (Slots.set (K := K) (H := cut M H7) (r := .raw (.ref p)) (v := .ref p) rfl 17 (hσ.ex (e4.trans x47))) (i := 17) (r := .raw (.ref p)) rfl
        have z : o = some (.ref p) := z
        rw [ho, z]
      have hlen : xs.length ≤ 40 := by rw [dpa_length hxs]; exact hlen0
      refine b_expr (wE_of (pe_bm PySem.F.plainAttrs_list PySem.F.slot_list_append PySem.F.type_list_append (mt_append : MtM _ _ _) pe_w pa_w) (wE_of (pe_var (i := 17) rfl (Or.inl rfl) (by decide) (by decide)) ⟨.ref p, h17, .inl ⟨rfl, _, sq_of hp7⟩, wA_of (pa_cons pe_w pa_nil) ?_⟩))
      refine wE_of pe_int ?_
      refine ⟨p, xs, .int 0, rfl, rfl, hp7, Nat.lt_of_le_of_lt hlen (by decide), ?_⟩
      refine b_nil (b_nil (hN2 _ _ (ρ4 b ad.x L m me ws t r0 r8 (.dat (.int key)) (.dat (.tuple (dI (single m me ps.length)))) (.dat (.int x)) (.dat ((someL m me ps.length x).getD i .none)) r13 r14 (.dat due) (.dat (.int again)) .any r18 r19) ((bx, SD.at S1 t), dP ps) ⟨_, _, _, rfl, hat, rfl⟩ ?_ (W2.fr _ H4 H7 p xs _ ⟨sok_noL hat, noLs_dP ps⟩ R4 (fr p rfl) R7 x47 nm hp7)))
      exact Slots.unset 17 (hσ.ex (e4.trans (ex_upd (exId _) (fr p rfl) x47)))
  · obtain ⟨S1, r16', r17', rfl, hS1, rfl⟩ := hJ2
    exact st_thru (k _ _ _ _ hS1)
end
end K04
namespace K04
open PySem PySem.Spec L2 Evl DV LamX NdefX
open PyProof.Rows hiding St cutD
theorem keys_known (num : Int) (m : Nat) : knownD num m m = ktD ((othersL num m).map fun (j : Nat) => ((.inl (j : Int) : L2.Key), List.replicate m (0 : Int))) := by
  unfold knownD ktD othersL
  rw [List.map_map]
  refine List.map_congr_left fun j _ => ?_
  show (_, zerosD m) = (_, PyData.tuple (dI (List.replicate m 0)))
  rw [dI_zero]
theorem moms_S0 (num : Int) (m : Nat) (ws : List Str) : momsD (S0 num m ws) = List.replicate (knownD num m m).length .none := by
  show (knownD num m m).map (momD (S0 num m ws)) = _
  rw [List.eq_replicate_iff]
  refine ⟨List.length_map _, fun x hx => ?_⟩
  obtain ⟨kv, _, rfl⟩ := List.mem_map.mp hx
  rfl
theorem others_all : ∀ m, m < 6 → ∀ n, n < m → ((List.range m).filter fun (j : Nat) => !decide ((j : Int) = (n : Nat))).length + 1 = m := by decide +kernel
theorem others_len {num : Int} {m : Nat} (h0 : 0 ≤ num) (h : num < m) (h5 : m ≤ 5) : (othersL num m).length + 1 = m := by
  have hn : num = ((num.toNat : Nat) : Int) := by omega
  have := others_all m (by omega) num.toNat (by omega)
  rw [← hn] at this
  exact this
end K04
namespace K04
open PySem PySem.Spec L2 Evl DV LamX NdefX
open PyProof.Rows hiding St cutD
theorem ok_pts (m me : Nat) (h5 : m ≤ 5) : ∀ {ps : List Pt}, (∀ p ∈ ps, p.past.length ≤ 5) → okAll (dP ps) = true
  | [], _ => rfl
  | p :: ps, h => by
    have hp : okD (ptD p) = true := by
      show (decide ((ptL p).length ≤ 1000) && (true && (true && (okD (.tuple (dI p.past)) && (true && (true && (true && true))))))) = true
      have : okD (.tuple (dI p.past)) = true := by
        show (decide ((dI p.past).length ≤ 1000) && okAll (dI p.past)) = true
        rw [ok_allI, List.length_map, decide_eq_true (by have := h p List.mem_cons_self; omega)]
        rfl
      rw [this]
      rfl
    show (okD (ptD p) && okAll (dP ps)) = true
    rw [hp, ok_pts m me h5 fun q hq => h q (List.mem_cons_of_mem _ hq)]
    rfl
def endD (ps : List Pt) : PyData := .list [.list (dP ps), .int (ps.length : Nat), .list []]
theorem end_ok {m me : Nat} {ps : List Pt} (h : Ch m me ps) (h5 : m ≤ 5) (hn : ps.length ≤ 41) : okD (endD ps) = true ∧ (endD ps).depth ≤ 4 := by
  have hp : ∀ p ∈ ps, p.past.length ≤ 5 := fun p hp => by
    obtain ⟨i, k1, w1, _, rfl⟩ := ch_mem h hp
    show (single m me i).length ≤ 5
    rw [single_len]
    exact h5
  refine ⟨?_, ?_⟩
  · show (true && ((decide ((dP ps).length ≤ 1000) && okAll (dP ps)) && (true && ((true && true) && true)))) = true
    rw [ok_pts m me h5 hp, List.length_map, decide_eq_true (by omega)]
    rfl
  · have := depth_dP ps
    show max (PyData.depthAll (dP ps) + 1) (max 0 (max (0 + 1) 0)) + 1 ≤ 4
    omega
section
variable {P : Program} {w : World} {K : PySem.W.Frag} {mg : Str → Option Value} {base : Heap} {C : Addr}
theorem kept_sok {m me : Nat} {ws : List Str} {ps : List Pt} {t : Int} {S : SD} (hC : Ch m me ps) (h : Sok m me ws ps t S) (h2 : 2 ≤ m) (h5 : m ≤ 5) (hme : me < m) (hn : ps.length ≤ 41) : gKept S [] (.ok (.dat (.int (ps.length : Nat)))) S := by
  have hl := others_len (num := (me : Int)) (m := m) (by omega) (by omega) h5
  have hne : ((othersL me m).map fun (j : Nat) => ((.inl (j : Int) : L2.Key), List.replicate m (0 : Int))) ≠ [] := fun z => by
    have := congrArg List.length z
    rw [List.length_map] at this
    have : (othersL me m).length = 0 := this
    omega
  have hk := ch_kept hC hne (fun q hq j => by
    obtain ⟨i, _, rfl⟩ := List.mem_map.mp hq
    show (List.replicate m (0 : Int)).getD j 0 = 0
    rw [List.getD_eq_getElem?_getD, List.getElem?_replicate]
    split <;> rfl)
  refine ⟨ps, (othersL me m).map fun (j : Nat) => ((.inl (j : Int) : L2.Key), List.replicate m (0 : Int)), rfl, h.log, by rw [h.known]; exact keys_known me m, by rw [List.length_map]; omega, by rw [List.length_map]; omega, fun q hq => ?_, fun p hp => ?_, by rw [h.many]; exact h5, by omega, rfl, by rw [hk]⟩
  · obtain ⟨j, _, rfl⟩ := List.mem_map.mp hq
    rw [h.many]
    exact List.length_replicate ..
  · obtain ⟨i, k1, w1, _, rfl⟩ := ch_mem hC hp
    rw [h.many]
    exact hme
/-- a turn's end -/
theorem turnE (B : Bl mg) (G : Cals P w K mg base C) {f : Addr} {cdv : Value} {A : Around} {outer : List Env} {sh : Shared} {H : Hp} {E : XK} {M : List Addr} {R : T4 → Hp → Prop} {D : Ends} {b l : Addr} {ad : Ad} {L : Addr} {bx : Bx} {S : SD} {ps : List Pt} {m me : Nat} {ws : List Str} {t : Int} {r0 r8 r9 r10 r11 r12 r13 r14 r15 r16 r17 r18 r19 : Sl}
    (hr : Room 7 (A.deeper (envOfC "law" (defScope sLaw) sh.heap.objs.size f cdv))) (W : W4 K C M R b l ad L) (h2 : 2 ≤ m) (hm : m ≤ 5) (hme : me < m) (hn : ps.length ≤ 41) (hC : Ch m me ps) (hS : Sok m me ws ps t S)
    (k : ∀ σ H', Slots K (cut M H') σ (ρ4 b ad.x L m me ws t r0 r8 r9 r10 r11 r12 r13 r14 r15 r16 r17 r18 r19) → R ((bx, S), dP ps) H' → D.nx σ H') :
    St1 (dx P w K mg base nLaw "law" sLaw f cdv A outer sh H E) M R (ρ4 b ad.x L m me ws t r0 r8 r9 r10 r11 r12 r13 r14 r15 r16 r17 r18 r19) (bodyL.drop 5) ((bx, S), dP ps) D := by
  have g := W.g
  obtain ⟨o1, o2⟩ := end_ok hC hm hn
  have hnl := sok_noL hS
  have l1 : (dP ps).length = ps.length := List.length_map _
  have gl : gLogN S [] (.list (dP ps)) S := ⟨rfl, by rw [hS.log], rfl⟩
  have gw : gWaiting0 S [] (.ok (.dat (.list []))) S := ⟨rfl, hS.waits, rfl, rfl⟩
  refine st_if (k := false) (s1 := ((bx, S), dP ps)) (t_not (k := true) (t_val (e_callZ (L := L) (ds := dP ps) (d1 := endD ps) (d2 := endD ps) (d := .bool true) (s1 := ((bx, S), dP ps)) g G.alike hr (by decide) (by rfl) ⟨_, rfl, o1, o2, rfl⟩ rfl ?_ (fun H hR => W.li.at_ hR) (fun xs => ?_)))) (fun h => by cases h) (fun _ => st_thru ?_)
  · exact e_lst g (ds := [.list (dP ps), .int (ps.length : Nat), .list []]) (s1 := ((bx, S), dP ps)) (a_cons (s1 := ((bx, S), dP ps)) (n_sM0 (pl := _) (get := fun s : T4 => s.1.2) (put := fun (s : T4) S => ((s.1.1, S), s.2)) (s1 := ((bx, S), dP ps)) g W.si G.log hr (by decide) (v 5) rfl gl rfl).ev
      (a_cons (s1 := ((bx, S), dP ps)) (e_sM0 (pl := _) (get := fun s : T4 => s.1.2) (put := fun (s : T4) S => ((s.1.1, S), s.2)) (s1 := ((bx, S), dP ps)) g W.si G.kept hr (by decide) (v 5) rfl (kept_sok hC hS h2 hm hme hn) rfl)
      (a_cons (s1 := ((bx, S), dP ps)) (e_sM0 (pl := _) (get := fun s : T4 => s.1.2) (put := fun (s : T4) S => ((s.1.1, S), s.2)) (s1 := ((bx, S), dP ps)) g W.si G.wait hr (by decide) (v 5) rfl gw rfl) a_nil))) (by show 3 ≤ 100000; decide)
  · have gZ : Rg (rmA L M) (RZ K M R L xs (dP ps)) := RZ.rg g
    refine e_lst gZ (ds := [.list (dP ps), .int (ps.length : Nat), .list []]) (s1 := ((bx, S), dP ps)) (a_cons (s1 := ((bx, S), dP ps)) (e_asD (v 6) (fun H h => RZ.dv h)) (a_cons (s1 := ((bx, S), dP ps)) (ev_r (e_lenL (ds := dP ps) (by rfl) B.len (a1 (e_asD (v 6) (fun H h => RZ.dv h)))) (by rw [l1])) (a_cons (s1 := ((bx, S), dP ps)) (e_lst gZ (ds := []) a_nil (by simp)) a_nil))) (by show 3 ≤ 100000; decide)
  · refine st_expr (s1 := ((bx, S), dP ps)) (e_clearN g W.fr ⟨hnl, noLs_dP ps⟩ (n_sM0 (pl := _) (get := fun s : T4 => s.1.2) (put := fun (s : T4) S => ((s.1.1, S), s.2)) (s1 := ((bx, S), dP ps)) g W.si G.log hr (by decide) (v 5) rfl gl rfl)) (st_nil k)
/-- Site(..): it stands beside the state -/
theorem w_site {T : Type} {X : Cx} {M : List Addr} {R : T → Hp → Prop} {ρ : List Sl} {s s1 : T} {CSi : Addr} {num : Int} {m : Nat} {ws : List Str} {e : Expr} {es : List Expr} {px pos : Pos} {σ : St} {H : Hp} {Q : VK} {j : Nat} (g : Rg M R) (cMk : Mkr X.prog X.w X.K X.mg X.base "Site" CSi 3 [] (fun us _ => us) 3 (spSite X.K CSi)) (hr : Room j X.A) (hj : 4 ≤ j) (hg : Gl X "Site")
    (ha : EvA1 X M R ρ (e :: es) s [.dat (.int num), .dat (.int m), .dat (.tuple (ws.map .str))] s1) (h0 : 0 ≤ num) (h1 : num < m) (h2 : 2 ≤ m) (h5 : m ≤ 5) (hws : okRules ws) (hσ : Slots X.K (cut M H) σ ρ) (hR : R s H)
    (q : ∀ (ad : Ad) (H' : Hp), Ex (cut M H) (cut (ad.m ++ M) H') → RS X.K CSi M R ad (s1, S0 num m ws) H' → Q (.ref ad.x) H')
    (hst : starEach (e :: es) X.env = (false, eval e X.env) :: starEach es X.env := by rfl) (hpl : ((backTo pos (starEach (e :: es) X.env)).any (·.1) || (backToKw pos (keywordEach [] X.env)).any (·.1.isNone)) = false := by rfl) : wE X (.Call (.Name "Site" px) (e :: es) [] pos) σ H Q := by
  refine w_make (M := M) (R := R) (s := s) (s1 := s1) (s2 := s1) (zs := []) cMk hr hj hg passL ha k_nil hσ hR rfl rfl (fun vs us H1 a dx e1 d1 d2 R1 na nd ne => ?_) (by rfl) (by rfl) (by decide) hst hpl
  obtain ⟨v1, v2, v3, hvs, z1, z2, z3⟩ := svall3 d1
  subst hvs
  rw [sv_int z1, sv_int z2]
  have eL := ex_laid (o1 := .own a) (o2 := .ins CSi dx []) na nd ne
  refine ⟨M, a, dx, num, m, ws, v3, rfl, upd_same, by rw [upd_ne ne, upd_same], ne, fun q mq => g.dom (g.up R1 eL) mq, dp_ex (fun q o hq => ?_) _ _ z3, h2, h5, h0, h1, hws, fun ad H' hx hdx hold hfr sa => ⟨rfl, ?_⟩⟩
  · obtain ⟨n, hq⟩ := cut_some hq
    have q1 : q ≠ a := fun z => by rw [z, na] at hq; cases hq
    have q2 : q ≠ dx := fun z => by rw [z, nd] at hq; cases hq
    rw [cut_out fun z => (List.mem_cons.mp z).elim q1 fun z => (List.mem_cons.mp z).elim q2 n, upd_ne q1, upd_ne q2]
    exact hq
  · have out : ∀ q o, H1 q = some o → q ∉ ad.m ∧ H' q = some o := fun q o hq => by
      have q1 : q ≠ a := fun z => by rw [z, na] at hq; cases hq
      have q2 : q ≠ dx := fun z => by rw [z, nd] at hq; cases hq
      refine ⟨fun mq => ?_, hold q o q1 (eL q o hq)⟩
      rcases hfr q mq with z | z | z
      · exact q1 z
      · exact q2 z
      · rw [eL q o hq] at z; cases z
    have eS : Ex (cut M H) (cut (ad.m ++ M) H') := fun q o hq => by
      obtain ⟨n, h1⟩ := cut_some (e1 q o hq)
      obtain ⟨n2, h3⟩ := out q o h1
      rw [cut_out fun z => (List.mem_append.mp z).elim n2 n]
      exact h3
    rw [← hx]
    exact q ad H' eS ⟨g.up R1 fun q o hq => by rw [cut_out (out q o hq).1]; exact (out q o hq).2, sa⟩
end
end K04
namespace K04
open PySem PySem.Spec L2 Evl DV LamX NdefX
open PyProof.Rows hiding St cutD
def spLaw (K : PySem.W.Frag) : Sp := fun vs H Q _ => ∃ (a : Addr) (ns : List Int), vs = [.ref a] ∧ SqL K H a (ns.map V.int) ∧ ns.length ≤ 63 ∧ (∀ z ∈ ns, Builtin.Int.intBits z ≤ 1048576) ∧ ∀ H', Q (.bl true) H'
abbrev ρ0 (b : Addr) : List Sl := [.any, .raw (.ref b), .any, .any, .any, .any, .any, .any, .any, .any, .any, .any, .any, .any, .any, .any, .any, .any, .any, .any]
theorem bodyL_4 : bodyL.drop 4 = (.If (match bodyL.getD 4 (.Pass ⟨0, 0, 0, 0⟩) with | .If c _ _ _ => c | _ => .Constant .none 0 ⟨0, 0, 0, 0⟩) putB lookB (match bodyL.getD 4 (.Pass ⟨0, 0, 0, 0⟩) with | .If _ _ _ p => p | _ => ⟨0, 0, 0, 0⟩)) :: bodyL.drop 5 := rfl
section
variable {P : Program} {w : World} {K : PySem.W.Frag} {mg : Str → Option Value} {base : Heap} {C : Addr}
/-- the loop -/
theorem law_loop (B : Bl mg) (G : Cals P w K mg base C) {f : Addr} {cdv : Value} {A : Around} {outer : List Env} {sh : Shared} {H : Hp} {E : XK} {M : List Addr} {R : T4 → Hp → Prop} {D : Ends} {b l : Addr} {ad : Ad} {L : Addr} {bx : Bx} {S : SD} {m me : Nat} {ws : List Str} {t : Int}
    (hr : Room 7 (A.deeper (envOfC "law" (defScope sLaw) sh.heap.objs.size f cdv))) (W : W4 K C M R b l ad L) (h2 : 2 ≤ m) (hm : m ≤ 5) (hme : me < m) (hws : okRules ws) (h0 : 0 ≤ t) (ht : t ≤ 100) (hS : Sok m me ws [] t S) (k : ∀ v H', v = .bl true → D.rt v H') :
    St1 (dx P w K mg base nLaw "law" sLaw f cdv A outer sh H E) M R (ρ4 b ad.x L m me ws t .any .any .any .any .any .any .any .any .any .any .any .any .any) ((defBody sLaw).drop 4) ((bx, S), []) D := by
  have tk : ∀ (s : Bx) (n : Nat), 0 < n → ∃ j : Nat, takeV s n = j ∧ j < n := fun s n hn => by
    have a := takeV_nonneg (st := s) (n := (n : Int)) (by omega)
    have b := takeV_lt (st := s) (n := (n : Int)) (by omega)
    exact ⟨(takeV s n).toNat, by omega, by omega⟩
  obtain ⟨q, eq, hq⟩ := tk bx 41 (by decide)
  refine st_for (s1 := ((takeS bx 41, S), [])) (n := q) W.g (fun i ρ' s' => ∃ (bx : Bx) (S : SD) (ps : List Pt) (t : Int) (r0 r8 r9 r10 r11 r12 r13 r14 r15 r16 r17 r18 r19 : Sl), s' = ((bx, S), dP ps) ∧ Sok m me ws ps t S ∧ Ch m me ps ∧ ps.length ≤ i ∧ 0 ≤ t ∧ t ≤ 100 + 8 * (i : Int) ∧ ρ' = ρ4 b ad.x L m me ws t r0 r8 r9 r10 r11 r12 r13 r14 r15 r16 r17 r18 r19) (passes_of rfl) rfl (pg_name (i := 8) scLaw.nd rfl (Or.inl rfl))
    (i_rngN (n := q) (by rfl) B.range (by omega) (a1 ?_)) ⟨_, S, [], t, _, _, _, _, _, _, _, _, _, _, _, _, _, rfl, hS, ch_nil m me, by simp, h0, by omega, rfl⟩ (fun i ρi si H1 hi hJ g1 => ?_) (fun ρ' s' hJ => ?_)
  · rw [← eq]
    exact e_take (get := fun s : T4 => s.1.1) (put := fun (s : T4) t => ((t, s.1.2), s.2)) (s1 := ((bx, S), [])) W.bi G.take hr (by decide) (by rfl) (by decide) (by decide) (a_cons (v 1) (a_cons e_int a_nil))
  · obtain ⟨bx1, S1, ps, t1, r0, r8, r9, r10, r11, r12, r13, r14, r15, r16, r17, r18, r19, rfl, hS1, hC, hn, ht0, ht1, rfl⟩ := hJ
    have W1 := W.rx H1
    refine ⟨_, tg0_name, fun N hN => ?_⟩
    have hn40 : ps.length ≤ 40 := by omega
    refine turn1 B G hr W1 hm hn40 hws fun bx2 key x j t2 hkey hle1 hle2 hx hj => ?_
    rw [bodyL_4]
    have hS2 := sok_le hS1 hle1
    have ht2 : t2 ≤ 1000000 := by omega
    obtain ⟨c, ec, hc⟩ := tk bx2 2 (by decide)
    refine st_if (k := PyData.eqv (.int (c : Nat)) (.int 0)) (s1 := ((takeS bx2 2, S1), dP ps)) (t_eqD (d1 := .int (c : Nat)) (d2 := .int 0) (s1 := ((takeS bx2 2, S1), dP ps)) hr.units ?_ e_int rfl rfl) (fun _ => ?_) (fun _ => ?_)
    · rw [← ec]
      exact e_take (get := fun s : T4 => s.1.1) (put := fun (s : T4) t => ((t, s.1.2), s.2)) (s1 := ((bx2, S1), dP ps)) W1.bi G.take hr (by decide) (by rfl) (by decide) (by decide) (a_cons (v 1) (a_cons e_int a_nil))
    · refine turnP B G hr W1 h2 hm hme hn40 hws hkey hx hj ht2 hS2 fun bx3 S3 worth r13' r14' hS3 => ?_
      have hl3 : (ps ++ [nthP m me ps.length key worth]).length = ps.length + 1 := by rw [List.length_append]; rfl
      refine turnE B G hr W1 h2 hm hme (by omega) (ch_app hC _ _) hS3 fun σ H2 hσ hR => ?_
      exact hN σ H2 _ _ ⟨_, _, _, t2, _, _, _, _, _, _, _, _, _, _, _, _, _, rfl, hS3, ch_app hC _ _, by omega, by omega, by omega, rfl⟩ hσ hR
    · refine turnL B G hr W1 h2 hm hme hn40 hws hkey hx hj ht2 hC hS2 fun S3 r15' r16' r17' hS3 => ?_
      refine turnE B G hr W1 h2 hm hme (by omega) hC hS3 fun σ H2 hσ hR => ?_
      exact hN σ H2 _ _ ⟨_, _, _, t2, _, _, _, _, _, _, _, _, _, _, _, _, _, rfl, hS3, hC, by omega, by omega, by omega, rfl⟩ hσ hR
  · obtain ⟨bx1, S1, ps, t1, r0, r8, r9, r10, r11, r12, r13, r14, r15, r16, r17, r18, r19, rfl, _, _, _, _, _, rfl⟩ := hJ
    exact st_ret e_bl fun v H' R' sv => k v H' (sv_bl sv)
theorem law_fn {fa : Addr} {dV kV doc pm ct oc cdv : Value} {an od : Option Addr} {osl : Array (Option Value)} (lk : K.lookup fa = some ⟨oc, od, .func (PySem.W.fnOf "law" "law" (defArgs sLaw) (defBody sLaw) (defScope sLaw) dV kV doc pm an cdv ct), osl⟩) (hcd : PySem.W.codeIn K cdv "law" = true)
    (B : Bl mg) (G : Cals P w K mg base C) : FnOk P w K mg base (L2.CX P w) 8 fa (PySem.W.fnOf "law" "law" (defArgs sLaw) (defBody sLaw) (defScope sLaw) dV kV doc pm an cdv ct) ["_law_script"] (spLaw K) := by
  refine fn_of lk hcd scLaw (fun vs H Q E ⟨_, _, e, _⟩ => by rw [e]; rfl) fun A outer s H vs Q E hr hsp => ?_
  obtain ⟨a, ns, rfl, hS, hl, hbits, q⟩ := hsp
  refine ⟨_, pss_w, ?_⟩
  show wB (dx P w K mg base nLaw "law" sLaw fa cdv A outer s H E) (defBody sLaw) _ _ H
  refine b_set 1 (w_call (M := []) (R := fun (_ : Unit) H' => Ex H H') (s := ()) (s1 := ()) (rs := [.raw (.ref a)]) (ρ := [.raw (.ref a), .any, .any, .any, .any, .any, .any, .any, .any, .any, .any, .any, .any, .any, .any, .any, .any, .any, .any, .any]) G.begun hr (by decide) (by rfl) passL (a_cons (v 0) a_nil) ⟨rfl, trivial, trivial, trivial, trivial, trivial, trivial, trivial, trivial, trivial, trivial, trivial, trivial, trivial, trivial, trivial, trivial, trivial, trivial, trivial, trivial⟩ (exId _) (fun vs H1 e1 d1 R1 => ?_)) scLaw.nd rfl (Or.inl rfl)
  obtain ⟨u, hu, dz⟩ := svall1 d1
  subst hu
  have dz : u = .ref a := dz
  subst dz
  refine ⟨a, ns, rfl, ex_l R1 hS, hl, hbits, fun H' b l e2 nb nl bx => ?_⟩
  have tk : ∀ (s : Bx) (n : Nat), 0 < n → ∃ j : Nat, takeV s n = j ∧ j < n := fun s n hn => by
    have a := takeV_nonneg (st := s) (n := (n : Int)) (by omega)
    have b := takeV_lt (st := s) (n := (n : Int)) (by omega)
    exact ⟨(takeV s n).toNat, by omega, by omega⟩
  have g := RB.rg (b := b) (l := l)
  have BI := RB.box (b := b) (l := l)
  have main : St1 (dx P w K mg base nLaw "law" sLaw fa cdv A outer s H E) [b, l] (RB b l) (ρ0 b) ((defBody sLaw).drop 1) (begunS ns) { nx := fun _ H' => Q .non H', rt := Q } := by
    generalize begunS ns = st
    have t0 := takeV_nonneg (st := st) (n := 4) (by decide)
    have t1 := takeV_lt (st := st) (n := 4) (by decide)
    obtain ⟨m, hm, m2, m5⟩ : ∃ m : Nat, (2 + takeV st 4 : Int) = m ∧ 2 ≤ m ∧ m ≤ 5 := ⟨(2 + takeV st 4).toNat, by omega, by omega, by omega⟩
    refine st_par (i := 2) (j := 3) (ra := .dat (.int (m : Int))) (rb := .dat (.tuple ((rulV (takeS (takeS st 4) 6) (rulN (takeS st 4))).map .str))) (s1 := rulS (takeS (takeS st 4) 6) (rulN (takeS st 4))) rfl scLaw.nd rfl rfl (by decide) rfl rfl
      (a_cons (by rw [← hm]; exact e_add e_int (e_take BI G.take hr (by decide) (by rfl) (by decide) (by decide) (a_cons (v 1) (a_cons e_int a_nil)))) (a_cons (e_boxed g BI G.rules hr (by decide) (by rfl) ⟨rfl, rfl, rfl⟩ (a_cons (v 1) a_nil)) a_nil)) ?_ (fun h => ps_par rfl scLaw.nd rfl rfl (by decide) rfl rfl h (by rfl))
    have hok := rul_ok (takeS st 4) (takeS (takeS st 4) 6)
    generalize rulV (takeS (takeS st 4) 6) (rulN (takeS st 4)) = ws at hok ⊢
    generalize rulS (takeS (takeS st 4) 6) (rulN (takeS st 4)) = s2
    obtain ⟨me, eme, hme⟩ := tk s2 m (by omega)
    refine st_set 4 (r := .dat (.int (me : Nat))) (s1 := takeS s2 m) scLaw.nd rfl (Or.inr rfl) ?_ ?_
    · rw [← eme]
      exact e_take BI G.take hr (by decide) (by rfl) (by omega) (by have := log_small (i := (m : Int)) (by omega) (by omega); omega) (a_cons (v 1) (a_cons (v 2) a_nil))
    generalize takeS s2 m = s3
    obtain ⟨t, et, ht⟩ := tk s3 100 (by decide)
    intro σ H0 hσ hR
    refine wB_cons (wS_of (ps_asg (pe_tup (pa_cons pe_w (pa_cons pe_w (pa_cons pe_w pa_nil)))) (pg_tup rfl (pgs_cons (pg_name (i := 5) scLaw.nd rfl (Or.inl rfl)) (pgs_cons (pg_name (i := 6) scLaw.nd rfl (Or.inr rfl)) (pgs_cons (pg_name (i := 7) scLaw.nd rfl (Or.inl rfl)) pgs_nil))))) ?_)
    refine w_site (num := (me : Int)) (m := m) (ws := ws) (s := s3) (s1 := s3) g G.site hr (by decide) (by rfl) (a_cons (v 4) (a_cons (v 2) (a_cons (v 3) a_nil))) (by omega) (by omega) m2 m5 hok hσ hR fun ad H1 x1 q1 => ?_
    have g1 : Rg (ad.m ++ [b, l]) (RS K C [b, l] (RB b l) ad) := RS.rg g
    have σ1 := hσ.ex x1
    refine f_lst (ds := []) (s := (s3, S0 me m ws)) (s1 := (s3, S0 me m ws)) a_nil (by simp) σ H1 _ σ1 q1 fun L H2 x2 q2 => ?_
    have σ2 := σ1.ex x2
    have W : W4 K C (L :: (ad.m ++ [b, l])) (RL K (ad.m ++ [b, l]) (RS K C [b, l] (RB b l) ad) L) b l ad L :=
      ⟨RL.rg g1, BI.rs.rl, (RS.site g).rl L, RL.list g1, fun st H1 H p xs ys hg => (FrameG.rl (FrameG.rs RB.frame) L) st H1 H p xs ys ⟨⟨trivial, hg.1⟩, hg.2⟩⟩
    refine (e_take (get := fun s : T4 => s.1.1) (put := fun (s : T4) t => ((t, s.1.2), s.2)) (s := ((s3, S0 me m ws), [])) (s1 := ((s3, S0 me m ws), [])) W.bi G.take hr (by decide) (by rfl) (by decide) (by decide) (a_cons (v 1) (a_cons e_int a_nil))) σ H2 _ σ2 q2 fun u H3 x3 q3 sv => ?_
    have hu : u = .int (t : Nat) := by rw [sv_int sv]; exact congrArg V.int et
    subst hu
    refine ⟨by show 3 ≤ sizeLine; decide, fun p np => ?_⟩
    have x4 : Ex H3 (upd H3 p (.tup [.ref ad.x, .ref L, .int (t : Nat)])) := Ex.new np
    refine ⟨p, _, rfl, st_of upd_same, rfl, _, _, rfl, _, _, rfl, _, _, rfl, rfl, ?_⟩
    refine law_loop (bx := takeS s3 100) (S := S0 me m ws) (t := (t : Nat)) B G hr W m2 m5 hme hok (by omega) (by omega) (sok_0 (by omega)) (fun v H' e => by rw [e]; exact q H') _ _ ?_ (W.g.up q3 x4)
    have σ4 := (σ2.ex x3).ex (exCut (M := L :: (ad.m ++ [b, l])) x4)
    exact Slots.set (r := .dat (.int (t : Nat))) (v := .int (t : Nat)) (.int _) 7 (Slots.set (r := .raw (.ref L)) (v := .ref L) rfl 6 (Slots.set (r := .raw (.ref ad.x)) (v := .ref ad.x) rfl 5 σ4))
  exact main _ H' ⟨trivial, rfl, trivial, trivial, trivial, trivial, trivial, trivial, trivial, trivial, trivial, trivial, trivial, trivial, trivial, trivial, trivial, trivial, trivial, trivial, trivial⟩ bx
end
end K04
namespace DV
open PySem PySem.Spec L2 Evl LamX NdefX
open PyProof.Rows hiding St cutD
/-! ### what the top has written -/
section
variable {K : PySem.W.Frag} {mg : Str → Option Value} {h : Heap}
theorem def_mk {x : Str} {st : Stmt} {ps : List Str} {f : Addr} {oc : Value} {od an : Option Addr} {osl : Array (Option Value)} {kV doc pm cdv ct : Value} (X : K.In h) (G : h.Ns mainGlobals mg) (a : PySem.W.nsIn K mainGlobals x = some (some (.ref f)))
    (l : K.lookup f = some ⟨oc, od, .func (PySem.W.fnOf x x (defArgs st) (defBody st) (defScope st) .none kV doc pm an cdv ct), osl⟩) (c : PySem.W.codeIn K cdv x = true) (k : PySem.W.keepIn K (.ref f) = true)
    (b : ∀ (kV doc pm : Value) (an : Option Addr) (cdv ct : Value) (us : List Value), us.length = ps.length → bindArgs (PySem.W.fnOf x x (defArgs st) (defBody st) (defScope st) .none kV doc pm an cdv ct) ⟨us, []⟩ = pure (ps.zip us)) : Def K mg x st ps :=
  ⟨f, _, fun_mk l c k, PySem.W.mg_of X G a, (fun_mk l c k).binds b⟩
theorem kit_ref {C D : Addr} {b : Bool} (h1 : PySem.W.isClsIn K D = true) (h2 : PySem.W.typeIn K (.ref D) = some (.type "type")) (h3 : PySem.W.subIn K (.ref C) (.ref D) = some b) (h4 : C ≠ D ∨ b = true) : PySem.W.kitOne K (.ref C) (.ref D) = some b := by
  have e2 : ((PySem.W.clsIn K D).isSome && PySem.W.typeIn K (.ref D) == some (.type "type")) = true := by
    have h1' : (PySem.W.clsIn K D).isSome = true := h1
    rw [h1', h2] <;> rfl
  show (if (Value.ref C == Value.ref D) = true then some true else if ((PySem.W.clsIn K D).isSome && PySem.W.typeIn K (.ref D) == some (.type "type")) = true then PySem.W.subIn K (.ref C) (.ref D) else none) = some b
  by_cases z : (Value.ref C == Value.ref D) = true
  · rw [if_pos z]
    rcases h4 with h4 | h4
    · refine absurd ?_ h4
      have := beq_iff_eq.mp z
      exact Value.ref.inj this
    · rw [h4]
  · rw [if_neg z, if_pos e2]
    exact h3
theorem kit_type {C : Addr} {T : String} {b : Bool} (h1 : PySem.W.kitMeta T = true) (h3 : PySem.W.subIn K (.ref C) (.type T) = some b) : PySem.W.kitOne K (.ref C) (.type T) = some b := by
  show (if (Value.ref C == Value.type T) = true then some true else if PySem.W.kitMeta T = true then PySem.W.subIn K (.ref C) (.type T) else none) = some b
  have z : (Value.ref C == Value.type T) = false := rfl
  rw [z, if_neg Bool.false_ne_true, if_pos h1]
  exact h3
/-- a class beside the class C -/
structure KC (K : PySem.W.Frag) (mg : Str → Option Value) (C : Addr) (x : Str) (b : Bool) : Prop where
  ex : ∃ D, mg x = some (.ref D) ∧ PySem.W.kitOne K (.ref C) (.ref D) = some b
theorem kc_mk {x : Str} {C D : Addr} {b : Bool} (X : K.In h) (G : h.Ns mainGlobals mg) (a : PySem.W.nsIn K mainGlobals x = some (some (.ref D))) (h1 : PySem.W.isClsIn K D = true) (h2 : PySem.W.typeIn K (.ref D) = some (.type "type")) (h3 : PySem.W.subIn K (.ref C) (.ref D) = some b) (h4 : C ≠ D ∨ b = true) :
    KC K mg C x b := ⟨D, PySem.W.mg_of X G a, kit_ref h1 h2 h3 h4⟩
theorem look_mem {α : Type} {l : List (Addr × α)} {a : Addr} {x : α} (h : l.lookup a = some x) : a ∈ l.map (·.1) := by
  induction l with
  | nil => cases h
  | cons p r ih =>
    obtain ⟨b, y⟩ := p
    rw [List.lookup_cons] at h
    cases e : a == b with
    | true => rw [beq_iff_eq.mp e]; exact List.mem_cons_self
    | false =>
      rw [e] at h
      exact List.mem_cons_of_mem _ (ih h)
theorem no_tab {K : Params → PySem.W.Frag} {as : List Addr} {e : ∀ P, as = (K P).map (·.1)} {ts : List Addr} {w : World} {h : Heap} {T : Addr} (Y : (PySem.W.kmHook K as e ts).says w h) (n : as.contains T = false) : (K w.params).lookup T = none := by
  cases q : (K w.params).lookup T with
  | none => rfl
  | some o =>
    have hm : T ∈ as := by
      rw [e w.params]
      exact look_mem q
    rw [List.contains_eq_mem, decide_eq_true hm] at n
    cases n
end
end DV
namespace K04
open PySem PySem.Spec L2 Evl DV LamX NdefX
open PyProof.Rows hiding St cutD
theorem all_mk {l : PySem.W.OpenLaw} {w : World} {K : PySem.W.Frag} {h : Heap} {mg : Str → Option Value} {fa : Addr}
    {fl : Addr} {odL anL : Option Addr} {slL : Array (Option Value)} {ocL kVL dcL pmL cdL ctL : Value}
    {f0 : Addr} {od0 an0 : Option Addr} {sl0 : Array (Option Value)} {oc0 kV0 dc0 pm0 cd0 ct0 : Value}
    {f1 : Addr} {od1 an1 : Option Addr} {sl1 : Array (Option Value)} {oc1 kV1 dc1 pm1 cd1 ct1 : Value}
    {f2 : Addr} {od2 an2 : Option Addr} {sl2 : Array (Option Value)} {oc2 kV2 dc2 pm2 cd2 ct2 : Value}
    {f3 : Addr} {od3 an3 : Option Addr} {sl3 : Array (Option Value)} {oc3 kV3 dc3 pm3 cd3 ct3 : Value}
    {f4 : Addr} {od4 an4 : Option Addr} {sl4 : Array (Option Value)} {oc4 kV4 dc4 pm4 cd4 ct4 : Value}
    {f5 : Addr} {od5 an5 : Option Addr} {sl5 : Array (Option Value)} {oc5 kV5 dc5 pm5 cd5 ct5 : Value}
    {f6 : Addr} {od6 an6 : Option Addr} {sl6 : Array (Option Value)} {oc6 kV6 dc6 pm6 cd6 ct6 : Value}
    {f7 : Addr} {od7 an7 : Option Addr} {sl7 : Array (Option Value)} {oc7 kV7 dc7 pm7 cd7 ct7 : Value}
    {f8 : Addr} {od8 an8 : Option Addr} {sl8 : Array (Option Value)} {oc8 kV8 dc8 pm8 cd8 ct8 : Value}
    {f9 : Addr} {od9 an9 : Option Addr} {sl9 : Array (Option Value)} {oc9 kV9 dc9 pm9 cd9 ct9 : Value}
    {f10 : Addr} {od10 an10 : Option Addr} {sl10 : Array (Option Value)} {oc10 kV10 dc10 pm10 cd10 ct10 : Value}
    {f11 : Addr} {od11 an11 : Option Addr} {sl11 : Array (Option Value)} {oc11 kV11 dc11 pm11 cd11 ct11 : Value}
    {f12 : Addr} {od12 an12 : Option Addr} {sl12 : Array (Option Value)} {oc12 kV12 dc12 pm12 cd12 ct12 : Value}
    {f13 : Addr} {od13 an13 : Option Addr} {sl13 : Array (Option Value)} {oc13 kV13 dc13 pm13 cd13 ct13 : Value}
    {f14 : Addr} {od14 an14 : Option Addr} {sl14 : Array (Option Value)} {oc14 kV14 dc14 pm14 cd14 ct14 : Value}
    {f15 : Addr} {od15 an15 : Option Addr} {sl15 : Array (Option Value)} {oc15 kV15 dc15 pm15 cd15 ct15 : Value}
    {f16 : Addr} {od16 an16 : Option Addr} {sl16 : Array (Option Value)} {oc16 kV16 dc16 pm16 cd16 ct16 : Value}
    {f17 : Addr} {od17 an17 : Option Addr} {sl17 : Array (Option Value)} {oc17 kV17 dc17 pm17 cd17 ct17 : Value}
    {f18 : Addr} {od18 an18 : Option Addr} {sl18 : Array (Option Value)} {oc18 kV18 dc18 pm18 cd18 ct18 : Value}
    {f19 : Addr} {od19 an19 : Option Addr} {sl19 : Array (Option Value)} {oc19 kV19 dc19 pm19 cd19 ct19 : Value}
    {f20 : Addr} {od20 an20 : Option Addr} {sl20 : Array (Option Value)} {oc20 kV20 dc20 pm20 cd20 ct20 : Value}
    {f21 : Addr} {od21 an21 : Option Addr} {sl21 : Array (Option Value)} {oc21 kV21 dc21 pm21 cd21 ct21 : Value}
    {f22 : Addr} {od22 an22 : Option Addr} {sl22 : Array (Option Value)} {oc22 kV22 dc22 pm22 cd22 ct22 : Value}
    {f23 : Addr} {od23 an23 : Option Addr} {sl23 : Array (Option Value)} {oc23 kV23 dc23 pm23 cd23 ct23 : Value}
    {Si : Addr}
    {f30 : Addr} {od30 an30 : Option Addr} {sl30 : Array (Option Value)} {oc30 kV30 dc30 pm30 cd30 ct30 : Value}
    {f32 : Addr} {od32 an32 : Option Addr} {sl32 : Array (Option Value)} {oc32 kV32 dc32 pm32 cd32 ct32 : Value}
    {f33 : Addr} {od33 an33 : Option Addr} {sl33 : Array (Option Value)} {oc33 kV33 dc33 pm33 cd33 ct33 : Value}
    {f34 : Addr} {od34 an34 : Option Addr} {sl34 : Array (Option Value)} {oc34 kV34 dc34 pm34 cd34 ct34 : Value}
    {f36 : Addr} {od36 an36 : Option Addr} {sl36 : Array (Option Value)} {oc36 kV36 dc36 pm36 cd36 ct36 : Value}
    {f37 : Addr} {od37 an37 : Option Addr} {sl37 : Array (Option Value)} {oc37 kV37 dc37 pm37 cd37 ct37 : Value}
    {f38 : Addr} {od38 an38 : Option Addr} {sl38 : Array (Option Value)} {oc38 kV38 dc38 pm38 cd38 ct38 : Value}
    {f39 : Addr} {od39 an39 : Option Addr} {sl39 : Array (Option Value)} {oc39 kV39 dc39 pm39 cd39 ct39 : Value}
    {f40 : Addr} {od40 an40 : Option Addr} {sl40 : Array (Option Value)} {oc40 dc40 pm40 cd40 ct40 : Value}
    {D40 : Addr}
    {f41 : Addr} {od41 an41 : Option Addr} {sl41 : Array (Option Value)} {oc41 dc41 pm41 cd41 ct41 : Value}
    {D41 : Addr}
    {Wd : Addr} {oWd : Obj} {itWd : Array Value} {nWd : Nat}
    {Cp K1 K3 K4 K5 : Addr}
    {tkSITE : Tok}
    {tkNUMBER : Tok}
    {tkPAST : Tok}
    {tkTURN : Tok}
    {tkKEY : Tok}
    {tkWORTH : Tok}
    {tkMOST_KEYS : Tok}
    {tkFEWEST_SITES : Tok}
    {tkMOST_SITES : Tok}
    {tkLAST_MOMENT : Tok}
    {tkMOST_WORTH : Tok}
    {tkMOST_PUTS : Tok}
    {Dk : Addr} {esD : Array DictEntry} {nD : Nat}
    (X : K.In h) (G : h.Ns mainGlobals mg) (hfa : mg "law" = some (.ref fa))
    (aL : PySem.W.nsIn K mainGlobals "law" = some (some (.ref fl)))
    (lL : K.lookup fl = some ⟨ocL, odL, .func (PySem.W.fnOf "law" "law" (defArgs sLaw) (defBody sLaw) (defScope sLaw) .none kVL dcL pmL anL cdL ctL), slL⟩)
    (cL : PySem.W.codeIn K cdL "law" = true)
    (a0 : PySem.W.nsIn K mainGlobals "is_whole" = some (some (.ref f0)))
    (l0 : K.lookup f0 = some ⟨oc0, od0, .func (PySem.W.fnOf "is_whole" "is_whole" (defArgs sWhole) (defBody sWhole) (defScope sWhole) .none kV0 dc0 pm0 an0 cd0 ct0), sl0⟩)
    (c0 : PySem.W.codeIn K cd0 "is_whole" = true)
    (k0 : PySem.W.keepIn K (.ref f0) = true)
    (a1 : PySem.W.nsIn K mainGlobals "check_rules" = some (some (.ref f1)))
    (l1 : K.lookup f1 = some ⟨oc1, od1, .func (PySem.W.fnOf "check_rules" "check_rules" (defArgs sChkRules) (defBody sChkRules) (defScope sChkRules) .none kV1 dc1 pm1 an1 cd1 ct1), sl1⟩)
    (c1 : PySem.W.codeIn K cd1 "check_rules" = true)
    (k1 : PySem.W.keepIn K (.ref f1) = true)
    (a2 : PySem.W.nsIn K mainGlobals "is_key" = some (some (.ref f2)))
    (l2 : K.lookup f2 = some ⟨oc2, od2, .func (PySem.W.fnOf "is_key" "is_key" (defArgs sIsKey) (defBody sIsKey) (defScope sIsKey) .none kV2 dc2 pm2 an2 cd2 ct2), sl2⟩)
    (c2 : PySem.W.codeIn K cd2 "is_key" = true)
    (k2 : PySem.W.keepIn K (.ref f2) = true)
    (a3 : PySem.W.nsIn K mainGlobals "check_key" = some (some (.ref f3)))
    (l3 : K.lookup f3 = some ⟨oc3, od3, .func (PySem.W.fnOf "check_key" "check_key" (defArgs sChkKey) (defBody sChkKey) (defScope sChkKey) .none kV3 dc3 pm3 an3 cd3 ct3), sl3⟩)
    (c3 : PySem.W.codeIn K cd3 "check_key" = true)
    (k3 : PySem.W.keepIn K (.ref f3) = true)
    (a4 : PySem.W.nsIn K mainGlobals "place_of" = some (some (.ref f4)))
    (l4 : K.lookup f4 = some ⟨oc4, od4, .func (PySem.W.fnOf "place_of" "place_of" (defArgs sPlace) (defBody sPlace) (defScope sPlace) .none kV4 dc4 pm4 an4 cd4 ct4), sl4⟩)
    (c4 : PySem.W.codeIn K cd4 "place_of" = true)
    (k4 : PySem.W.keepIn K (.ref f4) = true)
    (a5 : PySem.W.nsIn K mainGlobals "turn_of" = some (some (.ref f5)))
    (l5 : K.lookup f5 = some ⟨oc5, od5, .func (PySem.W.fnOf "turn_of" "turn_of" (defArgs sTurn) (defBody sTurn) (defScope sTurn) .none kV5 dc5 pm5 an5 cd5 ct5), sl5⟩)
    (c5 : PySem.W.codeIn K cd5 "turn_of" = true)
    (k5 : PySem.W.keepIn K (.ref f5) = true)
    (a6 : PySem.W.nsIn K mainGlobals "came_behind" = some (some (.ref f6)))
    (l6 : K.lookup f6 = some ⟨oc6, od6, .func (PySem.W.fnOf "came_behind" "came_behind" (defArgs sCame) (defBody sCame) (defScope sCame) .none kV6 dc6 pm6 an6 cd6 ct6), sl6⟩)
    (c6 : PySem.W.codeIn K cd6 "came_behind" = true)
    (k6 : PySem.W.keepIn K (.ref f6) = true)
    (a7 : PySem.W.nsIn K mainGlobals "is_followed" = some (some (.ref f7)))
    (l7 : K.lookup f7 = some ⟨oc7, od7, .func (PySem.W.fnOf "is_followed" "is_followed" (defArgs sFollowed) (defBody sFollowed) (defScope sFollowed) .none kV7 dc7 pm7 an7 cd7 ct7), sl7⟩)
    (c7 : PySem.W.codeIn K cd7 "is_followed" = true)
    (k7 : PySem.W.keepIn K (.ref f7) = true)
    (a8 : PySem.W.nsIn K mainGlobals "held_by_sum" = some (some (.ref f8)))
    (l8 : K.lookup f8 = some ⟨oc8, od8, .func (PySem.W.fnOf "held_by_sum" "held_by_sum" (defArgs sSum) (defBody sSum) (defScope sSum) .none kV8 dc8 pm8 an8 cd8 ct8), sl8⟩)
    (c8 : PySem.W.codeIn K cd8 "held_by_sum" = true)
    (k8 : PySem.W.keepIn K (.ref f8) = true)
    (a9 : PySem.W.nsIn K mainGlobals "held_by_most" = some (some (.ref f9)))
    (l9 : K.lookup f9 = some ⟨oc9, od9, .func (PySem.W.fnOf "held_by_most" "held_by_most" (defArgs sMost) (defBody sMost) (defScope sMost) .none kV9 dc9 pm9 an9 cd9 ct9), sl9⟩)
    (c9 : PySem.W.codeIn K cd9 "held_by_most" = true)
    (k9 : PySem.W.keepIn K (.ref f9) = true)
    (a10 : PySem.W.nsIn K mainGlobals "held_by_last" = some (some (.ref f10)))
    (l10 : K.lookup f10 = some ⟨oc10, od10, .func (PySem.W.fnOf "held_by_last" "held_by_last" (defArgs sLast) (defBody sLast) (defScope sLast) .none kV10 dc10 pm10 an10 cd10 ct10), sl10⟩)
    (c10 : PySem.W.codeIn K cd10 "held_by_last" = true)
    (k10 : PySem.W.keepIn K (.ref f10) = true)
    (a11 : PySem.W.nsIn K mainGlobals "held_by_all" = some (some (.ref f11)))
    (l11 : K.lookup f11 = some ⟨oc11, od11, .func (PySem.W.fnOf "held_by_all" "held_by_all" (defArgs sAllH) (defBody sAllH) (defScope sAllH) .none kV11 dc11 pm11 an11 cd11 ct11), sl11⟩)
    (c11 : PySem.W.codeIn K cd11 "held_by_all" = true)
    (k11 : PySem.W.keepIn K (.ref f11) = true)
    (a12 : PySem.W.nsIn K mainGlobals "plainly" = some (some (.ref f12)))
    (l12 : K.lookup f12 = some ⟨oc12, od12, .func (PySem.W.fnOf "plainly" "plainly" (defArgs sPlainly) (defBody sPlainly) (defScope sPlainly) .none kV12 dc12 pm12 an12 cd12 ct12), sl12⟩)
    (c12 : PySem.W.codeIn K cd12 "plainly" = true)
    (k12 : PySem.W.keepIn K (.ref f12) = true)
    (a13 : PySem.W.nsIn K mainGlobals "check_many" = some (some (.ref f13)))
    (l13 : K.lookup f13 = some ⟨oc13, od13, .func (PySem.W.fnOf "check_many" "check_many" (defArgs sChkMany) (defBody sChkMany) (defScope sChkMany) .none kV13 dc13 pm13 an13 cd13 ct13), sl13⟩)
    (c13 : PySem.W.codeIn K cd13 "check_many" = true)
    (k13 : PySem.W.keepIn K (.ref f13) = true)
    (a14 : PySem.W.nsIn K mainGlobals "nothing" = some (some (.ref f14)))
    (l14 : K.lookup f14 = some ⟨oc14, od14, .func (PySem.W.fnOf "nothing" "nothing" (defArgs sNothing) (defBody sNothing) (defScope sNothing) .none kV14 dc14 pm14 an14 cd14 ct14), sl14⟩)
    (c14 : PySem.W.codeIn K cd14 "nothing" = true)
    (k14 : PySem.W.keepIn K (.ref f14) = true)
    (a15 : PySem.W.nsIn K mainGlobals "is_worth" = some (some (.ref f15)))
    (l15 : K.lookup f15 = some ⟨oc15, od15, .func (PySem.W.fnOf "is_worth" "is_worth" (defArgs sIsWorth) (defBody sIsWorth) (defScope sIsWorth) .none kV15 dc15 pm15 an15 cd15 ct15), sl15⟩)
    (c15 : PySem.W.codeIn K cd15 "is_worth" = true)
    (k15 : PySem.W.keepIn K (.ref f15) = true)
    (a16 : PySem.W.nsIn K mainGlobals "_law_begun" = some (some (.ref f16)))
    (l16 : K.lookup f16 = some ⟨oc16, od16, .func (PySem.W.fnOf "_law_begun" "_law_begun" (defArgs sBegun) (defBody sBegun) (defScope sBegun) .none kV16 dc16 pm16 an16 cd16 ct16), sl16⟩)
    (c16 : PySem.W.codeIn K cd16 "_law_begun" = true)
    (k16 : PySem.W.keepIn K (.ref f16) = true)
    (a17 : PySem.W.nsIn K mainGlobals "_law_take" = some (some (.ref f17)))
    (l17 : K.lookup f17 = some ⟨oc17, od17, .func (PySem.W.fnOf "_law_take" "_law_take" (defArgs sTake) (defBody sTake) (defScope sTake) .none kV17 dc17 pm17 an17 cd17 ct17), sl17⟩)
    (c17 : PySem.W.codeIn K cd17 "_law_take" = true)
    (k17 : PySem.W.keepIn K (.ref f17) = true)
    (a18 : PySem.W.nsIn K mainGlobals "_law_alike" = some (some (.ref f18)))
    (l18 : K.lookup f18 = some ⟨oc18, od18, .func (PySem.W.fnOf "_law_alike" "_law_alike" (defArgs sAlike) (defBody sAlike) (defScope sAlike) .none kV18 dc18 pm18 an18 cd18 ct18), sl18⟩)
    (c18 : PySem.W.codeIn K cd18 "_law_alike" = true)
    (k18 : PySem.W.keepIn K (.ref f18) = true)
    (a19 : PySem.W.nsIn K mainGlobals "_law_rules" = some (some (.ref f19)))
    (l19 : K.lookup f19 = some ⟨oc19, od19, .func (PySem.W.fnOf "_law_rules" "_law_rules" (defArgs sRules) (defBody sRules) (defScope sRules) .none kV19 dc19 pm19 an19 cd19 ct19), sl19⟩)
    (c19 : PySem.W.codeIn K cd19 "_law_rules" = true)
    (k19 : PySem.W.keepIn K (.ref f19) = true)
    (a20 : PySem.W.nsIn K mainGlobals "_law_worth" = some (some (.ref f20)))
    (l20 : K.lookup f20 = some ⟨oc20, od20, .func (PySem.W.fnOf "_law_worth" "_law_worth" (defArgs sWorth) (defBody sWorth) (defScope sWorth) .none kV20 dc20 pm20 an20 cd20 ct20), sl20⟩)
    (c20 : PySem.W.codeIn K cd20 "_law_worth" = true)
    (k20 : PySem.W.keepIn K (.ref f20) = true)
    (a21 : PySem.W.nsIn K mainGlobals "is_token" = some (some (.ref f21)))
    (l21 : K.lookup f21 = some ⟨oc21, od21, .func (PySem.W.fnOf "is_token" "is_token" (defArgs sIsTok) (defBody sIsTok) (defScope sIsTok) .none kV21 dc21 pm21 an21 cd21 ct21), sl21⟩)
    (c21 : PySem.W.codeIn K cd21 "is_token" = true)
    (k21 : PySem.W.keepIn K (.ref f21) = true)
    (a22 : PySem.W.nsIn K mainGlobals "is_token_of" = some (some (.ref f22)))
    (l22 : K.lookup f22 = some ⟨oc22, od22, .func (PySem.W.fnOf "is_token_of" "is_token_of" (defArgs sIsTokOf) (defBody sIsTokOf) (defScope sIsTokOf) .none kV22 dc22 pm22 an22 cd22 ct22), sl22⟩)
    (c22 : PySem.W.codeIn K cd22 "is_token_of" = true)
    (k22 : PySem.W.keepIn K (.ref f22) = true)
    (a23 : PySem.W.nsIn K mainGlobals "stepped" = some (some (.ref f23)))
    (l23 : K.lookup f23 = some ⟨oc23, od23, .func (PySem.W.fnOf "stepped" "stepped" (defArgs sStepped) (defBody sStepped) (defScope sStepped) .none kV23 dc23 pm23 an23 cd23 ct23), sl23⟩)
    (c23 : PySem.W.codeIn K cd23 "stepped" = true)
    (k23 : PySem.W.keepIn K (.ref f23) = true)
    (aCSi : PySem.W.nsIn K mainGlobals "Site" = some (some (.ref Si)))
    (pgSi : PySem.W.plainGet K Si Str.empty = true)
    (hdSi : PySem.W.hasDictIn K Si = true)
    (poSi : PySem.W.plainOver K Si = true)
    (saSi : PySem.W.findIn K (.ref Si) "__setattr__" = some (some (.builtin "object.__setattr__")))
    (mkSi : PySem.W.makesIn K Si = true)
    (kcSi : PySem.W.keepIn K (.ref Si) = true)
    (nfSi0 : PySem.W.findIn K (.ref Si) "_number" = some none)
    (nfSi1 : PySem.W.findIn K (.ref Si) "_many" = some none)
    (nfSi2 : PySem.W.findIn K (.ref Si) "_rules" = some none)
    (nfSi3 : PySem.W.findIn K (.ref Si) "_now" = some none)
    (nfSi4 : PySem.W.findIn K (.ref Si) "_log" = some none)
    (nfSi5 : PySem.W.findIn K (.ref Si) "_applied" = some none)
    (nfSi6 : PySem.W.findIn K (.ref Si) "_turn" = some none)
    (nfSi7 : PySem.W.findIn K (.ref Si) "_waits" = some none)
    (nfSi8 : PySem.W.findIn K (.ref Si) "_known" = some none)
    (nfSi9 : PySem.W.findIn K (.ref Si) "_heard_at" = some none)
    (a30 : PySem.W.findIn K (.ref Si) "__init__" = some (some (.ref f30)))
    (i30 : PySem.W.isFn K (.ref f30) = true)
    (l30 : K.lookup f30 = some ⟨oc30, od30, .func (PySem.W.fnOf "__init__" "Site.__init__" (defArgs (siteM 0)) (defBody (siteM 0)) (defScope (siteM 0)) .none kV30 dc30 pm30 an30 cd30 ct30), sl30⟩)
    (c30 : PySem.W.codeIn K cd30 "Site.__init__" = true)
    (k30 : PySem.W.keepIn K (.ref f30) = true)
    (a32 : PySem.W.findIn K (.ref Si) "waiting" = some (some (.ref f32)))
    (i32 : PySem.W.isFn K (.ref f32) = true)
    (l32 : K.lookup f32 = some ⟨oc32, od32, .func (PySem.W.fnOf "waiting" "Site.waiting" (defArgs (siteM 6)) (defBody (siteM 6)) (defScope (siteM 6)) .none kV32 dc32 pm32 an32 cd32 ct32), sl32⟩)
    (c32 : PySem.W.codeIn K cd32 "Site.waiting" = true)
    (k32 : PySem.W.keepIn K (.ref f32) = true)
    (a33 : PySem.W.findIn K (.ref Si) "log" = some (some (.ref f33)))
    (i33 : PySem.W.isFn K (.ref f33) = true)
    (l33 : K.lookup f33 = some ⟨oc33, od33, .func (PySem.W.fnOf "log" "Site.log" (defArgs (siteM 7)) (defBody (siteM 7)) (defScope (siteM 7)) .none kV33 dc33 pm33 an33 cd33 ct33), sl33⟩)
    (c33 : PySem.W.codeIn K cd33 "Site.log" = true)
    (k33 : PySem.W.keepIn K (.ref f33) = true)
    (a34 : PySem.W.findIn K (.ref Si) "kept" = some (some (.ref f34)))
    (i34 : PySem.W.isFn K (.ref f34) = true)
    (l34 : K.lookup f34 = some ⟨oc34, od34, .func (PySem.W.fnOf "kept" "Site.kept" (defArgs (siteM 8)) (defBody (siteM 8)) (defScope (siteM 8)) .none kV34 dc34 pm34 an34 cd34 ct34), sl34⟩)
    (c34 : PySem.W.codeIn K cd34 "Site.kept" = true)
    (k34 : PySem.W.keepIn K (.ref f34) = true)
    (a36 : PySem.W.findIn K (.ref Si) "_check_now" = some (some (.ref f36)))
    (i36 : PySem.W.isFn K (.ref f36) = true)
    (l36 : K.lookup f36 = some ⟨oc36, od36, .func (PySem.W.fnOf "_check_now" "Site._check_now" (defArgs (siteM 10)) (defBody (siteM 10)) (defScope (siteM 10)) .none kV36 dc36 pm36 an36 cd36 ct36), sl36⟩)
    (c36 : PySem.W.codeIn K cd36 "Site._check_now" = true)
    (k36 : PySem.W.keepIn K (.ref f36) = true)
    (a37 : PySem.W.findIn K (.ref Si) "_check_token" = some (some (.ref f37)))
    (i37 : PySem.W.isFn K (.ref f37) = true)
    (l37 : K.lookup f37 = some ⟨oc37, od37, .func (PySem.W.fnOf "_check_token" "Site._check_token" (defArgs (siteM 11)) (defBody (siteM 11)) (defScope (siteM 11)) .none kV37 dc37 pm37 an37 cd37 ct37), sl37⟩)
    (c37 : PySem.W.codeIn K cd37 "Site._check_token" = true)
    (k37 : PySem.W.keepIn K (.ref f37) = true)
    (a38 : PySem.W.findIn K (.ref Si) "_apply" = some (some (.ref f38)))
    (i38 : PySem.W.isFn K (.ref f38) = true)
    (l38 : K.lookup f38 = some ⟨oc38, od38, .func (PySem.W.fnOf "_apply" "Site._apply" (defArgs (siteM 14)) (defBody (siteM 14)) (defScope (siteM 14)) .none kV38 dc38 pm38 an38 cd38 ct38), sl38⟩)
    (c38 : PySem.W.codeIn K cd38 "Site._apply" = true)
    (k38 : PySem.W.keepIn K (.ref f38) = true)
    (a39 : PySem.W.findIn K (.ref Si) "_kept_puts" = some (some (.ref f39)))
    (i39 : PySem.W.isFn K (.ref f39) = true)
    (l39 : K.lookup f39 = some ⟨oc39, od39, .func (PySem.W.fnOf "_kept_puts" "Site._kept_puts" (defArgs (siteM 16)) (defBody (siteM 16)) (defScope (siteM 16)) .none kV39 dc39 pm39 an39 cd39 ct39), sl39⟩)
    (c39 : PySem.W.codeIn K cd39 "Site._kept_puts" = true)
    (k39 : PySem.W.keepIn K (.ref f39) = true)
    (a40 : PySem.W.findIn K (.ref Si) "look" = some (some (.ref f40)))
    (i40 : PySem.W.isFn K (.ref f40) = true)
    (l40 : K.lookup f40 = some ⟨oc40, od40, .func (PySem.W.fnOf "look" "Site.look" (defArgs (siteM 2)) (defBody (siteM 2)) (defScope (siteM 2)) .none (.ref D40) dc40 pm40 an40 cd40 ct40), sl40⟩)
    (c40 : PySem.W.codeIn K cd40 "Site.look" = true)
    (k40 : PySem.W.keepIn K (.ref f40) = true)
    (w40_0 : PySem.W.nsIn K D40 "token" = some (some .none))
    (w40_1 : PySem.W.nsIn K D40 "within" = some (some .none))
    (a41 : PySem.W.findIn K (.ref Si) "put" = some (some (.ref f41)))
    (i41 : PySem.W.isFn K (.ref f41) = true)
    (l41 : K.lookup f41 = some ⟨oc41, od41, .func (PySem.W.fnOf "put" "Site.put" (defArgs (siteM 1)) (defBody (siteM 1)) (defScope (siteM 1)) .none (.ref D41) dc41 pm41 an41 cd41 ct41), sl41⟩)
    (c41 : PySem.W.codeIn K cd41 "Site.put" = true)
    (k41 : PySem.W.keepIn K (.ref f41) = true)
    (w41_0 : PySem.W.nsIn K D41 "token" = some (some .none))
    (aWd : PySem.W.nsIn K mainGlobals "WORDS" = some (some (.ref Wd)))
    (lWd : K.lookup Wd = some oWd)
    (cWd : oWd.cls = .type "tuple")
    (dWd : oWd.data = .seq itWd nWd)
    (diWd : oWd.dict = none)
    (vWd : itWd.size ≤ sizeLine ∧ Vals (wordsL.map V.str) itWd.toList)
    (aP : PySem.W.nsIn K mainGlobals "PortError" = some (some (.ref Cp)))
    (sP : PySem.W.subIn K (.ref Cp) (.type "BaseException") = some true)
    (hP : PySem.W.hasDictIn K Cp = true)
    (tP : PySem.W.typeIn K (.ref Cp) = some (.type "type"))
    (e1 : PySem.W.nsIn K mainGlobals "BadKey" = some (some (.ref K1)))
    (ic1 : PySem.W.isClsIn K K1 = true)
    (t1p : PySem.W.typeIn K (.ref K1) = some (.type "type"))
    (e3 : PySem.W.nsIn K mainGlobals "BadNow" = some (some (.ref K3)))
    (ic3 : PySem.W.isClsIn K K3 = true)
    (t3p : PySem.W.typeIn K (.ref K3) = some (.type "type"))
    (e4 : PySem.W.nsIn K mainGlobals "BadRules" = some (some (.ref K4)))
    (ic4 : PySem.W.isClsIn K K4 = true)
    (t4p : PySem.W.typeIn K (.ref K4) = some (.type "type"))
    (e5 : PySem.W.nsIn K mainGlobals "BadSite" = some (some (.ref K5)))
    (ic5 : PySem.W.isClsIn K K5 = true)
    (t5p : PySem.W.typeIn K (.ref K5) = some (.type "type"))
    (x1 : PySem.W.excIn K K1 [.type "ValueError", .type "Exception", .type "BaseException", .type "object"] "ValueError.__new__" = true)
    (kp1 : PySem.W.keepIn K (.ref K1) = true)
    (uB1 : PySem.W.subIn K (.ref K1) (.type "BaseException") = some true)
    (x3 : PySem.W.excIn K K3 [.type "ValueError", .type "Exception", .type "BaseException", .type "object"] "ValueError.__new__" = true)
    (kp3 : PySem.W.keepIn K (.ref K3) = true)
    (uB3 : PySem.W.subIn K (.ref K3) (.type "BaseException") = some true)
    (x4 : PySem.W.excIn K K4 [.type "ValueError", .type "Exception", .type "BaseException", .type "object"] "ValueError.__new__" = true)
    (kp4 : PySem.W.keepIn K (.ref K4) = true)
    (uB4 : PySem.W.subIn K (.ref K4) (.type "BaseException") = some true)
    (x5 : PySem.W.excIn K K5 [.type "ValueError", .type "Exception", .type "BaseException", .type "object"] "ValueError.__new__" = true)
    (kp5 : PySem.W.keepIn K (.ref K5) = true)
    (uB5 : PySem.W.subIn K (.ref K5) (.type "BaseException") = some true)
    (mSITE : PySem.W.nsIn K mainGlobals "SITE" = some (some (.int 0 tkSITE)))
    (mNUMBER : PySem.W.nsIn K mainGlobals "NUMBER" = some (some (.int 1 tkNUMBER)))
    (mPAST : PySem.W.nsIn K mainGlobals "PAST" = some (some (.int 2 tkPAST)))
    (mTURN : PySem.W.nsIn K mainGlobals "TURN" = some (some (.int 3 tkTURN)))
    (mKEY : PySem.W.nsIn K mainGlobals "KEY" = some (some (.int 4 tkKEY)))
    (mWORTH : PySem.W.nsIn K mainGlobals "WORTH" = some (some (.int 5 tkWORTH)))
    (mMOST_KEYS : PySem.W.nsIn K mainGlobals "MOST_KEYS" = some (some (.int 6 tkMOST_KEYS)))
    (mFEWEST_SITES : PySem.W.nsIn K mainGlobals "FEWEST_SITES" = some (some (.int 2 tkFEWEST_SITES)))
    (mMOST_SITES : PySem.W.nsIn K mainGlobals "MOST_SITES" = some (some (.int 5 tkMOST_SITES)))
    (mLAST_MOMENT : PySem.W.nsIn K mainGlobals "LAST_MOMENT" = some (some (.int 1000000 tkLAST_MOMENT)))
    (mMOST_WORTH : PySem.W.nsIn K mainGlobals "MOST_WORTH" = some (some (.int 999 tkMOST_WORTH)))
    (mMOST_PUTS : PySem.W.nsIn K mainGlobals "MOST_PUTS" = some (some (.int 999 tkMOST_PUTS)))
    (aD : PySem.W.nsIn K mainGlobals "HELD_BY" = some (some (.ref Dk)))
    (lD : K.lookup Dk = some ⟨.type "dict", none, .dict esD nD, #[]⟩)
    (kD : PySem.W.KeysLit w.params esD.toList)
    (b0 : PySem.W.nsIn K Dk "sum" = some (some (.ref f8)))
    (b1 : PySem.W.nsIn K Dk "most" = some (some (.ref f9)))
    (b2 : PySem.W.nsIn K Dk "last" = some (some (.ref f10)))
    (b3 : PySem.W.nsIn K Dk "all" = some (some (.ref f11)))
    (zisinstance : PySem.W.nsIn K mainGlobals "isinstance" = some none)
    (zbool : PySem.W.nsIn K mainGlobals "bool" = some none)
    (zint : PySem.W.nsIn K mainGlobals "int" = some none)
    (zstr : PySem.W.nsIn K mainGlobals "str" = some none)
    (ztuple : PySem.W.nsIn K mainGlobals "tuple" = some none)
    (zlist : PySem.W.nsIn K mainGlobals "list" = some none)
    (zlen : PySem.W.nsIn K mainGlobals "len" = some none)
    (zall : PySem.W.nsIn K mainGlobals "all" = some none)
    (zmax : PySem.W.nsIn K mainGlobals "max" = some none)
    (zzip : PySem.W.nsIn K mainGlobals "zip" = some none)
    (zrange : PySem.W.nsIn K mainGlobals "range" = some none)
    (zsum : PySem.W.nsIn K mainGlobals "sum" = some none)
    (zsorted : PySem.W.nsIn K mainGlobals "sorted" = some none)
    (zmin : PySem.W.nsIn K mainGlobals "min" = some none)
    (zenumerate : PySem.W.nsIn K mainGlobals "enumerate" = some none) :
    LamX.LawAtS l w K (L2.CX l.prog w) 8 63 "_law_script" mg fa h := by
  have e := hfa.symm.trans (PySem.W.mg_of X G aL)
  cases e
  have d0 : Def K mg "is_whole" sWhole ["thing", "least", "most"] := def_mk X G a0 l0 c0 k0 fun _ _ _ _ _ _ us hl => match us, hl with | [_, _, _], _ => rfl
  have d1 : Def K mg "check_rules" sChkRules ["rules"] := def_mk X G a1 l1 c1 k1 fun _ _ _ _ _ _ us hl => match us, hl with | [_], _ => rfl
  have d2 : Def K mg "is_key" sIsKey ["thing", "rules"] := def_mk X G a2 l2 c2 k2 fun _ _ _ _ _ _ us hl => match us, hl with | [_, _], _ => rfl
  have d3 : Def K mg "check_key" sChkKey ["key", "rules"] := def_mk X G a3 l3 c3 k3 fun _ _ _ _ _ _ us hl => match us, hl with | [_, _], _ => rfl
  have d4 : Def K mg "place_of" sPlace ["put"] := def_mk X G a4 l4 c4 k4 fun _ _ _ _ _ _ us hl => match us, hl with | [_], _ => rfl
  have d5 : Def K mg "turn_of" sTurn ["put"] := def_mk X G a5 l5 c5 k5 fun _ _ _ _ _ _ us hl => match us, hl with | [_], _ => rfl
  have d6 : Def K mg "came_behind" sCame ["later", "earlier"] := def_mk X G a6 l6 c6 k6 fun _ _ _ _ _ _ us hl => match us, hl with | [_, _], _ => rfl
  have d7 : Def K mg "is_followed" sFollowed ["put", "puts"] := def_mk X G a7 l7 c7 k7 fun _ _ _ _ _ _ us hl => match us, hl with | [_, _], _ => rfl
  have d8 : Def K mg "held_by_sum" sSum ["puts"] := def_mk X G a8 l8 c8 k8 fun _ _ _ _ _ _ us hl => match us, hl with | [_], _ => rfl
  have d9 : Def K mg "held_by_most" sMost ["puts"] := def_mk X G a9 l9 c9 k9 fun _ _ _ _ _ _ us hl => match us, hl with | [_], _ => rfl
  have d10 : Def K mg "held_by_last" sLast ["puts"] := def_mk X G a10 l10 c10 k10 fun _ _ _ _ _ _ us hl => match us, hl with | [_], _ => rfl
  have d11 : Def K mg "held_by_all" sAllH ["puts"] := def_mk X G a11 l11 c11 k11 fun _ _ _ _ _ _ us hl => match us, hl with | [_], _ => rfl
  have d12 : Def K mg "plainly" sPlainly ["puts", "rules", "key"] := def_mk X G a12 l12 c12 k12 fun _ _ _ _ _ _ us hl => match us, hl with | [_, _, _], _ => rfl
  have d13 : Def K mg "check_many" sChkMany ["many"] := def_mk X G a13 l13 c13 k13 fun _ _ _ _ _ _ us hl => match us, hl with | [_], _ => rfl
  have d14 : Def K mg "nothing" sNothing ["many"] := def_mk X G a14 l14 c14 k14 fun _ _ _ _ _ _ us hl => match us, hl with | [_], _ => rfl
  have d15 : Def K mg "is_worth" sIsWorth ["thing"] := def_mk X G a15 l15 c15 k15 fun _ _ _ _ _ _ us hl => match us, hl with | [_], _ => rfl
  have d16 : Def K mg "_law_begun" sBegun ["_law_script"] := def_mk X G a16 l16 c16 k16 fun _ _ _ _ _ _ us hl => match us, hl with | [_], _ => rfl
  have d17 : Def K mg "_law_take" sTake ["_law_box", "_law_many"] := def_mk X G a17 l17 c17 k17 fun _ _ _ _ _ _ us hl => match us, hl with | [_, _], _ => rfl
  have d18 : Def K mg "_law_alike" sAlike ["_law_found", "_law_due"] := def_mk X G a18 l18 c18 k18 fun _ _ _ _ _ _ us hl => match us, hl with | [_, _], _ => rfl
  have d19 : Def K mg "_law_rules" sRules ["_law_box"] := def_mk X G a19 l19 c19 k19 fun _ _ _ _ _ _ us hl => match us, hl with | [_], _ => rfl
  have d20 : Def K mg "_law_worth" sWorth ["_law_puts", "_law_rule"] := def_mk X G a20 l20 c20 k20 fun _ _ _ _ _ _ us hl => match us, hl with | [_, _], _ => rfl
  have d21 : Def K mg "is_token" sIsTok ["thing"] := def_mk X G a21 l21 c21 k21 fun _ _ _ _ _ _ us hl => match us, hl with | [_], _ => rfl
  have d22 : Def K mg "is_token_of" sIsTokOf ["thing", "many"] := def_mk X G a22 l22 c22 k22 fun _ _ _ _ _ _ us hl => match us, hl with | [_, _], _ => rfl
  have d23 : Def K mg "stepped" sStepped ["token", "site"] := def_mk X G a23 l23 c23 k23 fun _ _ _ _ _ _ us hl => match us, hl with | [_, _], _ => rfl
  have clSi : Cls K Si := ⟨pgSi, hdSi, poSi, saSi⟩
  have naSi : ∀ f ∈ ["_number", "_many", "_rules", "_now", "_log", "_applied", "_turn", "_waits", "_known", "_heard_at"], NoAttr K Si (Str.ofString f) := by
    intro f hf
    simp only [List.mem_cons, List.not_mem_nil, or_false] at hf
    rcases hf with rfl | rfl | rfl | rfl | rfl | rfl | rfl | rfl | rfl | rfl
    · exact nfSi0
    · exact nfSi1
    · exact nfSi2
    · exact nfSi3
    · exact nfSi4
    · exact nfSi5
    · exact nfSi6
    · exact nfSi7
    · exact nfSi8
    · exact nfSi9
  have d30 : MI K mg "Site" Si "Site.__init__" (siteM 0) ["self", "number", "many", "rules"] := ⟨⟨f30, _, fun_mk l30 c30 k30, ⟨mkSi, a30, i30, kcSi⟩, (fun_mk l30 c30 k30).binds fun _ _ _ _ _ _ us hl => match us, hl with | [_, _, _, _], _ => rfl⟩, PySem.W.mg_of X G aCSi⟩
  have d32 : MD K Si "waiting" "Site.waiting" (siteM 6) ["self"] := ⟨⟨f32, _, fun_mk l32 c32 k32, ⟨a32, i32, k32⟩, (fun_mk l32 c32 k32).binds fun _ _ _ _ _ _ us hl => match us, hl with | [_], _ => rfl⟩, clSi⟩
  have d33 : MD K Si "log" "Site.log" (siteM 7) ["self"] := ⟨⟨f33, _, fun_mk l33 c33 k33, ⟨a33, i33, k33⟩, (fun_mk l33 c33 k33).binds fun _ _ _ _ _ _ us hl => match us, hl with | [_], _ => rfl⟩, clSi⟩
  have d34 : MD K Si "kept" "Site.kept" (siteM 8) ["self"] := ⟨⟨f34, _, fun_mk l34 c34 k34, ⟨a34, i34, k34⟩, (fun_mk l34 c34 k34).binds fun _ _ _ _ _ _ us hl => match us, hl with | [_], _ => rfl⟩, clSi⟩
  have d36 : MD K Si "_check_now" "Site._check_now" (siteM 10) ["self", "now"] := ⟨⟨f36, _, fun_mk l36 c36 k36, ⟨a36, i36, k36⟩, (fun_mk l36 c36 k36).binds fun _ _ _ _ _ _ us hl => match us, hl with | [_, _], _ => rfl⟩, clSi⟩
  have d37 : MD K Si "_check_token" "Site._check_token" (siteM 11) ["self", "token"] := ⟨⟨f37, _, fun_mk l37 c37 k37, ⟨a37, i37, k37⟩, (fun_mk l37 c37 k37).binds fun _ _ _ _ _ _ us hl => match us, hl with | [_, _], _ => rfl⟩, clSi⟩
  have d38 : MD K Si "_apply" "Site._apply" (siteM 14) ["self", "put"] := ⟨⟨f38, _, fun_mk l38 c38 k38, ⟨a38, i38, k38⟩, (fun_mk l38 c38 k38).binds fun _ _ _ _ _ _ us hl => match us, hl with | [_, _], _ => rfl⟩, clSi⟩
  have d39 : MD K Si "_kept_puts" "Site._kept_puts" (siteM 16) ["self"] := ⟨⟨f39, _, fun_mk l39 c39 k39, ⟨a39, i39, k39⟩, (fun_mk l39 c39 k39).binds fun _ _ _ _ _ _ us hl => match us, hl with | [_], _ => rfl⟩, clSi⟩
  have F40 : FunD K "look" "Site.look" (defArgs (siteM 2)) (defBody (siteM 2)) (defScope (siteM 2)) [] [("token", .non), ("within", .non)] f40 (PySem.W.fnOf "look" "Site.look" (defArgs (siteM 2)) (defBody (siteM 2)) (defScope (siteM 2)) .none (.ref D40) dc40 pm40 an40 cd40 ct40) := ⟨⟨oc40, od40, .none, .ref D40, dc40, pm40, an40, cd40, ct40, sl40, rfl, l40, c40, .inl ⟨rfl, rfl⟩, .inr ⟨D40, rfl, fun q hq => by
    simp only [List.mem_cons, List.not_mem_nil, or_false] at hq
    rcases hq with rfl | rfl
    · exact ⟨_, w40_0, rfl⟩
    · exact ⟨_, w40_1, rfl⟩⟩⟩, k40⟩
  have F41 : FunD K "put" "Site.put" (defArgs (siteM 1)) (defBody (siteM 1)) (defScope (siteM 1)) [] [("token", .non)] f41 (PySem.W.fnOf "put" "Site.put" (defArgs (siteM 1)) (defBody (siteM 1)) (defScope (siteM 1)) .none (.ref D41) dc41 pm41 an41 cd41 ct41) := ⟨⟨oc41, od41, .none, .ref D41, dc41, pm41, an41, cd41, ct41, sl41, rfl, l41, c41, .inl ⟨rfl, rfl⟩, .inr ⟨D41, rfl, fun q hq => by
    simp only [List.mem_cons, List.not_mem_nil, or_false] at hq
    rcases hq with rfl
    · exact ⟨_, w41_0, rfl⟩⟩⟩, k41⟩
  have DWd : ∀ H, Dv K H (.ref Wd) (.tuple (wordsL.map .str)) := fun H => .tup (.inr ⟨oWd, itWd, nWd, lWd, cWd, dWd, vWd.1, vWd.2⟩) (.cons (.str _) (.cons (.str _) (.cons (.str _) (.cons (.str _) (.nil)))))
  have hp := PySem.W.mg_of X G aP
  have Ex1 : DV.Exn K mg "BadKey" K1 := ⟨PySem.W.mg_of X G e1, x1, kp1, uB1, t1p⟩
  have Ex3 : DV.Exn K mg "BadNow" K3 := ⟨PySem.W.mg_of X G e3, x3, kp3, uB3, t3p⟩
  have Ex4 : DV.Exn K mg "BadRules" K4 := ⟨PySem.W.mg_of X G e4, x4, kp4, uB4, t4p⟩
  have Ex5 : DV.Exn K mg "BadSite" K5 := ⟨PySem.W.mg_of X G e5, x5, kp5, uB5, t5p⟩
  have B : Bl mg := ⟨PySem.W.mg_none_of X G zisinstance, PySem.W.mg_none_of X G zbool, PySem.W.mg_none_of X G zint, PySem.W.mg_none_of X G zstr, PySem.W.mg_none_of X G ztuple, PySem.W.mg_none_of X G zlist, PySem.W.mg_none_of X G zlen, PySem.W.mg_none_of X G zall, PySem.W.mg_none_of X G zmax, PySem.W.mg_none_of X G zzip, PySem.W.mg_none_of X G zrange⟩
  have Nm : Gk mg := ⟨⟨_, PySem.W.mg_of X G mSITE⟩, ⟨_, PySem.W.mg_of X G mNUMBER⟩, ⟨_, PySem.W.mg_of X G mPAST⟩, ⟨_, PySem.W.mg_of X G mTURN⟩, ⟨_, PySem.W.mg_of X G mKEY⟩, ⟨_, PySem.W.mg_of X G mWORTH⟩, ⟨_, PySem.W.mg_of X G mMOST_KEYS⟩, PySem.W.mg_none_of X G zsum, PySem.W.mg_none_of X G zsorted⟩
  have Gm1 : Gm mg := ⟨⟨_, PySem.W.mg_of X G mFEWEST_SITES⟩, ⟨_, PySem.W.mg_of X G mMOST_SITES⟩, ⟨_, PySem.W.mg_of X G mLAST_MOMENT⟩⟩
  have Nu : Nums mg := ⟨⟨_, PySem.W.mg_of X G mFEWEST_SITES⟩, ⟨_, PySem.W.mg_of X G mMOST_SITES⟩, ⟨_, PySem.W.mg_of X G mMOST_PUTS⟩⟩
  have Gw1 : Gw mg := ⟨⟨_, PySem.W.mg_of X G mMOST_WORTH⟩, ⟨_, PySem.W.mg_of X G mMOST_PUTS⟩⟩
  have WA : WordsAt K mg := ⟨Wd, PySem.W.mg_of X G aWd, DWd⟩
  obtain ⟨_, bL⟩ := F40.kbinds0 (ps := ["self", "now", "key", "token", "within"]) 3 ["token"] [("within", .non)] (fun us mv ws => (us ++ (ws ++ mv))) (by simp) (by simp) (fun r1 r2 r3 => r1.append (r3.append r2)) (fun D doc pm an cdv ct us mv ws l1 l2 l3 => match us, mv, ws, l1, l2, l3 with | [_, _, _], [_], [_], _, _, _ => ⟨_, _, _, _, _, _, rfl, rfl, rfl⟩)
  have dL : MK K Si "look" "Site.look" (siteM 2) nLook 2 ["token"] (fun us zs => us ++ (zs ++ [.non])) := ⟨⟨f40, _, _, _, F40, ⟨a40, i40, k40⟩, bL⟩, clSi⟩
  obtain ⟨_, bP1⟩ := F41.kbinds0 (ps := ["self", "now", "key", "worth", "token"]) 4 ["token"] [] (fun us mv ws => us ++ ws) (by simp) (by simp) (fun r1 r2 r3 => r1.append r3) (fun D doc pm an cdv ct us mv ws l1 l2 l3 => match us, mv, ws, l1, l2, l3 with | [_, _, _, _], [], [_], _, _, _ => rfl)
  have dP1 : MK K Si "put" "Site.put" (siteM 1) ["self", "now", "key", "worth", "token"] 3 ["token"] (fun us zs => us ++ zs) := ⟨⟨f41, _, _, _, F41, ⟨a41, i41, k41⟩, bP1⟩, clSi⟩
  obtain ⟨_, bP0⟩ := F41.kbinds0 (ps := ["self", "now", "key", "worth", "token"]) 4 [] [("token", .non)] (fun us mv ws => us ++ mv) (by simp) (by simp) (fun r1 r2 r3 => r1.append r2) (fun D doc pm an cdv ct us mv ws l1 l2 l3 => match us, mv, ws, l1, l2, l3 with | [_, _, _, _], [_], [], _, _, _ => ⟨_, _, _, _, _, _, rfl, rfl, rfl⟩)
  have dP0 : MK K Si "put" "Site.put" (siteM 1) ["self", "now", "key", "worth", "token"] 3 [] (fun us _ => us ++ [.non]) := ⟨⟨f41, _, _, _, F41, ⟨a41, i41, k41⟩, bP0⟩, clSi⟩
  refine ⟨PySem.W.fnOf "law" "law" (defArgs sLaw) (defBody sLaw) (defScope sLaw) .none kVL dcL pmL anL cdL ctL, [], spLaw K, fun p h => (by cases h), fun p h => (by cases h), fun p h => (by cases h), fun s u => .of_eq rfl, fun H a ns hl hb hT hS => ⟨a, ns, rfl, hS, hl, hb, fun _ => rfl⟩, fun base XB GB hTB => ?_⟩
  · have kp : KeyRunX l.prog w K mg f4 0 1 := key_run (fun_mk l4 c4 k4) scPlace (fun s u => .of_eq rfl) (key_place Nm)
    have kt : KeyRunX l.prog w K mg f5 3 0 := key_run (fun_mk l5 c5 k5) ⟨rfl, rfl, rfl, by decide +kernel, rfl, by decide +kernel, by decide +kernel⟩ (fun s u => .of_eq rfl) (key_turn Nm)
    have cW := c_whole (P := l.prog) (w := w) (base := base) B d0
    have cR := c_chkR (P := l.prog) (w := w) (base := base) B Nm WA d1
    have cA := c_chkA (P := l.prog) (w := w) (base := base) B Nm Ex4 WA d1
    have cK := c_chkK B Ex1 (c_isK B cW d2) d3
    have cP := c_place (P := l.prog) (w := w) (base := base) B Nm d4
    have cC := c_came B Nm cP d6
    have cF := c_fol B cC d7
    have hS := held_sum (c_sum (P := l.prog) (w := w) (base := base) Nm d8)
    have hMo := held_most (c_most (P := l.prog) (w := w) (base := base) B Nm d9)
    have hLa := held_last (c_last (P := l.prog) (w := w) (base := base) B Nm (PySem.W.mg_of X G a5) kt d10)
    have hAl := held_all (c_allH Nm (PySem.W.mg_of X G a4) kp (PySem.W.mg_of X G a5) kt cF d11)
    have hB : HeldBy l.prog w K mg base := by
      refine ⟨Dk, PySem.W.mg_of X G aD, fun x hx => ?_⟩
      simp only [List.mem_cons, List.not_mem_nil, or_false] at hx
      rcases hx with rfl | rfl | rfl | rfl
      · exact ⟨f8, _, ⟨esD, nD, _, lD, kD, b0, rfl⟩, PySem.W.mg_of X G a8, hS⟩
      · exact ⟨f9, _, ⟨esD, nD, _, lD, kD, b1, rfl⟩, PySem.W.mg_of X G a9, hMo⟩
      · exact ⟨f10, _, ⟨esD, nD, _, lD, kD, b2, rfl⟩, PySem.W.mg_of X G a10, hLa⟩
      · exact ⟨f11, _, ⟨esD, nD, _, lD, kD, b3, rfl⟩, PySem.W.mg_of X G a11, hAl⟩
    have cPl := c_plain Nm hB cR cK d12
    have cM := c_many B Gm1 Ex5 cW d13
    have cN := c_nothing (P := l.prog) (w := w) (base := base) d14
    have cTk := c_take (P := l.prog) (w := w) (base := base) d17
    have kS : SiteK K Si := ⟨clSi, naSi⟩
    have mNow := m_now (P := l.prog) (w := w) (base := base) kS Gm1 Ex3 cW d36
    have cIsT := c_isToken (P := l.prog) (w := w) (base := base) B Nu cW d21
    have mTok := m_tokL B (PySem.W.mg_none_of X G zenumerate) kS (c_tokOf B cIsT d22) d37
    have mApp := m_apply B Nm kS (c_stepped (P := l.prog) (w := w) (base := base) d23) d38
    have mPut1 := m_putL Gw1 kS mNow mTok cK (c_isWorth Gw1 cW d15) mApp dP1
    have mPut0 := m_putL Gw1 kS mNow mTok cK (c_isWorth Gw1 cW d15) mApp dP0
    exact law_fn lL cL B (C := Si) ⟨c_begun B d16, cTk, c_rules B cTk d19, c_worth B Nm d20, c_alike B d18 4, mk_site B clSi naSi cW cM cA cN d30, mPut1, mPut0, m_lookL kS mNow mTok cK cPl dL, m_logN B kS d33, m_kept B kS (m_keptP B Nm (PySem.W.mg_none_of X G zmin) kS d39) d34, m_waiting0 kS (PySem.W.mg_none_of X G zsorted) d32⟩
end K04
open PySem PySem.W PyProof.Rows
set_option maxRecDepth 100000 in
set_option maxHeartbeats 0 in
theorem PySem.Challenge.cw_causalports_k04_one_site_step_by_step_holds : PySem.Challenge.rw_causalports_k04_one_site_step_by_step.Holds := by
  w_on; o_law; k_head; (case hw => w_witness2)
  k_fill
  refine LamX.walk_ofTs (l := PySem.Challenge.rw_causalports_k04_one_site_step_by_step) (n := 63) (k := 8) (x := "_law_script") (CX := fun w => L2.CX PySem.Challenge.rw_causalports_k04_one_site_step_by_step.prog w) rfl (by decide) rfl ⟨rfl, by decide, by decide⟩ (fun w h Y => PySem.W.kIn_of Y) ?F (fun _ _ _ _ _ ⟨_, _, _, _, _, _, _, _, _, _, _, _, z⟩ => z)
  case F =>
    intro w mg fa h Y KX G hmg
    refine' K04.all_mk KX G hmg ?aL ?lL ?cL ?a0 ?l0 ?c0 ?k0 ?a1 ?l1 ?c1 ?k1 ?a2 ?l2 ?c2 ?k2 ?a3 ?l3 ?c3 ?k3 ?a4 ?l4 ?c4 ?k4 ?a5 ?l5 ?c5 ?k5 ?a6 ?l6 ?c6 ?k6 ?a7 ?l7 ?c7 ?k7 ?a8 ?l8 ?c8 ?k8 ?a9 ?l9 ?c9 ?k9 ?a10 ?l10 ?c10 ?k10 ?a11 ?l11 ?c11 ?k11 ?a12 ?l12 ?c12 ?k12 ?a13 ?l13 ?c13 ?k13 ?a14 ?l14 ?c14 ?k14 ?a15 ?l15 ?c15 ?k15 ?a16 ?l16 ?c16 ?k16 ?a17 ?l17 ?c17 ?k17 ?a18 ?l18 ?c18 ?k18 ?a19 ?l19 ?c19 ?k19 ?a20 ?l20 ?c20 ?k20 ?a21 ?l21 ?c21 ?k21 ?a22 ?l22 ?c22 ?k22 ?a23 ?l23 ?c23 ?k23 ?aCSi ?pgSi ?hdSi ?poSi ?saSi ?mkSi ?kcSi ?nfSi0 ?nfSi1 ?nfSi2 ?nfSi3 ?nfSi4 ?nfSi5 ?nfSi6 ?nfSi7 ?nfSi8 ?nfSi9 ?a30 ?i30 ?l30 ?c30 ?k30 ?a32 ?i32 ?l32 ?c32 ?k32 ?a33 ?i33 ?l33 ?c33 ?k33 ?a34 ?i34 ?l34 ?c34 ?k34 ?a36 ?i36 ?l36 ?c36 ?k36 ?a37 ?i37 ?l37 ?c37 ?k37 ?a38 ?i38 ?l38 ?c38 ?k38 ?a39 ?i39 ?l39 ?c39 ?k39 ?a40 ?i40 ?l40 ?c40 ?k40 ?w40_0 ?w40_1 ?a41 ?i41 ?l41 ?c41 ?k41 ?w41_0 ?aWd ?lWd ?cWd ?dWd ?diWd ?vWd ?aP ?sP ?hP ?tP ?e1 ?ic1 ?t1p ?e3 ?ic3 ?t3p ?e4 ?ic4 ?t4p ?e5 ?ic5 ?t5p ?x1 ?kp1 ?uB1 ?x3 ?kp3 ?uB3 ?x4 ?kp4 ?uB4 ?x5 ?kp5 ?uB5 ?mSITE ?mNUMBER ?mPAST ?mTURN ?mKEY ?mWORTH ?mMOST_KEYS ?mFEWEST_SITES ?mMOST_SITES ?mLAST_MOMENT ?mMOST_WORTH ?mMOST_PUTS ?aD ?lD ?kD ?b0 ?b1 ?b2 ?b3 ?zisinstance ?zbool ?zint ?zstr ?ztuple ?zlist ?zlen ?zall ?zmax ?zzip ?zrange ?zsum ?zsorted ?zmin ?zenumerate
    (case aL => k_is); (case lL => k_is); (case cL => k_is); (case a0 => k_is); (case l0 => k_is); (case c0 => k_is); (case k0 => k_is); (case a1 => k_is)
    (case l1 => k_is); (case c1 => k_is); (case k1 => k_is); (case a2 => k_is); (case l2 => k_is); (case c2 => k_is); (case k2 => k_is); (case a3 => k_is)
    (case l3 => k_is); (case c3 => k_is); (case k3 => k_is); (case a4 => k_is); (case l4 => k_is); (case c4 => k_is); (case k4 => k_is); (case a5 => k_is)
    (case l5 => k_is); (case c5 => k_is); (case k5 => k_is); (case a6 => k_is); (case l6 => k_is); (case c6 => k_is); (case k6 => k_is); (case a7 => k_is)
    (case l7 => k_is); (case c7 => k_is); (case k7 => k_is); (case a8 => k_is); (case l8 => k_is); (case c8 => k_is); (case k8 => k_is); (case a9 => k_is)
    (case l9 => k_is); (case c9 => k_is); (case k9 => k_is); (case a10 => k_is); (case l10 => k_is); (case c10 => k_is); (case k10 => k_is); (case a11 => k_is)
    (case l11 => k_is); (case c11 => k_is); (case k11 => k_is); (case a12 => k_is); (case l12 => k_is); (case c12 => k_is); (case k12 => k_is); (case a13 => k_is)
    (case l13 => k_is); (case c13 => k_is); (case k13 => k_is); (case a14 => k_is); (case l14 => k_is); (case c14 => k_is); (case k14 => k_is); (case a15 => k_is)
    (case l15 => k_is); (case c15 => k_is); (case k15 => k_is); (case a16 => k_is); (case l16 => k_is); (case c16 => k_is); (case k16 => k_is); (case a17 => k_is)
    (case l17 => k_is); (case c17 => k_is); (case k17 => k_is); (case a18 => k_is); (case l18 => k_is); (case c18 => k_is); (case k18 => k_is); (case a19 => k_is)
    (case l19 => k_is); (case c19 => k_is); (case k19 => k_is); (case a20 => k_is); (case l20 => k_is); (case c20 => k_is); (case k20 => k_is); (case a21 => k_is)
    (case l21 => k_is); (case c21 => k_is); (case k21 => k_is); (case a22 => k_is); (case l22 => k_is); (case c22 => k_is); (case k22 => k_is); (case a23 => k_is)
    (case l23 => k_is); (case c23 => k_is); (case k23 => k_is); (case aCSi => k_is); (case pgSi => k_is); (case hdSi => k_is); (case poSi => k_is); (case saSi => k_is)
    (case mkSi => k_is); (case kcSi => k_is); (case nfSi0 => k_is); (case nfSi1 => k_is); (case nfSi2 => k_is); (case nfSi3 => k_is); (case nfSi4 => k_is); (case nfSi5 => k_is)
    (case nfSi6 => k_is); (case nfSi7 => k_is); (case nfSi8 => k_is); (case nfSi9 => k_is); (case a30 => k_is); (case i30 => k_is); (case l30 => k_is); (case c30 => k_is)
    (case k30 => k_is); (case a32 => k_is); (case i32 => k_is); (case l32 => k_is); (case c32 => k_is); (case k32 => k_is); (case a33 => k_is); (case i33 => k_is)
    (case l33 => k_is); (case c33 => k_is); (case k33 => k_is); (case a34 => k_is); (case i34 => k_is); (case l34 => k_is); (case c34 => k_is); (case k34 => k_is)
    (case a36 => k_is); (case i36 => k_is); (case l36 => k_is); (case c36 => k_is); (case k36 => k_is); (case a37 => k_is); (case i37 => k_is); (case l37 => k_is)
    (case c37 => k_is); (case k37 => k_is); (case a38 => k_is); (case i38 => k_is); (case l38 => k_is); (case c38 => k_is); (case k38 => k_is); (case a39 => k_is)
    (case i39 => k_is); (case l39 => k_is); (case c39 => k_is); (case k39 => k_is); (case a40 => k_is); (case i40 => k_is); (case l40 => k_is); (case c40 => k_is)
    (case k40 => k_is); (case w40_0 => k_is); (case w40_1 => k_is); (case a41 => k_is); (case i41 => k_is); (case l41 => k_is); (case c41 => k_is); (case k41 => k_is)
    (case w41_0 => k_is); (case aWd => k_is); (case lWd => k_is); (case cWd => rfl); (case dWd => rfl); (case diWd => rfl); (case vWd => exact ⟨by decide, .cons ⟨_, rfl⟩ (.cons ⟨_, rfl⟩ (.cons ⟨_, rfl⟩ (.cons ⟨_, rfl⟩ (.nil))))⟩); (case aP => k_is)
    (case sP => k_is); (case hP => k_is); (case tP => k_is); (case e1 => k_is); (case ic1 => k_is); (case t1p => k_is); (case e3 => k_is); (case ic3 => k_is)
    (case t3p => k_is); (case e4 => k_is); (case ic4 => k_is); (case t4p => k_is); (case e5 => k_is); (case ic5 => k_is); (case t5p => k_is); (case x1 => k_exc)
    (case kp1 => k_is); (case uB1 => k_is); (case x3 => k_exc); (case kp3 => k_is); (case uB3 => k_is); (case x4 => k_exc); (case kp4 => k_is); (case uB4 => k_is)
    (case x5 => k_exc); (case kp5 => k_is); (case uB5 => k_is); (case mSITE => k_is); (case mNUMBER => k_is); (case mPAST => k_is); (case mTURN => k_is); (case mKEY => k_is)
    (case mWORTH => k_is); (case mMOST_KEYS => k_is); (case mFEWEST_SITES => k_is); (case mMOST_SITES => k_is); (case mLAST_MOMENT => k_is); (case mMOST_WORTH => k_is); (case mMOST_PUTS => k_is); (case aD => k_is)
    (case lD => k_is); (case kD => exact ⟨⟨_, _, rfl, rfl⟩, ⟨_, _, rfl, rfl⟩, ⟨_, _, rfl, rfl⟩, ⟨_, _, rfl, rfl⟩, trivial⟩); (case b0 => k_is); (case b1 => k_is); (case b2 => k_is); (case b3 => k_is); (case zisinstance => k_is); (case zbool => k_is)
    (case zint => k_is); (case zstr => k_is); (case ztuple => k_is); (case zlist => k_is); (case zlen => k_is); (case zall => k_is); (case zmax => k_is); (case zzip => k_is)
    (case zrange => k_is); (case zsum => k_is); (case zsorted => k_is); (case zmin => k_is); (case zenumerate => k_is)
